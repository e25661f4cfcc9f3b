/-
  The contracts of the reference's shifts and conversions.
-/
import Derived.Test.YtkjiaflmaniplaaBvQ
namespace Go.Proofs.Ytkjiaflmaniplaa
open Go.RowKit
set_option linter.unusedSimpArgs false
set_option linter.unusedVariables false

theorem shr_gen2 (a : List Bool) (b : Bool) (z : Int) (hz : ∀ i, zb z i = ex a b i) (k : Nat) : bl a.length (fun i => ex a b (i + k)) = vz a.length (z / 2 ^ k) :=
  bl_congr fun i hi => by rw [zb_div, hz]
set_option maxHeartbeats 1000000 in
theorem shifted_any (A : Option Addr) (a : List Bool) (c K : Nat) (b : Bool) (w : World) (ha : a.length ≤ 4096) (hK : K ≤ 9223372036854775807) (hA : Rd w A a) :
    Calls Try.prog 69 #[.slice A a.length c, .int .i64 K, .bool b] w (RetP (fun l => l = bl a.length (fun i => ex a b (i + K))) w) := by
  have HA := hide hA
  clear hA
  go_enter Try.func69, Try.ntmps69
  go_wp2
  go_loopw [7, 8] (fun v i wr => ∃ k : Nat, k ≤ a.length ∧ i = .int .i64 k ∧ OwnL w v (bl k (fun i => ex a b (i + K))) wr) (fun _ i _ => a.length - (intOf i).toNat)
  case atStart => exact ⟨0, Nat.zero_le _, rfl, OwnL.nil w⟩
  case round =>
    obtain ⟨k, hk, rfl, hR⟩ := hrel
    have hRH := hide hR
    clear hR
    by_cases hlt : k < a.length
    · by_cases hf : a.length ≤ k + K
      · have e : Hid (ex a b (k + K) = b) := hide (ex_far a b hf)
        have hge : (a.length : Int) - k ≤ K := by omega
        go_wp2_with (at_builtin; refine wpList_append_bv _ rfl _ _ rfl w.heap.size _ _ (bl k (fun i => ex a b (i + K))) rfl (hRH.out.own.alloc _) (some ⟨wr.heap.size, 0, none⟩) 1 1 [b] rfl rfl (one_rd _ _) (by rw [bl_length]; simp; omega) (by have := hRH.out.bel.size; simp; omega) ?_; intro v' w1 hown' hb')
        go_roundw
        case rel => exact ⟨k + 1, by omega, by go_num, by rw [bl_snoc, e.out]; exact one_add hRH.out.bel hown' hb'⟩
        case measure => simp [intOf]; omega
      · have e : Hid (ex a b (k + K) = bt a (k + K)) := hide (by unfold ex; rw [if_pos (by omega)])
        have hge : (K : Int) < a.length - k := by omega
        have hat0 := at_any A a c (k + K) wr ha (by omega) (HA.out.below hRH.out.bel)
        rw [show ((k + K : Nat) : Int) = k + K from by omega] at hat0
        have hat := hide hat0
        clear hat0
        go_wp2_with (first
          | (go_at_call 71; (with_reducible refine (hat.out).mono ?_); rintro e w' ⟨rfl, rfl⟩)
          | (at_builtin; refine wpList_append_bv _ rfl _ _ rfl w.heap.size _ _ (bl k (fun i => ex a b (i + K))) rfl (hRH.out.own.alloc _) (some ⟨wr.heap.size, 0, none⟩) 1 1 [bt a (k + K)] rfl rfl (one_rd _ _) (by rw [bl_length]; simp; omega) (by have := hRH.out.bel.size; simp; omega) ?_; intro v' w1 hown' hb'))
        go_roundw
        case rel => exact ⟨k + 1, by omega, by go_num, by rw [bl_snoc, e.out]; exact one_add hRH.out.bel hown' hb'⟩
        case measure => simp [intOf]; omega
    · have e : k = a.length := by omega
      subst e
      go_wp2
      go_ret
      exact hRH.out.done rfl

set_option maxHeartbeats 1000000 in
theorem rshr_any (A : Option Addr) (a : List Bool) (c : Nat) (n : Int) (w : World) (ha : a.length ≤ 4096) (hn : n ≤ 9223372036854775807) (hA : Rd w A a) :
    Calls Try.prog 40 #[.slice A a.length c, .int .i64 n] w (RetP (fun l => l = vz a.length ((nv a : Int) / 2 ^ n.toNat)) w) := by
  have HA := hide hA
  clear hA
  by_cases h0 : 0 ≤ n
  · obtain ⟨K, rfl⟩ := Int.eq_ofNat_of_zero_le h0
    rw [show ((K : Int)).toNat = K from by omega, ← shr_gen2 a false _ (fun i => by rw [zb_nv, ex_false]) K]
    have hs := hide (shifted_any A a c K false w ha (by omega) HA.out)
    go_enter Try.func40, Try.ntmps40
    go_wp2_with (first
      | (go_at_call 69; (with_reducible refine (hs.out).mono ?_); rintro e w1 ⟨l, X, cx, El, rfl, Cl, Ol, hb⟩))
    all_goals
      go_ret
      exact ⟨l, X, cx, El, rfl, Cl, Ol, hb⟩
  · rw [show n.toNat = 0 from by omega, ← shr_gen2 a false _ (fun i => by rw [zb_nv, ex_false]) 0]
    have hs := hide (shifted_any A a c 0 false w ha (by omega) HA.out)
    go_enter Try.func40, Try.ntmps40
    go_wp2_with (first
      | (go_at_call 69; refine (hs.out).mono ?_; rintro e w1 ⟨l, X, cx, El, rfl, Cl, Ol, hb⟩))
    all_goals
      go_ret
      exact ⟨l, X, cx, El, rfl, Cl, Ol, hb⟩

set_option maxHeartbeats 1000000 in
theorem rsar_any (A : Option Addr) (a : List Bool) (c : Nat) (n : Int) (w : World) (ha : a.length ≤ 4096) (hn : n ≤ 9223372036854775807) (hA : Rd w A a) :
    Calls Try.prog 41 #[.slice A a.length c, .int .i64 n] w (RetP (fun l => l = vz a.length (sv a / 2 ^ n.toNat)) w) := by
  have HA := hide hA
  clear hA
  by_cases h0 : 0 ≤ n
  · obtain ⟨K, rfl⟩ := Int.eq_ofNat_of_zero_le h0
    rw [show ((K : Int)).toNat = K from by omega, ← shr_gen2 a (ng a) _ (fun i => zb_sv a i) K]
    have hs := hide (shifted_any A a c K (ng a) w ha (by omega) HA.out)
    go_enter Try.func41, Try.ntmps41
    go_wp2_with (first
      | (go_at_call 51; (with_reducible refine (rneg_any A a c w ha HA.out).mono ?_); rintro e w' ⟨rfl, rfl⟩)
      | (go_at_call 69; (with_reducible refine (hs.out).mono ?_); rintro e w1 ⟨l, X, cx, El, rfl, Cl, Ol, hb⟩))
    all_goals
      go_ret
      exact ⟨l, X, cx, El, rfl, Cl, Ol, hb⟩
  · rw [show n.toNat = 0 from by omega, ← shr_gen2 a (ng a) _ (fun i => zb_sv a i) 0]
    have hs := hide (shifted_any A a c 0 (ng a) w ha (by omega) HA.out)
    go_enter Try.func41, Try.ntmps41
    go_wp2_with (first
      | (go_at_call 51; (with_reducible refine (rneg_any A a c w ha HA.out).mono ?_); rintro e w' ⟨rfl, rfl⟩)
      | (go_at_call 69; refine (hs.out).mono ?_; rintro e w1 ⟨l, X, cx, El, rfl, Cl, Ol, hb⟩))
    all_goals
      go_ret
      exact ⟨l, X, cx, El, rfl, Cl, Ol, hb⟩

theorem shl_min (x : Int) (n K : Nat) : vz n ((2 : Int) ^ (min K n) * x) = vz n (x * 2 ^ K) := by
  rcases Nat.le_total K n with h | h
  · rw [Nat.min_eq_left h, Int.mul_comm]
  · rw [Nat.min_eq_right h]
    apply vz_eq
    obtain ⟨d, rfl⟩ : ∃ d, K = n + d := ⟨K - n, by omega⟩
    rw [Int.mul_emod_right, Int.pow_add, ← Int.mul_assoc, Int.mul_comm x, Int.mul_assoc, Int.mul_emod_right]

set_option maxHeartbeats 1000000 in
theorem rshl_neg (A : Option Addr) (a : List Bool) (c : Nat) (n : Int) (hn : n < 0) (w : World) (ha : a.length ≤ 2000) (hA : Rd w A a) :
    Calls Try.prog 39 #[.slice A a.length c, .int .i64 n] w (RetP (fun l => l = vz a.length ((2 : Int) ^ 0 * nv a)) w) := by
  have HA := hide hA
  clear hA
  go_enter Try.func39, Try.ntmps39
  go_wp2_with (first
    | (at_make; refine wpList_make_ow _ rfl _ _ rfl _ _ 0 rfl rfl (by first | rfl | omega) (by first | rfl | omega) (by omega) ?_; intro w1 hr1 hb1 hz1; have HR := hide hr1; have HA1 := hide (HA.out.below hb1); have HB1 := hide hb1; clear hr1 hb1)
    | (at_builtin; refine wpList_append_bv _ rfl _ _ rfl w.heap.size _ 0 (List.replicate 0 false) rfl HR.out A _ c a rfl rfl HA1.out (by simp; omega) (by omega) ?_; intro v' w2 hown hb2; obtain ⟨y, hy⟩ : ∃ y, y = List.replicate 0 false ++ a := ⟨_, rfl⟩; rw [← hy] at hown; obtain ⟨Y, cy, rfl, h1, h2, h3⟩ := own_open hown; have OY := hide h3; have HB2 := hide (HB1.out.trans hb2); have HY := hide hy; clear hown hb2 h1 h2 h3 hy))
  all_goals
    have hy4 : y.length ≤ 4096 := by rw [HY.out]; simp; omega
    refine (fit_any Y y cy a.length w2 hy4 (by omega) OY.out.rd).mono ?_
    rintro e w3 ⟨z, Z, cz, Ez, rfl, Cz, Oz, hb3⟩
    have B3 := hide (HB2.out.trans (hb3.mono HB2.out.size))
    have OZ := hide (Oz.out.base HB2.out.size)
    clear hb3
    go_wp2
    go_ret
    exact ⟨z, Z, cz, hide (by show z = _; rw [Ez.out, HY.out, nv_append, nv_zeros, List.length_replicate]; simp), rfl, Cz, OZ, B3.out⟩

set_option maxHeartbeats 1000000 in
theorem rshl_mid (A : Option Addr) (a : List Bool) (c : Nat) (K : Nat) (hn : K ≤ a.length) (w : World) (ha : a.length ≤ 2000) (hA : Rd w A a) :
    Calls Try.prog 39 #[.slice A a.length c, .int .i64 K] w (RetP (fun l => l = vz a.length ((2 : Int) ^ K * nv a)) w) := by
  have HA := hide hA
  clear hA
  go_enter Try.func39, Try.ntmps39
  go_wp2_with (first
    | (at_make; refine wpList_make_ow _ rfl _ _ rfl _ _ K rfl rfl (by first | rfl | omega) (by first | rfl | omega) (by omega) ?_; intro w1 hr1 hb1 hz1; have HR := hide hr1; have HA1 := hide (HA.out.below hb1); have HB1 := hide hb1; clear hr1 hb1)
    | (at_builtin; refine wpList_append_bv _ rfl _ _ rfl w.heap.size _ K (List.replicate K false) rfl HR.out A _ c a rfl rfl HA1.out (by simp; omega) (by omega) ?_; intro v' w2 hown hb2; obtain ⟨y, hy⟩ : ∃ y, y = List.replicate K false ++ a := ⟨_, rfl⟩; rw [← hy] at hown; obtain ⟨Y, cy, rfl, h1, h2, h3⟩ := own_open hown; have OY := hide h3; have HB2 := hide (HB1.out.trans hb2); have HY := hide hy; clear hown hb2 h1 h2 h3 hy))
  all_goals
    have hy4 : y.length ≤ 4096 := by rw [HY.out]; simp; omega
    refine (fit_any Y y cy a.length w2 hy4 (by omega) OY.out.rd).mono ?_
    rintro e w3 ⟨z, Z, cz, Ez, rfl, Cz, Oz, hb3⟩
    have B3 := hide (HB2.out.trans (hb3.mono HB2.out.size))
    have OZ := hide (Oz.out.base HB2.out.size)
    clear hb3
    go_wp2
    go_ret
    exact ⟨z, Z, cz, hide (by show z = _; rw [Ez.out, HY.out, nv_append, nv_zeros, List.length_replicate]; simp), rfl, Cz, OZ, B3.out⟩

set_option maxHeartbeats 1000000 in
theorem rshl_far (A : Option Addr) (a : List Bool) (c : Nat) (n : Int) (hn : (a.length : Int) < n) (hn2 : n ≤ 9223372036854775807) (w : World) (ha : a.length ≤ 2000) (hA : Rd w A a) :
    Calls Try.prog 39 #[.slice A a.length c, .int .i64 n] w (RetP (fun l => l = vz a.length ((2 : Int) ^ a.length * nv a)) w) := by
  have HA := hide hA
  clear hA
  go_enter Try.func39, Try.ntmps39
  go_wp2_with (first
    | (at_make; refine wpList_make_ow _ rfl _ _ rfl _ _ a.length rfl rfl (by first | rfl | omega) (by first | rfl | omega) (by omega) ?_; intro w1 hr1 hb1 hz1; have HR := hide hr1; have HA1 := hide (HA.out.below hb1); have HB1 := hide hb1; clear hr1 hb1)
    | (at_builtin; refine wpList_append_bv _ rfl _ _ rfl w.heap.size _ a.length (List.replicate a.length false) rfl HR.out A _ c a rfl rfl HA1.out (by simp; omega) (by omega) ?_; intro v' w2 hown hb2; obtain ⟨y, hy⟩ : ∃ y, y = List.replicate a.length false ++ a := ⟨_, rfl⟩; rw [← hy] at hown; obtain ⟨Y, cy, rfl, h1, h2, h3⟩ := own_open hown; have OY := hide h3; have HB2 := hide (HB1.out.trans hb2); have HY := hide hy; clear hown hb2 h1 h2 h3 hy))
  all_goals
    have hy4 : y.length ≤ 4096 := by rw [HY.out]; simp; omega
    refine (fit_any Y y cy a.length w2 hy4 (by omega) OY.out.rd).mono ?_
    rintro e w3 ⟨z, Z, cz, Ez, rfl, Cz, Oz, hb3⟩
    have B3 := hide (HB2.out.trans (hb3.mono HB2.out.size))
    have OZ := hide (Oz.out.base HB2.out.size)
    clear hb3
    go_wp2
    go_ret
    exact ⟨z, Z, cz, hide (by show z = _; rw [Ez.out, HY.out, nv_append, nv_zeros, List.length_replicate]; simp), rfl, Cz, OZ, B3.out⟩

theorem rshl_any (A : Option Addr) (a : List Bool) (c : Nat) (n : Int) (w : World) (ha : a.length ≤ 2000) (hn : n ≤ 9223372036854775807) (hA : Rd w A a) :
    Calls Try.prog 39 #[.slice A a.length c, .int .i64 n] w (RetP (fun l => l = vz a.length ((nv a : Int) * 2 ^ n.toNat)) w) := by
  rw [← shl_min]
  by_cases h0 : n < 0
  · rw [show min n.toNat a.length = 0 by omega]; exact rshl_neg A a c n h0 w ha hA
  · by_cases h1 : (a.length : Int) < n
    · rw [show min n.toNat a.length = a.length by omega]; exact rshl_far A a c n h1 hn w ha hA
    · obtain ⟨K, rfl⟩ := Int.eq_ofNat_of_zero_le (show 0 ≤ n by omega)
      rw [show min ((K : Int)).toNat a.length = K by omega]; exact rshl_mid A a c K (by omega) w ha hA
end Go.Proofs.Ytkjiaflmaniplaa
