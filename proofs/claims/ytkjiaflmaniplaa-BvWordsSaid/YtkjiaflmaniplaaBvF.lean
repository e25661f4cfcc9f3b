/-
  The contracts of package bv's shifts, of one, Contains and magnitude.
-/
import Derived.Test.YtkjiaflmaniplaaBvE
import Derived.Test.YtkjiaflmaniplaaBvP
import Derived.Laws.CopyOwn
namespace Go.Proofs.Ytkjiaflmaniplaa
open Go.RowKit
set_option linter.unusedSimpArgs false
set_option linter.unusedVariables false

/-- A round of a loop that fills a new row. -/
structure FillR (w : World) (n k : Nat) (f : Nat → Bool) (wr : World) : Prop where
  row : RowF wr w.heap.size n (Par k f)
  bel : Below w.heap.size w wr
theorem FillR.step {w wr : World} {n k : Nat} {f : Nat → Bool} (h : FillR w n k f wr) : FillR w n (k + 1) f (wr.setCell ⟨w.heap.size, k, none⟩ (.bool (f k))) where
  row := (h.row.set_ k _).congr fun j _ => Par.step k f j
  bel := h.bel.setCell (by simp) _
theorem FillR.start {w w1 : World} {n : Nat} {f : Nat → Bool} (h : RowF w1 w.heap.size n (fun _ => false)) (hb : Below w.heap.size w w1) : FillR w n 0 f w1 := ⟨h.congr fun j _ => by simp [Par], hb⟩
theorem FillR.drew {w wr : World} {n k : Nat} {f : Nat → Bool} (h : FillR w n k f wr) : FillR w n k f wr.drew := ⟨h.row.drew, h.bel.drew⟩
theorem FillR.done {w wr : World} {n c : Nat} {f : Nat → Bool} {l : List Bool} (h : FillR w n n f wr) (hl : l = bl n f) (hn : n ≤ 4096) : MkV l w (.returned (.slice (some ⟨w.heap.size, 0, none⟩) n n)) wr :=
  MkV.mk_row h.row (hl.trans (bl_congr fun i hi => by simp [Par, hi])) (Nat.le_refl _) h.bel (Nat.le_refl _) (max_4096 hn)

set_option maxHeartbeats 1000000 in
theorem down_any (A : Option Addr) (a : List Bool) (c : Nat) (k : Int) (b : Bool) (w : World) (ha : a.length ≤ 4096) (hA : Rd w A a) :
    Calls Try.prog 68 #[.slice A a.length c, .int .i64 k, .bool b] w (MkV (bl a.length (fun i => ex a b (i + min k.toNat a.length))) w) := by
  have HA := hide hA
  clear hA
  obtain ⟨m, hm⟩ : ∃ m, m = min k.toNat a.length := ⟨_, rfl⟩
  have hm1 : m ≤ 4096 := by omega
  rw [← hm]
  have HM := hide hm
  have hd : Hid (∀ w, Calls Try.prog 67 #[.slice A a.length c, .int .i64 k] w fun e w' => e = .returned (.int .i64 m) ∧ w = w') := hide (by rw [hm]; exact fun w => dist_any A a.length c k w ha)
  clear hm
  go_enter Try.func68, Try.ntmps68
  go_wp2_with (first
    | (go_at_call 67; (with_reducible refine (hd.out _).mono ?_); rintro e w' ⟨rfl, rfl⟩)
    | (at_make; refine wpList_make_bv _ rfl _ _ rfl _ _ a.length rfl rfl rfl rfl ha ?_; intro w1 hr1 hb1 hz1))
  go_loopw [17] (fun i wr => ∃ k : Nat, k ≤ a.length ∧ i = .int .i64 k ∧ FillR w a.length k (fun i => ex a b (i + m)) wr) (fun i _ => a.length - (intOf i).toNat)
  case atStart => exact ⟨0, Nat.zero_le _, rfl, FillR.start hr1 hb1⟩
  case round =>
    obtain ⟨k, hk, rfl, hR⟩ := hrel
    clear hr1 hb1
    by_cases hlt : k < a.length
    · have hRH := hide hR
      have hcg : wr.cell? ⟨w.heap.size, k, none⟩ = some (.bool (Par k (fun i => ex a b (i + m)) k)) := hR.row.cell hlt
      have hf : wr.frozen? ⟨w.heap.size, k, none⟩ = false := hR.row.free _
      have hRdA : Hid (Rd wr A a) := hide (HA.out.below hR.bel)
      clear hR
      have hs : Hid (Calls Try.prog 56 #[.slice A a.length c, .int .i64 (↑k + ↑m), .bool b] wr fun e w' => e = .returned (.bool (ex a b (k + m))) ∧ wr = w') := hide (ext_any A a c (k + m) b wr ha (by omega) hRdA.out)
      go_wp2_with (first
        | (go_at_call 56; (with_reducible refine (hs.out).mono ?_); rintro e w' ⟨rfl, rfl⟩))
      go_roundw
      case rel => exact ⟨k + 1, by omega, by go_num, hRH.out.step⟩
      case measure => simp [intOf]; omega
    · have hRH := hide hR
      clear hR
      go_wp2
      go_ret
      have e : k = a.length := by omega
      subst e
      exact FillR.done (c := 0) hRH.out rfl ha

theorem shr_any (A : Option Addr) (a : List Bool) (c : Nat) (k : Int) (w : World) (ha : a.length ≤ 4096) (hA : Rd w A a) :
    Calls Try.prog 36 #[.slice A a.length c, .int .i64 k] w (MkV (vz a.length ((nv a : Int) / 2 ^ k.toNat)) w) := by
  rw [← shr_spec]
  go_enter Try.func36, Try.ntmps36
  go_wp2_with (go_at_call 68; (with_reducible refine (down_any _ _ _ _ _ _ ha hA).mono ?_); rintro e w' ⟨A2, c2, rfl, h1, h2, h3, hb⟩; have H1 := hide h1; have H2 := hide h2; clear h1 h2)
  go_ret
  exact ⟨A2, c2, rfl, H1.out, H2.out, h3, hb⟩

theorem sar_any (A : Option Addr) (a : List Bool) (c : Nat) (k : Int) (w : World) (ha : a.length ≤ 4096) (hA : Rd w A a) :
    Calls Try.prog 37 #[.slice A a.length c, .int .i64 k] w (MkV (vz a.length (sv a / 2 ^ k.toNat)) w) := by
  rw [← sar_spec]
  go_enter Try.func37, Try.ntmps37
  go_wp2_with (first
    | (go_at_call 63; (with_reducible refine (neg_any _ _ _ _ ha hA).mono ?_); rintro e w' ⟨rfl, rfl⟩)
    | (go_at_call 68; (with_reducible refine (down_any _ _ _ _ _ _ ha hA).mono ?_); rintro e w' ⟨A2, c2, rfl, h1, h2, h3, hb⟩; have H1 := hide h1; have H2 := hide h2; clear h1 h2))
  go_ret
  exact ⟨A2, c2, rfl, H1.out, H2.out, h3, hb⟩

set_option maxHeartbeats 1000000 in
theorem one_any (n : Nat) (w : World) (hn : n ≤ 4096) :
    Calls Try.prog 70 #[.int .i64 n] w (MkV (vz n 1) w) := by
  by_cases h0 : 0 < n
  · go_enter Try.func70, Try.ntmps70
    go_wp2_with (at_make; refine wpList_make_bv _ rfl _ _ rfl _ _ n rfl rfl rfl rfl hn ?_; intro w1 hr1 hb1 hz1; have hRH := hide hr1; have hcg := hr1.cell h0; have hf := hr1.free 0; clear hr1)
    go_ret
    exact MkV.mk_row (hRH.out.set_ 0 true) (bl_congr fun i hi => by
      unfold zb
      by_cases h : i = 0
      · subst h; simp
      · obtain ⟨j, rfl⟩ : ∃ j, i = j + 1 := ⟨i - 1, by omega⟩
        rw [if_neg h]
        have := two_pos j
        rw [Int.pow_succ, Int.ediv_eq_zero_of_lt (by omega) (by omega)]; rfl) (Nat.le_refl _) (hb1.setCell (by simp) _) (Nat.le_refl _) (max_4096 hn)
  · obtain rfl : n = 0 := by omega
    clear h0 hn
    go_enter Try.func70, Try.ntmps70
    go_wp2_with (at_make; refine wpList_make_bv _ rfl _ _ rfl _ _ 0 rfl rfl rfl rfl (by omega) ?_; intro w1 hr1 hb1 hz1; have hRH := hide hr1; clear hr1)
    go_ret
    exact MkV.mk_row hRH.out rfl (Nat.le_refl _) hb1 (Nat.le_refl _) (by simp [maxLen])

theorem mag_any (A : Option Addr) (a : List Bool) (c : Nat) (w : World) (ha : a.length ≤ 4096) (hA : Rd w A a) :
    Calls Try.prog 66 #[.slice A a.length c] w fun e w' => ∃ A2 c2, e = .returned (.slice A2 (vz a.length (mg a)).length c2) ∧ Rd w' A2 (vz a.length (mg a)) ∧ Below w.heap.size w w' := by
  cases hx : ng a
  · have e : vz a.length (mg a) = a := by
      have : (mg a : Int) = nv a := by unfold mg sv; rw [hx]; simp
      rw [this, vz_nv]
    rw [e]
    have HA := hide hA
    clear e hA
    go_enter Try.func66, Try.ntmps66
    go_wp2_with (first
      | (go_at_call 63; (with_reducible refine (neg_any _ _ _ _ ha HA.out).mono ?_); rintro e w' ⟨rfl, rfl⟩))
    go_ret
    exact ⟨A, c, rfl, HA.out, Below.refl _ _⟩
  · have e : vz a.length (mg a) = vz a.length (-(nv a : Int)) := by
      have : (mg a : Int) = -(nv a : Int) + 2 ^ a.length * 1 := by
        have k := nv_lt a
        have p := two_cast a.length
        have q : sv a = (nv a : Int) - 2 ^ a.length := by unfold sv; rw [hx]; simp
        unfold mg; omega
      rw [this]; exact vz_eq (Int.add_mul_emod_self_left ..)
    rw [e]
    have HA := hide hA
    clear e hA
    go_enter Try.func66, Try.ntmps66
    go_wp2_with (first
      | (go_at_call 63; (with_reducible refine (neg_any _ _ _ _ ha HA.out).mono ?_); rintro e w' ⟨rfl, rfl⟩)
      | (go_at_call 18; (with_reducible refine (neg2_any _ _ _ _ ha HA.out).mono ?_); rintro e w' ⟨A2, c2, rfl, h1, h2, h3, hb⟩; have H1 := hide h1; have H2 := hide h2; clear h1 h2))
    go_ret
    exact ⟨A2, c2, rfl, h3.rd, hb⟩
end Go.Proofs.Ytkjiaflmaniplaa
