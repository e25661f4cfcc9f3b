/-
  The contracts of package bv's conversions.
-/
import Derived.Test.YtkjiaflmaniplaaBvJ
namespace Go.Proofs.Ytkjiaflmaniplaa
open Go.RowKit
set_option linter.unusedSimpArgs false
set_option linter.unusedVariables false

theorem and1 (x : Int) : bits .and .i64 x 1 = x % 2 := by
  show IntKind.i64.wrap ((BitVec.ofInt 64 x &&& BitVec.ofInt 64 1).toNat : Int) = _
  have h : (BitVec.ofInt 64 x &&& BitVec.ofInt 64 1).toNat = (x % 2).toNat := by
    rw [BitVec.toNat_and, BitVec.toNat_ofInt, BitVec.toNat_ofInt]
    rw [show ((1 : Int) % ((2 ^ 64 : Nat) : Int)).toNat = 1 from rfl, Nat.and_one_is_mod]
    omega
  rw [h, IntKind.wrap_i64]
  omega
theorem neg_one_div (p : Int) (h : 0 < p) : (-1 : Int) / p = -1 := by
  have k1 := Int.emod_add_mul_ediv (-1) p
  have k2 := Int.emod_nonneg (-1) (Int.ne_of_gt h)
  have k3 := Int.emod_lt_of_pos (-1) h
  have a : (-1 : Int) / p < 0 := by
    by_cases h1 : (-1 : Int) / p < 0
    · exact h1
    · have := Int.mul_nonneg (Int.le_of_lt h) (show 0 ≤ (-1 : Int) / p by omega); omega
  by_cases h1 : (-1 : Int) / p < -1
  · have : p * ((-1 : Int) / p) ≤ p * (-2) := Int.mul_le_mul_of_nonneg_left (by omega) (Int.le_of_lt h)
    omega
  · omega
theorem from_bit (z : Int) (k : Nat) (h1 : -9223372036854775808 ≤ z) (h2 : z ≤ 9223372036854775807) : (bits BinOp.and IntKind.i64 (z / 2 ^ min k 64) 1 == 1) = zb z k := by
  rw [and1]
  have e : z / 2 ^ min k 64 = z / 2 ^ k := by
    rcases Nat.le_total k 64 with h | h
    · rw [Nat.min_eq_left h]
    · rw [Nat.min_eq_right h]
      obtain ⟨d, rfl⟩ : ∃ d, k = 64 + d := ⟨k - 64, by omega⟩
      rw [Int.pow_add, ← Int.ediv_ediv_of_nonneg (by decide)]
      have p := two_pos d
      rcases (show z / 2 ^ 64 = 0 ∨ z / 2 ^ 64 = -1 by omega) with h0 | h0
      · rw [h0]; simp
      · rw [h0]
        rw [neg_one_div _ p]
  rw [e]
  unfold zb
  rfl
set_option maxHeartbeats 1000000 in
theorem from_any (z : Int) (n : Nat) (w : World) (hn : n ≤ 128) (h1 : -9223372036854775808 ≤ z) (h2 : z ≤ 9223372036854775807) :
    Calls Try.prog 38 #[.int .i64 z, .int .i64 n] w fun e w' => ∃ A c, e = .returned (.tuple #[.slice A n c, .int .i64 0]) ∧ n ≤ c ∧ c ≤ maxLen ∧ Own w.heap.size w' A (vz n z) ∧ Below w.heap.size w w' := by
  go_enter Try.func38, Try.ntmps38
  go_wp2_with (first
    | (at_make; refine wpList_make_bv _ rfl _ _ rfl _ _ n rfl rfl rfl rfl (by omega) ?_; intro w1 hr1 hb1 hz1))
  go_loopw [17] (fun i wr => ∃ k : Nat, k ≤ n ∧ i = .int .i64 k ∧ FillR w n k (zb z) wr) (fun i _ => n - (intOf i).toNat)
  case atStart => exact ⟨0, Nat.zero_le _, rfl, FillR.start hr1 hb1⟩
  case round =>
    obtain ⟨k, hk, rfl, hR⟩ := hrel
    clear hr1 hb1
    by_cases hlt : k < n
    · have hRH := hide hR
      have hcg : wr.cell? ⟨w.heap.size, k, none⟩ = some (.bool (Par k (zb z) k)) := hR.row.cell hlt
      have hf : wr.frozen? ⟨w.heap.size, k, none⟩ = false := hR.row.free _
      clear hR
      go_wp2
      rw [from_bit z k h1 h2]
      go_roundw
      case rel => exact ⟨k + 1, by omega, by go_num, hRH.out.step⟩
      case measure => simp [intOf]; omega
    · have hRH := hide hR
      clear hR
      have e : k = n := by omega
      subst e
      go_wp2
      go_ret2
      exact ⟨some ⟨w.heap.size, 0, none⟩, k, rfl, Nat.le_refl _, max_4096 (by omega), fun _ => ⟨w.heap.size, rfl, Nat.le_refl _, by rw [vz_length]; exact hRH.out.row.congr fun i hi => by rw [show vz k z = bl k (zb z) from rfl, bt_bl_lt hi]; simp [Par, hi]⟩, hRH.out.bel⟩

theorem from_err (z n : Int) (w : World) (hn : n < 0 ∨ 128 < n) :
    Calls Try.prog 38 #[.int .i64 z, .int .i64 n] w fun e w' => e = .returned (.tuple #[.slice none 0 0, .int .i64 1]) ∧ w = w' := by
  rcases hn with h | h
  · go_enter Try.func38, Try.ntmps38
    go_wp2
    go_ret2
    exact ⟨rfl, rfl⟩
  · have h0 : ¬ n < 0 := by omega
    go_enter Try.func38, Try.ntmps38
    go_wp2
    go_ret2
    exact ⟨rfl, rfl⟩

theorem or_step {m k : Nat} (hm : m < 2 ^ k) (hk : k < 64) : bits BinOp.or IntKind.u64 (m : Int) (IntKind.u64.wrap (2 ^ k)) = ((m + 2 ^ k : Nat) : Int) := by
  have hp : 2 ^ k ≤ 2 ^ 63 := Nat.pow_le_pow_right (by decide) (by omega)
  have e : IntKind.u64.wrap (2 ^ k) = ((2 ^ k : Nat) : Int) := by
    rw [IntKind.wrap_u64, ← two_cast]; omega
  rw [e, bits_or_u64_nat _ _ (by omega) (by omega)]
  have h := Nat.two_pow_add_eq_or_of_lt hm 1
  rw [Nat.mul_one] at h
  rw [Nat.or_comm, ← h, Nat.add_comm]
theorem nf_big {f : Nat → Bool} {n i : Nat} (hi : i < n) (h : f i = true) : 2 ^ i ≤ nf f n := by
  induction n with
  | zero => omega
  | succ n ih =>
    rw [nf_succ]
    by_cases e : i = n
    · subst e; rw [h]; simp
    · have := ih (by omega); omega
theorem nf_flat {f : Nat → Bool} {m n : Nat} (hmn : m ≤ n) (h : ∀ j, m ≤ j → j < n → f j = false) : nf f n = nf f m := by
  induction n with
  | zero => have : m = 0 := by omega
            subst this; rfl
  | succ n ih =>
    by_cases e : m = n + 1
    · subst e; rfl
    · rw [nf_succ, ih (by omega) fun j h1 h2 => h j h1 (by omega), h n (by omega) (by omega)]; simp

/-- What Uint answers. -/
def UintA (a : List Bool) (e : Ending) : Prop := (nv a < 2 ^ 64 ∧ e = .returned (.tuple #[.int .u64 (nv a), .bool true])) ∨ (2 ^ 64 ≤ nv a ∧ e = .returned (.tuple #[.int .u64 0, .bool false]))
theorem UintA.yes {a : List Bool} {m : Nat} (h : nv a = m) (k : m < 2 ^ 64) : UintA a (.returned (.tuple #[.int .u64 m, .bool true])) := Or.inl ⟨by omega, by rw [h]⟩
theorem UintA.no {a : List Bool} (k : 2 ^ 64 ≤ nv a) : UintA a (.returned (.tuple #[.int .u64 0, .bool false])) := Or.inr ⟨k, rfl⟩
set_option maxHeartbeats 1000000 in
theorem uint_any (A : Option Addr) (a : List Bool) (c : Nat) (w : World) (ha : a.length ≤ 4096) (hA : Rd w A a) :
    Calls Try.prog 42 #[.slice A a.length c] w fun e w' => UintA a e ∧ w = w' := by
  have HA := hide hA
  clear hA
  go_enter Try.func42, Try.ntmps42
  go_wp2
  go_loop [4, 8] (fun n i => ∃ k : Nat, k ≤ a.length ∧ i = .int .i64 k ∧ n = .int .u64 (nf (bt a) k) ∧ Hid (∀ j, 64 ≤ j → j < k → bt a j = false)) (fun _ i => a.length - (intOf i).toNat)
  case atStart => exact ⟨0, Nat.zero_le _, rfl, rfl, hide fun j _ hj => by omega⟩
  case round =>
    obtain ⟨k, hk, rfl, rfl, hno⟩ := hrel
    by_cases hlt : k < a.length
    · obtain ⟨ad, rfl, hlt1, hc⟩ := HA.out.at_ hlt
      have hs := hide (nf_succ (bt a) k)
      cases hx : bt a k
      · rw [hx] at hc
        have hx' := hide hx
        clear hx
        go_wp2
        go_round
        case rel => exact ⟨k + 1, by omega, by go_num, by rw [hs.out, hx'.out]; simp, hide fun j h1 hj => by
          by_cases e : j = k
          · subst e; exact hx'.out
          · exact hno.out j h1 (by omega)⟩
        case measure => simp [intOf]; omega
      · rw [hx] at hc
        have hx' := hide hx
        clear hx
        by_cases h64 : k < 64
        · go_wp2
          rw [or_step (nf_lt (bt a) k) h64]
          go_round
          case rel => exact ⟨k + 1, by omega, by go_num, by rw [hs.out, hx'.out]; simp, hide fun j h1 hj => by omega⟩
          case measure => simp [intOf]; omega
        · go_wp2
          go_ret2
          exact ⟨UintA.no (Nat.le_trans (Nat.pow_le_pow_right (by decide) (by omega)) (nf_big hlt hx'.out)), rfl⟩
    · go_wp2
      go_ret2
      have e : k = a.length := by omega
      subst e
      refine ⟨UintA.yes rfl ?_, rfl⟩
      rcases Nat.le_total a.length 64 with h | h
      · exact Nat.lt_of_lt_of_le (nv_lt a) (Nat.pow_le_pow_right (by decide) h)
      · show nf (bt a) a.length < _
        rw [nf_flat h hno.out]; exact nf_lt _ _

/-- What Int answers. -/
def IntA (a : List Bool) (e : Ending) : Prop := (-9223372036854775808 ≤ sv a ∧ sv a ≤ 9223372036854775807 ∧ e = .returned (.tuple #[.int .i64 (sv a), .bool true])) ∨ (¬ (-9223372036854775808 ≤ sv a ∧ sv a ≤ 9223372036854775807) ∧ e = .returned (.tuple #[.int .i64 0, .bool false]))
theorem sv_nf (a : List Bool) (n : Nat) (h : a.length ≤ n) : (nf (ex a (ng a)) n : Int) = if ng a then sv a + 2 ^ n else sv a := by
  unfold sv
  cases hx : ng a
  · rw [ex_false, nf_bt h]; simp
  · rw [nf_ex_true a n h]; simp; omega
theorem int_out {a : List Bool} {k : Nat} (h63 : 63 ≤ k) (hx : ex a (ng a) k ≠ ng a) : ¬ (-9223372036854775808 ≤ sv a ∧ sv a ≤ 9223372036854775807) := by
  rintro ⟨h1, h2⟩
  apply hx
  rw [← zb_sv]
  obtain ⟨d, rfl⟩ : ∃ d, k = 63 + d := ⟨k - 63, by omega⟩
  unfold zb
  rw [Int.pow_add, ← Int.ediv_ediv_of_nonneg (by decide)]
  have p := two_pos d
  cases hn : ng a
  · have := sv_nn hn
    rw [show sv a / 2 ^ 63 = 0 by omega]; simp
  · have := sv_neg hn
    rw [show sv a / 2 ^ 63 = -1 by omega, neg_one_div _ p]; rfl
theorem int_in {a : List Bool} (h : ∀ j, 63 ≤ j → j < max a.length 64 → ex a (ng a) j = ng a) : (-9223372036854775808 ≤ sv a ∧ sv a ≤ 9223372036854775807) ∧ (nf (ex a (ng a)) 64 : Int) = if ng a then sv a + 18446744073709551616 else sv a := by
  obtain ⟨N, hN⟩ : ∃ N, N = max a.length 64 := ⟨_, rfl⟩
  have e := sv_nf a N (by omega)
  have n1 := nf_not (ex a (ng a)) N
  have n2 := nf_not (ex a (ng a)) 64
  have c64 : ((2 ^ 64 : Nat) : Int) = 18446744073709551616 := by decide
  have cN := two_cast N
  cases hx : ng a
  · rw [hx] at e h
    simp only [Bool.false_eq_true, if_false] at e ⊢
    have f1 := nf_flat (f := ex a false) (m := 63) (n := N) (by omega) fun j h1 h2 => h j h1 (by omega)
    have f2 := nf_flat (f := ex a false) (m := 63) (n := 64) (by omega) fun j h1 h2 => h j h1 (by omega)
    have l := nf_lt (ex a false) 63
    refine ⟨by omega, by omega⟩
  · rw [hx] at e h n1 n2
    simp only [if_true] at e ⊢
    have f1 := nf_flat (f := fun i => !ex a true i) (m := 63) (n := N) (by omega) fun j h1 h2 => by rw [h j h1 (by omega)]; rfl
    have f2 := nf_flat (f := fun i => !ex a true i) (m := 63) (n := 64) (by omega) fun j h1 h2 => by rw [h j h1 (by omega)]; rfl
    have l := nf_lt (fun i => !ex a true i) 63
    refine ⟨by omega, by omega⟩
theorem IntA.no {a : List Bool} {k : Nat} (h63 : 63 ≤ k) (hx : ex a (ng a) k ≠ ng a) : IntA a (.returned (.tuple #[.int .i64 0, .bool false])) := Or.inr ⟨int_out h63 hx, rfl⟩
theorem IntA.yes {a : List Bool} {m : Int} (h : ∀ j, 63 ≤ j → j < max a.length 64 → ex a (ng a) j = ng a) (hm : m = IntKind.i64.wrap (nf (ex a (ng a)) 64)) : IntA a (.returned (.tuple #[.int .i64 m, .bool true])) := by
  obtain ⟨⟨h1, h2⟩, h3⟩ := int_in h
  refine Or.inl ⟨h1, h2, ?_⟩
  rw [hm, IntKind.wrap_i64, h3]
  split <;> (congr; omega)

theorem wrap64_is (n : Int) : wrap64 n = IntKind.i64.wrap n := by rw [IntKind.wrap_i64]; unfold wrap64; rfl
set_option maxHeartbeats 2000000 in
theorem int_any (A : Option Addr) (a : List Bool) (c : Nat) (w : World) (ha : a.length ≤ 4096) (hA : Rd w A a) :
    Calls Try.prog 44 #[.slice A a.length c] w fun e w' => IntA a e ∧ w = w' := by
  have HA := hide hA
  clear hA
  obtain ⟨s, hs⟩ : ∃ s, s = ng a := ⟨_, rfl⟩
  have HS := hide hs
  have hng := hide (neg_any A a c w ha HA.out)
  rw [← hs] at hng
  clear hs
  go_enter Try.func44, Try.ntmps44
  go_wp2_with (go_at_call 63; (with_reducible refine (hng.out).mono ?_); rintro e w' ⟨rfl, rfl⟩)
  all_goals
    go_loop [4, 13] (fun n i => ∃ k : Nat, k ≤ max a.length 64 ∧ i = .int .i64 k ∧ n = .int .u64 (nf (ex a s) (min k 64)) ∧ Hid (∀ j, 63 ≤ j → j < k → ex a s j = s)) (fun _ i => max a.length 64 - (intOf i).toNat)
    case atStart => exact ⟨0, Nat.zero_le _, rfl, rfl, hide fun j _ hj => by omega⟩
    case round =>
      obtain ⟨k, hk, rfl, rfl, hno⟩ := hrel
      by_cases hlt : k < max a.length 64
      · have he := hide (ext_any A a c k s w ha (by omega) HA.out)
        have hst := hide (nf_succ (ex a s) k)
        have hno1 : Hid (ex a s k = s → ∀ j, 63 ≤ j → j < k + 1 → ex a s j = s) := hide fun h j h1 hj => by
          by_cases e : j = k
          · subst e; exact h
          · exact hno.out j h1 (by omega)
        have hlt1 : (k : Int) < a.length ∨ (k : Int) < 64 := by omega
        (try have hq : k < a.length := by omega)
        (try have hq2 : k < 64 := by omega)
        have HX := hide (rfl : ex a s k = ex a s k)
        obtain ⟨x, hx⟩ : ∃ x, x = ex a s k := ⟨_, rfl⟩
        rw [← hx] at he
        have hx' := hide hx
        clear hx hlt1 HX
        by_cases h63 : k < 63
        · have em : Hid (min k 64 = k) := hide (by omega)
          have em1 : Hid (min (k + 1) 64 = k + 1) := hide (by omega)
          rw [em.out]
          cases x
          · go_wp2_with (go_at_call 56; (with_reducible refine (he.out).mono ?_); rintro e w' ⟨rfl, rfl⟩)
            go_round
            case rel => exact ⟨k + 1, by omega, by go_num, by rw [em1.out, hst.out, ← hx'.out]; simp, hide fun j h1 hj => by omega⟩
            case measure => simp [intOf]; omega
          · go_wp2_with (go_at_call 56; (with_reducible refine (he.out).mono ?_); rintro e w' ⟨rfl, rfl⟩)
            rw [or_step (nf_lt (ex a s) k) (by omega)]
            go_round
            case rel => exact ⟨k + 1, by omega, by go_num, by rw [em1.out, hst.out, ← hx'.out]; simp, hide fun j h1 hj => by omega⟩
            case measure => simp [intOf]; omega
        · by_cases hxs : x = s
          · subst hxs
            by_cases h64 : k < 64
            · have em : Hid (min k 64 = k) := hide (by omega)
              have em1 : Hid (min (k + 1) 64 = k + 1) := hide (by omega)
              rw [em.out]
              cases x
              · go_wp2_with (go_at_call 56; (with_reducible refine (he.out).mono ?_); rintro e w' ⟨rfl, rfl⟩)
                go_round
                case rel => exact ⟨k + 1, by omega, by go_num, by rw [em1.out, hst.out, ← hx'.out]; simp, hide (hno1.out hx'.out.symm)⟩
                case measure => simp [intOf]; omega
              · go_wp2_with (go_at_call 56; (with_reducible refine (he.out).mono ?_); rintro e w' ⟨rfl, rfl⟩)
                rw [or_step (nf_lt (ex a true) k) (by omega)]
                go_round
                case rel => exact ⟨k + 1, by omega, by go_num, by rw [em1.out, hst.out, ← hx'.out]; simp, hide (hno1.out hx'.out.symm)⟩
                case measure => simp [intOf]; omega
            · have em : Hid (min k 64 = 64) := hide (by omega)
              have em1 : Hid (min (k + 1) 64 = 64) := hide (by omega)
              rw [em.out]
              by_cases hc0 : a.length ≤ 64
              · exfalso; omega
              · cases x
                all_goals
                  first
                    | (exfalso; omega)
                    | (go_wp2_with (go_at_call 56; (with_reducible refine (he.out).mono ?_); rintro e w' ⟨rfl, rfl⟩)
                       go_round
                       case rel => exact ⟨k + 1, by omega, by go_num, by rw [em1.out], hide (hno1.out hx'.out.symm)⟩
                       case measure => simp [intOf]; omega)
          · have HK := hide h63
            have hne := hide hxs
            cases x <;> cases s
            · exact absurd rfl hxs
            · clear hxs
              go_wp2_with (go_at_call 56; (with_reducible refine (he.out).mono ?_); rintro e w' ⟨rfl, rfl⟩)
              go_ret2
              exact ⟨IntA.no (k := k) (by have := HK.out; omega) (by rw [← HS.out, ← hx'.out]; simp), rfl⟩
            · clear hxs
              go_wp2_with (go_at_call 56; (with_reducible refine (he.out).mono ?_); rintro e w' ⟨rfl, rfl⟩)
              go_ret2
              exact ⟨IntA.no (k := k) (by have := HK.out; omega) (by rw [← HS.out, ← hx'.out]; simp), rfl⟩
            · exact absurd rfl hxs
      · (try have hq : a.length ≤ k := by omega)
        (try have hq2 : 64 ≤ k := by omega)
        have em : Hid (min k 64 = 64) := hide (by omega)
        have ek : k = max a.length 64 := by omega
        have EK := hide ek
        rw [em.out]
        clear ek
        go_wp2
        go_ret2
        exact ⟨IntA.yes (fun j h1 h2 => by rw [← HS.out]; exact hno.out j h1 (by rw [EK.out]; exact h2)) (by rw [← HS.out]; exact wrap64_is _), rfl⟩
end Go.Proofs.Ytkjiaflmaniplaa
