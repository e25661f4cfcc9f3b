/-
  The contracts of package bv's comparisons and shifts.
-/
import Derived.Test.YtkjiaflmaniplaaBvA
import Derived.LoopTactic
namespace Go.Proofs.Ytkjiaflmaniplaa
open Go.RowKit

theorem og_tf {f g : Nat → Bool} {i : Nat} (h : f i = true) (k : g i = false) : og f g (i + 1) = 1 := by unfold og; rw [h, k]; rfl
theorem og_ft {f g : Nat → Bool} {i : Nat} (h : f i = false) (k : g i = true) : og f g (i + 1) = -1 := by unfold og; rw [h, k]; rfl
theorem og_eq {f g : Nat → Bool} {i : Nat} {b : Bool} (h : f i = b) (k : g i = b) : og f g (i + 1) = og f g i := by rw [og, h, k]; cases b <;> rfl

set_option maxHeartbeats 1000000 in
theorem order_any (A B : Option Addr) (a b : List Bool) (c d : Nat) (x y : Bool) (w : World) (ha : a.length ≤ 4096) (hb : b.length ≤ 4096) (hA : Rd w A a) (hB : Rd w B b) :
    Calls Try.prog 61 #[.slice A a.length c, .slice B b.length d, .bool x, .bool y] w fun e w' => e = .returned (.int .i64 (og (ex a x) (ex b y) (max a.length b.length))) ∧ w = w' := by
  have HA := hide hA
  have HB := hide hB
  clear hA hB
  go_enter Try.func61, Try.ntmps61
  go_wp2
  all_goals
    go_loop [9, 18] (fun r i => ∃ k : Nat, k ≤ max a.length b.length ∧ i = .int .i64 k ∧ r = .int .i64 (og (ex a x) (ex b y) k)) (fun _ i => max a.length b.length - (intOf i).toNat)
    case atStart => exact ⟨0, Nat.zero_le _, rfl, rfl⟩
    case round =>
      obtain ⟨k, hk, rfl, rfl⟩ := hrel
      by_cases hlt : k < max a.length b.length
      · (try have h1 : k < b.length := by omega)
        (try have h2 : k < a.length := by omega)
        have hk4 : k ≤ 10000 := by omega
        cases hx : ex a x k <;> cases hy : ex b y k
        all_goals
          first
            | (have hs := hide (og_eq hx hy))
            | (have hs := hide (og_tf hx hy))
            | (have hs := hide (og_ft hx hy))
          go_wp2_with (go_at_call 56; (with_reducible refine (ext_any _ _ _ _ _ _ (by assumption) (by assumption) (by first | exact HA.out | exact HB.out)).mono ?_); rintro e w' ⟨rfl, rfl⟩)
          go_round
          case rel => exact ⟨k + 1, by omega, by go_num, by rw [hs.out]⟩
          case measure => simp [intOf]; omega
      · (try have h1 : b.length ≤ k := by omega)
        (try have h2 : a.length ≤ k := by omega)
        go_wp2
        go_ret
        exact ⟨ret_int (by rw [show max a.length b.length = k by omega]), rfl⟩

theorem cmp_any (A B : Option Addr) (a b : List Bool) (c d : Nat) (w : World) (ha : a.length ≤ 4096) (hb : b.length ≤ 4096) (hA : Rd w A a) (hB : Rd w B b) :
    Calls Try.prog 26 #[.slice A a.length c, .slice B b.length d] w fun e w' => e = .returned (.int .i64 (cmp (nv a) (nv b))) ∧ w = w' := by
  rw [← ucmp_spec a b (max a.length b.length) (by omega) (by omega)]
  go_enter Try.func26, Try.ntmps26
  go_wp2_with (go_at_call 61; (with_reducible refine (order_any _ _ _ _ _ _ _ _ _ ha hb hA hB).mono ?_); rintro e w' ⟨rfl, rfl⟩)
  go_ret
  exact ⟨rfl, rfl⟩

theorem scmp_any (A B : Option Addr) (a b : List Bool) (c d : Nat) (w : World) (ha : a.length ≤ 4096) (hb : b.length ≤ 4096) (hA : Rd w A a) (hB : Rd w B b) :
    Calls Try.prog 28 #[.slice A a.length c, .slice B b.length d] w fun e w' => e = .returned (.int .i64 (cmp (sv a) (sv b))) ∧ w = w' := by
  have HA := hide hA
  have HB := hide hB
  clear hA hB
  cases hx : ng a <;> cases hy : ng b
  · rw [← scmp_spec a b (max a.length b.length) (by omega) (by omega) (by rw [hx, hy]), hx, hy]
    go_enter Try.func28, Try.ntmps28
    go_wp2_with (first
      | (go_at_call 63; (with_reducible refine (neg_any _ _ _ _ (by assumption) (by first | exact HA.out | exact HB.out)).mono ?_); rintro e w' ⟨rfl, rfl⟩)
      | (go_at_call 61; (with_reducible refine (order_any _ _ _ _ _ _ _ _ _ ha hb HA.out HB.out).mono ?_); rintro e w' ⟨rfl, rfl⟩))
    go_ret
    exact ⟨rfl, rfl⟩
  · rw [scmp_gt hx hy]
    go_enter Try.func28, Try.ntmps28
    go_wp2_with (first
      | (go_at_call 63; (with_reducible refine (neg_any _ _ _ _ (by assumption) (by first | exact HA.out | exact HB.out)).mono ?_); rintro e w' ⟨rfl, rfl⟩))
    go_ret
    exact ⟨rfl, rfl⟩
  · rw [scmp_lt hx hy]
    go_enter Try.func28, Try.ntmps28
    go_wp2_with (first
      | (go_at_call 63; (with_reducible refine (neg_any _ _ _ _ (by assumption) (by first | exact HA.out | exact HB.out)).mono ?_); rintro e w' ⟨rfl, rfl⟩))
    go_ret
    exact ⟨rfl, rfl⟩
  · rw [← scmp_spec a b (max a.length b.length) (by omega) (by omega) (by rw [hx, hy]), hx, hy]
    go_enter Try.func28, Try.ntmps28
    go_wp2_with (first
      | (go_at_call 63; (with_reducible refine (neg_any _ _ _ _ (by assumption) (by first | exact HA.out | exact HB.out)).mono ?_); rintro e w' ⟨rfl, rfl⟩)
      | (go_at_call 61; (with_reducible refine (order_any _ _ _ _ _ _ _ _ _ ha hb HA.out HB.out).mono ?_); rintro e w' ⟨rfl, rfl⟩))
    go_ret
    exact ⟨rfl, rfl⟩
end Go.Proofs.Ytkjiaflmaniplaa
