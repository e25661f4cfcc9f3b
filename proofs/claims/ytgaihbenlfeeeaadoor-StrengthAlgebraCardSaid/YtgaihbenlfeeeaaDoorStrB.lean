/-
  The contracts of package bit's functions that package strength's statements use.
-/
import Derived.Test.YtgaihbenlfeeeaaDoorProg
import Derived.Test.YtgaihbenlfeeeaaDoorBitM
import Derived.WalkKit
import Derived.WalkSpells
import Derived.WalkLawsBesides
import Derived.Lib.Hide
namespace Go.Proofs.YtgaihbenlfeeeaaDoor
open Go.RowKit

set_option maxHeartbeats 400000 in
theorem state_any (a : Int) (w : World) :
    Calls Tryd.prog 45 #[.int .u8 a] w fun e w' => e = .returned (.int .u8 (bst a)) ∧ w' = w := by
  by_cases h : 3 < a
  · have e : bst a = 2 := by unfold bst; rw [if_pos h]
    rw [e]
    go_enter Tryd.func45, Tryd.ntmps45
    go_wp2
    go_ret
    exact ⟨rfl, rfl⟩
  · have e : bst a = a := by unfold bst; rw [if_neg h]
    rw [e]
    go_enter Tryd.func45, Tryd.ntmps45
    go_wp2
    go_ret
    exact ⟨rfl, rfl⟩

set_option maxHeartbeats 400000 in
theorem known_any (a : Int) (w : World) :
    Calls Tryd.prog 44 #[.int .u8 a] w fun e w' => e = .returned (.bool (mKnown a)) ∧ w' = w := by
  go_enter Tryd.func44, Tryd.ntmps44
  go_wp2
  go_ret
  exact ⟨rfl, rfl⟩

set_option maxHeartbeats 400000 in
theorem same_any (a b : Int) (w : World) :
    Calls Tryd.prog 35 #[.int .u8 a, .int .u8 b] w fun e w' => e = .returned (.bool (mSame a b)) ∧ w' = w := by
  go_enter Tryd.func35, Tryd.ntmps35
  go_wp2_with (go_at_call 45; refine (state_any _ _).mono ?_; rintro e w' ⟨rfl, rfl⟩)
  go_ret
  exact ⟨rfl, rfl⟩

set_option maxHeartbeats 400000 in
theorem leq_any (a b : Int) (w : World) :
    Calls Tryd.prog 34 #[.int .u8 a, .int .u8 b] w fun e w' => e = .returned (.bool (mLeq a b)) ∧ w' = w := by
  unfold mLeq
  cases hs : mSame a b <;> cases hk : mKnown a <;> have Hs := Lib.hid hs <;> have Hk := Lib.hid hk <;> clear hs hk
  all_goals
    go_enter Tryd.func34, Tryd.ntmps34
    go_wp2_with (first
      | (go_at_call 35; refine (same_any _ _ _).mono ?_; rw [Hs.out]; rintro e w' ⟨rfl, rfl⟩)
      | (go_at_call 44; refine (known_any a _).mono ?_; rw [Hk.out]; rintro e w' ⟨rfl, rfl⟩)
      | (go_at_call 44; refine (known_any b _).mono ?_; rintro e w' ⟨rfl, rfl⟩))
    go_ret
    exact ⟨rfl, rfl⟩

set_option maxHeartbeats 400000 in
theorem from_any (v : Bool) (w : World) :
    Calls Tryd.prog 42 #[.bool v] w fun e w' => e = .returned (.int .u8 (mFrom v)) ∧ w' = w := by
  cases v
  all_goals
    go_enter Tryd.func42, Tryd.ntmps42
    go_wp2
    go_ret
    exact ⟨rfl, rfl⟩

theorem bst_4 (a : Int) (h0 : 0 ≤ a) : bst a = 0 ∧ mChar a = 48 ∨ bst a = 1 ∧ mChar a = 49 ∨ bst a = 2 ∧ mChar a = 120 ∨ bst a = 3 ∧ mChar a = 122 := by
  unfold bst mChar; (repeat' split) <;> omega

set_option maxHeartbeats 400000 in
theorem char_any (a : Int) (w : World) (h0 : 0 ≤ a) :
    Calls Tryd.prog 41 #[.int .u8 a] w fun e w' => e = .returned (.int .u8 (mChar a)) ∧ w' = w := by
  rcases bst_4 a h0 with ⟨e1, e2⟩ | ⟨e1, e2⟩ | ⟨e1, e2⟩ | ⟨e1, e2⟩ <;> rw [e2] <;> have E := Lib.hid e1 <;> clear e1 e2
  all_goals
    go_enter Tryd.func41, Tryd.ntmps41
    go_wp2_with (go_at_call 45; refine (state_any _ _).mono ?_; rw [E.out]; rintro e w' ⟨rfl, rfl⟩)
    go_ret
    exact ⟨rfl, rfl⟩

end Go.Proofs.YtgaihbenlfeeeaaDoor
