/-
  The contracts of package bit: in every world that holds its six tables, each function answers as its mathematics says, and nothing changes but the count of draws.
-/
import Derived.Test.YtahonicpfcccjaaDoorProg
import Derived.Test.YtahonicpfcccjaaDoorBitM
import Derived.WalkKit
import Derived.WalkSpells
import Derived.WalkLawsBesides
import Derived.Deep.QuietTactic
import Derived.BigQuiet
import Derived.Lib.Hide
namespace Go.Proofs.YtahonicpfcccjaaDoor
open Go.RowKit

/-- A table of one index: at each state of a bit its cell holds what the function says. -/
def Tab1 (g : Nat) (f : Int → Int) (w : World) : Prop := ∀ a : Int, 0 ≤ a → w.cell? ⟨g, (bst a).toNat, none⟩ = some (.int .u8 (f a))
/-- A table of two indices. -/
def Tab2 (g : Nat) (f : Int → Int → Int) (w : World) : Prop := ∀ a b : Int, 0 ≤ a → 0 ≤ b → w.cell? ⟨g, (bst a).toNat * 4 + (bst b).toNat, none⟩ = some (.int .u8 (f a b))
theorem Tab1.draw {g : Nat} {f : Int → Int} {w : World} (h : Tab1 g f w) (n : Nat) : Tab1 g f (w.drewN n) := h
theorem Tab2.draw {g : Nat} {f : Int → Int → Int} {w : World} (h : Tab2 g f w) (n : Nat) : Tab2 g f (w.drewN n) := h

/-- What a call that only reads leaves: its answer, and draws made. -/
def Gives (v : Value) (w : World) (e : Ending) (w' : World) : Prop := e = .returned v ∧ ∃ n, w' = w.drewN n

set_option maxHeartbeats 400000 in
theorem state_any (a : Int) (w : World) :
    Calls Tryd.prog 39 #[.int .u8 a] w fun e w' => e = .returned (.int .u8 (bst a)) ∧ w' = w := by
  by_cases h : 3 < a
  · have e : bst a = 2 := by unfold bst; rw [if_pos h]
    rw [e]
    go_enter Tryd.func39, Tryd.ntmps39
    go_wp2
    go_ret
    exact ⟨rfl, rfl⟩
  · have e : bst a = a := by unfold bst; rw [if_neg h]
    rw [e]
    go_enter Tryd.func39, Tryd.ntmps39
    go_wp2
    go_ret
    exact ⟨rfl, rfl⟩

set_option maxHeartbeats 400000 in
theorem not_any (a : Int) (w : World) (h0 : 0 ≤ a) (ht : Tab1 0 mNot w) :
    Calls Tryd.prog 14 #[.int .u8 a] w (Gives (.int .u8 (mNot a)) w) := by
  have hc := ht a h0
  obtain ⟨b0, b1⟩ := bst_bd a h0
  clear ht
  go_enter Tryd.func14, Tryd.ntmps14
  go_wp2_with (go_at_call 39; refine (state_any _ _).mono ?_; rintro e w' ⟨rfl, rfl⟩)
  go_ret
  exact ⟨rfl, 0, rfl⟩

set_option maxHeartbeats 400000 in
theorem buf_any (a : Int) (w : World) (h0 : 0 ≤ a) (ht : Tab1 1 mBuf w) :
    Calls Tryd.prog 16 #[.int .u8 a] w (Gives (.int .u8 (mBuf a)) w) := by
  have hc := ht a h0
  obtain ⟨b0, b1⟩ := bst_bd a h0
  clear ht
  go_enter Tryd.func16, Tryd.ntmps16
  go_wp2_with (go_at_call 39; refine (state_any _ _).mono ?_; rintro e w' ⟨rfl, rfl⟩)
  go_ret
  exact ⟨rfl, 0, rfl⟩

set_option maxHeartbeats 400000 in
theorem and_any (a b : Int) (w : World) (h0 : 0 ≤ a) (h1 : 0 ≤ b) (ht : Tab2 2 mAnd w) :
    Calls Tryd.prog 20 #[.int .u8 a, .int .u8 b] w (Gives (.int .u8 (mAnd a b)) w) := by
  have hc := ht a b h0 h1
  obtain ⟨b0, b1⟩ := bst_bd a h0
  obtain ⟨b2, b3⟩ := bst_bd b h1
  clear ht
  go_enter Tryd.func20, Tryd.ntmps20
  go_wp2
  go_quiet ((go_at_call 39; exact Calls.quiet_of_same (state_any _ _)))
  go_wp2
  go_ret
  exact ⟨rfl, _, rfl⟩

set_option maxHeartbeats 400000 in
theorem or_any (a b : Int) (w : World) (h0 : 0 ≤ a) (h1 : 0 ≤ b) (ht : Tab2 3 mOr w) :
    Calls Tryd.prog 22 #[.int .u8 a, .int .u8 b] w (Gives (.int .u8 (mOr a b)) w) := by
  have hc := ht a b h0 h1
  obtain ⟨b0, b1⟩ := bst_bd a h0
  obtain ⟨b2, b3⟩ := bst_bd b h1
  clear ht
  go_enter Tryd.func22, Tryd.ntmps22
  go_wp2
  go_quiet ((go_at_call 39; exact Calls.quiet_of_same (state_any _ _)))
  go_wp2
  go_ret
  exact ⟨rfl, _, rfl⟩

set_option maxHeartbeats 400000 in
theorem xor_any (a b : Int) (w : World) (h0 : 0 ≤ a) (h1 : 0 ≤ b) (ht : Tab2 4 mXor w) :
    Calls Tryd.prog 24 #[.int .u8 a, .int .u8 b] w (Gives (.int .u8 (mXor a b)) w) := by
  have hc := ht a b h0 h1
  obtain ⟨b0, b1⟩ := bst_bd a h0
  obtain ⟨b2, b3⟩ := bst_bd b h1
  clear ht
  go_enter Tryd.func24, Tryd.ntmps24
  go_wp2
  go_quiet ((go_at_call 39; exact Calls.quiet_of_same (state_any _ _)))
  go_wp2
  go_ret
  exact ⟨rfl, _, rfl⟩

set_option maxHeartbeats 400000 in
theorem eq_any (a b : Int) (w : World) (h0 : 0 ≤ a) (h1 : 0 ≤ b) (ht : Tab2 4 mXor w) (hn : Tab1 0 mNot w) :
    Calls Tryd.prog 26 #[.int .u8 a, .int .u8 b] w (Gives (.int .u8 (mEq a b)) w) := by
  go_enter Tryd.func26, Tryd.ntmps26
  go_wp2_with (first
    | (go_at_call 24; refine (xor_any _ _ _ h0 h1 ht).mono ?_; rintro e w' ⟨rfl, n, rfl⟩)
    | (go_at_call 14; refine (not_any _ _ (mXor_nn _ _) (hn.draw _)).mono ?_; rintro e w' ⟨rfl, n, rfl⟩))
  go_ret
  exact ⟨rfl, _, rfl⟩

set_option maxHeartbeats 400000 in
theorem mux_1 (a b : Int) (w : World) (h0 : 0 ≤ a) (ht : Tab1 1 mBuf w) :
    Calls Tryd.prog 32 #[.int .u8 1, .int .u8 a, .int .u8 b] w (Gives (.int .u8 (mBuf a)) w) := by
  go_enter Tryd.func32, Tryd.ntmps32
  go_wp2_with (go_at_call 16; refine (buf_any _ _ h0 ht).mono ?_; rintro e w' ⟨rfl, n, rfl⟩)
  go_ret
  exact ⟨rfl, _, rfl⟩

set_option maxHeartbeats 400000 in
theorem mux_0 (a b : Int) (w : World) (h1 : 0 ≤ b) (ht : Tab1 1 mBuf w) :
    Calls Tryd.prog 32 #[.int .u8 0, .int .u8 a, .int .u8 b] w (Gives (.int .u8 (mBuf b)) w) := by
  go_enter Tryd.func32, Tryd.ntmps32
  go_wp2_with (go_at_call 16; refine (buf_any _ _ h1 ht).mono ?_; rintro e w' ⟨rfl, n, rfl⟩)
  go_ret
  exact ⟨rfl, _, rfl⟩

set_option maxHeartbeats 400000 in
theorem mux_x (s a b : Int) (w : World) (hs0 : (s == 0) = false) (hs1 : (s == 1) = false) (h0 : 0 ≤ a) (h1 : 0 ≤ b) (ht : Tab2 5 mAgree w) :
    Calls Tryd.prog 32 #[.int .u8 s, .int .u8 a, .int .u8 b] w (Gives (.int .u8 (mAgree a b)) w) := by
  have hc := ht a b h0 h1
  obtain ⟨b0, b1⟩ := bst_bd a h0
  obtain ⟨b2, b3⟩ := bst_bd b h1
  clear ht
  go_enter Tryd.func32, Tryd.ntmps32
  go_wp2
  go_quiet ((go_at_call 39; exact Calls.quiet_of_same (state_any _ _)))
  go_wp2
  go_ret
  exact ⟨rfl, _, rfl⟩

theorem mux_any (s a b : Int) (w : World) (h0 : 0 ≤ a) (h1 : 0 ≤ b) (ht : Tab1 1 mBuf w) (hg : Tab2 5 mAgree w) :
    Calls Tryd.prog 32 #[.int .u8 s, .int .u8 a, .int .u8 b] w (Gives (.int .u8 (mMux s a b)) w) := by
  unfold mMux
  by_cases e1 : s = 1
  · subst e1; rw [if_pos rfl]; exact mux_1 a b w h0 ht
  · rw [if_neg e1]
    by_cases e0 : s = 0
    · subst e0; rw [if_pos rfl]; exact mux_0 a b w h1 ht
    · rw [if_neg e0]; exact mux_x s a b w (by simpa using e0) (by simpa using e1) h0 h1 hg

set_option maxHeartbeats 400000 in
theorem valid_any (a : Int) (w : World) :
    Calls Tryd.prog 11 #[.int .u8 a] w fun e w' => e = .returned (.bool (mValid a)) ∧ w' = w := by
  go_enter Tryd.func11, Tryd.ntmps11
  go_wp2
  go_ret
  exact ⟨rfl, rfl⟩

set_option maxHeartbeats 400000 in
theorem known_any (a : Int) (w : World) :
    Calls Tryd.prog 12 #[.int .u8 a] w fun e w' => e = .returned (.bool (mKnown a)) ∧ w' = w := by
  go_enter Tryd.func12, Tryd.ntmps12
  go_wp2
  go_ret
  exact ⟨rfl, rfl⟩

set_option maxHeartbeats 400000 in
theorem same_any (a b : Int) (w : World) :
    Calls Tryd.prog 28 #[.int .u8 a, .int .u8 b] w fun e w' => e = .returned (.bool (mSame a b)) ∧ w' = w := by
  go_enter Tryd.func28, Tryd.ntmps28
  go_wp2_with (go_at_call 39; refine (state_any _ _).mono ?_; rintro e w' ⟨rfl, rfl⟩)
  go_ret
  exact ⟨rfl, rfl⟩

set_option maxHeartbeats 400000 in
theorem leq_any (a b : Int) (w : World) :
    Calls Tryd.prog 30 #[.int .u8 a, .int .u8 b] w fun e w' => e = .returned (.bool (mLeq a b)) ∧ w' = w := by
  unfold mLeq
  cases hs : mSame a b <;> cases hk : mKnown a <;> have Hs := Lib.hid hs <;> have Hk := Lib.hid hk <;> clear hs hk
  all_goals
    go_enter Tryd.func30, Tryd.ntmps30
    go_wp2_with (first
      | (go_at_call 28; refine (same_any _ _ _).mono ?_; rw [Hs.out]; rintro e w' ⟨rfl, rfl⟩)
      | (go_at_call 12; refine (known_any a _).mono ?_; rw [Hk.out]; rintro e w' ⟨rfl, rfl⟩)
      | (go_at_call 12; refine (known_any b _).mono ?_; rintro e w' ⟨rfl, rfl⟩))
    go_ret
    exact ⟨rfl, rfl⟩

set_option maxHeartbeats 400000 in
theorem from_any (v : Bool) (w : World) :
    Calls Tryd.prog 37 #[.bool v] w fun e w' => e = .returned (.int .u8 (mFrom v)) ∧ w' = w := by
  cases v
  all_goals
    go_enter Tryd.func37, Tryd.ntmps37
    go_wp2
    go_ret
    exact ⟨rfl, rfl⟩

theorem bst_4 (a : Int) (h0 : 0 ≤ a) : bst a = 0 ∧ mChar a = 48 ∨ bst a = 1 ∧ mChar a = 49 ∨ bst a = 2 ∧ mChar a = 120 ∨ bst a = 3 ∧ mChar a = 122 := by
  unfold bst mChar; (repeat' split) <;> omega

set_option maxHeartbeats 400000 in
theorem char_any (a : Int) (w : World) (h0 : 0 ≤ a) :
    Calls Tryd.prog 18 #[.int .u8 a] w fun e w' => e = .returned (.int .u8 (mChar a)) ∧ w' = w := by
  rcases bst_4 a h0 with ⟨e1, e2⟩ | ⟨e1, e2⟩ | ⟨e1, e2⟩ | ⟨e1, e2⟩ <;> rw [e2] <;> have E := Lib.hid e1 <;> clear e1 e2
  all_goals
    go_enter Tryd.func18, Tryd.ntmps18
    go_wp2_with (go_at_call 39; refine (state_any _ _).mono ?_; rw [E.out]; rintro e w' ⟨rfl, rfl⟩)
    go_ret
    exact ⟨rfl, rfl⟩

theorem pcases (c : Int) : c = 48 ∨ c = 49 ∨ c = 120 ∨ c = 88 ∨ c = 122 ∨ c = 90 ∨ c = 63 ∨ (c ≠ 48 ∧ c ≠ 49 ∧ c ≠ 120 ∧ c ≠ 88 ∧ c ≠ 122 ∧ c ≠ 90 ∧ c ≠ 63) := by omega
theorem beq_f {a b : Int} (h : a ≠ b) : (a == b) = false := by simpa using h

theorem parse_no {c : Int} (h : c ≠ 48 ∧ c ≠ 49 ∧ c ≠ 120 ∧ c ≠ 88 ∧ c ≠ 122 ∧ c ≠ 90 ∧ c ≠ 63) : mParse c = 0 ∧ mParsed c = false := by
  obtain ⟨h1, h2, h3, h4, h5, h6, h7⟩ := h; simp [mParse, mParsed, *]

set_option maxHeartbeats 400000 in
theorem parse_any (c : Int) (w : World) :
    Calls Tryd.prog 35 #[.int .u8 c] w fun e w' => e = .returned (.tuple #[.int .u8 (mParse c), .bool (mParsed c)]) ∧ w' = w := by
  rcases pcases c with rfl | rfl | rfl | rfl | rfl | rfl | rfl | h
  case inr.inr.inr.inr.inr.inr.inr =>
    rw [(parse_no h).1, (parse_no h).2]
    have h1 := beq_f h.1
    have h2 := beq_f h.2.1
    have h3 := beq_f h.2.2.1
    have h4 := beq_f h.2.2.2.1
    have h5 := beq_f h.2.2.2.2.1
    have h6 := beq_f h.2.2.2.2.2.1
    have h7 := beq_f h.2.2.2.2.2.2
    clear h
    go_enter Tryd.func35, Tryd.ntmps35
    go_wp2
    go_ret2
    exact ⟨rfl, rfl⟩
  all_goals
    go_enter Tryd.func35, Tryd.ntmps35
    go_wp2
    go_ret2
    exact ⟨rfl, rfl⟩

end Go.Proofs.YtahonicpfcccjaaDoor
