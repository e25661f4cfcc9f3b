/-
  The walks of the statements of layer 1.
-/
import Derived.Test.YtahonicpfcccjaaDoorBitR
namespace Go.Proofs.YtahonicpfcccjaaDoor
open Go.RowKit

theorem leq_r (a b : Int) (r : Bool) (w : World) (h : mLeq a b = r) :
    Calls Tryd.prog 30 #[.int .u8 a, .int .u8 b] w fun e w' => e = .returned (.bool r) ∧ w' = w := by
  subst h; exact leq_any a b w

set_option maxHeartbeats 1000000 in
theorem awake_any (w : World) (tb : Tab1 1 mBuf w) (ta : Tab2 2 mAnd w) (to : Tab2 3 mOr w) (tx : Tab2 4 mXor w) (tg : Tab2 5 mAgree w) :
    Calls Tryd.prog 34 #[] w (Gives (.bool true) w) := by
  have e1 : mAnd 0 2 = 0 := rfl
  have e2 : mAnd 1 3 = 2 := rfl
  have e3 : mOr 1 2 = 1 := rfl
  have e4 : mXor 2 2 = 2 := rfl
  have e5 : mMux 2 1 1 = 1 := rfl
  have e6 : mMux 2 1 0 = 2 := rfl
  have e7 : mMux 1 3 0 = 2 := rfl
  have e8 : mParse 63 = 3 := rfl
  have e9 : mParsed 63 = true := rfl
  go_enter Tryd.func34, Tryd.ntmps34
  go_wp2_with (first
    | (go_at_call 35; (with_reducible refine (parse_any _ _).mono ?_); rintro e w' ⟨rfl, rfl⟩)
    | (go_at_call 20; (with_reducible refine (and_any _ _ _ (by decide) (by decide) (by first | assumption | exact Tab2.draw (by assumption) _ | exact Tab1.draw (by assumption) _)).mono ?_); rintro e w' ⟨rfl, n, rfl⟩)
    | (go_at_call 22; (with_reducible refine (or_any _ _ _ (by decide) (by decide) (by first | assumption | exact Tab2.draw (by assumption) _ | exact Tab1.draw (by assumption) _)).mono ?_); rintro e w' ⟨rfl, n, rfl⟩)
    | (go_at_call 24; (with_reducible refine (xor_any _ _ _ (by decide) (by decide) (by first | assumption | exact Tab2.draw (by assumption) _ | exact Tab1.draw (by assumption) _)).mono ?_); rintro e w' ⟨rfl, n, rfl⟩)
    | (go_at_call 32; (with_reducible refine (mux_any _ _ _ _ (by decide) (by decide) (by first | assumption | exact Tab2.draw (by assumption) _ | exact Tab1.draw (by assumption) _) (by first | assumption | exact Tab2.draw (by assumption) _ | exact Tab1.draw (by assumption) _)).mono ?_); rintro e w' ⟨rfl, n, rfl⟩)
    | (go_at_call 30; (with_reducible refine (leq_r 2 0 true _ rfl).mono ?_); rintro e w' ⟨rfl, rfl⟩)
    | (go_at_call 30; (with_reducible refine (leq_r 2 3 false _ rfl).mono ?_); rintro e w' ⟨rfl, rfl⟩))
  go_ret
  exact ⟨rfl, _, rfl⟩
theorem bne_t {α : Type} [BEq α] [LawfulBEq α] {a b : α} (h : a = b) : (a != b) = false := by simp [h]
theorem beq_t {α : Type} [BEq α] [LawfulBEq α] {a b : α} (h : a = b) : (a == b) = true := by simp [h]

set_option maxHeartbeats 1000000 in
theorem BitMatches_walk (a b c : Int) (w : World) (h0 : 0 ≤ a) (h1 : 0 ≤ b) (h2 : 0 ≤ c) (tb : Tab1 1 mBuf w) (ta : Tab2 2 mAnd w) (to : Tab2 3 mOr w) (tx : Tab2 4 mXor w) (tg : Tab2 5 mAgree w) (tn : Tab1 0 mNot w) :
    Calls Tryd.prog 3 #[.int .u8 a, .int .u8 b, .int .u8 c] w (Gives (.bool true) w) := by
  go_enter Tryd.func3, Tryd.ntmps3
  go_wp2_with (first
    | (go_at_call 11; (with_reducible refine (valid_any _ _).mono ?_); rintro e w' ⟨rfl, rfl⟩)
    | (go_at_call 12; (with_reducible refine (known_any _ _).mono ?_); rintro e w' ⟨rfl, rfl⟩)
    | (go_at_call 13; (with_reducible refine (rknown_any _ _ (by first | assumption | exact mAnd_nn _ _ | exact mOr_nn _ _ | exact mXor_nn _ _ | exact mEq_nn _ _ | exact mNot_nn _ | exact mBuf_nn _ | exact mFrom_nn _ | exact mChar_nn _ | exact mParse_nn _)).mono ?_); rintro e w' ⟨rfl, rfl⟩)
    | (go_at_call 14; (with_reducible refine (not_any _ _ (by first | assumption | exact mAnd_nn _ _ | exact mOr_nn _ _ | exact mXor_nn _ _ | exact mEq_nn _ _ | exact mNot_nn _ | exact mBuf_nn _ | exact mFrom_nn _ | exact mChar_nn _ | exact mParse_nn _) (by first | assumption | exact Tab2.draw (by assumption) _ | exact Tab1.draw (by assumption) _)).mono ?_); rintro e w' ⟨rfl, n, rfl⟩)
    | (go_at_call 15; (with_reducible refine (rnot_any _ _).mono ?_); rintro e w' ⟨rfl, rfl⟩)
    | (go_at_call 16; (with_reducible refine (buf_any _ _ (by first | assumption | exact mAnd_nn _ _ | exact mOr_nn _ _ | exact mXor_nn _ _ | exact mEq_nn _ _ | exact mNot_nn _ | exact mBuf_nn _ | exact mFrom_nn _ | exact mChar_nn _ | exact mParse_nn _) (by first | assumption | exact Tab2.draw (by assumption) _ | exact Tab1.draw (by assumption) _)).mono ?_); rintro e w' ⟨rfl, n, rfl⟩)
    | (go_at_call 17; (with_reducible refine (rbuf_any _ _ (by first | assumption | exact mAnd_nn _ _ | exact mOr_nn _ _ | exact mXor_nn _ _ | exact mEq_nn _ _ | exact mNot_nn _ | exact mBuf_nn _ | exact mFrom_nn _ | exact mChar_nn _ | exact mParse_nn _)).mono ?_); rintro e w' ⟨rfl, rfl⟩)
    | (go_at_call 18; (with_reducible refine (char_any _ _ (by first | assumption | exact mAnd_nn _ _ | exact mOr_nn _ _ | exact mXor_nn _ _ | exact mEq_nn _ _ | exact mNot_nn _ | exact mBuf_nn _ | exact mFrom_nn _ | exact mChar_nn _ | exact mParse_nn _)).mono ?_); rintro e w' ⟨rfl, rfl⟩)
    | (go_at_call 19; (with_reducible refine (rchar_any _ _ (by first | assumption | exact mAnd_nn _ _ | exact mOr_nn _ _ | exact mXor_nn _ _ | exact mEq_nn _ _ | exact mNot_nn _ | exact mBuf_nn _ | exact mFrom_nn _ | exact mChar_nn _ | exact mParse_nn _)).mono ?_); rintro e w' ⟨rfl, rfl⟩)
    | (go_at_call 20; (with_reducible refine (and_any _ _ _ (by first | assumption | exact mAnd_nn _ _ | exact mOr_nn _ _ | exact mXor_nn _ _ | exact mEq_nn _ _ | exact mNot_nn _ | exact mBuf_nn _ | exact mFrom_nn _ | exact mChar_nn _ | exact mParse_nn _) (by first | assumption | exact mAnd_nn _ _ | exact mOr_nn _ _ | exact mXor_nn _ _ | exact mEq_nn _ _ | exact mNot_nn _ | exact mBuf_nn _ | exact mFrom_nn _ | exact mChar_nn _ | exact mParse_nn _) (by first | assumption | exact Tab2.draw (by assumption) _ | exact Tab1.draw (by assumption) _)).mono ?_); rintro e w' ⟨rfl, n, rfl⟩)
    | (go_at_call 21; (with_reducible refine (rand_any _ _ _).mono ?_); rintro e w' ⟨rfl, rfl⟩)
    | (go_at_call 22; (with_reducible refine (or_any _ _ _ (by first | assumption | exact mAnd_nn _ _ | exact mOr_nn _ _ | exact mXor_nn _ _ | exact mEq_nn _ _ | exact mNot_nn _ | exact mBuf_nn _ | exact mFrom_nn _ | exact mChar_nn _ | exact mParse_nn _) (by first | assumption | exact mAnd_nn _ _ | exact mOr_nn _ _ | exact mXor_nn _ _ | exact mEq_nn _ _ | exact mNot_nn _ | exact mBuf_nn _ | exact mFrom_nn _ | exact mChar_nn _ | exact mParse_nn _) (by first | assumption | exact Tab2.draw (by assumption) _ | exact Tab1.draw (by assumption) _)).mono ?_); rintro e w' ⟨rfl, n, rfl⟩)
    | (go_at_call 23; (with_reducible refine (ror_any _ _ _).mono ?_); rintro e w' ⟨rfl, rfl⟩)
    | (go_at_call 24; (with_reducible refine (xor_any _ _ _ (by first | assumption | exact mAnd_nn _ _ | exact mOr_nn _ _ | exact mXor_nn _ _ | exact mEq_nn _ _ | exact mNot_nn _ | exact mBuf_nn _ | exact mFrom_nn _ | exact mChar_nn _ | exact mParse_nn _) (by first | assumption | exact mAnd_nn _ _ | exact mOr_nn _ _ | exact mXor_nn _ _ | exact mEq_nn _ _ | exact mNot_nn _ | exact mBuf_nn _ | exact mFrom_nn _ | exact mChar_nn _ | exact mParse_nn _) (by first | assumption | exact Tab2.draw (by assumption) _ | exact Tab1.draw (by assumption) _)).mono ?_); rintro e w' ⟨rfl, n, rfl⟩)
    | (go_at_call 25; (with_reducible refine (rxor_any _ _ _ (by first | assumption | exact mAnd_nn _ _ | exact mOr_nn _ _ | exact mXor_nn _ _ | exact mEq_nn _ _ | exact mNot_nn _ | exact mBuf_nn _ | exact mFrom_nn _ | exact mChar_nn _ | exact mParse_nn _) (by first | assumption | exact mAnd_nn _ _ | exact mOr_nn _ _ | exact mXor_nn _ _ | exact mEq_nn _ _ | exact mNot_nn _ | exact mBuf_nn _ | exact mFrom_nn _ | exact mChar_nn _ | exact mParse_nn _)).mono ?_); rintro e w' ⟨rfl, rfl⟩)
    | (go_at_call 26; (with_reducible refine (eq_any _ _ _ (by first | assumption | exact mAnd_nn _ _ | exact mOr_nn _ _ | exact mXor_nn _ _ | exact mEq_nn _ _ | exact mNot_nn _ | exact mBuf_nn _ | exact mFrom_nn _ | exact mChar_nn _ | exact mParse_nn _) (by first | assumption | exact mAnd_nn _ _ | exact mOr_nn _ _ | exact mXor_nn _ _ | exact mEq_nn _ _ | exact mNot_nn _ | exact mBuf_nn _ | exact mFrom_nn _ | exact mChar_nn _ | exact mParse_nn _) (by first | assumption | exact Tab2.draw (by assumption) _ | exact Tab1.draw (by assumption) _) (by first | assumption | exact Tab2.draw (by assumption) _ | exact Tab1.draw (by assumption) _)).mono ?_); rintro e w' ⟨rfl, n, rfl⟩)
    | (go_at_call 27; (with_reducible refine (req_any _ _ _ (by first | assumption | exact mAnd_nn _ _ | exact mOr_nn _ _ | exact mXor_nn _ _ | exact mEq_nn _ _ | exact mNot_nn _ | exact mBuf_nn _ | exact mFrom_nn _ | exact mChar_nn _ | exact mParse_nn _) (by first | assumption | exact mAnd_nn _ _ | exact mOr_nn _ _ | exact mXor_nn _ _ | exact mEq_nn _ _ | exact mNot_nn _ | exact mBuf_nn _ | exact mFrom_nn _ | exact mChar_nn _ | exact mParse_nn _)).mono ?_); rintro e w' ⟨rfl, rfl⟩)
    | (go_at_call 28; (with_reducible refine (same_any _ _ _).mono ?_); rintro e w' ⟨rfl, rfl⟩)
    | (go_at_call 29; (with_reducible refine (rsame_any _ _ _).mono ?_); rintro e w' ⟨rfl, rfl⟩)
    | (go_at_call 30; (with_reducible refine (leq_any _ _ _).mono ?_); rintro e w' ⟨rfl, rfl⟩)
    | (go_at_call 31; (with_reducible refine (rleq_any _ _ _ (by first | assumption | exact mAnd_nn _ _ | exact mOr_nn _ _ | exact mXor_nn _ _ | exact mEq_nn _ _ | exact mNot_nn _ | exact mBuf_nn _ | exact mFrom_nn _ | exact mChar_nn _ | exact mParse_nn _) (by first | assumption | exact mAnd_nn _ _ | exact mOr_nn _ _ | exact mXor_nn _ _ | exact mEq_nn _ _ | exact mNot_nn _ | exact mBuf_nn _ | exact mFrom_nn _ | exact mChar_nn _ | exact mParse_nn _)).mono ?_); rintro e w' ⟨rfl, rfl⟩)
    | (go_at_call 32; (with_reducible refine (mux_any _ _ _ _ (by first | assumption | exact mAnd_nn _ _ | exact mOr_nn _ _ | exact mXor_nn _ _ | exact mEq_nn _ _ | exact mNot_nn _ | exact mBuf_nn _ | exact mFrom_nn _ | exact mChar_nn _ | exact mParse_nn _) (by first | assumption | exact mAnd_nn _ _ | exact mOr_nn _ _ | exact mXor_nn _ _ | exact mEq_nn _ _ | exact mNot_nn _ | exact mBuf_nn _ | exact mFrom_nn _ | exact mChar_nn _ | exact mParse_nn _) (by first | assumption | exact Tab2.draw (by assumption) _ | exact Tab1.draw (by assumption) _) (by first | assumption | exact Tab2.draw (by assumption) _ | exact Tab1.draw (by assumption) _)).mono ?_); rintro e w' ⟨rfl, n, rfl⟩)
    | (go_at_call 33; (with_reducible refine (rmux_any _ _ _ _ (by first | assumption | exact mAnd_nn _ _ | exact mOr_nn _ _ | exact mXor_nn _ _ | exact mEq_nn _ _ | exact mNot_nn _ | exact mBuf_nn _ | exact mFrom_nn _ | exact mChar_nn _ | exact mParse_nn _) (by first | assumption | exact mAnd_nn _ _ | exact mOr_nn _ _ | exact mXor_nn _ _ | exact mEq_nn _ _ | exact mNot_nn _ | exact mBuf_nn _ | exact mFrom_nn _ | exact mChar_nn _ | exact mParse_nn _)).mono ?_); rintro e w' ⟨rfl, rfl⟩)
    | (go_at_call 34; (with_reducible refine (awake_any _ (by first | assumption | exact Tab2.draw (by assumption) _ | exact Tab1.draw (by assumption) _) (by first | assumption | exact Tab2.draw (by assumption) _ | exact Tab1.draw (by assumption) _) (by first | assumption | exact Tab2.draw (by assumption) _ | exact Tab1.draw (by assumption) _) (by first | assumption | exact Tab2.draw (by assumption) _ | exact Tab1.draw (by assumption) _) (by first | assumption | exact Tab2.draw (by assumption) _ | exact Tab1.draw (by assumption) _)).mono ?_); rintro e w' ⟨rfl, n, rfl⟩))
  go_ret
  exact ⟨rfl, _, rfl⟩

set_option maxHeartbeats 1000000 in
theorem BitParseMatches_walk (c : Int) (v : Bool) (w : World)  (tb : Tab1 1 mBuf w) (ta : Tab2 2 mAnd w) (to : Tab2 3 mOr w) (tx : Tab2 4 mXor w) (tg : Tab2 5 mAgree w) :
    Calls Tryd.prog 4 #[.int .u8 c, .bool v] w (Gives (.bool true) w) := by
  go_enter Tryd.func4, Tryd.ntmps4
  go_wp2_with (first
    | (go_at_call 35; (with_reducible refine (parse_any _ _).mono ?_); rintro e w' ⟨rfl, rfl⟩)
    | (go_at_call 36; (with_reducible refine (rparse_any _ _).mono ?_); rintro e w' ⟨rfl, rfl⟩)
    | (go_at_call 37; (with_reducible refine (from_any _ _).mono ?_); rintro e w' ⟨rfl, rfl⟩)
    | (go_at_call 38; (with_reducible refine (rfrom_any _ _).mono ?_); rintro e w' ⟨rfl, rfl⟩)
    | (go_at_call 34; (with_reducible refine (awake_any _ (by first | assumption | exact Tab2.draw (by assumption) _ | exact Tab1.draw (by assumption) _) (by first | assumption | exact Tab2.draw (by assumption) _ | exact Tab1.draw (by assumption) _) (by first | assumption | exact Tab2.draw (by assumption) _ | exact Tab1.draw (by assumption) _) (by first | assumption | exact Tab2.draw (by assumption) _ | exact Tab1.draw (by assumption) _) (by first | assumption | exact Tab2.draw (by assumption) _ | exact Tab1.draw (by assumption) _)).mono ?_); rintro e w' ⟨rfl, n, rfl⟩))
  go_ret
  exact ⟨rfl, _, rfl⟩

set_option maxHeartbeats 1000000 in
theorem BitAlgebra_walk (a b c : Int) (w : World) (h0 : 0 ≤ a) (h1 : 0 ≤ b) (h2 : 0 ≤ c) (tb : Tab1 1 mBuf w) (ta : Tab2 2 mAnd w) (to : Tab2 3 mOr w) (tx : Tab2 4 mXor w) (tg : Tab2 5 mAgree w) (tn : Tab1 0 mNot w) :
    Calls Tryd.prog 8 #[.int .u8 a, .int .u8 b, .int .u8 c] w (Gives (.bool true) w) := by
  have f1 := bne_t (mAnd_comm a b)
  have f2 := bne_t (mOr_comm a b)
  have f3 := bne_t (mXor_comm a b)
  have f4 := bne_t (mAnd_self a)
  have f5 := bne_t (mOr_self a)
  have f6 := bne_t (mAnd_assoc a b c)
  have f7 := bne_t (mOr_assoc a b c)
  have f8 := bne_t (mXor_assoc a b c h0 h1 h2)
  have g1 := beq_t (mAnd_mOr a b c)
  have g2 := beq_t (mOr_mAnd a b c)
  have g3 := beq_t (mNot_mAnd a b)
  have g4 := beq_t (mNot_mOr a b)
  go_enter Tryd.func8, Tryd.ntmps8
  go_wp2_with (first
    | (go_at_call 20; (with_reducible refine (and_any _ _ _ (by first | assumption | exact mAnd_nn _ _ | exact mOr_nn _ _ | exact mXor_nn _ _ | exact mEq_nn _ _ | exact mNot_nn _ | exact mBuf_nn _ | exact mFrom_nn _ | exact mChar_nn _ | exact mParse_nn _) (by first | assumption | exact mAnd_nn _ _ | exact mOr_nn _ _ | exact mXor_nn _ _ | exact mEq_nn _ _ | exact mNot_nn _ | exact mBuf_nn _ | exact mFrom_nn _ | exact mChar_nn _ | exact mParse_nn _) (by first | assumption | exact Tab2.draw (by assumption) _ | exact Tab1.draw (by assumption) _)).mono ?_); rintro e w' ⟨rfl, n, rfl⟩)
    | (go_at_call 22; (with_reducible refine (or_any _ _ _ (by first | assumption | exact mAnd_nn _ _ | exact mOr_nn _ _ | exact mXor_nn _ _ | exact mEq_nn _ _ | exact mNot_nn _ | exact mBuf_nn _ | exact mFrom_nn _ | exact mChar_nn _ | exact mParse_nn _) (by first | assumption | exact mAnd_nn _ _ | exact mOr_nn _ _ | exact mXor_nn _ _ | exact mEq_nn _ _ | exact mNot_nn _ | exact mBuf_nn _ | exact mFrom_nn _ | exact mChar_nn _ | exact mParse_nn _) (by first | assumption | exact Tab2.draw (by assumption) _ | exact Tab1.draw (by assumption) _)).mono ?_); rintro e w' ⟨rfl, n, rfl⟩)
    | (go_at_call 24; (with_reducible refine (xor_any _ _ _ (by first | assumption | exact mAnd_nn _ _ | exact mOr_nn _ _ | exact mXor_nn _ _ | exact mEq_nn _ _ | exact mNot_nn _ | exact mBuf_nn _ | exact mFrom_nn _ | exact mChar_nn _ | exact mParse_nn _) (by first | assumption | exact mAnd_nn _ _ | exact mOr_nn _ _ | exact mXor_nn _ _ | exact mEq_nn _ _ | exact mNot_nn _ | exact mBuf_nn _ | exact mFrom_nn _ | exact mChar_nn _ | exact mParse_nn _) (by first | assumption | exact Tab2.draw (by assumption) _ | exact Tab1.draw (by assumption) _)).mono ?_); rintro e w' ⟨rfl, n, rfl⟩)
    | (go_at_call 14; (with_reducible refine (not_any _ _ (by first | assumption | exact mAnd_nn _ _ | exact mOr_nn _ _ | exact mXor_nn _ _ | exact mEq_nn _ _ | exact mNot_nn _ | exact mBuf_nn _ | exact mFrom_nn _ | exact mChar_nn _ | exact mParse_nn _) (by first | assumption | exact Tab2.draw (by assumption) _ | exact Tab1.draw (by assumption) _)).mono ?_); rintro e w' ⟨rfl, n, rfl⟩)
    | (go_at_call 16; (with_reducible refine (buf_any _ _ (by first | assumption | exact mAnd_nn _ _ | exact mOr_nn _ _ | exact mXor_nn _ _ | exact mEq_nn _ _ | exact mNot_nn _ | exact mBuf_nn _ | exact mFrom_nn _ | exact mChar_nn _ | exact mParse_nn _) (by first | assumption | exact Tab2.draw (by assumption) _ | exact Tab1.draw (by assumption) _)).mono ?_); rintro e w' ⟨rfl, n, rfl⟩)
    | (go_at_call 34; (with_reducible refine (awake_any _ (by first | assumption | exact Tab2.draw (by assumption) _ | exact Tab1.draw (by assumption) _) (by first | assumption | exact Tab2.draw (by assumption) _ | exact Tab1.draw (by assumption) _) (by first | assumption | exact Tab2.draw (by assumption) _ | exact Tab1.draw (by assumption) _) (by first | assumption | exact Tab2.draw (by assumption) _ | exact Tab1.draw (by assumption) _) (by first | assumption | exact Tab2.draw (by assumption) _ | exact Tab1.draw (by assumption) _)).mono ?_); rintro e w' ⟨rfl, n, rfl⟩))
  go_ret
  exact ⟨rfl, _, rfl⟩

theorem same_r (a b : Int) (r : Bool) (w : World) (h : mSame a b = r) :
    Calls Tryd.prog 28 #[.int .u8 a, .int .u8 b] w fun e w' => e = .returned (.bool r) ∧ w' = w := by
  subst h; exact same_any a b w
theorem known_r (a : Int) (r : Bool) (w : World) (h : mKnown a = r) :
    Calls Tryd.prog 12 #[.int .u8 a] w fun e w' => e = .returned (.bool r) ∧ w' = w := by
  subst h; exact known_any a w

set_option maxHeartbeats 1000000 in
theorem BitOrder_walk (a b c : Int) (w : World) (h0 : 0 ≤ a) (h1 : 0 ≤ b) (tb : Tab1 1 mBuf w) (ta : Tab2 2 mAnd w) (to : Tab2 3 mOr w) (tx : Tab2 4 mXor w) (tg : Tab2 5 mAgree w) :
    Calls Tryd.prog 9 #[.int .u8 a, .int .u8 b, .int .u8 c] w (Gives (.bool true) w) := by
  have Hr := Lib.hid (mLeq_refl a)
  have K : mKnown a = true → mLeq a b = mSame a b := mLeq_known
  have S : mLeq a b = true → mLeq b a = mSame a b := mSame_of_leq h0 h1
  have T : mLeq a b = true → mLeq b c = true → mLeq a c = true := fun h k => mLeq_trans h k
  generalize xab : mLeq a b = ab at *
  generalize xba : mLeq b a = ba at *
  generalize xbc : mLeq b c = bc at *
  generalize xac : mLeq a c = ac at *
  generalize xs : mSame a b = s at *
  generalize xk : mKnown a = k at *
  have Xab := Lib.hid xab
  have Xba := Lib.hid xba
  have Xbc := Lib.hid xbc
  have Xac := Lib.hid xac
  have Xs := Lib.hid xs
  have Xk := Lib.hid xk
  clear xab xba xbc xac xs xk h0 h1
  cases ab
  · clear S T
    cases k
    · clear K
      go_enter Tryd.func9, Tryd.ntmps9
      go_wp2_with (first
        | (go_at_call 30; (with_reducible refine (leq_r a a true _ Hr.out).mono ?_); rintro e w' ⟨rfl, rfl⟩)
        | (go_at_call 30; (with_reducible refine (leq_r a b false _ Xab.out).mono ?_); rintro e w' ⟨rfl, rfl⟩)
        | (go_at_call 12; (with_reducible refine (known_r a false _ Xk.out).mono ?_); rintro e w' ⟨rfl, rfl⟩)
        | (go_at_call 34; (with_reducible refine (awake_any _ (by first | assumption | exact Tab2.draw (by assumption) _ | exact Tab1.draw (by assumption) _) (by first | assumption | exact Tab2.draw (by assumption) _ | exact Tab1.draw (by assumption) _) (by first | assumption | exact Tab2.draw (by assumption) _ | exact Tab1.draw (by assumption) _) (by first | assumption | exact Tab2.draw (by assumption) _ | exact Tab1.draw (by assumption) _) (by first | assumption | exact Tab2.draw (by assumption) _ | exact Tab1.draw (by assumption) _)).mono ?_); rintro e w' ⟨rfl, n, rfl⟩))
      go_ret
      exact ⟨rfl, _, rfl⟩
    · obtain rfl : false = s := K rfl
      clear K
      go_enter Tryd.func9, Tryd.ntmps9
      go_wp2_with (first
        | (go_at_call 30; (with_reducible refine (leq_r a a true _ Hr.out).mono ?_); rintro e w' ⟨rfl, rfl⟩)
        | (go_at_call 30; (with_reducible refine (leq_r a b false _ Xab.out).mono ?_); rintro e w' ⟨rfl, rfl⟩)
        | (go_at_call 12; (with_reducible refine (known_r a true _ Xk.out).mono ?_); rintro e w' ⟨rfl, rfl⟩)
        | (go_at_call 28; (with_reducible refine (same_r a b false _ Xs.out).mono ?_); rintro e w' ⟨rfl, rfl⟩)
        | (go_at_call 34; (with_reducible refine (awake_any _ (by first | assumption | exact Tab2.draw (by assumption) _ | exact Tab1.draw (by assumption) _) (by first | assumption | exact Tab2.draw (by assumption) _ | exact Tab1.draw (by assumption) _) (by first | assumption | exact Tab2.draw (by assumption) _ | exact Tab1.draw (by assumption) _) (by first | assumption | exact Tab2.draw (by assumption) _ | exact Tab1.draw (by assumption) _) (by first | assumption | exact Tab2.draw (by assumption) _ | exact Tab1.draw (by assumption) _)).mono ?_); rintro e w' ⟨rfl, n, rfl⟩))
      go_ret
      exact ⟨rfl, _, rfl⟩
  · obtain rfl : ba = s := S rfl
    clear S
    have T' : (bc = false) ∨ (bc = true ∧ ac = true) := by
      cases bc
      · exact .inl rfl
      · exact .inr ⟨rfl, T rfl rfl⟩
    clear T
    have K' : (k = false) ∨ (k = true ∧ ba = true) := by
      cases k
      · exact .inl rfl
      · exact .inr ⟨rfl, (K rfl).symm⟩
    clear K
    rcases T' with rfl | ⟨rfl, rfl⟩ <;> rcases K' with rfl | ⟨rfl, rfl⟩
    all_goals
      go_enter Tryd.func9, Tryd.ntmps9
      go_wp2_with (first
        | (go_at_call 30; (with_reducible refine (leq_r a a true _ Hr.out).mono ?_); rintro e w' ⟨rfl, rfl⟩)
        | (go_at_call 30; (with_reducible refine (leq_r a b true _ Xab.out).mono ?_); rintro e w' ⟨rfl, rfl⟩)
        | (go_at_call 30; (with_reducible refine (leq_r b c _ _ Xbc.out).mono ?_); rintro e w' ⟨rfl, rfl⟩)
        | (go_at_call 30; (with_reducible refine (leq_r a c true _ Xac.out).mono ?_); rintro e w' ⟨rfl, rfl⟩)
        | (go_at_call 30; (with_reducible refine (leq_r b a _ _ Xba.out).mono ?_); rintro e w' ⟨rfl, rfl⟩)
        | (go_at_call 12; (with_reducible refine (known_r a _ _ Xk.out).mono ?_); rintro e w' ⟨rfl, rfl⟩)
        | (go_at_call 28; (with_reducible refine (same_r a b _ _ Xs.out).mono ?_); rintro e w' ⟨rfl, rfl⟩)
        | (go_at_call 34; (with_reducible refine (awake_any _ (by first | assumption | exact Tab2.draw (by assumption) _ | exact Tab1.draw (by assumption) _) (by first | assumption | exact Tab2.draw (by assumption) _ | exact Tab1.draw (by assumption) _) (by first | assumption | exact Tab2.draw (by assumption) _ | exact Tab1.draw (by assumption) _) (by first | assumption | exact Tab2.draw (by assumption) _ | exact Tab1.draw (by assumption) _) (by first | assumption | exact Tab2.draw (by assumption) _ | exact Tab1.draw (by assumption) _)).mono ?_); rintro e w' ⟨rfl, n, rfl⟩))
      go_ret
      exact ⟨rfl, _, rfl⟩

set_option maxHeartbeats 1000000 in
theorem BitMonotone_walk (a b c d e f : Int) (w : World) (h0 : 0 ≤ a) (h1 : 0 ≤ b) (h2 : 0 ≤ c) (h3 : 0 ≤ d) (h4 : 0 ≤ e) (h5 : 0 ≤ f) (tb : Tab1 1 mBuf w) (ta : Tab2 2 mAnd w) (to : Tab2 3 mOr w) (tx : Tab2 4 mXor w) (tg : Tab2 5 mAgree w) (tn : Tab1 0 mNot w) :
    Calls Tryd.prog 6 #[.int .u8 a, .int .u8 b, .int .u8 c, .int .u8 d, .int .u8 e, .int .u8 f] w (Gives (.bool true) w) := by
  have m1 : mLeq a d = true → mLeq (mNot a) (mNot d) = true := mNot_mono h0
  have m2 : mLeq a d = true → mLeq (mBuf a) (mBuf d) = true := mBuf_mono h0
  have m3 : mLeq a d = true → mLeq b e = true → mLeq (mAnd a b) (mAnd d e) = true := mAnd_mono h0 h1
  have m4 : mLeq a d = true → mLeq b e = true → mLeq (mOr a b) (mOr d e) = true := mOr_mono h0 h1
  have m5 : mLeq a d = true → mLeq b e = true → mLeq (mXor a b) (mXor d e) = true := mXor_mono h0 h1
  have m6 : mLeq a d = true → mLeq b e = true → mLeq (mEq a b) (mEq d e) = true := mEq_mono h0 h1
  have m7 : mLeq a d = true → mLeq b e = true → mLeq c f = true → mLeq (mMux a b c) (mMux d e f) = true := mMux_mono h1 h2 h4 h0
  generalize x1 : mLeq a d = u1 at *
  generalize x2 : mLeq b e = u2 at *
  generalize x3 : mLeq c f = u3 at *
  have X1 := Lib.hid x1
  have X2 := Lib.hid x2
  have X3 := Lib.hid x3
  clear x1 x2 x3
  cases u1
  · clear m1 m2 m3 m4 m5 m6 m7
    go_enter Tryd.func6, Tryd.ntmps6
    go_wp2_with (first
      | (go_at_call 30; (with_reducible refine (leq_r a d false _ X1.out).mono ?_); rintro e w' ⟨rfl, rfl⟩)
      | (go_at_call 34; (with_reducible refine (awake_any _ (by first | assumption | exact Tab2.draw (by assumption) _ | exact Tab1.draw (by assumption) _) (by first | assumption | exact Tab2.draw (by assumption) _ | exact Tab1.draw (by assumption) _) (by first | assumption | exact Tab2.draw (by assumption) _ | exact Tab1.draw (by assumption) _) (by first | assumption | exact Tab2.draw (by assumption) _ | exact Tab1.draw (by assumption) _) (by first | assumption | exact Tab2.draw (by assumption) _ | exact Tab1.draw (by assumption) _)).mono ?_); rintro e w' ⟨rfl, n, rfl⟩))
    go_ret
    exact ⟨rfl, _, rfl⟩
  · have M1 := Lib.hid (m1 rfl)
    have M2 := Lib.hid (m2 rfl)
    clear m1 m2
    cases u2
    · clear m3 m4 m5 m6 m7
      go_enter Tryd.func6, Tryd.ntmps6
      go_wp2_with (first
        | (go_at_call 30; (with_reducible refine (leq_r a d true _ X1.out).mono ?_); rintro e w' ⟨rfl, rfl⟩)
        | (go_at_call 30; (with_reducible refine (leq_r b e false _ X2.out).mono ?_); rintro e w' ⟨rfl, rfl⟩)
        | (go_at_call 34; (with_reducible refine (awake_any _ (by first | assumption | exact Tab2.draw (by assumption) _ | exact Tab1.draw (by assumption) _) (by first | assumption | exact Tab2.draw (by assumption) _ | exact Tab1.draw (by assumption) _) (by first | assumption | exact Tab2.draw (by assumption) _ | exact Tab1.draw (by assumption) _) (by first | assumption | exact Tab2.draw (by assumption) _ | exact Tab1.draw (by assumption) _) (by first | assumption | exact Tab2.draw (by assumption) _ | exact Tab1.draw (by assumption) _)).mono ?_); rintro e w' ⟨rfl, n, rfl⟩))
      go_ret
      exact ⟨rfl, _, rfl⟩
    · have M3 := Lib.hid (m3 rfl rfl)
      have M4 := Lib.hid (m4 rfl rfl)
      have M5 := Lib.hid (m5 rfl rfl)
      have M6 := Lib.hid (m6 rfl rfl)
      clear m3 m4 m5 m6
      cases u3
      · clear m7
        go_enter Tryd.func6, Tryd.ntmps6
        go_wp2_with (first
          | (go_at_call 30; (with_reducible refine (leq_r a d true _ X1.out).mono ?_); rintro e w' ⟨rfl, rfl⟩)
          | (go_at_call 30; (with_reducible refine (leq_r b e true _ X2.out).mono ?_); rintro e w' ⟨rfl, rfl⟩)
          | (go_at_call 30; (with_reducible refine (leq_r c f false _ X3.out).mono ?_); rintro e w' ⟨rfl, rfl⟩)
          | (go_at_call 34; (with_reducible refine (awake_any _ (by first | assumption | exact Tab2.draw (by assumption) _ | exact Tab1.draw (by assumption) _) (by first | assumption | exact Tab2.draw (by assumption) _ | exact Tab1.draw (by assumption) _) (by first | assumption | exact Tab2.draw (by assumption) _ | exact Tab1.draw (by assumption) _) (by first | assumption | exact Tab2.draw (by assumption) _ | exact Tab1.draw (by assumption) _) (by first | assumption | exact Tab2.draw (by assumption) _ | exact Tab1.draw (by assumption) _)).mono ?_); rintro e w' ⟨rfl, n, rfl⟩))
        go_ret
        exact ⟨rfl, _, rfl⟩
      · have M7 := Lib.hid (m7 rfl rfl rfl)
        clear m7
        go_enter Tryd.func6, Tryd.ntmps6
        go_wp2_with (first
          | (go_at_call 30; (with_reducible refine (leq_r a d true _ X1.out).mono ?_); rintro e w' ⟨rfl, rfl⟩)
          | (go_at_call 30; (with_reducible refine (leq_r b e true _ X2.out).mono ?_); rintro e w' ⟨rfl, rfl⟩)
          | (go_at_call 30; (with_reducible refine (leq_r c f true _ X3.out).mono ?_); rintro e w' ⟨rfl, rfl⟩)
          | (go_at_call 30; (with_reducible refine (leq_r _ _ true _ M1.out).mono ?_); rintro e w' ⟨rfl, rfl⟩)
          | (go_at_call 30; (with_reducible refine (leq_r _ _ true _ M2.out).mono ?_); rintro e w' ⟨rfl, rfl⟩)
          | (go_at_call 30; (with_reducible refine (leq_r _ _ true _ M3.out).mono ?_); rintro e w' ⟨rfl, rfl⟩)
          | (go_at_call 30; (with_reducible refine (leq_r _ _ true _ M4.out).mono ?_); rintro e w' ⟨rfl, rfl⟩)
          | (go_at_call 30; (with_reducible refine (leq_r _ _ true _ M5.out).mono ?_); rintro e w' ⟨rfl, rfl⟩)
          | (go_at_call 30; (with_reducible refine (leq_r _ _ true _ M6.out).mono ?_); rintro e w' ⟨rfl, rfl⟩)
          | (go_at_call 30; (with_reducible refine (leq_r _ _ true _ M7.out).mono ?_); rintro e w' ⟨rfl, rfl⟩)
          | (go_at_call 14; (with_reducible refine (not_any _ _ (by first | assumption | exact mAnd_nn _ _ | exact mOr_nn _ _ | exact mXor_nn _ _ | exact mEq_nn _ _ | exact mNot_nn _ | exact mBuf_nn _ | exact mFrom_nn _ | exact mChar_nn _ | exact mParse_nn _) (by first | assumption | exact Tab2.draw (by assumption) _ | exact Tab1.draw (by assumption) _)).mono ?_); rintro e w' ⟨rfl, n, rfl⟩)
          | (go_at_call 16; (with_reducible refine (buf_any _ _ (by first | assumption | exact mAnd_nn _ _ | exact mOr_nn _ _ | exact mXor_nn _ _ | exact mEq_nn _ _ | exact mNot_nn _ | exact mBuf_nn _ | exact mFrom_nn _ | exact mChar_nn _ | exact mParse_nn _) (by first | assumption | exact Tab2.draw (by assumption) _ | exact Tab1.draw (by assumption) _)).mono ?_); rintro e w' ⟨rfl, n, rfl⟩)
          | (go_at_call 20; (with_reducible refine (and_any _ _ _ (by first | assumption | exact mAnd_nn _ _ | exact mOr_nn _ _ | exact mXor_nn _ _ | exact mEq_nn _ _ | exact mNot_nn _ | exact mBuf_nn _ | exact mFrom_nn _ | exact mChar_nn _ | exact mParse_nn _) (by first | assumption | exact mAnd_nn _ _ | exact mOr_nn _ _ | exact mXor_nn _ _ | exact mEq_nn _ _ | exact mNot_nn _ | exact mBuf_nn _ | exact mFrom_nn _ | exact mChar_nn _ | exact mParse_nn _) (by first | assumption | exact Tab2.draw (by assumption) _ | exact Tab1.draw (by assumption) _)).mono ?_); rintro e w' ⟨rfl, n, rfl⟩)
          | (go_at_call 22; (with_reducible refine (or_any _ _ _ (by first | assumption | exact mAnd_nn _ _ | exact mOr_nn _ _ | exact mXor_nn _ _ | exact mEq_nn _ _ | exact mNot_nn _ | exact mBuf_nn _ | exact mFrom_nn _ | exact mChar_nn _ | exact mParse_nn _) (by first | assumption | exact mAnd_nn _ _ | exact mOr_nn _ _ | exact mXor_nn _ _ | exact mEq_nn _ _ | exact mNot_nn _ | exact mBuf_nn _ | exact mFrom_nn _ | exact mChar_nn _ | exact mParse_nn _) (by first | assumption | exact Tab2.draw (by assumption) _ | exact Tab1.draw (by assumption) _)).mono ?_); rintro e w' ⟨rfl, n, rfl⟩)
          | (go_at_call 24; (with_reducible refine (xor_any _ _ _ (by first | assumption | exact mAnd_nn _ _ | exact mOr_nn _ _ | exact mXor_nn _ _ | exact mEq_nn _ _ | exact mNot_nn _ | exact mBuf_nn _ | exact mFrom_nn _ | exact mChar_nn _ | exact mParse_nn _) (by first | assumption | exact mAnd_nn _ _ | exact mOr_nn _ _ | exact mXor_nn _ _ | exact mEq_nn _ _ | exact mNot_nn _ | exact mBuf_nn _ | exact mFrom_nn _ | exact mChar_nn _ | exact mParse_nn _) (by first | assumption | exact Tab2.draw (by assumption) _ | exact Tab1.draw (by assumption) _)).mono ?_); rintro e w' ⟨rfl, n, rfl⟩)
          | (go_at_call 26; (with_reducible refine (eq_any _ _ _ (by first | assumption | exact mAnd_nn _ _ | exact mOr_nn _ _ | exact mXor_nn _ _ | exact mEq_nn _ _ | exact mNot_nn _ | exact mBuf_nn _ | exact mFrom_nn _ | exact mChar_nn _ | exact mParse_nn _) (by first | assumption | exact mAnd_nn _ _ | exact mOr_nn _ _ | exact mXor_nn _ _ | exact mEq_nn _ _ | exact mNot_nn _ | exact mBuf_nn _ | exact mFrom_nn _ | exact mChar_nn _ | exact mParse_nn _) (by first | assumption | exact Tab2.draw (by assumption) _ | exact Tab1.draw (by assumption) _) (by first | assumption | exact Tab2.draw (by assumption) _ | exact Tab1.draw (by assumption) _)).mono ?_); rintro e w' ⟨rfl, n, rfl⟩)
          | (go_at_call 32; (with_reducible refine (mux_any _ _ _ _ (by first | assumption | exact mAnd_nn _ _ | exact mOr_nn _ _ | exact mXor_nn _ _ | exact mEq_nn _ _ | exact mNot_nn _ | exact mBuf_nn _ | exact mFrom_nn _ | exact mChar_nn _ | exact mParse_nn _) (by first | assumption | exact mAnd_nn _ _ | exact mOr_nn _ _ | exact mXor_nn _ _ | exact mEq_nn _ _ | exact mNot_nn _ | exact mBuf_nn _ | exact mFrom_nn _ | exact mChar_nn _ | exact mParse_nn _) (by first | assumption | exact Tab2.draw (by assumption) _ | exact Tab1.draw (by assumption) _) (by first | assumption | exact Tab2.draw (by assumption) _ | exact Tab1.draw (by assumption) _)).mono ?_); rintro e w' ⟨rfl, n, rfl⟩)
          | (go_at_call 34; (with_reducible refine (awake_any _ (by first | assumption | exact Tab2.draw (by assumption) _ | exact Tab1.draw (by assumption) _) (by first | assumption | exact Tab2.draw (by assumption) _ | exact Tab1.draw (by assumption) _) (by first | assumption | exact Tab2.draw (by assumption) _ | exact Tab1.draw (by assumption) _) (by first | assumption | exact Tab2.draw (by assumption) _ | exact Tab1.draw (by assumption) _) (by first | assumption | exact Tab2.draw (by assumption) _ | exact Tab1.draw (by assumption) _)).mono ?_); rintro e w' ⟨rfl, n, rfl⟩))
        go_ret
        exact ⟨rfl, _, rfl⟩

set_option maxHeartbeats 1000000 in
theorem BitChars_walk (a c : Int) (w : World) (h0 : 0 ≤ a) (tb : Tab1 1 mBuf w) (ta : Tab2 2 mAnd w) (to : Tab2 3 mOr w) (tx : Tab2 4 mXor w) (tg : Tab2 5 mAgree w) :
    Calls Tryd.prog 10 #[.int .u8 a, .int .u8 c] w (Gives (.bool true) w) := by
  obtain ⟨p1, p2, p3⟩ := mParse_mChar a h0
  have P1 := Lib.hid p1
  have P2 := Lib.hid p2
  have P3 := Lib.hid (show mValid (mParse (mChar a)) = true by unfold mValid; exact decide_eq_true p3)
  have P4 := Lib.hid (show mValid (mParse c) = true by unfold mValid; exact decide_eq_true (mParse_le c))
  clear p1 p2 p3
  cases q : mParsed c
  · have Q := Lib.hid q
    have Q0 := Lib.hid (mParse_not q)
    clear q
    go_enter Tryd.func10, Tryd.ntmps10
    go_wp2_with (first
      | (go_at_call 35; (with_reducible refine (parse_any (mChar a) _).mono ?_); rintro e w' ⟨he, rfl⟩; rw [P1.out] at he; obtain rfl := he)
      | (go_at_call 35; (with_reducible refine (parse_any c _).mono ?_); rintro e w' ⟨he, rfl⟩; rw [Q.out, Q0.out] at he; obtain rfl := he)
      | (go_at_call 28; (with_reducible refine (same_r _ _ true _ P2.out).mono ?_); rintro e w' ⟨rfl, rfl⟩)
      | (go_at_call 11; (with_reducible refine (valid_any (mParse (mChar a)) _).mono ?_); rintro e w' ⟨he, rfl⟩; rw [P3.out] at he; obtain rfl := he)
      | (go_at_call 18; (with_reducible refine (char_any _ _ (by first | assumption | exact mAnd_nn _ _ | exact mOr_nn _ _ | exact mXor_nn _ _ | exact mEq_nn _ _ | exact mNot_nn _ | exact mBuf_nn _ | exact mFrom_nn _ | exact mChar_nn _ | exact mParse_nn _)).mono ?_); rintro e w' ⟨rfl, rfl⟩)
      | (go_at_call 34; (with_reducible refine (awake_any _ (by first | assumption | exact Tab2.draw (by assumption) _ | exact Tab1.draw (by assumption) _) (by first | assumption | exact Tab2.draw (by assumption) _ | exact Tab1.draw (by assumption) _) (by first | assumption | exact Tab2.draw (by assumption) _ | exact Tab1.draw (by assumption) _) (by first | assumption | exact Tab2.draw (by assumption) _ | exact Tab1.draw (by assumption) _) (by first | assumption | exact Tab2.draw (by assumption) _ | exact Tab1.draw (by assumption) _)).mono ?_); rintro e w' ⟨rfl, n, rfl⟩))
    go_ret
    exact ⟨rfl, _, rfl⟩
  · have Q := Lib.hid q
    clear q
    go_enter Tryd.func10, Tryd.ntmps10
    go_wp2_with (first
      | (go_at_call 35; (with_reducible refine (parse_any (mChar a) _).mono ?_); rintro e w' ⟨he, rfl⟩; rw [P1.out] at he; obtain rfl := he)
      | (go_at_call 35; (with_reducible refine (parse_any c _).mono ?_); rintro e w' ⟨he, rfl⟩; rw [Q.out] at he; obtain rfl := he)
      | (go_at_call 28; (with_reducible refine (same_r _ _ true _ P2.out).mono ?_); rintro e w' ⟨rfl, rfl⟩)
      | (go_at_call 11; (with_reducible refine (valid_any (mParse (mChar a)) _).mono ?_); rintro e w' ⟨he, rfl⟩; rw [P3.out] at he; obtain rfl := he)
      | (go_at_call 11; (with_reducible refine (valid_any (mParse c) _).mono ?_); rintro e w' ⟨he, rfl⟩; rw [P4.out] at he; obtain rfl := he)
      | (go_at_call 18; (with_reducible refine (char_any _ _ (by first | assumption | exact mAnd_nn _ _ | exact mOr_nn _ _ | exact mXor_nn _ _ | exact mEq_nn _ _ | exact mNot_nn _ | exact mBuf_nn _ | exact mFrom_nn _ | exact mChar_nn _ | exact mParse_nn _)).mono ?_); rintro e w' ⟨rfl, rfl⟩)
      | (go_at_call 34; (with_reducible refine (awake_any _ (by first | assumption | exact Tab2.draw (by assumption) _ | exact Tab1.draw (by assumption) _) (by first | assumption | exact Tab2.draw (by assumption) _ | exact Tab1.draw (by assumption) _) (by first | assumption | exact Tab2.draw (by assumption) _ | exact Tab1.draw (by assumption) _) (by first | assumption | exact Tab2.draw (by assumption) _ | exact Tab1.draw (by assumption) _) (by first | assumption | exact Tab2.draw (by assumption) _ | exact Tab1.draw (by assumption) _)).mono ?_); rintro e w' ⟨rfl, n, rfl⟩))
    go_ret
    exact ⟨rfl, _, rfl⟩

end Go.Proofs.YtahonicpfcccjaaDoor
