/-
  The walk of BitBoolean: eight closed cases.
-/
import Derived.Test.YtahonicpfcccjaaDoorBitL
namespace Go.Proofs.YtahonicpfcccjaaDoor
open Go.RowKit

set_option maxHeartbeats 1000000 in
theorem bool_000  (w : World)  (tb : Tab1 1 mBuf w) (ta : Tab2 2 mAnd w) (to : Tab2 3 mOr w) (tx : Tab2 4 mXor w) (tg : Tab2 5 mAgree w) (tn : Tab1 0 mNot w) :
    Calls Tryd.prog 7 #[.bool false, .bool false, .bool false] w (Gives (.bool true) w) := by
  have e0 : mFrom true = 1 := rfl
  have e1 : mFrom false = 0 := rfl
  have e2 : mNot 0 = 1 := rfl
  have e3 : mBuf 0 = 0 := rfl
  have e4 : mAnd 0 0 = 0 := rfl
  have e5 : mOr 0 0 = 0 := rfl
  have e6 : mXor 0 0 = 0 := rfl
  have e7 : mEq 0 0 = 1 := rfl
  have e8 : mMux 0 0 0 = 0 := rfl
  have e9 : mKnown 0 = true := rfl
  go_enter Tryd.func7, Tryd.ntmps7
  go_wp2_with (first
    | (go_at_call 37; (with_reducible refine (from_any _ _).mono ?_); rintro e w' ⟨rfl, rfl⟩)
    | (go_at_call 12; (with_reducible refine (known_any _ _).mono ?_); rintro e w' ⟨rfl, rfl⟩)
    | (go_at_call 14; (with_reducible refine (not_any _ _ (by decide) (by first | assumption | exact Tab2.draw (by assumption) _ | exact Tab1.draw (by assumption) _)).mono ?_); rintro e w' ⟨rfl, n, rfl⟩)
    | (go_at_call 16; (with_reducible refine (buf_any _ _ (by decide) (by first | assumption | exact Tab2.draw (by assumption) _ | exact Tab1.draw (by assumption) _)).mono ?_); rintro e w' ⟨rfl, n, rfl⟩)
    | (go_at_call 20; (with_reducible refine (and_any _ _ _ (by decide) (by decide) (by first | assumption | exact Tab2.draw (by assumption) _ | exact Tab1.draw (by assumption) _)).mono ?_); rintro e w' ⟨rfl, n, rfl⟩)
    | (go_at_call 22; (with_reducible refine (or_any _ _ _ (by decide) (by decide) (by first | assumption | exact Tab2.draw (by assumption) _ | exact Tab1.draw (by assumption) _)).mono ?_); rintro e w' ⟨rfl, n, rfl⟩)
    | (go_at_call 24; (with_reducible refine (xor_any _ _ _ (by decide) (by decide) (by first | assumption | exact Tab2.draw (by assumption) _ | exact Tab1.draw (by assumption) _)).mono ?_); rintro e w' ⟨rfl, n, rfl⟩)
    | (go_at_call 26; (with_reducible refine (eq_any _ _ _ (by decide) (by decide) (by first | assumption | exact Tab2.draw (by assumption) _ | exact Tab1.draw (by assumption) _) (by first | assumption | exact Tab2.draw (by assumption) _ | exact Tab1.draw (by assumption) _)).mono ?_); rintro e w' ⟨rfl, n, rfl⟩)
    | (go_at_call 32; (with_reducible refine (mux_any _ _ _ _ (by decide) (by decide) (by first | assumption | exact Tab2.draw (by assumption) _ | exact Tab1.draw (by assumption) _) (by first | assumption | exact Tab2.draw (by assumption) _ | exact Tab1.draw (by assumption) _)).mono ?_); rintro e w' ⟨rfl, n, rfl⟩)
    | (go_at_call 34; (with_reducible refine (awake_any _ (by first | assumption | exact Tab2.draw (by assumption) _ | exact Tab1.draw (by assumption) _) (by first | assumption | exact Tab2.draw (by assumption) _ | exact Tab1.draw (by assumption) _) (by first | assumption | exact Tab2.draw (by assumption) _ | exact Tab1.draw (by assumption) _) (by first | assumption | exact Tab2.draw (by assumption) _ | exact Tab1.draw (by assumption) _) (by first | assumption | exact Tab2.draw (by assumption) _ | exact Tab1.draw (by assumption) _)).mono ?_); rintro e w' ⟨rfl, n, rfl⟩))
  go_ret
  exact ⟨rfl, _, rfl⟩

set_option maxHeartbeats 1000000 in
theorem bool_001  (w : World)  (tb : Tab1 1 mBuf w) (ta : Tab2 2 mAnd w) (to : Tab2 3 mOr w) (tx : Tab2 4 mXor w) (tg : Tab2 5 mAgree w) (tn : Tab1 0 mNot w) :
    Calls Tryd.prog 7 #[.bool false, .bool false, .bool true] w (Gives (.bool true) w) := by
  have e0 : mFrom true = 1 := rfl
  have e1 : mFrom false = 0 := rfl
  have e2 : mNot 0 = 1 := rfl
  have e3 : mBuf 0 = 0 := rfl
  have e4 : mAnd 0 0 = 0 := rfl
  have e5 : mOr 0 0 = 0 := rfl
  have e6 : mXor 0 0 = 0 := rfl
  have e7 : mEq 0 0 = 1 := rfl
  have e8 : mMux 0 0 1 = 1 := rfl
  have e9 : mKnown 0 = true := rfl
  go_enter Tryd.func7, Tryd.ntmps7
  go_wp2_with (first
    | (go_at_call 37; (with_reducible refine (from_any _ _).mono ?_); rintro e w' ⟨rfl, rfl⟩)
    | (go_at_call 12; (with_reducible refine (known_any _ _).mono ?_); rintro e w' ⟨rfl, rfl⟩)
    | (go_at_call 14; (with_reducible refine (not_any _ _ (by decide) (by first | assumption | exact Tab2.draw (by assumption) _ | exact Tab1.draw (by assumption) _)).mono ?_); rintro e w' ⟨rfl, n, rfl⟩)
    | (go_at_call 16; (with_reducible refine (buf_any _ _ (by decide) (by first | assumption | exact Tab2.draw (by assumption) _ | exact Tab1.draw (by assumption) _)).mono ?_); rintro e w' ⟨rfl, n, rfl⟩)
    | (go_at_call 20; (with_reducible refine (and_any _ _ _ (by decide) (by decide) (by first | assumption | exact Tab2.draw (by assumption) _ | exact Tab1.draw (by assumption) _)).mono ?_); rintro e w' ⟨rfl, n, rfl⟩)
    | (go_at_call 22; (with_reducible refine (or_any _ _ _ (by decide) (by decide) (by first | assumption | exact Tab2.draw (by assumption) _ | exact Tab1.draw (by assumption) _)).mono ?_); rintro e w' ⟨rfl, n, rfl⟩)
    | (go_at_call 24; (with_reducible refine (xor_any _ _ _ (by decide) (by decide) (by first | assumption | exact Tab2.draw (by assumption) _ | exact Tab1.draw (by assumption) _)).mono ?_); rintro e w' ⟨rfl, n, rfl⟩)
    | (go_at_call 26; (with_reducible refine (eq_any _ _ _ (by decide) (by decide) (by first | assumption | exact Tab2.draw (by assumption) _ | exact Tab1.draw (by assumption) _) (by first | assumption | exact Tab2.draw (by assumption) _ | exact Tab1.draw (by assumption) _)).mono ?_); rintro e w' ⟨rfl, n, rfl⟩)
    | (go_at_call 32; (with_reducible refine (mux_any _ _ _ _ (by decide) (by decide) (by first | assumption | exact Tab2.draw (by assumption) _ | exact Tab1.draw (by assumption) _) (by first | assumption | exact Tab2.draw (by assumption) _ | exact Tab1.draw (by assumption) _)).mono ?_); rintro e w' ⟨rfl, n, rfl⟩)
    | (go_at_call 34; (with_reducible refine (awake_any _ (by first | assumption | exact Tab2.draw (by assumption) _ | exact Tab1.draw (by assumption) _) (by first | assumption | exact Tab2.draw (by assumption) _ | exact Tab1.draw (by assumption) _) (by first | assumption | exact Tab2.draw (by assumption) _ | exact Tab1.draw (by assumption) _) (by first | assumption | exact Tab2.draw (by assumption) _ | exact Tab1.draw (by assumption) _) (by first | assumption | exact Tab2.draw (by assumption) _ | exact Tab1.draw (by assumption) _)).mono ?_); rintro e w' ⟨rfl, n, rfl⟩))
  go_ret
  exact ⟨rfl, _, rfl⟩

set_option maxHeartbeats 1000000 in
theorem bool_010  (w : World)  (tb : Tab1 1 mBuf w) (ta : Tab2 2 mAnd w) (to : Tab2 3 mOr w) (tx : Tab2 4 mXor w) (tg : Tab2 5 mAgree w) (tn : Tab1 0 mNot w) :
    Calls Tryd.prog 7 #[.bool false, .bool true, .bool false] w (Gives (.bool true) w) := by
  have e0 : mFrom true = 1 := rfl
  have e1 : mFrom false = 0 := rfl
  have e2 : mNot 0 = 1 := rfl
  have e3 : mBuf 0 = 0 := rfl
  have e4 : mAnd 0 1 = 0 := rfl
  have e5 : mOr 0 1 = 1 := rfl
  have e6 : mXor 0 1 = 1 := rfl
  have e7 : mEq 0 1 = 0 := rfl
  have e8 : mMux 0 1 0 = 0 := rfl
  have e9 : mKnown 0 = true := rfl
  go_enter Tryd.func7, Tryd.ntmps7
  go_wp2_with (first
    | (go_at_call 37; (with_reducible refine (from_any _ _).mono ?_); rintro e w' ⟨rfl, rfl⟩)
    | (go_at_call 12; (with_reducible refine (known_any _ _).mono ?_); rintro e w' ⟨rfl, rfl⟩)
    | (go_at_call 14; (with_reducible refine (not_any _ _ (by decide) (by first | assumption | exact Tab2.draw (by assumption) _ | exact Tab1.draw (by assumption) _)).mono ?_); rintro e w' ⟨rfl, n, rfl⟩)
    | (go_at_call 16; (with_reducible refine (buf_any _ _ (by decide) (by first | assumption | exact Tab2.draw (by assumption) _ | exact Tab1.draw (by assumption) _)).mono ?_); rintro e w' ⟨rfl, n, rfl⟩)
    | (go_at_call 20; (with_reducible refine (and_any _ _ _ (by decide) (by decide) (by first | assumption | exact Tab2.draw (by assumption) _ | exact Tab1.draw (by assumption) _)).mono ?_); rintro e w' ⟨rfl, n, rfl⟩)
    | (go_at_call 22; (with_reducible refine (or_any _ _ _ (by decide) (by decide) (by first | assumption | exact Tab2.draw (by assumption) _ | exact Tab1.draw (by assumption) _)).mono ?_); rintro e w' ⟨rfl, n, rfl⟩)
    | (go_at_call 24; (with_reducible refine (xor_any _ _ _ (by decide) (by decide) (by first | assumption | exact Tab2.draw (by assumption) _ | exact Tab1.draw (by assumption) _)).mono ?_); rintro e w' ⟨rfl, n, rfl⟩)
    | (go_at_call 26; (with_reducible refine (eq_any _ _ _ (by decide) (by decide) (by first | assumption | exact Tab2.draw (by assumption) _ | exact Tab1.draw (by assumption) _) (by first | assumption | exact Tab2.draw (by assumption) _ | exact Tab1.draw (by assumption) _)).mono ?_); rintro e w' ⟨rfl, n, rfl⟩)
    | (go_at_call 32; (with_reducible refine (mux_any _ _ _ _ (by decide) (by decide) (by first | assumption | exact Tab2.draw (by assumption) _ | exact Tab1.draw (by assumption) _) (by first | assumption | exact Tab2.draw (by assumption) _ | exact Tab1.draw (by assumption) _)).mono ?_); rintro e w' ⟨rfl, n, rfl⟩)
    | (go_at_call 34; (with_reducible refine (awake_any _ (by first | assumption | exact Tab2.draw (by assumption) _ | exact Tab1.draw (by assumption) _) (by first | assumption | exact Tab2.draw (by assumption) _ | exact Tab1.draw (by assumption) _) (by first | assumption | exact Tab2.draw (by assumption) _ | exact Tab1.draw (by assumption) _) (by first | assumption | exact Tab2.draw (by assumption) _ | exact Tab1.draw (by assumption) _) (by first | assumption | exact Tab2.draw (by assumption) _ | exact Tab1.draw (by assumption) _)).mono ?_); rintro e w' ⟨rfl, n, rfl⟩))
  go_ret
  exact ⟨rfl, _, rfl⟩

set_option maxHeartbeats 1000000 in
theorem bool_011  (w : World)  (tb : Tab1 1 mBuf w) (ta : Tab2 2 mAnd w) (to : Tab2 3 mOr w) (tx : Tab2 4 mXor w) (tg : Tab2 5 mAgree w) (tn : Tab1 0 mNot w) :
    Calls Tryd.prog 7 #[.bool false, .bool true, .bool true] w (Gives (.bool true) w) := by
  have e0 : mFrom true = 1 := rfl
  have e1 : mFrom false = 0 := rfl
  have e2 : mNot 0 = 1 := rfl
  have e3 : mBuf 0 = 0 := rfl
  have e4 : mAnd 0 1 = 0 := rfl
  have e5 : mOr 0 1 = 1 := rfl
  have e6 : mXor 0 1 = 1 := rfl
  have e7 : mEq 0 1 = 0 := rfl
  have e8 : mMux 0 1 1 = 1 := rfl
  have e9 : mKnown 0 = true := rfl
  go_enter Tryd.func7, Tryd.ntmps7
  go_wp2_with (first
    | (go_at_call 37; (with_reducible refine (from_any _ _).mono ?_); rintro e w' ⟨rfl, rfl⟩)
    | (go_at_call 12; (with_reducible refine (known_any _ _).mono ?_); rintro e w' ⟨rfl, rfl⟩)
    | (go_at_call 14; (with_reducible refine (not_any _ _ (by decide) (by first | assumption | exact Tab2.draw (by assumption) _ | exact Tab1.draw (by assumption) _)).mono ?_); rintro e w' ⟨rfl, n, rfl⟩)
    | (go_at_call 16; (with_reducible refine (buf_any _ _ (by decide) (by first | assumption | exact Tab2.draw (by assumption) _ | exact Tab1.draw (by assumption) _)).mono ?_); rintro e w' ⟨rfl, n, rfl⟩)
    | (go_at_call 20; (with_reducible refine (and_any _ _ _ (by decide) (by decide) (by first | assumption | exact Tab2.draw (by assumption) _ | exact Tab1.draw (by assumption) _)).mono ?_); rintro e w' ⟨rfl, n, rfl⟩)
    | (go_at_call 22; (with_reducible refine (or_any _ _ _ (by decide) (by decide) (by first | assumption | exact Tab2.draw (by assumption) _ | exact Tab1.draw (by assumption) _)).mono ?_); rintro e w' ⟨rfl, n, rfl⟩)
    | (go_at_call 24; (with_reducible refine (xor_any _ _ _ (by decide) (by decide) (by first | assumption | exact Tab2.draw (by assumption) _ | exact Tab1.draw (by assumption) _)).mono ?_); rintro e w' ⟨rfl, n, rfl⟩)
    | (go_at_call 26; (with_reducible refine (eq_any _ _ _ (by decide) (by decide) (by first | assumption | exact Tab2.draw (by assumption) _ | exact Tab1.draw (by assumption) _) (by first | assumption | exact Tab2.draw (by assumption) _ | exact Tab1.draw (by assumption) _)).mono ?_); rintro e w' ⟨rfl, n, rfl⟩)
    | (go_at_call 32; (with_reducible refine (mux_any _ _ _ _ (by decide) (by decide) (by first | assumption | exact Tab2.draw (by assumption) _ | exact Tab1.draw (by assumption) _) (by first | assumption | exact Tab2.draw (by assumption) _ | exact Tab1.draw (by assumption) _)).mono ?_); rintro e w' ⟨rfl, n, rfl⟩)
    | (go_at_call 34; (with_reducible refine (awake_any _ (by first | assumption | exact Tab2.draw (by assumption) _ | exact Tab1.draw (by assumption) _) (by first | assumption | exact Tab2.draw (by assumption) _ | exact Tab1.draw (by assumption) _) (by first | assumption | exact Tab2.draw (by assumption) _ | exact Tab1.draw (by assumption) _) (by first | assumption | exact Tab2.draw (by assumption) _ | exact Tab1.draw (by assumption) _) (by first | assumption | exact Tab2.draw (by assumption) _ | exact Tab1.draw (by assumption) _)).mono ?_); rintro e w' ⟨rfl, n, rfl⟩))
  go_ret
  exact ⟨rfl, _, rfl⟩

set_option maxHeartbeats 1000000 in
theorem bool_100  (w : World)  (tb : Tab1 1 mBuf w) (ta : Tab2 2 mAnd w) (to : Tab2 3 mOr w) (tx : Tab2 4 mXor w) (tg : Tab2 5 mAgree w) (tn : Tab1 0 mNot w) :
    Calls Tryd.prog 7 #[.bool true, .bool false, .bool false] w (Gives (.bool true) w) := by
  have e0 : mFrom true = 1 := rfl
  have e1 : mFrom false = 0 := rfl
  have e2 : mNot 1 = 0 := rfl
  have e3 : mBuf 1 = 1 := rfl
  have e4 : mAnd 1 0 = 0 := rfl
  have e5 : mOr 1 0 = 1 := rfl
  have e6 : mXor 1 0 = 1 := rfl
  have e7 : mEq 1 0 = 0 := rfl
  have e8 : mMux 1 0 0 = 0 := rfl
  have e9 : mKnown 1 = true := rfl
  go_enter Tryd.func7, Tryd.ntmps7
  go_wp2_with (first
    | (go_at_call 37; (with_reducible refine (from_any _ _).mono ?_); rintro e w' ⟨rfl, rfl⟩)
    | (go_at_call 12; (with_reducible refine (known_any _ _).mono ?_); rintro e w' ⟨rfl, rfl⟩)
    | (go_at_call 14; (with_reducible refine (not_any _ _ (by decide) (by first | assumption | exact Tab2.draw (by assumption) _ | exact Tab1.draw (by assumption) _)).mono ?_); rintro e w' ⟨rfl, n, rfl⟩)
    | (go_at_call 16; (with_reducible refine (buf_any _ _ (by decide) (by first | assumption | exact Tab2.draw (by assumption) _ | exact Tab1.draw (by assumption) _)).mono ?_); rintro e w' ⟨rfl, n, rfl⟩)
    | (go_at_call 20; (with_reducible refine (and_any _ _ _ (by decide) (by decide) (by first | assumption | exact Tab2.draw (by assumption) _ | exact Tab1.draw (by assumption) _)).mono ?_); rintro e w' ⟨rfl, n, rfl⟩)
    | (go_at_call 22; (with_reducible refine (or_any _ _ _ (by decide) (by decide) (by first | assumption | exact Tab2.draw (by assumption) _ | exact Tab1.draw (by assumption) _)).mono ?_); rintro e w' ⟨rfl, n, rfl⟩)
    | (go_at_call 24; (with_reducible refine (xor_any _ _ _ (by decide) (by decide) (by first | assumption | exact Tab2.draw (by assumption) _ | exact Tab1.draw (by assumption) _)).mono ?_); rintro e w' ⟨rfl, n, rfl⟩)
    | (go_at_call 26; (with_reducible refine (eq_any _ _ _ (by decide) (by decide) (by first | assumption | exact Tab2.draw (by assumption) _ | exact Tab1.draw (by assumption) _) (by first | assumption | exact Tab2.draw (by assumption) _ | exact Tab1.draw (by assumption) _)).mono ?_); rintro e w' ⟨rfl, n, rfl⟩)
    | (go_at_call 32; (with_reducible refine (mux_any _ _ _ _ (by decide) (by decide) (by first | assumption | exact Tab2.draw (by assumption) _ | exact Tab1.draw (by assumption) _) (by first | assumption | exact Tab2.draw (by assumption) _ | exact Tab1.draw (by assumption) _)).mono ?_); rintro e w' ⟨rfl, n, rfl⟩)
    | (go_at_call 34; (with_reducible refine (awake_any _ (by first | assumption | exact Tab2.draw (by assumption) _ | exact Tab1.draw (by assumption) _) (by first | assumption | exact Tab2.draw (by assumption) _ | exact Tab1.draw (by assumption) _) (by first | assumption | exact Tab2.draw (by assumption) _ | exact Tab1.draw (by assumption) _) (by first | assumption | exact Tab2.draw (by assumption) _ | exact Tab1.draw (by assumption) _) (by first | assumption | exact Tab2.draw (by assumption) _ | exact Tab1.draw (by assumption) _)).mono ?_); rintro e w' ⟨rfl, n, rfl⟩))
  go_ret
  exact ⟨rfl, _, rfl⟩

set_option maxHeartbeats 1000000 in
theorem bool_101  (w : World)  (tb : Tab1 1 mBuf w) (ta : Tab2 2 mAnd w) (to : Tab2 3 mOr w) (tx : Tab2 4 mXor w) (tg : Tab2 5 mAgree w) (tn : Tab1 0 mNot w) :
    Calls Tryd.prog 7 #[.bool true, .bool false, .bool true] w (Gives (.bool true) w) := by
  have e0 : mFrom true = 1 := rfl
  have e1 : mFrom false = 0 := rfl
  have e2 : mNot 1 = 0 := rfl
  have e3 : mBuf 1 = 1 := rfl
  have e4 : mAnd 1 0 = 0 := rfl
  have e5 : mOr 1 0 = 1 := rfl
  have e6 : mXor 1 0 = 1 := rfl
  have e7 : mEq 1 0 = 0 := rfl
  have e8 : mMux 1 0 1 = 0 := rfl
  have e9 : mKnown 1 = true := rfl
  go_enter Tryd.func7, Tryd.ntmps7
  go_wp2_with (first
    | (go_at_call 37; (with_reducible refine (from_any _ _).mono ?_); rintro e w' ⟨rfl, rfl⟩)
    | (go_at_call 12; (with_reducible refine (known_any _ _).mono ?_); rintro e w' ⟨rfl, rfl⟩)
    | (go_at_call 14; (with_reducible refine (not_any _ _ (by decide) (by first | assumption | exact Tab2.draw (by assumption) _ | exact Tab1.draw (by assumption) _)).mono ?_); rintro e w' ⟨rfl, n, rfl⟩)
    | (go_at_call 16; (with_reducible refine (buf_any _ _ (by decide) (by first | assumption | exact Tab2.draw (by assumption) _ | exact Tab1.draw (by assumption) _)).mono ?_); rintro e w' ⟨rfl, n, rfl⟩)
    | (go_at_call 20; (with_reducible refine (and_any _ _ _ (by decide) (by decide) (by first | assumption | exact Tab2.draw (by assumption) _ | exact Tab1.draw (by assumption) _)).mono ?_); rintro e w' ⟨rfl, n, rfl⟩)
    | (go_at_call 22; (with_reducible refine (or_any _ _ _ (by decide) (by decide) (by first | assumption | exact Tab2.draw (by assumption) _ | exact Tab1.draw (by assumption) _)).mono ?_); rintro e w' ⟨rfl, n, rfl⟩)
    | (go_at_call 24; (with_reducible refine (xor_any _ _ _ (by decide) (by decide) (by first | assumption | exact Tab2.draw (by assumption) _ | exact Tab1.draw (by assumption) _)).mono ?_); rintro e w' ⟨rfl, n, rfl⟩)
    | (go_at_call 26; (with_reducible refine (eq_any _ _ _ (by decide) (by decide) (by first | assumption | exact Tab2.draw (by assumption) _ | exact Tab1.draw (by assumption) _) (by first | assumption | exact Tab2.draw (by assumption) _ | exact Tab1.draw (by assumption) _)).mono ?_); rintro e w' ⟨rfl, n, rfl⟩)
    | (go_at_call 32; (with_reducible refine (mux_any _ _ _ _ (by decide) (by decide) (by first | assumption | exact Tab2.draw (by assumption) _ | exact Tab1.draw (by assumption) _) (by first | assumption | exact Tab2.draw (by assumption) _ | exact Tab1.draw (by assumption) _)).mono ?_); rintro e w' ⟨rfl, n, rfl⟩)
    | (go_at_call 34; (with_reducible refine (awake_any _ (by first | assumption | exact Tab2.draw (by assumption) _ | exact Tab1.draw (by assumption) _) (by first | assumption | exact Tab2.draw (by assumption) _ | exact Tab1.draw (by assumption) _) (by first | assumption | exact Tab2.draw (by assumption) _ | exact Tab1.draw (by assumption) _) (by first | assumption | exact Tab2.draw (by assumption) _ | exact Tab1.draw (by assumption) _) (by first | assumption | exact Tab2.draw (by assumption) _ | exact Tab1.draw (by assumption) _)).mono ?_); rintro e w' ⟨rfl, n, rfl⟩))
  go_ret
  exact ⟨rfl, _, rfl⟩

set_option maxHeartbeats 1000000 in
theorem bool_110  (w : World)  (tb : Tab1 1 mBuf w) (ta : Tab2 2 mAnd w) (to : Tab2 3 mOr w) (tx : Tab2 4 mXor w) (tg : Tab2 5 mAgree w) (tn : Tab1 0 mNot w) :
    Calls Tryd.prog 7 #[.bool true, .bool true, .bool false] w (Gives (.bool true) w) := by
  have e0 : mFrom true = 1 := rfl
  have e1 : mFrom false = 0 := rfl
  have e2 : mNot 1 = 0 := rfl
  have e3 : mBuf 1 = 1 := rfl
  have e4 : mAnd 1 1 = 1 := rfl
  have e5 : mOr 1 1 = 1 := rfl
  have e6 : mXor 1 1 = 0 := rfl
  have e7 : mEq 1 1 = 1 := rfl
  have e8 : mMux 1 1 0 = 1 := rfl
  have e9 : mKnown 1 = true := rfl
  go_enter Tryd.func7, Tryd.ntmps7
  go_wp2_with (first
    | (go_at_call 37; (with_reducible refine (from_any _ _).mono ?_); rintro e w' ⟨rfl, rfl⟩)
    | (go_at_call 12; (with_reducible refine (known_any _ _).mono ?_); rintro e w' ⟨rfl, rfl⟩)
    | (go_at_call 14; (with_reducible refine (not_any _ _ (by decide) (by first | assumption | exact Tab2.draw (by assumption) _ | exact Tab1.draw (by assumption) _)).mono ?_); rintro e w' ⟨rfl, n, rfl⟩)
    | (go_at_call 16; (with_reducible refine (buf_any _ _ (by decide) (by first | assumption | exact Tab2.draw (by assumption) _ | exact Tab1.draw (by assumption) _)).mono ?_); rintro e w' ⟨rfl, n, rfl⟩)
    | (go_at_call 20; (with_reducible refine (and_any _ _ _ (by decide) (by decide) (by first | assumption | exact Tab2.draw (by assumption) _ | exact Tab1.draw (by assumption) _)).mono ?_); rintro e w' ⟨rfl, n, rfl⟩)
    | (go_at_call 22; (with_reducible refine (or_any _ _ _ (by decide) (by decide) (by first | assumption | exact Tab2.draw (by assumption) _ | exact Tab1.draw (by assumption) _)).mono ?_); rintro e w' ⟨rfl, n, rfl⟩)
    | (go_at_call 24; (with_reducible refine (xor_any _ _ _ (by decide) (by decide) (by first | assumption | exact Tab2.draw (by assumption) _ | exact Tab1.draw (by assumption) _)).mono ?_); rintro e w' ⟨rfl, n, rfl⟩)
    | (go_at_call 26; (with_reducible refine (eq_any _ _ _ (by decide) (by decide) (by first | assumption | exact Tab2.draw (by assumption) _ | exact Tab1.draw (by assumption) _) (by first | assumption | exact Tab2.draw (by assumption) _ | exact Tab1.draw (by assumption) _)).mono ?_); rintro e w' ⟨rfl, n, rfl⟩)
    | (go_at_call 32; (with_reducible refine (mux_any _ _ _ _ (by decide) (by decide) (by first | assumption | exact Tab2.draw (by assumption) _ | exact Tab1.draw (by assumption) _) (by first | assumption | exact Tab2.draw (by assumption) _ | exact Tab1.draw (by assumption) _)).mono ?_); rintro e w' ⟨rfl, n, rfl⟩)
    | (go_at_call 34; (with_reducible refine (awake_any _ (by first | assumption | exact Tab2.draw (by assumption) _ | exact Tab1.draw (by assumption) _) (by first | assumption | exact Tab2.draw (by assumption) _ | exact Tab1.draw (by assumption) _) (by first | assumption | exact Tab2.draw (by assumption) _ | exact Tab1.draw (by assumption) _) (by first | assumption | exact Tab2.draw (by assumption) _ | exact Tab1.draw (by assumption) _) (by first | assumption | exact Tab2.draw (by assumption) _ | exact Tab1.draw (by assumption) _)).mono ?_); rintro e w' ⟨rfl, n, rfl⟩))
  go_ret
  exact ⟨rfl, _, rfl⟩

set_option maxHeartbeats 1000000 in
theorem bool_111  (w : World)  (tb : Tab1 1 mBuf w) (ta : Tab2 2 mAnd w) (to : Tab2 3 mOr w) (tx : Tab2 4 mXor w) (tg : Tab2 5 mAgree w) (tn : Tab1 0 mNot w) :
    Calls Tryd.prog 7 #[.bool true, .bool true, .bool true] w (Gives (.bool true) w) := by
  have e0 : mFrom true = 1 := rfl
  have e1 : mFrom false = 0 := rfl
  have e2 : mNot 1 = 0 := rfl
  have e3 : mBuf 1 = 1 := rfl
  have e4 : mAnd 1 1 = 1 := rfl
  have e5 : mOr 1 1 = 1 := rfl
  have e6 : mXor 1 1 = 0 := rfl
  have e7 : mEq 1 1 = 1 := rfl
  have e8 : mMux 1 1 1 = 1 := rfl
  have e9 : mKnown 1 = true := rfl
  go_enter Tryd.func7, Tryd.ntmps7
  go_wp2_with (first
    | (go_at_call 37; (with_reducible refine (from_any _ _).mono ?_); rintro e w' ⟨rfl, rfl⟩)
    | (go_at_call 12; (with_reducible refine (known_any _ _).mono ?_); rintro e w' ⟨rfl, rfl⟩)
    | (go_at_call 14; (with_reducible refine (not_any _ _ (by decide) (by first | assumption | exact Tab2.draw (by assumption) _ | exact Tab1.draw (by assumption) _)).mono ?_); rintro e w' ⟨rfl, n, rfl⟩)
    | (go_at_call 16; (with_reducible refine (buf_any _ _ (by decide) (by first | assumption | exact Tab2.draw (by assumption) _ | exact Tab1.draw (by assumption) _)).mono ?_); rintro e w' ⟨rfl, n, rfl⟩)
    | (go_at_call 20; (with_reducible refine (and_any _ _ _ (by decide) (by decide) (by first | assumption | exact Tab2.draw (by assumption) _ | exact Tab1.draw (by assumption) _)).mono ?_); rintro e w' ⟨rfl, n, rfl⟩)
    | (go_at_call 22; (with_reducible refine (or_any _ _ _ (by decide) (by decide) (by first | assumption | exact Tab2.draw (by assumption) _ | exact Tab1.draw (by assumption) _)).mono ?_); rintro e w' ⟨rfl, n, rfl⟩)
    | (go_at_call 24; (with_reducible refine (xor_any _ _ _ (by decide) (by decide) (by first | assumption | exact Tab2.draw (by assumption) _ | exact Tab1.draw (by assumption) _)).mono ?_); rintro e w' ⟨rfl, n, rfl⟩)
    | (go_at_call 26; (with_reducible refine (eq_any _ _ _ (by decide) (by decide) (by first | assumption | exact Tab2.draw (by assumption) _ | exact Tab1.draw (by assumption) _) (by first | assumption | exact Tab2.draw (by assumption) _ | exact Tab1.draw (by assumption) _)).mono ?_); rintro e w' ⟨rfl, n, rfl⟩)
    | (go_at_call 32; (with_reducible refine (mux_any _ _ _ _ (by decide) (by decide) (by first | assumption | exact Tab2.draw (by assumption) _ | exact Tab1.draw (by assumption) _) (by first | assumption | exact Tab2.draw (by assumption) _ | exact Tab1.draw (by assumption) _)).mono ?_); rintro e w' ⟨rfl, n, rfl⟩)
    | (go_at_call 34; (with_reducible refine (awake_any _ (by first | assumption | exact Tab2.draw (by assumption) _ | exact Tab1.draw (by assumption) _) (by first | assumption | exact Tab2.draw (by assumption) _ | exact Tab1.draw (by assumption) _) (by first | assumption | exact Tab2.draw (by assumption) _ | exact Tab1.draw (by assumption) _) (by first | assumption | exact Tab2.draw (by assumption) _ | exact Tab1.draw (by assumption) _) (by first | assumption | exact Tab2.draw (by assumption) _ | exact Tab1.draw (by assumption) _)).mono ?_); rintro e w' ⟨rfl, n, rfl⟩))
  go_ret
  exact ⟨rfl, _, rfl⟩

theorem BitBoolean_walk (a b c : Bool) (w : World) (tb : Tab1 1 mBuf w) (ta : Tab2 2 mAnd w) (to : Tab2 3 mOr w) (tx : Tab2 4 mXor w) (tg : Tab2 5 mAgree w) (tn : Tab1 0 mNot w) :
    Calls Tryd.prog 7 #[.bool a, .bool b, .bool c] w (Gives (.bool true) w) := by
  cases a <;> cases b <;> cases c
  · exact bool_000 w tb ta to tx tg tn
  · exact bool_001 w tb ta to tx tg tn
  · exact bool_010 w tb ta to tx tg tn
  · exact bool_011 w tb ta to tx tg tn
  · exact bool_100 w tb ta to tx tg tn
  · exact bool_101 w tb ta to tx tg tn
  · exact bool_110 w tb ta to tx tg tn
  · exact bool_111 w tb ta to tx tg tn

end Go.Proofs.YtahonicpfcccjaaDoor
