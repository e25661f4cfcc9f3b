/-
  The plain mathematics of package bit: what its functions answer, as functions on integers, and the laws of the chapter's properties. Nothing here speaks of the program.
-/
namespace Go.Proofs.YtgaihbenlfeeeaaDoor

/-- The state of a bit: everything above 3 counts as x. -/
def bst (a : Int) : Int := if 3 < a then 2 else a
theorem bst_bd (a : Int) (h0 : 0 ≤ a) : 0 ≤ bst a ∧ bst a < 4 := by
  unfold bst; split <;> omega

def mValid (a : Int) : Bool := decide (a ≤ 3)
def mKnown (a : Int) : Bool := decide (a ≤ 1)
def mNot (a : Int) : Int := if a = 0 then 1 else if a = 1 then 0 else 2
def mBuf (a : Int) : Int := if a = 0 then 0 else if a = 1 then 1 else 2
def mAnd (a b : Int) : Int := if a = 0 ∨ b = 0 then 0 else if a = 1 ∧ b = 1 then 1 else 2
def mOr (a b : Int) : Int := if a = 1 ∨ b = 1 then 1 else if a = 0 ∧ b = 0 then 0 else 2
def mXor (a b : Int) : Int := if 1 < a ∨ 1 < b then 2 else if a = b then 0 else 1
def mEq (a b : Int) : Int := mNot (mXor a b)
def mAgree (a b : Int) : Int := if a ≤ 1 ∧ a = b then a else 2
def mMux (s a b : Int) : Int := if s = 1 then mBuf a else if s = 0 then mBuf b else mAgree a b
def mSame (a b : Int) : Bool := decide (bst a = bst b)
def mLeq (a b : Int) : Bool := mSame a b || (!mKnown a && mKnown b)
def mChar (a : Int) : Int := if a = 0 then 48 else if a = 1 then 49 else if a = 3 then 122 else 120
def mFrom (v : Bool) : Int := if v then 1 else 0
def mParse (c : Int) : Int := if c = 49 then 1 else if c = 120 ∨ c = 88 then 2 else if c = 122 ∨ c = 90 ∨ c = 63 then 3 else 0
def mParsed (c : Int) : Bool := decide (c = 48 ∨ c = 49 ∨ c = 120 ∨ c = 88 ∨ c = 122 ∨ c = 90 ∨ c = 63)

theorem bcases (a : Int) : a = 0 ∨ a = 1 ∨ (a ≠ 0 ∧ a ≠ 1) := by omega
theorem bcases4 (a : Int) : a = 0 ∨ a = 1 ∨ a = 3 ∨ (a ≠ 0 ∧ a ≠ 1 ∧ a ≠ 3) := by omega

theorem mNot_nn (a : Int) : 0 ≤ mNot a := by unfold mNot; split <;> (try split) <;> omega
theorem mBuf_nn (a : Int) : 0 ≤ mBuf a := by unfold mBuf; split <;> (try split) <;> omega
theorem mAnd_nn (a b : Int) : 0 ≤ mAnd a b := by unfold mAnd; split <;> (try split) <;> omega
theorem mOr_nn (a b : Int) : 0 ≤ mOr a b := by unfold mOr; split <;> (try split) <;> omega
theorem mXor_nn (a b : Int) : 0 ≤ mXor a b := by unfold mXor; split <;> (try split) <;> omega
theorem mEq_nn (a b : Int) : 0 ≤ mEq a b := mNot_nn _
theorem mAgree_nn (a b : Int) (h : 0 ≤ a) : 0 ≤ mAgree a b := by unfold mAgree; split <;> omega
theorem mMux_nn (s a b : Int) (h : 0 ≤ a) : 0 ≤ mMux s a b := by
  unfold mMux; split
  · exact mBuf_nn _
  · split
    · exact mBuf_nn _
    · exact mAgree_nn _ _ h
theorem mFrom_nn (v : Bool) : 0 ≤ mFrom v := by cases v <;> decide
theorem mParse_nn (c : Int) : 0 ≤ mParse c := by unfold mParse; split <;> (try split) <;> (try split) <;> omega
theorem mChar_nn (a : Int) : 0 ≤ mChar a := by unfold mChar; split <;> (try split) <;> (try split) <;> omega

/-- A bit is 0, 1, or neither, and 3 or none of them: what its state is. -/
theorem bst_0 : bst 0 = 0 := rfl
theorem bst_1 : bst 1 = 1 := rfl
theorem bst_3 : bst 3 = 3 := rfl
theorem bst_x {a : Int} (h0 : 0 ≤ a) (h : a ≠ 0 ∧ a ≠ 1 ∧ a ≠ 3) : bst a = 2 := by unfold bst; split <;> omega

/-- The tables as functions of two states. -/
theorem mAnd_bst (a b : Int) : mAnd (bst a) (bst b) = mAnd a b := by
  unfold mAnd bst; (repeat' split) <;> first | rfl | omega
theorem mOr_bst (a b : Int) : mOr (bst a) (bst b) = mOr a b := by
  unfold mOr bst; (repeat' split) <;> first | rfl | omega
theorem mXor_bst (a b : Int) : mXor (bst a) (bst b) = mXor a b := by
  unfold mXor bst; (repeat' split) <;> first | rfl | omega
theorem mAgree_bst (a b : Int) : mAgree (bst a) (bst b) = mAgree a b := by
  unfold mAgree bst; (repeat' split) <;> first | rfl | omega
theorem mNot_bst (a : Int) : mNot (bst a) = mNot a := by
  unfold mNot bst; (repeat' split) <;> first | rfl | omega
theorem mBuf_bst (a : Int) : mBuf (bst a) = mBuf a := by
  unfold mBuf bst; (repeat' split) <;> first | rfl | omega

theorem mAnd_comm (a b : Int) : mAnd a b = mAnd b a := by
  unfold mAnd; (repeat' split) <;> first | rfl | omega
theorem mOr_comm (a b : Int) : mOr a b = mOr b a := by
  unfold mOr; (repeat' split) <;> first | rfl | omega
theorem mXor_comm (a b : Int) : mXor a b = mXor b a := by
  unfold mXor; (repeat' split) <;> first | rfl | omega
theorem mAnd_self (a : Int) : mAnd a a = mBuf a := by
  unfold mAnd mBuf; (repeat' split) <;> first | rfl | omega
theorem mOr_self (a : Int) : mOr a a = mBuf a := by
  unfold mOr mBuf; (repeat' split) <;> first | rfl | omega
theorem mAnd_assoc (a b c : Int) : mAnd (mAnd a b) c = mAnd a (mAnd b c) := by
  rcases bcases a with rfl | rfl | ⟨a0, a1⟩ <;> rcases bcases b with rfl | rfl | ⟨b0, b1⟩ <;> rcases bcases c with rfl | rfl | ⟨c0, c1⟩ <;> simp [mAnd, *]
theorem mOr_assoc (a b c : Int) : mOr (mOr a b) c = mOr a (mOr b c) := by
  rcases bcases a with rfl | rfl | ⟨a0, a1⟩ <;> rcases bcases b with rfl | rfl | ⟨b0, b1⟩ <;> rcases bcases c with rfl | rfl | ⟨c0, c1⟩ <;> simp [mOr, *]
theorem mXor_x {a b : Int} (h : 1 < a ∨ 1 < b) : mXor a b = 2 := by unfold mXor; rw [if_pos h]
theorem bcasesx (a : Int) (h : 0 ≤ a) : a = 0 ∨ a = 1 ∨ 1 < a := by omega
theorem mXor_assoc (a b c : Int) (ha : 0 ≤ a) (hb : 0 ≤ b) (hc : 0 ≤ c) : mXor (mXor a b) c = mXor a (mXor b c) := by
  rcases bcasesx a ha with rfl | rfl | a1 <;> rcases bcasesx b hb with rfl | rfl | b1 <;> rcases bcasesx c hc with rfl | rfl | c1 <;> simp [mXor, *]
theorem mAnd_mOr (a b c : Int) : mAnd a (mOr b c) = mOr (mAnd a b) (mAnd a c) := by
  rcases bcases a with rfl | rfl | ⟨a0, a1⟩ <;> rcases bcases b with rfl | rfl | ⟨b0, b1⟩ <;> rcases bcases c with rfl | rfl | ⟨c0, c1⟩ <;> simp [mAnd, mOr, *]
theorem mOr_mAnd (a b c : Int) : mOr a (mAnd b c) = mAnd (mOr a b) (mOr a c) := by
  rcases bcases a with rfl | rfl | ⟨a0, a1⟩ <;> rcases bcases b with rfl | rfl | ⟨b0, b1⟩ <;> rcases bcases c with rfl | rfl | ⟨c0, c1⟩ <;> simp [mAnd, mOr, *]
theorem mNot_mAnd (a b : Int) : mNot (mAnd a b) = mOr (mNot a) (mNot b) := by
  rcases bcases a with rfl | rfl | ⟨a0, a1⟩ <;> rcases bcases b with rfl | rfl | ⟨b0, b1⟩ <;> simp [mAnd, mOr, mNot, *]
theorem mNot_mOr (a b : Int) : mNot (mOr a b) = mAnd (mNot a) (mNot b) := by
  rcases bcases a with rfl | rfl | ⟨a0, a1⟩ <;> rcases bcases b with rfl | rfl | ⟨b0, b1⟩ <;> simp [mAnd, mOr, mNot, *]

theorem mLeq_iff (a b : Int) : mLeq a b = true ↔ bst a = bst b ∨ (1 < a ∧ b ≤ 1) := by
  unfold mLeq mSame mKnown
  by_cases h : bst a = bst b <;> simp [h]
theorem leq_01 {a d : Int} (ha : 0 ≤ a) (h : mLeq a d = true) : a ≤ 1 → d = a := by
  intro h1
  rcases (mLeq_iff a d).1 h with h | h
  · unfold bst at h; (repeat' split at h) <;> omega
  · omega
theorem leq_mk {x y : Int} (hx : x = 0 ∨ x = 1 ∨ x = 2) (hy : y = 0 ∨ y = 1 ∨ y = 2) (h : x ≤ 1 → y = x) : mLeq x y = true := by
  refine (mLeq_iff x y).2 ?_
  rcases hx with rfl | rfl | rfl <;> rcases hy with rfl | rfl | rfl <;> first | (left; rfl) | (right; omega) | (exfalso; have := h (by omega); omega)
theorem mNot_3 (a : Int) : mNot a = 0 ∨ mNot a = 1 ∨ mNot a = 2 := by unfold mNot; (repeat' split) <;> omega
theorem mBuf_3 (a : Int) : mBuf a = 0 ∨ mBuf a = 1 ∨ mBuf a = 2 := by unfold mBuf; (repeat' split) <;> omega
theorem mAnd_3 (a b : Int) : mAnd a b = 0 ∨ mAnd a b = 1 ∨ mAnd a b = 2 := by unfold mAnd; (repeat' split) <;> omega
theorem mOr_3 (a b : Int) : mOr a b = 0 ∨ mOr a b = 1 ∨ mOr a b = 2 := by unfold mOr; (repeat' split) <;> omega
theorem mXor_3 (a b : Int) : mXor a b = 0 ∨ mXor a b = 1 ∨ mXor a b = 2 := by unfold mXor; (repeat' split) <;> omega
theorem mEq_3 (a b : Int) : mEq a b = 0 ∨ mEq a b = 1 ∨ mEq a b = 2 := mNot_3 _
theorem mAgree_3 (a b : Int) (h : 0 ≤ a) : mAgree a b = 0 ∨ mAgree a b = 1 ∨ mAgree a b = 2 := by unfold mAgree; (repeat' split) <;> omega
theorem mMux_3 (s a b : Int) (h : 0 ≤ a) : mMux s a b = 0 ∨ mMux s a b = 1 ∨ mMux s a b = 2 := by
  unfold mMux; split
  · exact mBuf_3 _
  · split
    · exact mBuf_3 _
    · exact mAgree_3 _ _ h
section mono
variable {a b s d e t : Int} (ha : 0 ≤ a) (hb : 0 ≤ b) (hd : 0 ≤ d) (he : 0 ≤ e)
include ha
theorem mNot_mono (h : mLeq a d = true) : mLeq (mNot a) (mNot d) = true := by
  have h := leq_01 ha h
  refine leq_mk (mNot_3 _) (mNot_3 _) ?_
  unfold mNot; (repeat' split) <;> omega
theorem mBuf_mono (h : mLeq a d = true) : mLeq (mBuf a) (mBuf d) = true := by
  have h := leq_01 ha h
  refine leq_mk (mBuf_3 _) (mBuf_3 _) ?_
  unfold mBuf; (repeat' split) <;> omega
include hb
theorem mAnd_mono (h : mLeq a d = true) (k : mLeq b e = true) : mLeq (mAnd a b) (mAnd d e) = true := by
  have h := leq_01 ha h
  have k := leq_01 hb k
  refine leq_mk (mAnd_3 _ _) (mAnd_3 _ _) ?_
  unfold mAnd; (repeat' split) <;> omega
theorem mOr_mono (h : mLeq a d = true) (k : mLeq b e = true) : mLeq (mOr a b) (mOr d e) = true := by
  have h := leq_01 ha h
  have k := leq_01 hb k
  refine leq_mk (mOr_3 _ _) (mOr_3 _ _) ?_
  unfold mOr; (repeat' split) <;> omega
theorem mXor_mono (h : mLeq a d = true) (k : mLeq b e = true) : mLeq (mXor a b) (mXor d e) = true := by
  have h := leq_01 ha h
  have k := leq_01 hb k
  refine leq_mk (mXor_3 _ _) (mXor_3 _ _) ?_
  unfold mXor; (repeat' split) <;> omega
theorem mEq_mono (h : mLeq a d = true) (k : mLeq b e = true) : mLeq (mEq a b) (mEq d e) = true :=
  mNot_mono (mXor_nn _ _) (mXor_mono ha hb h k)
include hd
theorem mMux_mono (hs : 0 ≤ s) (i : mLeq s t = true) (h : mLeq a d = true) (k : mLeq b e = true) : mLeq (mMux s a b) (mMux t d e) = true := by
  have i := leq_01 hs i
  have h := leq_01 ha h
  have k := leq_01 hb k
  refine leq_mk (mMux_3 _ _ _ ha) (mMux_3 _ _ _ hd) ?_
  unfold mMux mAgree mBuf; (repeat' split) <;> omega
end mono

theorem mSame_of_leq {a b : Int} (ha : 0 ≤ a) (hb : 0 ≤ b) (h : mLeq a b = true) : mLeq b a = mSame a b := by
  have h1 := leq_01 ha h
  rcases (mLeq_iff a b).1 h with e | ⟨x, y⟩
  · have : mSame a b = true := by unfold mSame; simpa using e
    rw [this]; exact (mLeq_iff b a).2 (.inl e.symm)
  · have n : mSame a b = false := by unfold mSame bst; apply decide_eq_false; (repeat' split) <;> omega
    rw [n]
    cases q : mLeq b a
    · rfl
    · have := leq_01 hb q y; omega
theorem mLeq_trans {a b c : Int} (h : mLeq a b = true) (k : mLeq b c = true) : mLeq a c = true := by
  rcases (mLeq_iff a b).1 h with e | ⟨x, y⟩ <;> rcases (mLeq_iff b c).1 k with e' | ⟨x', y'⟩
  · exact (mLeq_iff a c).2 (.inl (e.trans e'))
  · exact (mLeq_iff a c).2 (.inr ⟨by unfold bst at e; (repeat' split at e) <;> omega, y'⟩)
  · exact (mLeq_iff a c).2 (.inr ⟨x, by unfold bst at e'; (repeat' split at e') <;> omega⟩)
  · omega
theorem mLeq_known {a b : Int} (h : mKnown a = true) : mLeq a b = mSame a b := by
  unfold mLeq; rw [h]; simp
theorem mParse_mChar (a : Int) (h0 : 0 ≤ a) : mParsed (mChar a) = true ∧ mSame a (mParse (mChar a)) = true ∧ mParse (mChar a) ≤ 3 := by
  unfold mChar mSame
  rcases bcases4 a with rfl | rfl | rfl | h
  · decide
  · decide
  · decide
  · rw [if_neg h.1, if_neg h.2.1, if_neg h.2.2, bst_x h0 h]; decide
theorem mParse_le (c : Int) : mParse c ≤ 3 := by unfold mParse; (repeat' split) <;> omega
theorem mParse_not {c : Int} (h : mParsed c = false) : mParse c = 0 := by
  unfold mParsed at h; have := of_decide_eq_false h; unfold mParse; (repeat' split) <;> omega
theorem mLeq_refl (a : Int) : mLeq a a = true := by simp [mLeq, mSame]

end Go.Proofs.YtgaihbenlfeeeaaDoor
