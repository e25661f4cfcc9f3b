/-
  The contracts of the reference implementation of package bit: it answers as the same mathematics says.
-/
import Derived.Test.YtahonicpfcccjaaDoorBitA
namespace Go.Proofs.YtahonicpfcccjaaDoor
open Go.RowKit

set_option maxHeartbeats 400000 in
theorem rnorm_any (a : Int) (w : World) :
    Calls Tryd.prog 40 #[.int .u8 a] w fun e w' => e = .returned (.int .u8 (bst a)) ∧ w' = w := by
  by_cases h : 3 < a
  · have e : bst a = 2 := by unfold bst; rw [if_pos h]
    rw [e]
    go_enter Tryd.func40, Tryd.ntmps40
    go_wp2
    go_ret
    exact ⟨rfl, rfl⟩
  · have e : bst a = a := by unfold bst; rw [if_neg h]
    rw [e]
    go_enter Tryd.func40, Tryd.ntmps40
    go_wp2
    go_ret
    exact ⟨rfl, rfl⟩

theorem mKnown_2 {a : Int} (h0 : 0 ≤ a) (h : a ≠ 0 ∧ a ≠ 1) : mKnown a = false := by unfold mKnown; exact decide_eq_false (by omega)
theorem mBuf_2 {a : Int} (h : a ≠ 0 ∧ a ≠ 1) : mBuf a = 2 := by obtain ⟨x, y⟩ := h; simp [mBuf, *]
theorem mNot_2 {a : Int} (h : a ≠ 0 ∧ a ≠ 1) : mNot a = 2 := by obtain ⟨x, y⟩ := h; simp [mNot, *]

set_option maxHeartbeats 400000 in
theorem rknown_any (a : Int) (w : World) (h0 : 0 ≤ a) :
    Calls Tryd.prog 13 #[.int .u8 a] w fun e w' => e = .returned (.bool (mKnown a)) ∧ w' = w := by
  rcases bcases a with rfl | rfl | h
  case inr.inr =>
    rw [mKnown_2 h0 h]
    have h1 := beq_f h.1
    have h2 := beq_f h.2
    clear h h0
    go_enter Tryd.func13, Tryd.ntmps13
    go_wp2
    go_ret
    exact ⟨rfl, rfl⟩
  all_goals
    clear h0
    go_enter Tryd.func13, Tryd.ntmps13
    go_wp2
    go_ret
    exact ⟨rfl, rfl⟩

set_option maxHeartbeats 400000 in
theorem rbuf_any (a : Int) (w : World) (h0 : 0 ≤ a) :
    Calls Tryd.prog 17 #[.int .u8 a] w fun e w' => e = .returned (.int .u8 (mBuf a)) ∧ w' = w := by
  rcases bcases a with rfl | rfl | h
  case inr.inr =>
    rw [mBuf_2 h]
    have E := Lib.hid (mKnown_2 h0 h)
    clear h
    go_enter Tryd.func17, Tryd.ntmps17
    go_wp2_with (go_at_call 13; refine (rknown_any _ _ h0).mono ?_; rw [E.out]; rintro e w' ⟨rfl, rfl⟩)
    go_ret
    exact ⟨rfl, rfl⟩
  all_goals
    go_enter Tryd.func17, Tryd.ntmps17
    go_wp2_with (go_at_call 13; refine (rknown_any _ _ h0).mono ?_; rintro e w' ⟨rfl, rfl⟩)
    go_ret
    exact ⟨rfl, rfl⟩

set_option maxHeartbeats 400000 in
theorem rnot_any (a : Int) (w : World) :
    Calls Tryd.prog 15 #[.int .u8 a] w fun e w' => e = .returned (.int .u8 (mNot a)) ∧ w' = w := by
  rcases bcases a with rfl | rfl | h
  case inr.inr =>
    rw [mNot_2 h]
    have h1 := beq_f h.1
    have h2 := beq_f h.2
    clear h
    go_enter Tryd.func15, Tryd.ntmps15
    go_wp2
    go_ret
    exact ⟨rfl, rfl⟩
  all_goals
    go_enter Tryd.func15, Tryd.ntmps15
    go_wp2
    go_ret
    exact ⟨rfl, rfl⟩

set_option maxHeartbeats 400000 in
theorem rand_any (a b : Int) (w : World) :
    Calls Tryd.prog 21 #[.int .u8 a, .int .u8 b] w fun e w' => e = .returned (.int .u8 (mAnd a b)) ∧ w' = w := by
  obtain ⟨r, hr⟩ : ∃ r, r = mAnd a b := ⟨_, rfl⟩
  rw [← hr]
  rcases bcases a with rfl | rfl | ⟨a0, a1⟩ <;> rcases bcases b with rfl | rfl | ⟨b0, b1⟩
  all_goals
    simp [mAnd, *] at hr
    subst hr
    try have a0' := beq_f a0
    try have a1' := beq_f a1
    try have b0' := beq_f b0
    try have b1' := beq_f b1
    try clear a0 a1
    try clear b0 b1
    go_enter Tryd.func21, Tryd.ntmps21
    go_wp2
    go_ret
    exact ⟨rfl, rfl⟩

set_option maxHeartbeats 400000 in
theorem ror_any (a b : Int) (w : World) :
    Calls Tryd.prog 23 #[.int .u8 a, .int .u8 b] w fun e w' => e = .returned (.int .u8 (mOr a b)) ∧ w' = w := by
  obtain ⟨r, hr⟩ : ∃ r, r = mOr a b := ⟨_, rfl⟩
  rw [← hr]
  rcases bcases a with rfl | rfl | ⟨a0, a1⟩ <;> rcases bcases b with rfl | rfl | ⟨b0, b1⟩
  all_goals
    simp [mOr, *] at hr
    subst hr
    try have a0' := beq_f a0
    try have a1' := beq_f a1
    try have b0' := beq_f b0
    try have b1' := beq_f b1
    try clear a0 a1
    try clear b0 b1
    go_enter Tryd.func23, Tryd.ntmps23
    go_wp2
    go_ret
    exact ⟨rfl, rfl⟩

theorem mXor_k {a b : Int} (h : mKnown a = false ∨ mKnown b = false) : mXor a b = 2 := by
  unfold mKnown at h; exact mXor_x (by rcases h with h | h <;> have := of_decide_eq_false h <;> omega)
theorem mXor_01 {a b : Int} (h0 : mKnown a = true) (h1 : mKnown b = true) : mXor a b = if a = b then 0 else 1 := by
  unfold mKnown at h0 h1; have := of_decide_eq_true h0; have := of_decide_eq_true h1
  unfold mXor; rw [if_neg (by omega)]

set_option maxHeartbeats 400000 in
theorem rxor_any (a b : Int) (w : World) (h0 : 0 ≤ a) (h1 : 0 ≤ b) :
    Calls Tryd.prog 25 #[.int .u8 a, .int .u8 b] w fun e w' => e = .returned (.int .u8 (mXor a b)) ∧ w' = w := by
  by_cases ka : mKnown a = true
  · by_cases kb : mKnown b = true
    · rw [mXor_01 ka kb]
      have Ka := Lib.hid ka
      have Kb := Lib.hid kb
      clear ka kb
      by_cases e : a = b
      · subst e
        rw [if_pos rfl]
        go_enter Tryd.func25, Tryd.ntmps25
        go_wp2_with (go_at_call 13; refine (rknown_any _ _ (by assumption)).mono ?_; rw [Ka.out]; rintro e w' ⟨rfl, rfl⟩)
        go_ret
        exact ⟨rfl, rfl⟩
      · rw [if_neg e]
        have e' := beq_f e
        clear e
        go_enter Tryd.func25, Tryd.ntmps25
        go_wp2_with (go_at_call 13; refine (rknown_any _ _ (by assumption)).mono ?_; (first | rw [Ka.out] | rw [Kb.out]); rintro e w' ⟨rfl, rfl⟩)
        go_ret
        exact ⟨rfl, rfl⟩
    · rw [mXor_k (.inr (by simpa using kb))]
      have Ka := Lib.hid ka
      have Kb := Lib.hid (show mKnown b = false by simpa using kb)
      clear ka kb
      go_enter Tryd.func25, Tryd.ntmps25
      go_wp2_with (first | (go_at_call 13; (with_reducible refine (rknown_any a _ h0).mono ?_); rw [Ka.out]; rintro e w' ⟨rfl, rfl⟩) | (go_at_call 13; (with_reducible refine (rknown_any b _ h1).mono ?_); rw [Kb.out]; rintro e w' ⟨rfl, rfl⟩))
      go_ret
      exact ⟨rfl, rfl⟩
  · rw [mXor_k (.inl (by simpa using ka))]
    have Ka := Lib.hid (show mKnown a = false by simpa using ka)
    clear ka
    go_enter Tryd.func25, Tryd.ntmps25
    go_wp2_with (go_at_call 13; (with_reducible refine (rknown_any a _ h0).mono ?_); rw [Ka.out]; rintro e w' ⟨rfl, rfl⟩)
    go_ret
    exact ⟨rfl, rfl⟩

set_option maxHeartbeats 400000 in
theorem req_any (a b : Int) (w : World) (h0 : 0 ≤ a) (h1 : 0 ≤ b) :
    Calls Tryd.prog 27 #[.int .u8 a, .int .u8 b] w fun e w' => e = .returned (.int .u8 (mEq a b)) ∧ w' = w := by
  go_enter Tryd.func27, Tryd.ntmps27
  go_wp2_with (first
    | (go_at_call 25; refine (rxor_any _ _ _ h0 h1).mono ?_; rintro e w' ⟨rfl, rfl⟩)
    | (go_at_call 15; refine (rnot_any _ _).mono ?_; rintro e w' ⟨rfl, rfl⟩))
  go_ret
  exact ⟨rfl, rfl⟩

set_option maxHeartbeats 400000 in
theorem rsame_any (a b : Int) (w : World) :
    Calls Tryd.prog 29 #[.int .u8 a, .int .u8 b] w fun e w' => e = .returned (.bool (mSame a b)) ∧ w' = w := by
  go_enter Tryd.func29, Tryd.ntmps29
  go_wp2_with (go_at_call 40; refine (rnorm_any _ _).mono ?_; rintro e w' ⟨rfl, rfl⟩)
  go_ret
  exact ⟨rfl, rfl⟩

set_option maxHeartbeats 400000 in
theorem rleq_any (a b : Int) (w : World) (h0 : 0 ≤ a) (h1 : 0 ≤ b) :
    Calls Tryd.prog 31 #[.int .u8 a, .int .u8 b] w fun e w' => e = .returned (.bool (mLeq a b)) ∧ w' = w := by
  unfold mLeq
  cases hs : mSame a b <;> cases hk : mKnown a <;> have Hs := Lib.hid hs <;> have Hk := Lib.hid hk <;> clear hs hk
  all_goals
    go_enter Tryd.func31, Tryd.ntmps31
    go_wp2_with (first
      | (go_at_call 29; refine (rsame_any _ _ _).mono ?_; rw [Hs.out]; rintro e w' ⟨rfl, rfl⟩)
      | (go_at_call 13; (with_reducible refine (rknown_any a _ h0).mono ?_); rw [Hk.out]; rintro e w' ⟨rfl, rfl⟩)
      | (go_at_call 13; (with_reducible refine (rknown_any b _ h1).mono ?_); rintro e w' ⟨rfl, rfl⟩))
    go_ret
    exact ⟨rfl, rfl⟩

set_option maxHeartbeats 400000 in
theorem rfrom_any (v : Bool) (w : World) :
    Calls Tryd.prog 38 #[.bool v] w fun e w' => e = .returned (.int .u8 (mFrom v)) ∧ w' = w := by
  cases v
  all_goals
    go_enter Tryd.func38, Tryd.ntmps38
    go_wp2
    go_ret
    exact ⟨rfl, rfl⟩

set_option maxHeartbeats 400000 in
theorem rchar_any (a : Int) (w : World) (h0 : 0 ≤ a) :
    Calls Tryd.prog 19 #[.int .u8 a] w fun e w' => e = .returned (.int .u8 (mChar a)) ∧ w' = w := by
  rcases bst_4 a h0 with ⟨e1, e2⟩ | ⟨e1, e2⟩ | ⟨e1, e2⟩ | ⟨e1, e2⟩ <;> rw [e2] <;> have E := Lib.hid e1 <;> clear e1 e2
  all_goals
    go_enter Tryd.func19, Tryd.ntmps19
    go_wp2_with (go_at_call 40; refine (rnorm_any _ _).mono ?_; rw [E.out]; rintro e w' ⟨rfl, rfl⟩)
    go_ret
    exact ⟨rfl, rfl⟩

set_option maxHeartbeats 400000 in
theorem rparse_any (c : Int) (w : World) :
    Calls Tryd.prog 36 #[.int .u8 c] w fun e w' => e = .returned (.tuple #[.int .u8 (mParse c), .bool (mParsed c)]) ∧ w' = w := by
  rcases pcases c with rfl | rfl | rfl | rfl | rfl | rfl | rfl | h
  case inr.inr.inr.inr.inr.inr.inr =>
    rw [(parse_no h).1, (parse_no h).2]
    have h1 := beq_f h.1
    have h2 := beq_f h.2.1
    have h3 := beq_f h.2.2.1
    have h4 := beq_f h.2.2.2.1
    have h5 := beq_f h.2.2.2.2.1
    have h6 := beq_f h.2.2.2.2.2.1
    have h7 := beq_f h.2.2.2.2.2.2
    clear h
    go_enter Tryd.func36, Tryd.ntmps36
    go_wp2
    go_ret2
    exact ⟨rfl, rfl⟩
  all_goals
    go_enter Tryd.func36, Tryd.ntmps36
    go_wp2
    go_ret2
    exact ⟨rfl, rfl⟩

theorem mMux_1 (a b : Int) : mMux 1 a b = mBuf a := rfl
theorem mMux_0 (a b : Int) : mMux 0 a b = mBuf b := rfl
theorem mMux_x {s : Int} (a b : Int) (h : s ≠ 0 ∧ s ≠ 1) : mMux s a b = mAgree a b := by unfold mMux; rw [if_neg h.2, if_neg h.1]
theorem mAgree_k {a b : Int} (h : mKnown a = false ∨ a ≠ b) : mAgree a b = 2 := by
  unfold mKnown at h; unfold mAgree; rw [if_neg]; rintro ⟨x, y⟩; rcases h with h | h
  · exact of_decide_eq_false h x
  · exact h y
theorem mAgree_e {a : Int} (h0 : 0 ≤ a) (h : mKnown a = true) : mAgree a a = mBuf a := by
  unfold mKnown at h; have := of_decide_eq_true h; unfold mAgree mBuf; rw [if_pos ⟨this, rfl⟩]; (repeat' split) <;> omega

set_option maxHeartbeats 400000 in
theorem rmux_any (s a b : Int) (w : World) (h0 : 0 ≤ a) (h1 : 0 ≤ b) :
    Calls Tryd.prog 33 #[.int .u8 s, .int .u8 a, .int .u8 b] w fun e w' => e = .returned (.int .u8 (mMux s a b)) ∧ w' = w := by
  rcases bcases s with rfl | rfl | h
  · rw [mMux_0]
    go_enter Tryd.func33, Tryd.ntmps33
    go_wp2_with (go_at_call 17; refine (rbuf_any _ _ h1).mono ?_; rintro e w' ⟨rfl, rfl⟩)
    go_ret
    exact ⟨rfl, rfl⟩
  · rw [mMux_1]
    go_enter Tryd.func33, Tryd.ntmps33
    go_wp2_with (go_at_call 17; refine (rbuf_any _ _ h0).mono ?_; rintro e w' ⟨rfl, rfl⟩)
    go_ret
    exact ⟨rfl, rfl⟩
  · rw [mMux_x a b h]
    have s0 := beq_f h.1
    have s1 := beq_f h.2
    clear h
    by_cases ka : mKnown a = true
    · by_cases e : a = b
      · subst e
        rw [mAgree_e h0 ka]
        have Ka := Lib.hid ka
        clear ka
        go_enter Tryd.func33, Tryd.ntmps33
        go_wp2_with (first
          | (go_at_call 13; (with_reducible refine (rknown_any a _ h0).mono ?_); rw [Ka.out]; rintro e w' ⟨rfl, rfl⟩)
          | (go_at_call 17; refine (rbuf_any _ _ h0).mono ?_; rintro e w' ⟨rfl, rfl⟩))
        go_ret
        exact ⟨rfl, rfl⟩
      · rw [mAgree_k (.inr e)]
        have Ka := Lib.hid ka
        have e' := beq_f e
        clear ka e
        go_enter Tryd.func33, Tryd.ntmps33
        go_wp2_with (go_at_call 13; (with_reducible refine (rknown_any a _ h0).mono ?_); rw [Ka.out]; rintro e w' ⟨rfl, rfl⟩)
        go_ret
        exact ⟨rfl, rfl⟩
    · rw [mAgree_k (.inl (by simpa using ka))]
      have Ka := Lib.hid (show mKnown a = false by simpa using ka)
      clear ka
      go_enter Tryd.func33, Tryd.ntmps33
      go_wp2_with (go_at_call 13; (with_reducible refine (rknown_any a _ h0).mono ?_); rw [Ka.out]; rintro e w' ⟨rfl, rfl⟩)
      go_ret
      exact ⟨rfl, rfl⟩

end Go.Proofs.YtahonicpfcccjaaDoor
