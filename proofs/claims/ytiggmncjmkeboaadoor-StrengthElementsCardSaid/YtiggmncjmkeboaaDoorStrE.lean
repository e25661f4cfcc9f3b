/-
  The walk of StrengthElements.
-/
import Derived.Test.YtiggmncjmkeboaaDoorStrV
namespace Go.Proofs.YtiggmncjmkeboaaDoor
open Go.RowKit
set_option linter.unusedSimpArgs false

theorem gap1 (m k : Int) : cLo (m + 1) k ≤ cHi m k + 1 := by unfold cLo cHi mag; (repeat' split) <;> omega
theorem gap2 (m k : Int) : cLo m (k + 1) ≤ cHi m k + 1 := by unfold cLo cHi mag; (repeat' split) <;> omega
/-- Level n results from combining a level of the one with a level of the other. -/
def Hit (xl xh yl yh n : Int) : Prop := ∃ m k : Int, xl ≤ m ∧ m ≤ xh ∧ yl ≤ k ∧ k ≤ yh ∧ cLo m k ≤ n ∧ n ≤ cHi m k
theorem hit_m {xl xh yl yh n : Int} (hy : yl ≤ yh) (h : cLo xl yl ≤ n) : ∀ j : Nat, xl + j ≤ xh → n ≤ cHi (xl + j) yl → Hit xl xh yl yh n
  | 0, h1, h2 => ⟨xl, yl, by omega, by omega, by omega, by omega, h, by simpa using h2⟩
  | j + 1, h1, h2 => by
    by_cases h3 : n ≤ cHi (xl + j) yl
    · exact hit_m hy h j (by omega) h3
    · have g := gap1 (xl + j) yl
      have e : xl + ((j + 1 : Nat) : Int) = xl + j + 1 := by omega
      rw [e] at h2 h1
      exact ⟨xl + j + 1, yl, by omega, by omega, by omega, by omega, by omega, h2⟩
theorem hit_k {xl xh yl yh n : Int} (hx : xl ≤ xh) (hy : yl ≤ yh) (h : cLo xl yl ≤ n) : ∀ j : Nat, yl + j ≤ yh → n ≤ cHi xh (yl + j) → Hit xl xh yl yh n
  | 0, h1, h2 => hit_m hy h (xh - xl).toNat (by omega) (by rw [show xl + ((xh - xl).toNat : Int) = xh by omega]; simpa using h2)
  | j + 1, h1, h2 => by
    by_cases h3 : n ≤ cHi xh (yl + j)
    · exact hit_k hx hy h j (by omega) h3
    · have g := gap2 xh (yl + j)
      have e : yl + ((j + 1 : Nat) : Int) = yl + j + 1 := by omega
      rw [e] at h2 h1
      exact ⟨xh, yl + j + 1, by omega, by omega, by omega, by omega, by omega, h2⟩
theorem hit_iff {xl xh yl yh n : Int} (hx : xl ≤ xh) (hy : yl ≤ yh) : Hit xl xh yl yh n ↔ cLo xl yl ≤ n ∧ n ≤ cHi xh yh := by
  constructor
  · rintro ⟨m, k, h1, h2, h3, h4, h5, h6⟩
    have g1 := cLo_mono h1 h3
    have g2 := cHi_mono h2 h4
    omega
  · rintro ⟨h1, h2⟩
    exact hit_k hx hy h1 (yh - yl).toNat (by omega) (by rw [show yl + ((yh - yl).toNat : Int) = yh by omega]; exact h2)
/-- What has been found in the rows before m, and in row m before k. -/
def HitB (xl yl yh n m : Int) : Prop := ∃ m' k : Int, xl ≤ m' ∧ m' < m ∧ yl ≤ k ∧ k ≤ yh ∧ cLo m' k ≤ n ∧ n ≤ cHi m' k
def HitR (xl yl yh n m k : Int) : Prop := HitB xl yl yh n m ∨ ∃ k' : Int, yl ≤ k' ∧ k' < k ∧ cLo m k' ≤ n ∧ n ≤ cHi m k'
theorem hitB_0 (xl yl yh n : Int) : ¬ HitB xl yl yh n xl := by rintro ⟨m, k, h1, h2, -⟩; omega
theorem hitB_start (xl yl yh n : Int) : Hid (false = true ↔ HitB xl yl yh n xl) := ⟨(fun h => by cases h), fun h => (hitB_0 _ _ _ _ h).elim⟩
theorem hitR_0 (xl yl yh n m : Int) : HitR xl yl yh n m yl ↔ HitB xl yl yh n m := by
  constructor
  · rintro (h | ⟨k, h1, h2, -⟩)
    · exact h
    · omega
  · exact .inl
theorem hitR_row {xl yl yh n m : Int} (h : xl ≤ m) : HitR xl yl yh n m (yh + 1) ↔ HitB xl yl yh n (m + 1) := by
  constructor
  · rintro (⟨m', k, h1, h2, h3⟩ | ⟨k, h1, h2, h3⟩)
    · exact ⟨m', k, h1, by omega, h3⟩
    · exact ⟨m, k, h, by omega, h1, by omega, h3⟩
  · rintro ⟨m', k, h1, h2, h3, h4, h5⟩
    by_cases e : m' = m
    · subst e; exact .inr ⟨k, h3, by omega, h5⟩
    · exact .inl ⟨m', k, h1, by omega, h3, h4, h5⟩
theorem hitR_t {xl yl yh n m k : Int} (h : HitR xl yl yh n m k) : HitR xl yl yh n m (k + 1) := by
  rcases h with h | ⟨k', h1, h2, h3⟩
  · exact .inl h
  · exact .inr ⟨k', h1, by omega, h3⟩
theorem hitR_s {xl yl yh n m k : Int} (hk : yl ≤ k) (h : cLo m k ≤ n ∧ n ≤ cHi m k) : HitR xl yl yh n m (k + 1) := .inr ⟨k, hk, by omega, h⟩
theorem hitR_n {xl yl yh n m k : Int} (h : ¬ HitR xl yl yh n m k) (h2 : ¬ (cLo m k ≤ n ∧ n ≤ cHi m k)) : ¬ HitR xl yl yh n m (k + 1) := by
  rintro (h3 | ⟨k', h3, h4, h5⟩)
  · exact h (.inl h3)
  · by_cases e : k' = k
    · subst e; exact h2 h5
    · exact h (.inr ⟨k', h3, by omega, h5⟩)
theorem hitB_all {xl xh yl yh n : Int} : HitB xl yl yh n (xh + 1) ↔ Hit xl xh yl yh n := by
  constructor
  · rintro ⟨m, k, h1, h2, h3⟩; exact ⟨m, k, h1, by omega, h3⟩
  · rintro ⟨m, k, h1, h2, h3⟩; exact ⟨m, k, h1, by omega, h3⟩

/-- The world inside the loops: the two intervals and their combination. -/
def ElW (w : World) (N M L : Nat) (xl xh yl yh al ah : Int) (wr : World) : Prop := Below w.heap.size w wr ∧ At2 N xl xh wr ∧ At2 M yl yh wr ∧ At2 L al ah wr
theorem ElW.below {w wr w2 : World} {N M L : Nat} {xl xh yl yh al ah : Int} (h : ElW w N M L xl xh yl yh al ah wr) (hb : Below wr.heap.size wr w2) : ElW w N M L xl xh yl yh al ah w2 :=
  ⟨h.1.trans (hb.mono h.1.size), h.2.1.below hb, h.2.2.1.below hb, h.2.2.2.below hb⟩

set_option maxRecDepth 100000 in
set_option maxHeartbeats 8000000 in
theorem StrengthElements_walk (a b c d : Int) (w : World) (hN : Names w) : Calls Tryd.prog 7 #[iv a b, iv c d] w (Mk (.bool true) w) := by
  have HN := hide hN
  clear hN
  go_enter Tryd.func7, Tryd.ntmps7
  go_upto_region 1 with fail
  have k1 : At2 w.heap.size a b ((w.alloc (.cells #[.int .i8 a, .int .i8 b] 34)).alloc (.cells #[.int .i8 c, .int .i8 d] 34)) := (At2.new w a b _).alloc _
  have k2 : At2 (w.heap.size + 1) c d ((w.alloc (.cells #[.int .i8 a, .int .i8 b] 34)).alloc (.cells #[.int .i8 c, .int .i8 d] 34)) := by
    have := At2.new (w.alloc (.cells #[.int .i8 a, .int .i8 b] 34)) c d 34
    rwa [show (w.alloc (.cells #[.int .i8 a, .int .i8 b] 34)).heap.size = w.heap.size + 1 by simp] at this
  have hB : Below w.heap.size w ((w.alloc (.cells #[.int .i8 a, .int .i8 b] 34)).alloc (.cells #[.int .i8 c, .int .i8 d] 34)) := by (repeat (first | exact Below.refl _ _ | assumption | refine Below.setCell ?_ (by first | (simp; done) | (simp; omega) | omega) _ | refine Below.alloc ?_ (by first | (simp; done) | (simp; omega) | omega) _ | refine below_drewN ?_ _ | refine Below.drew ?_))
  generalize hW1 : (w.alloc (.cells #[.int .i8 a, .int .i8 b] 34)).alloc (.cells #[.int .i8 c, .int .i8 d] 34) = W1 at *
  clear hW1
  have k1' := hide k1
  have k2' := hide k2
  clear k1 k2
  go_cut [5, 6] (Two W1 (nLo a b) (nHi a b) (nLo c d) (nHi c d))
  case first =>
    obtain ⟨k11, k12, k13⟩ := k1'.out
    obtain ⟨k21, k22, k23⟩ := k2'.out
    refine region_anyT (S := fun w1 => Below W1.heap.size W1 w1) (n := 6) (by kernel_rfl) (Below.refl _ _).drew (fun hS inv => ?_)
    refine anyT_take (i := 0) (oi := _) (v := .agg #[.int .i8 (a), .int .i8 (b)]) rfl (by kernel_rfl) (by kernel_rfl) (by kernel_rfl) (by decide) (by decide) (by kernel_rfl) (by kernel_rfl) inv (fun _ _ _ h => h) (Or.inl ⟨by rfl, ?_⟩) hS (fun inv => ?_)
    · intro wz hSw
      have hk1 := (hSw : Below _ _ _).cell (p := ⟨w.heap.size, 0, none⟩) (by first | assumption | (simp; done) | (simp; omega)); have hk2 := (hSw : Below _ _ _).cell (p := ⟨w.heap.size, 1, none⟩) (by first | assumption | (simp; done) | (simp; omega)); go_simp
    (try simp only [Act.put, List.setIfInBounds_toArray, List.set_cons_zero, List.set_cons_succ])
    refine anyT_take (i := 2) (oi := _) (v := .agg #[.int .i8 (c), .int .i8 (d)]) rfl (by kernel_rfl) (by kernel_rfl) (by kernel_rfl) (by decide) (by decide) (by kernel_rfl) (by kernel_rfl) inv (fun _ _ _ h => h) (Or.inl ⟨by rfl, ?_⟩) hS (fun inv => ?_)
    · intro wz hSw
      have hk1 := (hSw : Below _ _ _).cell (p := ⟨w.heap.size + 1, 0, none⟩) (by first | assumption | (simp; done) | (simp; omega)); have hk2 := (hSw : Below _ _ _).cell (p := ⟨w.heap.size + 1, 1, none⟩) (by first | assumption | (simp; done) | (simp; omega)); go_simp
    (try simp only [Act.put, List.setIfInBounds_toArray, List.set_cons_zero, List.set_cons_succ])
    have hzd : W1.heap.size ≤ W1.drew.heap.size := Nat.le_refl _
    generalize hdr : W1.drew = D0 at *
    clear hdr
    refine anyT_ready (rs := [1, 4, 5]) (by kernel_rfl) (by simp) ?_
    refine ReadyT.head (o := _) rfl (by decide) (by kernel_rfl) inv (fun K hK => ?_) ?_
    · go_simp
      refine (norm_any a b _).mono ?_
      rintro e D1 ⟨rfl, hb⟩
      go_wp2_with fail
      refine hK.out _ _ ?_ (fun hS inv => ?_)
      · exact (hS : Below W1.heap.size W1 _).trans (hb.mono (Below.size hS))
      clear hK K
      (try simp only [Act.put, List.setIfInBounds_toArray, List.set_cons_zero, List.set_cons_succ])
      have hz0 : D0.heap.size ≤ D1.heap.size := hb.size
      clear hb
      refine anyT_ready (rs := [3, 4, 5]) (by kernel_rfl) (by simp) ?_
      refine ReadyT.head (o := _) rfl (by decide) (by kernel_rfl) inv (fun K hK => ?_) ?_
      · go_simp
        refine (norm_any c d _).mono ?_
        rintro e D2 ⟨rfl, hb⟩
        go_wp2_with fail
        refine hK.out _ _ ?_ (fun hS inv => ?_)
        · exact (hS : Below W1.heap.size W1 _).trans (hb.mono (Below.size hS))
        clear hK K
        (try simp only [Act.put, List.setIfInBounds_toArray, List.set_cons_zero, List.set_cons_succ])
        have hz1 : D1.heap.size ≤ D2.heap.size := hb.size
        clear hb
        refine anyT_ready (rs := [4, 5]) (by kernel_rfl) (by simp) ?_
        refine ReadyT.head (o := _) rfl (by decide) (by kernel_rfl) inv (fun K hK => ?_) ?_
        · go_simp
          refine hK.out _ _ ?_ (fun hS inv => ?_)
          · exact (hS : Below W1.heap.size W1 _).alloc (Below.size hS) _
          clear hK K
          (try simp only [Act.put, List.setIfInBounds_toArray, List.set_cons_zero, List.set_cons_succ])
          have e4 := hide (blk_new D2 (.cells #[.int .i8 0, .int .i8 0] 29))
          have hz2 : D2.heap.size < (D2.alloc (.cells #[.int .i8 0, .int .i8 0] 29)).heap.size := by simp
          generalize hdr : D2.alloc (.cells #[.int .i8 0, .int .i8 0] 29) = D3 at *
          clear hdr
          refine anyT_ready (rs := [5]) (by kernel_rfl) (by simp) ?_
          refine ReadyT.head (o := _) rfl (by decide) (by kernel_rfl) inv (fun K hK => ?_) ReadyT.nil
          go_simp
          refine hK.out _ _ ?_ (fun hS inv => ?_)
          · exact (hS : Below W1.heap.size W1 _).alloc (Below.size hS) _
          clear hK K
          (try simp only [Act.put, List.setIfInBounds_toArray, List.set_cons_zero, List.set_cons_succ])
          have e5 := hide (blk_new D3 (.cells #[.int .i8 0, .int .i8 0] 29))
          replace e4 := hide (blk_alloc (x := (.cells #[.int .i8 0, .int .i8 0] 29)) e4.out)
          have hz3 : D3.heap.size < (D3.alloc (.cells #[.int .i8 0, .int .i8 0] 29)).heap.size := by simp
          generalize hdr : D3.alloc (.cells #[.int .i8 0, .int .i8 0] 29) = D4 at *
          clear hdr
          obtain ⟨q1, q2, q3, q4, q5⟩ := blk2 e4.out
          obtain ⟨r1, r2, r3, r4, r5⟩ := blk2 e5.out
          have ne1 : D2.heap.size ≠ D3.heap.size := by omega
          have ne2 : D3.heap.size ≠ D2.heap.size := by omega
          refine anyT_ready (rs := [6]) (by kernel_rfl) (by simp) ?_
          refine ReadyT.tail (o := _) rfl (by decide) (fun K hK => ?_)
          go_simp
          refine hK.out _ _ ?_
          clear hK K
          (try simp only [Act.put, List.setIfInBounds_toArray, List.set_cons_zero, List.set_cons_succ])
          refine anyT_ready (rs := [7]) (by kernel_rfl) (by simp) ?_
          refine ReadyT.tail (o := _) rfl (by decide) (fun K hK => ?_)
          go_simp
          refine hK.out _ _ ?_
          clear hK K
          (try simp only [Act.put, List.setIfInBounds_toArray, List.set_cons_zero, List.set_cons_succ])
          refine anyT_done (by kernel_rfl) ?_ _
          go_wp2_with fail
          go_meet
          exact ⟨D2.heap.size, D3.heap.size, rfl, rfl, (((Below.setCell hS (by simp; omega) _).setCell (by simp; omega) _).setCell (by simp; omega) _).setCell (by simp; omega) _, At2.of_heap (blk_far (blk_far (blk2_set e4.out) ne1) ne1), At2.of_heap (blk2_set (blk_far (blk_far e5.out ne2) ne2))⟩
        refine ReadyT.head (o := _) rfl (by decide) (by kernel_rfl) inv (fun K hK => ?_) ReadyT.nil
        go_simp
        refine hK.out _ _ ?_ (fun hS inv => ?_)
        · exact (hS : Below W1.heap.size W1 _).alloc (Below.size hS) _
        clear hK K
        (try simp only [Act.put, List.setIfInBounds_toArray, List.set_cons_zero, List.set_cons_succ])
        have e5 := hide (blk_new D2 (.cells #[.int .i8 0, .int .i8 0] 29))
        have hz2 : D2.heap.size < (D2.alloc (.cells #[.int .i8 0, .int .i8 0] 29)).heap.size := by simp
        generalize hdr : D2.alloc (.cells #[.int .i8 0, .int .i8 0] 29) = D3 at *
        clear hdr
        refine anyT_ready (rs := [4]) (by kernel_rfl) (by simp) ?_
        refine ReadyT.head (o := _) rfl (by decide) (by kernel_rfl) inv (fun K hK => ?_) ReadyT.nil
        go_simp
        refine hK.out _ _ ?_ (fun hS inv => ?_)
        · exact (hS : Below W1.heap.size W1 _).alloc (Below.size hS) _
        clear hK K
        (try simp only [Act.put, List.setIfInBounds_toArray, List.set_cons_zero, List.set_cons_succ])
        have e4 := hide (blk_new D3 (.cells #[.int .i8 0, .int .i8 0] 29))
        replace e5 := hide (blk_alloc (x := (.cells #[.int .i8 0, .int .i8 0] 29)) e5.out)
        have hz3 : D3.heap.size < (D3.alloc (.cells #[.int .i8 0, .int .i8 0] 29)).heap.size := by simp
        generalize hdr : D3.alloc (.cells #[.int .i8 0, .int .i8 0] 29) = D4 at *
        clear hdr
        obtain ⟨q1, q2, q3, q4, q5⟩ := blk2 e4.out
        obtain ⟨r1, r2, r3, r4, r5⟩ := blk2 e5.out
        have ne1 : D3.heap.size ≠ D2.heap.size := by omega
        have ne2 : D2.heap.size ≠ D3.heap.size := by omega
        refine anyT_ready (rs := [6]) (by kernel_rfl) (by simp) ?_
        refine ReadyT.tail (o := _) rfl (by decide) (fun K hK => ?_)
        go_simp
        refine hK.out _ _ ?_
        clear hK K
        (try simp only [Act.put, List.setIfInBounds_toArray, List.set_cons_zero, List.set_cons_succ])
        refine anyT_ready (rs := [7]) (by kernel_rfl) (by simp) ?_
        refine ReadyT.tail (o := _) rfl (by decide) (fun K hK => ?_)
        go_simp
        refine hK.out _ _ ?_
        clear hK K
        (try simp only [Act.put, List.setIfInBounds_toArray, List.set_cons_zero, List.set_cons_succ])
        refine anyT_done (by kernel_rfl) ?_ _
        go_wp2_with fail
        go_meet
        exact ⟨D3.heap.size, D2.heap.size, rfl, rfl, (((Below.setCell hS (by simp; omega) _).setCell (by simp; omega) _).setCell (by simp; omega) _).setCell (by simp; omega) _, At2.of_heap (blk_far (blk_far (blk2_set e4.out) ne1) ne1), At2.of_heap (blk2_set (blk_far (blk_far e5.out ne2) ne2))⟩
      refine ReadyT.head (o := _) rfl (by decide) (by kernel_rfl) inv (fun K hK => ?_) ?_
      · go_simp
        refine hK.out _ _ ?_ (fun hS inv => ?_)
        · exact (hS : Below W1.heap.size W1 _).alloc (Below.size hS) _
        clear hK K
        (try simp only [Act.put, List.setIfInBounds_toArray, List.set_cons_zero, List.set_cons_succ])
        have e4 := hide (blk_new D1 (.cells #[.int .i8 0, .int .i8 0] 29))
        have hz1 : D1.heap.size < (D1.alloc (.cells #[.int .i8 0, .int .i8 0] 29)).heap.size := by simp
        generalize hdr : D1.alloc (.cells #[.int .i8 0, .int .i8 0] 29) = D2 at *
        clear hdr
        refine anyT_ready (rs := [3, 5]) (by kernel_rfl) (by simp) ?_
        refine ReadyT.head (o := _) rfl (by decide) (by kernel_rfl) inv (fun K hK => ?_) ?_
        · go_simp
          refine (norm_any c d _).mono ?_
          rintro e D3 ⟨rfl, hb⟩
          go_wp2_with fail
          refine hK.out _ _ ?_ (fun hS inv => ?_)
          · exact (hS : Below W1.heap.size W1 _).trans (hb.mono (Below.size hS))
          clear hK K
          (try simp only [Act.put, List.setIfInBounds_toArray, List.set_cons_zero, List.set_cons_succ])
          have hz2 : D2.heap.size ≤ D3.heap.size := hb.size
          replace e4 := hide (blk_keep e4.out hb)
          clear hb
          refine anyT_ready (rs := [5]) (by kernel_rfl) (by simp) ?_
          refine ReadyT.head (o := _) rfl (by decide) (by kernel_rfl) inv (fun K hK => ?_) ReadyT.nil
          go_simp
          refine hK.out _ _ ?_ (fun hS inv => ?_)
          · exact (hS : Below W1.heap.size W1 _).alloc (Below.size hS) _
          clear hK K
          (try simp only [Act.put, List.setIfInBounds_toArray, List.set_cons_zero, List.set_cons_succ])
          have e5 := hide (blk_new D3 (.cells #[.int .i8 0, .int .i8 0] 29))
          replace e4 := hide (blk_alloc (x := (.cells #[.int .i8 0, .int .i8 0] 29)) e4.out)
          have hz3 : D3.heap.size < (D3.alloc (.cells #[.int .i8 0, .int .i8 0] 29)).heap.size := by simp
          generalize hdr : D3.alloc (.cells #[.int .i8 0, .int .i8 0] 29) = D4 at *
          clear hdr
          obtain ⟨q1, q2, q3, q4, q5⟩ := blk2 e4.out
          obtain ⟨r1, r2, r3, r4, r5⟩ := blk2 e5.out
          have ne1 : D1.heap.size ≠ D3.heap.size := by omega
          have ne2 : D3.heap.size ≠ D1.heap.size := by omega
          refine anyT_ready (rs := [6]) (by kernel_rfl) (by simp) ?_
          refine ReadyT.tail (o := _) rfl (by decide) (fun K hK => ?_)
          go_simp
          refine hK.out _ _ ?_
          clear hK K
          (try simp only [Act.put, List.setIfInBounds_toArray, List.set_cons_zero, List.set_cons_succ])
          refine anyT_ready (rs := [7]) (by kernel_rfl) (by simp) ?_
          refine ReadyT.tail (o := _) rfl (by decide) (fun K hK => ?_)
          go_simp
          refine hK.out _ _ ?_
          clear hK K
          (try simp only [Act.put, List.setIfInBounds_toArray, List.set_cons_zero, List.set_cons_succ])
          refine anyT_done (by kernel_rfl) ?_ _
          go_wp2_with fail
          go_meet
          exact ⟨D1.heap.size, D3.heap.size, rfl, rfl, (((Below.setCell hS (by simp; omega) _).setCell (by simp; omega) _).setCell (by simp; omega) _).setCell (by simp; omega) _, At2.of_heap (blk_far (blk_far (blk2_set e4.out) ne1) ne1), At2.of_heap (blk2_set (blk_far (blk_far e5.out ne2) ne2))⟩
        refine ReadyT.head (o := _) rfl (by decide) (by kernel_rfl) inv (fun K hK => ?_) ReadyT.nil
        go_simp
        refine hK.out _ _ ?_ (fun hS inv => ?_)
        · exact (hS : Below W1.heap.size W1 _).alloc (Below.size hS) _
        clear hK K
        (try simp only [Act.put, List.setIfInBounds_toArray, List.set_cons_zero, List.set_cons_succ])
        have e5 := hide (blk_new D2 (.cells #[.int .i8 0, .int .i8 0] 29))
        replace e4 := hide (blk_alloc (x := (.cells #[.int .i8 0, .int .i8 0] 29)) e4.out)
        have hz2 : D2.heap.size < (D2.alloc (.cells #[.int .i8 0, .int .i8 0] 29)).heap.size := by simp
        generalize hdr : D2.alloc (.cells #[.int .i8 0, .int .i8 0] 29) = D3 at *
        clear hdr
        refine anyT_ready (rs := [3]) (by kernel_rfl) (by simp) ?_
        refine ReadyT.head (o := _) rfl (by decide) (by kernel_rfl) inv (fun K hK => ?_) ReadyT.nil
        go_simp
        refine (norm_any c d _).mono ?_
        rintro e D4 ⟨rfl, hb⟩
        go_wp2_with fail
        refine hK.out _ _ ?_ (fun hS inv => ?_)
        · exact (hS : Below W1.heap.size W1 _).trans (hb.mono (Below.size hS))
        clear hK K
        (try simp only [Act.put, List.setIfInBounds_toArray, List.set_cons_zero, List.set_cons_succ])
        have hz3 : D3.heap.size ≤ D4.heap.size := hb.size
        replace e4 := hide (blk_keep e4.out hb)
        replace e5 := hide (blk_keep e5.out hb)
        clear hb
        obtain ⟨q1, q2, q3, q4, q5⟩ := blk2 e4.out
        obtain ⟨r1, r2, r3, r4, r5⟩ := blk2 e5.out
        have ne1 : D1.heap.size ≠ D2.heap.size := by omega
        have ne2 : D2.heap.size ≠ D1.heap.size := by omega
        refine anyT_ready (rs := [6]) (by kernel_rfl) (by simp) ?_
        refine ReadyT.tail (o := _) rfl (by decide) (fun K hK => ?_)
        go_simp
        refine hK.out _ _ ?_
        clear hK K
        (try simp only [Act.put, List.setIfInBounds_toArray, List.set_cons_zero, List.set_cons_succ])
        refine anyT_ready (rs := [7]) (by kernel_rfl) (by simp) ?_
        refine ReadyT.tail (o := _) rfl (by decide) (fun K hK => ?_)
        go_simp
        refine hK.out _ _ ?_
        clear hK K
        (try simp only [Act.put, List.setIfInBounds_toArray, List.set_cons_zero, List.set_cons_succ])
        refine anyT_done (by kernel_rfl) ?_ _
        go_wp2_with fail
        go_meet
        exact ⟨D1.heap.size, D2.heap.size, rfl, rfl, (((Below.setCell hS (by simp; omega) _).setCell (by simp; omega) _).setCell (by simp; omega) _).setCell (by simp; omega) _, At2.of_heap (blk_far (blk_far (blk2_set e4.out) ne1) ne1), At2.of_heap (blk2_set (blk_far (blk_far e5.out ne2) ne2))⟩
      refine ReadyT.head (o := _) rfl (by decide) (by kernel_rfl) inv (fun K hK => ?_) ReadyT.nil
      go_simp
      refine hK.out _ _ ?_ (fun hS inv => ?_)
      · exact (hS : Below W1.heap.size W1 _).alloc (Below.size hS) _
      clear hK K
      (try simp only [Act.put, List.setIfInBounds_toArray, List.set_cons_zero, List.set_cons_succ])
      have e5 := hide (blk_new D1 (.cells #[.int .i8 0, .int .i8 0] 29))
      have hz1 : D1.heap.size < (D1.alloc (.cells #[.int .i8 0, .int .i8 0] 29)).heap.size := by simp
      generalize hdr : D1.alloc (.cells #[.int .i8 0, .int .i8 0] 29) = D2 at *
      clear hdr
      refine anyT_ready (rs := [3, 4]) (by kernel_rfl) (by simp) ?_
      refine ReadyT.head (o := _) rfl (by decide) (by kernel_rfl) inv (fun K hK => ?_) ?_
      · go_simp
        refine (norm_any c d _).mono ?_
        rintro e D3 ⟨rfl, hb⟩
        go_wp2_with fail
        refine hK.out _ _ ?_ (fun hS inv => ?_)
        · exact (hS : Below W1.heap.size W1 _).trans (hb.mono (Below.size hS))
        clear hK K
        (try simp only [Act.put, List.setIfInBounds_toArray, List.set_cons_zero, List.set_cons_succ])
        have hz2 : D2.heap.size ≤ D3.heap.size := hb.size
        replace e5 := hide (blk_keep e5.out hb)
        clear hb
        refine anyT_ready (rs := [4]) (by kernel_rfl) (by simp) ?_
        refine ReadyT.head (o := _) rfl (by decide) (by kernel_rfl) inv (fun K hK => ?_) ReadyT.nil
        go_simp
        refine hK.out _ _ ?_ (fun hS inv => ?_)
        · exact (hS : Below W1.heap.size W1 _).alloc (Below.size hS) _
        clear hK K
        (try simp only [Act.put, List.setIfInBounds_toArray, List.set_cons_zero, List.set_cons_succ])
        have e4 := hide (blk_new D3 (.cells #[.int .i8 0, .int .i8 0] 29))
        replace e5 := hide (blk_alloc (x := (.cells #[.int .i8 0, .int .i8 0] 29)) e5.out)
        have hz3 : D3.heap.size < (D3.alloc (.cells #[.int .i8 0, .int .i8 0] 29)).heap.size := by simp
        generalize hdr : D3.alloc (.cells #[.int .i8 0, .int .i8 0] 29) = D4 at *
        clear hdr
        obtain ⟨q1, q2, q3, q4, q5⟩ := blk2 e4.out
        obtain ⟨r1, r2, r3, r4, r5⟩ := blk2 e5.out
        have ne1 : D3.heap.size ≠ D1.heap.size := by omega
        have ne2 : D1.heap.size ≠ D3.heap.size := by omega
        refine anyT_ready (rs := [6]) (by kernel_rfl) (by simp) ?_
        refine ReadyT.tail (o := _) rfl (by decide) (fun K hK => ?_)
        go_simp
        refine hK.out _ _ ?_
        clear hK K
        (try simp only [Act.put, List.setIfInBounds_toArray, List.set_cons_zero, List.set_cons_succ])
        refine anyT_ready (rs := [7]) (by kernel_rfl) (by simp) ?_
        refine ReadyT.tail (o := _) rfl (by decide) (fun K hK => ?_)
        go_simp
        refine hK.out _ _ ?_
        clear hK K
        (try simp only [Act.put, List.setIfInBounds_toArray, List.set_cons_zero, List.set_cons_succ])
        refine anyT_done (by kernel_rfl) ?_ _
        go_wp2_with fail
        go_meet
        exact ⟨D3.heap.size, D1.heap.size, rfl, rfl, (((Below.setCell hS (by simp; omega) _).setCell (by simp; omega) _).setCell (by simp; omega) _).setCell (by simp; omega) _, At2.of_heap (blk_far (blk_far (blk2_set e4.out) ne1) ne1), At2.of_heap (blk2_set (blk_far (blk_far e5.out ne2) ne2))⟩
      refine ReadyT.head (o := _) rfl (by decide) (by kernel_rfl) inv (fun K hK => ?_) ReadyT.nil
      go_simp
      refine hK.out _ _ ?_ (fun hS inv => ?_)
      · exact (hS : Below W1.heap.size W1 _).alloc (Below.size hS) _
      clear hK K
      (try simp only [Act.put, List.setIfInBounds_toArray, List.set_cons_zero, List.set_cons_succ])
      have e4 := hide (blk_new D2 (.cells #[.int .i8 0, .int .i8 0] 29))
      replace e5 := hide (blk_alloc (x := (.cells #[.int .i8 0, .int .i8 0] 29)) e5.out)
      have hz2 : D2.heap.size < (D2.alloc (.cells #[.int .i8 0, .int .i8 0] 29)).heap.size := by simp
      generalize hdr : D2.alloc (.cells #[.int .i8 0, .int .i8 0] 29) = D3 at *
      clear hdr
      refine anyT_ready (rs := [3]) (by kernel_rfl) (by simp) ?_
      refine ReadyT.head (o := _) rfl (by decide) (by kernel_rfl) inv (fun K hK => ?_) ReadyT.nil
      go_simp
      refine (norm_any c d _).mono ?_
      rintro e D4 ⟨rfl, hb⟩
      go_wp2_with fail
      refine hK.out _ _ ?_ (fun hS inv => ?_)
      · exact (hS : Below W1.heap.size W1 _).trans (hb.mono (Below.size hS))
      clear hK K
      (try simp only [Act.put, List.setIfInBounds_toArray, List.set_cons_zero, List.set_cons_succ])
      have hz3 : D3.heap.size ≤ D4.heap.size := hb.size
      replace e4 := hide (blk_keep e4.out hb)
      replace e5 := hide (blk_keep e5.out hb)
      clear hb
      obtain ⟨q1, q2, q3, q4, q5⟩ := blk2 e4.out
      obtain ⟨r1, r2, r3, r4, r5⟩ := blk2 e5.out
      have ne1 : D2.heap.size ≠ D1.heap.size := by omega
      have ne2 : D1.heap.size ≠ D2.heap.size := by omega
      refine anyT_ready (rs := [6]) (by kernel_rfl) (by simp) ?_
      refine ReadyT.tail (o := _) rfl (by decide) (fun K hK => ?_)
      go_simp
      refine hK.out _ _ ?_
      clear hK K
      (try simp only [Act.put, List.setIfInBounds_toArray, List.set_cons_zero, List.set_cons_succ])
      refine anyT_ready (rs := [7]) (by kernel_rfl) (by simp) ?_
      refine ReadyT.tail (o := _) rfl (by decide) (fun K hK => ?_)
      go_simp
      refine hK.out _ _ ?_
      clear hK K
      (try simp only [Act.put, List.setIfInBounds_toArray, List.set_cons_zero, List.set_cons_succ])
      refine anyT_done (by kernel_rfl) ?_ _
      go_wp2_with fail
      go_meet
      exact ⟨D2.heap.size, D1.heap.size, rfl, rfl, (((Below.setCell hS (by simp; omega) _).setCell (by simp; omega) _).setCell (by simp; omega) _).setCell (by simp; omega) _, At2.of_heap (blk_far (blk_far (blk2_set e4.out) ne1) ne1), At2.of_heap (blk2_set (blk_far (blk_far e5.out ne2) ne2))⟩
    refine ReadyT.head (o := _) rfl (by decide) (by kernel_rfl) inv (fun K hK => ?_) ?_
    · go_simp
      refine hK.out _ _ ?_ (fun hS inv => ?_)
      · exact (hS : Below W1.heap.size W1 _).alloc (Below.size hS) _
      clear hK K
      (try simp only [Act.put, List.setIfInBounds_toArray, List.set_cons_zero, List.set_cons_succ])
      have e4 := hide (blk_new D0 (.cells #[.int .i8 0, .int .i8 0] 29))
      have hz0 : D0.heap.size < (D0.alloc (.cells #[.int .i8 0, .int .i8 0] 29)).heap.size := by simp
      generalize hdr : D0.alloc (.cells #[.int .i8 0, .int .i8 0] 29) = D1 at *
      clear hdr
      refine anyT_ready (rs := [1, 5]) (by kernel_rfl) (by simp) ?_
      refine ReadyT.head (o := _) rfl (by decide) (by kernel_rfl) inv (fun K hK => ?_) ?_
      · go_simp
        refine (norm_any a b _).mono ?_
        rintro e D2 ⟨rfl, hb⟩
        go_wp2_with fail
        refine hK.out _ _ ?_ (fun hS inv => ?_)
        · exact (hS : Below W1.heap.size W1 _).trans (hb.mono (Below.size hS))
        clear hK K
        (try simp only [Act.put, List.setIfInBounds_toArray, List.set_cons_zero, List.set_cons_succ])
        have hz1 : D1.heap.size ≤ D2.heap.size := hb.size
        replace e4 := hide (blk_keep e4.out hb)
        clear hb
        refine anyT_ready (rs := [3, 5]) (by kernel_rfl) (by simp) ?_
        refine ReadyT.head (o := _) rfl (by decide) (by kernel_rfl) inv (fun K hK => ?_) ?_
        · go_simp
          refine (norm_any c d _).mono ?_
          rintro e D3 ⟨rfl, hb⟩
          go_wp2_with fail
          refine hK.out _ _ ?_ (fun hS inv => ?_)
          · exact (hS : Below W1.heap.size W1 _).trans (hb.mono (Below.size hS))
          clear hK K
          (try simp only [Act.put, List.setIfInBounds_toArray, List.set_cons_zero, List.set_cons_succ])
          have hz2 : D2.heap.size ≤ D3.heap.size := hb.size
          replace e4 := hide (blk_keep e4.out hb)
          clear hb
          refine anyT_ready (rs := [5]) (by kernel_rfl) (by simp) ?_
          refine ReadyT.head (o := _) rfl (by decide) (by kernel_rfl) inv (fun K hK => ?_) ReadyT.nil
          go_simp
          refine hK.out _ _ ?_ (fun hS inv => ?_)
          · exact (hS : Below W1.heap.size W1 _).alloc (Below.size hS) _
          clear hK K
          (try simp only [Act.put, List.setIfInBounds_toArray, List.set_cons_zero, List.set_cons_succ])
          have e5 := hide (blk_new D3 (.cells #[.int .i8 0, .int .i8 0] 29))
          replace e4 := hide (blk_alloc (x := (.cells #[.int .i8 0, .int .i8 0] 29)) e4.out)
          have hz3 : D3.heap.size < (D3.alloc (.cells #[.int .i8 0, .int .i8 0] 29)).heap.size := by simp
          generalize hdr : D3.alloc (.cells #[.int .i8 0, .int .i8 0] 29) = D4 at *
          clear hdr
          obtain ⟨q1, q2, q3, q4, q5⟩ := blk2 e4.out
          obtain ⟨r1, r2, r3, r4, r5⟩ := blk2 e5.out
          have ne1 : D0.heap.size ≠ D3.heap.size := by omega
          have ne2 : D3.heap.size ≠ D0.heap.size := by omega
          refine anyT_ready (rs := [6]) (by kernel_rfl) (by simp) ?_
          refine ReadyT.tail (o := _) rfl (by decide) (fun K hK => ?_)
          go_simp
          refine hK.out _ _ ?_
          clear hK K
          (try simp only [Act.put, List.setIfInBounds_toArray, List.set_cons_zero, List.set_cons_succ])
          refine anyT_ready (rs := [7]) (by kernel_rfl) (by simp) ?_
          refine ReadyT.tail (o := _) rfl (by decide) (fun K hK => ?_)
          go_simp
          refine hK.out _ _ ?_
          clear hK K
          (try simp only [Act.put, List.setIfInBounds_toArray, List.set_cons_zero, List.set_cons_succ])
          refine anyT_done (by kernel_rfl) ?_ _
          go_wp2_with fail
          go_meet
          exact ⟨D0.heap.size, D3.heap.size, rfl, rfl, (((Below.setCell hS (by simp; omega) _).setCell (by simp; omega) _).setCell (by simp; omega) _).setCell (by simp; omega) _, At2.of_heap (blk_far (blk_far (blk2_set e4.out) ne1) ne1), At2.of_heap (blk2_set (blk_far (blk_far e5.out ne2) ne2))⟩
        refine ReadyT.head (o := _) rfl (by decide) (by kernel_rfl) inv (fun K hK => ?_) ReadyT.nil
        go_simp
        refine hK.out _ _ ?_ (fun hS inv => ?_)
        · exact (hS : Below W1.heap.size W1 _).alloc (Below.size hS) _
        clear hK K
        (try simp only [Act.put, List.setIfInBounds_toArray, List.set_cons_zero, List.set_cons_succ])
        have e5 := hide (blk_new D2 (.cells #[.int .i8 0, .int .i8 0] 29))
        replace e4 := hide (blk_alloc (x := (.cells #[.int .i8 0, .int .i8 0] 29)) e4.out)
        have hz2 : D2.heap.size < (D2.alloc (.cells #[.int .i8 0, .int .i8 0] 29)).heap.size := by simp
        generalize hdr : D2.alloc (.cells #[.int .i8 0, .int .i8 0] 29) = D3 at *
        clear hdr
        refine anyT_ready (rs := [3]) (by kernel_rfl) (by simp) ?_
        refine ReadyT.head (o := _) rfl (by decide) (by kernel_rfl) inv (fun K hK => ?_) ReadyT.nil
        go_simp
        refine (norm_any c d _).mono ?_
        rintro e D4 ⟨rfl, hb⟩
        go_wp2_with fail
        refine hK.out _ _ ?_ (fun hS inv => ?_)
        · exact (hS : Below W1.heap.size W1 _).trans (hb.mono (Below.size hS))
        clear hK K
        (try simp only [Act.put, List.setIfInBounds_toArray, List.set_cons_zero, List.set_cons_succ])
        have hz3 : D3.heap.size ≤ D4.heap.size := hb.size
        replace e4 := hide (blk_keep e4.out hb)
        replace e5 := hide (blk_keep e5.out hb)
        clear hb
        obtain ⟨q1, q2, q3, q4, q5⟩ := blk2 e4.out
        obtain ⟨r1, r2, r3, r4, r5⟩ := blk2 e5.out
        have ne1 : D0.heap.size ≠ D2.heap.size := by omega
        have ne2 : D2.heap.size ≠ D0.heap.size := by omega
        refine anyT_ready (rs := [6]) (by kernel_rfl) (by simp) ?_
        refine ReadyT.tail (o := _) rfl (by decide) (fun K hK => ?_)
        go_simp
        refine hK.out _ _ ?_
        clear hK K
        (try simp only [Act.put, List.setIfInBounds_toArray, List.set_cons_zero, List.set_cons_succ])
        refine anyT_ready (rs := [7]) (by kernel_rfl) (by simp) ?_
        refine ReadyT.tail (o := _) rfl (by decide) (fun K hK => ?_)
        go_simp
        refine hK.out _ _ ?_
        clear hK K
        (try simp only [Act.put, List.setIfInBounds_toArray, List.set_cons_zero, List.set_cons_succ])
        refine anyT_done (by kernel_rfl) ?_ _
        go_wp2_with fail
        go_meet
        exact ⟨D0.heap.size, D2.heap.size, rfl, rfl, (((Below.setCell hS (by simp; omega) _).setCell (by simp; omega) _).setCell (by simp; omega) _).setCell (by simp; omega) _, At2.of_heap (blk_far (blk_far (blk2_set e4.out) ne1) ne1), At2.of_heap (blk2_set (blk_far (blk_far e5.out ne2) ne2))⟩
      refine ReadyT.head (o := _) rfl (by decide) (by kernel_rfl) inv (fun K hK => ?_) ReadyT.nil
      go_simp
      refine hK.out _ _ ?_ (fun hS inv => ?_)
      · exact (hS : Below W1.heap.size W1 _).alloc (Below.size hS) _
      clear hK K
      (try simp only [Act.put, List.setIfInBounds_toArray, List.set_cons_zero, List.set_cons_succ])
      have e5 := hide (blk_new D1 (.cells #[.int .i8 0, .int .i8 0] 29))
      replace e4 := hide (blk_alloc (x := (.cells #[.int .i8 0, .int .i8 0] 29)) e4.out)
      have hz1 : D1.heap.size < (D1.alloc (.cells #[.int .i8 0, .int .i8 0] 29)).heap.size := by simp
      generalize hdr : D1.alloc (.cells #[.int .i8 0, .int .i8 0] 29) = D2 at *
      clear hdr
      refine anyT_ready (rs := [1]) (by kernel_rfl) (by simp) ?_
      refine ReadyT.head (o := _) rfl (by decide) (by kernel_rfl) inv (fun K hK => ?_) ReadyT.nil
      go_simp
      refine (norm_any a b _).mono ?_
      rintro e D3 ⟨rfl, hb⟩
      go_wp2_with fail
      refine hK.out _ _ ?_ (fun hS inv => ?_)
      · exact (hS : Below W1.heap.size W1 _).trans (hb.mono (Below.size hS))
      clear hK K
      (try simp only [Act.put, List.setIfInBounds_toArray, List.set_cons_zero, List.set_cons_succ])
      have hz2 : D2.heap.size ≤ D3.heap.size := hb.size
      replace e4 := hide (blk_keep e4.out hb)
      replace e5 := hide (blk_keep e5.out hb)
      clear hb
      refine anyT_ready (rs := [3]) (by kernel_rfl) (by simp) ?_
      refine ReadyT.head (o := _) rfl (by decide) (by kernel_rfl) inv (fun K hK => ?_) ReadyT.nil
      go_simp
      refine (norm_any c d _).mono ?_
      rintro e D4 ⟨rfl, hb⟩
      go_wp2_with fail
      refine hK.out _ _ ?_ (fun hS inv => ?_)
      · exact (hS : Below W1.heap.size W1 _).trans (hb.mono (Below.size hS))
      clear hK K
      (try simp only [Act.put, List.setIfInBounds_toArray, List.set_cons_zero, List.set_cons_succ])
      have hz3 : D3.heap.size ≤ D4.heap.size := hb.size
      replace e4 := hide (blk_keep e4.out hb)
      replace e5 := hide (blk_keep e5.out hb)
      clear hb
      obtain ⟨q1, q2, q3, q4, q5⟩ := blk2 e4.out
      obtain ⟨r1, r2, r3, r4, r5⟩ := blk2 e5.out
      have ne1 : D0.heap.size ≠ D1.heap.size := by omega
      have ne2 : D1.heap.size ≠ D0.heap.size := by omega
      refine anyT_ready (rs := [6]) (by kernel_rfl) (by simp) ?_
      refine ReadyT.tail (o := _) rfl (by decide) (fun K hK => ?_)
      go_simp
      refine hK.out _ _ ?_
      clear hK K
      (try simp only [Act.put, List.setIfInBounds_toArray, List.set_cons_zero, List.set_cons_succ])
      refine anyT_ready (rs := [7]) (by kernel_rfl) (by simp) ?_
      refine ReadyT.tail (o := _) rfl (by decide) (fun K hK => ?_)
      go_simp
      refine hK.out _ _ ?_
      clear hK K
      (try simp only [Act.put, List.setIfInBounds_toArray, List.set_cons_zero, List.set_cons_succ])
      refine anyT_done (by kernel_rfl) ?_ _
      go_wp2_with fail
      go_meet
      exact ⟨D0.heap.size, D1.heap.size, rfl, rfl, (((Below.setCell hS (by simp; omega) _).setCell (by simp; omega) _).setCell (by simp; omega) _).setCell (by simp; omega) _, At2.of_heap (blk_far (blk_far (blk2_set e4.out) ne1) ne1), At2.of_heap (blk2_set (blk_far (blk_far e5.out ne2) ne2))⟩
    refine ReadyT.head (o := _) rfl (by decide) (by kernel_rfl) inv (fun K hK => ?_) ReadyT.nil
    go_simp
    refine hK.out _ _ ?_ (fun hS inv => ?_)
    · exact (hS : Below W1.heap.size W1 _).alloc (Below.size hS) _
    clear hK K
    (try simp only [Act.put, List.setIfInBounds_toArray, List.set_cons_zero, List.set_cons_succ])
    have e5 := hide (blk_new D0 (.cells #[.int .i8 0, .int .i8 0] 29))
    have hz0 : D0.heap.size < (D0.alloc (.cells #[.int .i8 0, .int .i8 0] 29)).heap.size := by simp
    generalize hdr : D0.alloc (.cells #[.int .i8 0, .int .i8 0] 29) = D1 at *
    clear hdr
    refine anyT_ready (rs := [1, 4]) (by kernel_rfl) (by simp) ?_
    refine ReadyT.head (o := _) rfl (by decide) (by kernel_rfl) inv (fun K hK => ?_) ?_
    · go_simp
      refine (norm_any a b _).mono ?_
      rintro e D2 ⟨rfl, hb⟩
      go_wp2_with fail
      refine hK.out _ _ ?_ (fun hS inv => ?_)
      · exact (hS : Below W1.heap.size W1 _).trans (hb.mono (Below.size hS))
      clear hK K
      (try simp only [Act.put, List.setIfInBounds_toArray, List.set_cons_zero, List.set_cons_succ])
      have hz1 : D1.heap.size ≤ D2.heap.size := hb.size
      replace e5 := hide (blk_keep e5.out hb)
      clear hb
      refine anyT_ready (rs := [3, 4]) (by kernel_rfl) (by simp) ?_
      refine ReadyT.head (o := _) rfl (by decide) (by kernel_rfl) inv (fun K hK => ?_) ?_
      · go_simp
        refine (norm_any c d _).mono ?_
        rintro e D3 ⟨rfl, hb⟩
        go_wp2_with fail
        refine hK.out _ _ ?_ (fun hS inv => ?_)
        · exact (hS : Below W1.heap.size W1 _).trans (hb.mono (Below.size hS))
        clear hK K
        (try simp only [Act.put, List.setIfInBounds_toArray, List.set_cons_zero, List.set_cons_succ])
        have hz2 : D2.heap.size ≤ D3.heap.size := hb.size
        replace e5 := hide (blk_keep e5.out hb)
        clear hb
        refine anyT_ready (rs := [4]) (by kernel_rfl) (by simp) ?_
        refine ReadyT.head (o := _) rfl (by decide) (by kernel_rfl) inv (fun K hK => ?_) ReadyT.nil
        go_simp
        refine hK.out _ _ ?_ (fun hS inv => ?_)
        · exact (hS : Below W1.heap.size W1 _).alloc (Below.size hS) _
        clear hK K
        (try simp only [Act.put, List.setIfInBounds_toArray, List.set_cons_zero, List.set_cons_succ])
        have e4 := hide (blk_new D3 (.cells #[.int .i8 0, .int .i8 0] 29))
        replace e5 := hide (blk_alloc (x := (.cells #[.int .i8 0, .int .i8 0] 29)) e5.out)
        have hz3 : D3.heap.size < (D3.alloc (.cells #[.int .i8 0, .int .i8 0] 29)).heap.size := by simp
        generalize hdr : D3.alloc (.cells #[.int .i8 0, .int .i8 0] 29) = D4 at *
        clear hdr
        obtain ⟨q1, q2, q3, q4, q5⟩ := blk2 e4.out
        obtain ⟨r1, r2, r3, r4, r5⟩ := blk2 e5.out
        have ne1 : D3.heap.size ≠ D0.heap.size := by omega
        have ne2 : D0.heap.size ≠ D3.heap.size := by omega
        refine anyT_ready (rs := [6]) (by kernel_rfl) (by simp) ?_
        refine ReadyT.tail (o := _) rfl (by decide) (fun K hK => ?_)
        go_simp
        refine hK.out _ _ ?_
        clear hK K
        (try simp only [Act.put, List.setIfInBounds_toArray, List.set_cons_zero, List.set_cons_succ])
        refine anyT_ready (rs := [7]) (by kernel_rfl) (by simp) ?_
        refine ReadyT.tail (o := _) rfl (by decide) (fun K hK => ?_)
        go_simp
        refine hK.out _ _ ?_
        clear hK K
        (try simp only [Act.put, List.setIfInBounds_toArray, List.set_cons_zero, List.set_cons_succ])
        refine anyT_done (by kernel_rfl) ?_ _
        go_wp2_with fail
        go_meet
        exact ⟨D3.heap.size, D0.heap.size, rfl, rfl, (((Below.setCell hS (by simp; omega) _).setCell (by simp; omega) _).setCell (by simp; omega) _).setCell (by simp; omega) _, At2.of_heap (blk_far (blk_far (blk2_set e4.out) ne1) ne1), At2.of_heap (blk2_set (blk_far (blk_far e5.out ne2) ne2))⟩
      refine ReadyT.head (o := _) rfl (by decide) (by kernel_rfl) inv (fun K hK => ?_) ReadyT.nil
      go_simp
      refine hK.out _ _ ?_ (fun hS inv => ?_)
      · exact (hS : Below W1.heap.size W1 _).alloc (Below.size hS) _
      clear hK K
      (try simp only [Act.put, List.setIfInBounds_toArray, List.set_cons_zero, List.set_cons_succ])
      have e4 := hide (blk_new D2 (.cells #[.int .i8 0, .int .i8 0] 29))
      replace e5 := hide (blk_alloc (x := (.cells #[.int .i8 0, .int .i8 0] 29)) e5.out)
      have hz2 : D2.heap.size < (D2.alloc (.cells #[.int .i8 0, .int .i8 0] 29)).heap.size := by simp
      generalize hdr : D2.alloc (.cells #[.int .i8 0, .int .i8 0] 29) = D3 at *
      clear hdr
      refine anyT_ready (rs := [3]) (by kernel_rfl) (by simp) ?_
      refine ReadyT.head (o := _) rfl (by decide) (by kernel_rfl) inv (fun K hK => ?_) ReadyT.nil
      go_simp
      refine (norm_any c d _).mono ?_
      rintro e D4 ⟨rfl, hb⟩
      go_wp2_with fail
      refine hK.out _ _ ?_ (fun hS inv => ?_)
      · exact (hS : Below W1.heap.size W1 _).trans (hb.mono (Below.size hS))
      clear hK K
      (try simp only [Act.put, List.setIfInBounds_toArray, List.set_cons_zero, List.set_cons_succ])
      have hz3 : D3.heap.size ≤ D4.heap.size := hb.size
      replace e4 := hide (blk_keep e4.out hb)
      replace e5 := hide (blk_keep e5.out hb)
      clear hb
      obtain ⟨q1, q2, q3, q4, q5⟩ := blk2 e4.out
      obtain ⟨r1, r2, r3, r4, r5⟩ := blk2 e5.out
      have ne1 : D2.heap.size ≠ D0.heap.size := by omega
      have ne2 : D0.heap.size ≠ D2.heap.size := by omega
      refine anyT_ready (rs := [6]) (by kernel_rfl) (by simp) ?_
      refine ReadyT.tail (o := _) rfl (by decide) (fun K hK => ?_)
      go_simp
      refine hK.out _ _ ?_
      clear hK K
      (try simp only [Act.put, List.setIfInBounds_toArray, List.set_cons_zero, List.set_cons_succ])
      refine anyT_ready (rs := [7]) (by kernel_rfl) (by simp) ?_
      refine ReadyT.tail (o := _) rfl (by decide) (fun K hK => ?_)
      go_simp
      refine hK.out _ _ ?_
      clear hK K
      (try simp only [Act.put, List.setIfInBounds_toArray, List.set_cons_zero, List.set_cons_succ])
      refine anyT_done (by kernel_rfl) ?_ _
      go_wp2_with fail
      go_meet
      exact ⟨D2.heap.size, D0.heap.size, rfl, rfl, (((Below.setCell hS (by simp; omega) _).setCell (by simp; omega) _).setCell (by simp; omega) _).setCell (by simp; omega) _, At2.of_heap (blk_far (blk_far (blk2_set e4.out) ne1) ne1), At2.of_heap (blk2_set (blk_far (blk_far e5.out ne2) ne2))⟩
    refine ReadyT.head (o := _) rfl (by decide) (by kernel_rfl) inv (fun K hK => ?_) ReadyT.nil
    go_simp
    refine hK.out _ _ ?_ (fun hS inv => ?_)
    · exact (hS : Below W1.heap.size W1 _).alloc (Below.size hS) _
    clear hK K
    (try simp only [Act.put, List.setIfInBounds_toArray, List.set_cons_zero, List.set_cons_succ])
    have e4 := hide (blk_new D1 (.cells #[.int .i8 0, .int .i8 0] 29))
    replace e5 := hide (blk_alloc (x := (.cells #[.int .i8 0, .int .i8 0] 29)) e5.out)
    have hz1 : D1.heap.size < (D1.alloc (.cells #[.int .i8 0, .int .i8 0] 29)).heap.size := by simp
    generalize hdr : D1.alloc (.cells #[.int .i8 0, .int .i8 0] 29) = D2 at *
    clear hdr
    refine anyT_ready (rs := [1]) (by kernel_rfl) (by simp) ?_
    refine ReadyT.head (o := _) rfl (by decide) (by kernel_rfl) inv (fun K hK => ?_) ReadyT.nil
    go_simp
    refine (norm_any a b _).mono ?_
    rintro e D3 ⟨rfl, hb⟩
    go_wp2_with fail
    refine hK.out _ _ ?_ (fun hS inv => ?_)
    · exact (hS : Below W1.heap.size W1 _).trans (hb.mono (Below.size hS))
    clear hK K
    (try simp only [Act.put, List.setIfInBounds_toArray, List.set_cons_zero, List.set_cons_succ])
    have hz2 : D2.heap.size ≤ D3.heap.size := hb.size
    replace e4 := hide (blk_keep e4.out hb)
    replace e5 := hide (blk_keep e5.out hb)
    clear hb
    refine anyT_ready (rs := [3]) (by kernel_rfl) (by simp) ?_
    refine ReadyT.head (o := _) rfl (by decide) (by kernel_rfl) inv (fun K hK => ?_) ReadyT.nil
    go_simp
    refine (norm_any c d _).mono ?_
    rintro e D4 ⟨rfl, hb⟩
    go_wp2_with fail
    refine hK.out _ _ ?_ (fun hS inv => ?_)
    · exact (hS : Below W1.heap.size W1 _).trans (hb.mono (Below.size hS))
    clear hK K
    (try simp only [Act.put, List.setIfInBounds_toArray, List.set_cons_zero, List.set_cons_succ])
    have hz3 : D3.heap.size ≤ D4.heap.size := hb.size
    replace e4 := hide (blk_keep e4.out hb)
    replace e5 := hide (blk_keep e5.out hb)
    clear hb
    obtain ⟨q1, q2, q3, q4, q5⟩ := blk2 e4.out
    obtain ⟨r1, r2, r3, r4, r5⟩ := blk2 e5.out
    have ne1 : D1.heap.size ≠ D0.heap.size := by omega
    have ne2 : D0.heap.size ≠ D1.heap.size := by omega
    refine anyT_ready (rs := [6]) (by kernel_rfl) (by simp) ?_
    refine ReadyT.tail (o := _) rfl (by decide) (fun K hK => ?_)
    go_simp
    refine hK.out _ _ ?_
    clear hK K
    (try simp only [Act.put, List.setIfInBounds_toArray, List.set_cons_zero, List.set_cons_succ])
    refine anyT_ready (rs := [7]) (by kernel_rfl) (by simp) ?_
    refine ReadyT.tail (o := _) rfl (by decide) (fun K hK => ?_)
    go_simp
    refine hK.out _ _ ?_
    clear hK K
    (try simp only [Act.put, List.setIfInBounds_toArray, List.set_cons_zero, List.set_cons_succ])
    refine anyT_done (by kernel_rfl) ?_ _
    go_wp2_with fail
    go_meet
    exact ⟨D1.heap.size, D0.heap.size, rfl, rfl, (((Below.setCell hS (by simp; omega) _).setCell (by simp; omega) _).setCell (by simp; omega) _).setCell (by simp; omega) _, At2.of_heap (blk_far (blk_far (blk2_set e4.out) ne1) ne1), At2.of_heap (blk2_set (blk_far (blk_far e5.out ne2) ne2))⟩
  case rest =>
    obtain ⟨N, M, rfl, rfl, hB1, hX, hY⟩ := hcut
    obtain ⟨W3, hW3⟩ : ∃ x, x = wc := ⟨_, rfl⟩
    rw [← hW3]
    rw [← hW3] at hX hY hB1
    clear hW3
    obtain ⟨k11, k12, k13⟩ := k1'.out.below hB1
    obtain ⟨k21, k22, k23⟩ := k2'.out.below hB1
    replace hB := hB.trans (hB1.mono hB.size)
    clear k1' k2' hB1
    have HX := hide hX
    have HY := hide hY
    clear hX hY
    obtain ⟨al, hal⟩ : ∃ al, al = cmbL [(a, b), (c, d)] 0 := ⟨_, rfl⟩
    obtain ⟨ah, hah⟩ : ∃ ah, ah = cmbH [(a, b), (c, d)] 0 := ⟨_, rfl⟩
    have Hal := hide hal
    have Hah := hide hah
    clear hal hah
    go_wp2_with fail
    refine (comb2_r a b c d al ah _ _ Hal.out.symm Hah.out.symm).mono ?_
    rintro e w4 ⟨rfl, hb⟩
    have HX2 := hide ((HX.out.alloc (.cells #[.int .i8 a, .int .i8 b, .int .i8 c, .int .i8 d] 29)).below hb)
    have HY2 := hide ((HY.out.alloc (.cells #[.int .i8 a, .int .i8 b, .int .i8 c, .int .i8 d] 29)).below hb)
    have hB2 : Below w.heap.size w w4 := (hB.alloc hB.size _).trans (hb.mono (by have := hB.size; simp; omega))
    clear hb HX HY hB k11 k12 k13 k21 k22 k23
    have hE : ElW w N M w4.heap.size (nLo a b) (nHi a b) (nLo c d) (nHi c d) al ah (w4.alloc (.cells #[.int .i8 al, .int .i8 ah] 29)) :=
      ⟨hB2.alloc hB2.size _, HX2.out.alloc _, HY2.out.alloc _, At2.new _ _ _ _⟩
    have HE := hide hE
    clear hE
    have x1 := nLo_le a b
    obtain ⟨x2, x4⟩ := nLo_bd a b
    obtain ⟨x5, x3⟩ := nHi_bd a b
    have y1 := nLo_le c d
    obtain ⟨y2, y4⟩ := nLo_bd c d
    obtain ⟨y5, y3⟩ := nHi_bd c d
    have f1 : al = cLo (nLo a b) (nLo c d) := by rw [Hal.out]; simp [cmbL, cLo_zero]
    have f2 : ah = cHi (nHi a b) (nHi c d) := by rw [Hah.out]; simp [cmbH, cHi_zero]
    have F1 := hide f1
    have F2 := hide f2
    clear f1 f2 Hal Hah
    generalize nLo a b = xl at *
    generalize nHi a b = xh at *
    generalize nLo c d = yl at *
    generalize nHi c d = yh at *
    have abd : -7 ≤ al ∧ al ≤ ah ∧ ah ≤ 7 := by
      have g1 := cLo_bd (a := xl) (b := yl) (by omega) (by omega) (by omega) (by omega)
      have g2 := cHi_bd (a := xh) (b := yh) (by omega) (by omega) (by omega) (by omega)
      have g3 := cLo_mono x1 y1
      have g4 := cLo_le xh yh
      rw [F1.out, F2.out]; omega
    obtain ⟨z2, z1, z3⟩ := abd
    have v1 : mVal xl xh = true := mVal_t ⟨(nLo_id x2 x1 x3).symm, (nHi_id x2 x1 x3).symm⟩
    have v2 : mVal yl yh = true := mVal_t ⟨(nLo_id y2 y1 y3).symm, (nHi_id y2 y1 y3).symm⟩
    have v3 : mVal al ah = true := mVal_t ⟨(nLo_id z2 z1 z3).symm, (nHi_id z2 z1 z3).symm⟩
    obtain ⟨i1, i2, i3⟩ := HX2.out
    obtain ⟨j1, j2, j3⟩ := HY2.out
    clear HX2 HY2 hB2
    go_wp2_with fail
    generalize hV : w4.alloc (.cells #[.int .i8 al, .int .i8 ah] 29) = V at *
    clear hV
    generalize w4.heap.size = L at *
    clear i1 i2 i3 j1 j2 j3
    obtain ⟨-, ⟨i1, i2, i3⟩, ⟨j1, j2, j3⟩, ⟨l1, l2, l3⟩⟩ := HE.out
    go_upto_region 5 with ((go_at_call 20; (with_reducible refine (valid_any _ _ _).mono ?_); rintro e wz ⟨rfl, hb⟩; replace HE := hide (HE.out.below hb); clear i1 i2 i3 j1 j2 j3 l1 l2 l3 hb; obtain ⟨-, ⟨i1, i2, i3⟩, ⟨j1, j2, j3⟩, ⟨l1, l2, l3⟩⟩ := HE.out))
    clear i1 i2 i3 j1 j2 j3 l1 l2 l3 v1 v2 v3
    go_wp2_with fail
    go_loopw [8] (fun i wr => ∃ n : Int, -7 ≤ n ∧ n ≤ 8 ∧ i = .int .i8 n ∧ ElW w N M L xl xh yl yh al ah wr) (fun i _ => (8 - intOf i).toNat)
    case atStart => exact ⟨-7, by omega, by omega, rfl, HE.out⟩
    case round =>
      clear HE
      obtain ⟨n, hn1, hn2, rfl, E⟩ := hrel
      have HE := hide E
      clear E
      by_cases hln : n ≤ 7
      · obtain ⟨-, ⟨i1, i2, i3⟩, ⟨j1, j2, j3⟩, ⟨l1, l2, l3⟩⟩ := HE.out
        go_wp2_with fail
        obtain ⟨wo, hwo⟩ : ∃ wo : World, wo = wr := ⟨_, rfl⟩
        rw [← hwo]
        rw [← hwo] at HE
        clear i1 i2 i3 j1 j2 j3 l1 l2 l3 hwo
        go_loopw [9, 10] (fun v i wr => ∃ (m : Int) (r : Bool), xl ≤ m ∧ m ≤ xh + 1 ∧ i = .int .i8 m ∧ v = .bool r ∧ Hid (r = true ↔ HitB xl yl yh n m) ∧ ElW w N M L xl xh yl yh al ah wr) (fun _ i _ => (xh + 1 - intOf i).toNat)
        case atStart => exact ⟨xl, false, by omega, by omega, rfl, rfl, hitB_start _ _ _ _, HE.out⟩
        case round =>
          clear HE
          obtain ⟨m, r, hm1, hm2, rfl, rfl, hr, E⟩ := hrel
          have HE := hide E
          clear E
          obtain ⟨-, ⟨i1, i2, i3⟩, ⟨j1, j2, j3⟩, ⟨l1, l2, l3⟩⟩ := HE.out
          by_cases hlm : m ≤ xh
          · go_wp2_with fail
            obtain ⟨wo, hwo⟩ : ∃ wo : World, wo = wr := ⟨_, rfl⟩
            rw [← hwo]
            rw [← hwo] at HE
            clear i1 i2 i3 j1 j2 j3 l1 l2 l3 hwo
            go_loopw [9, 11] (fun v i wr => ∃ (k : Int) (r : Bool), yl ≤ k ∧ k ≤ yh + 1 ∧ i = .int .i8 k ∧ v = .bool r ∧ Hid (r = true ↔ HitR xl yl yh n m k) ∧ ElW w N M L xl xh yl yh al ah wr) (fun _ i _ => (yh + 1 - intOf i).toNat)
            case atStart => exact ⟨yl, r, by omega, by omega, rfl, rfl, hide (hr.out.trans (hitR_0 _ _ _ _ _).symm), HE.out⟩
            case round =>
              clear HE hr
              obtain ⟨k, r, hk1, hk2, rfl, rfl, hr, E⟩ := hrel
              have HE := hide E
              clear E
              obtain ⟨-, ⟨i1, i2, i3⟩, ⟨j1, j2, j3⟩, ⟨l1, l2, l3⟩⟩ := HE.out
              by_cases hlk : k ≤ yh
              · go_wp2_with fail
                refine (rlevels_any _ _ _ (by omega) (by omega) (by omega) (by omega)).mono ?_
                rintro e wz ⟨g, cap, cnt, rfl, hcnt, hb, hg, -, hcells⟩
                replace HE := hide (HE.out.below hb)
                clear i1 i2 i3 j1 j2 j3 l1 l2 l3 hb
                have pq := cLo_le m k
                obtain ⟨z, rfl⟩ : ∃ z, cnt = z + 1 := ⟨cnt - 1, by omega⟩
                have c0 := hcells 0 (by omega)
                have c1 := hcells z (by omega)
                have e1 : cLo m k + (z : Int) = cHi m k := by omega
                rw [e1] at c1
                simp only [Int.natCast_zero, Int.add_zero] at c0
                have hz14 : (z : Int) ≤ 14 := by
                  have g1 := cLo_bd (a := m) (b := k) (by omega) (by omega) (by omega) (by omega)
                  have g2 := cHi_bd (a := m) (b := k) (by omega) (by omega) (by omega) (by omega)
                  omega
                have hz0 : (0 : Int) ≤ (z : Int) := by omega
                clear hcnt
                have hs := hitR_s (n := n) (m := m) (xl := xl) (yh := yh) hk1
                have Hs := hide hs
                have hn := hitR_n (n := n) (m := m) (xl := xl) (yl := yl) (yh := yh) (k := k)
                have Hn := hide hn
                generalize cLo m k = p at *
                generalize cHi m k = q at *
                clear hcells e1 hs hn
                cases r
                · have hr0 : Hid (¬ HitR xl yl yh n m k) := fun h => Bool.noConfusion (hr.out.2 h)
                  go_wp2_with fail
                  · have hpn : p ≤ n := by assumption
                    go_roundw
                    case rel => exact ⟨k + 1, decide (n ≤ q), by omega, by omega, by go_num, rfl, hide (by
                      by_cases hnq : n ≤ q
                      · simp only [hnq, decide_true, true_iff]; exact Hs.out ⟨hpn, hnq⟩
                      · simp only [hnq, decide_false, Bool.false_eq_true, false_iff]; exact Hn.out hr0.out (fun h => hnq h.2)), HE.out⟩
                    case measure => simp [intOf]; omega
                  · have hpn : ¬ p ≤ n := by assumption
                    go_roundw
                    case rel => exact ⟨k + 1, false, by omega, by omega, by go_num, rfl, hide (by
                      simp only [Bool.false_eq_true, false_iff]; exact Hn.out hr0.out (fun h => hpn h.1)), HE.out⟩
                    case measure => simp [intOf]; omega
                · have hr1 := hide (hr.out.1 rfl)
                  go_wp2_with fail
                  go_roundw
                  case rel => exact ⟨k + 1, true, by omega, by omega, by go_num, rfl, hide ⟨fun _ => hitR_t hr1.out, fun _ => rfl⟩, HE.out⟩
                  case measure => simp [intOf]; omega
              · obtain rfl : k = yh + 1 := by omega
                have hr2 := hide (hr.out.trans (hitR_row hm1))
                go_wp2_with fail
                go_roundw
                case rel => exact ⟨m + 1, r, by omega, by omega, by go_num, rfl, hr2, HE.out⟩
                case measure => simp [intOf]; omega
          · obtain rfl : m = xh + 1 := by omega
            have hfin : mHas al ah n = r := by
              have h1 : mHas al ah n = true ↔ r = true := by
                rw [hr.out, hitB_all, hit_iff x1 y1, ← F1.out, ← F2.out]
                simp [mHas, nLo_id z2 z1 z3, nHi_id z2 z1 z3]
              cases r <;> simp_all
            have HF := hide hfin
            clear hfin hr
            go_wp2_with ((go_at_call 23; (with_reducible refine (has_any _ _ _ _).mono ?_); rw [HF.out]; rintro e wz ⟨rfl, hb⟩; replace HE := hide (HE.out.below hb); clear i1 i2 i3 j1 j2 j3 l1 l2 l3 hb))
            go_roundw
            case rel => exact ⟨n + 1, by omega, by omega, by go_num, HE.out⟩
            case measure => simp [intOf]; omega
      · go_wp2_with ((go_at_call 13; (with_reducible refine Calls.mono (awake_any _ ?_) ?_); (exact HN.out.below HE.out.1); rintro e wz ⟨rfl, hb⟩))
        go_ret
        exact ⟨rfl, HE.out.1.trans (hb.mono HE.out.1.size)⟩

end Go.Proofs.YtiggmncjmkeboaaDoor
