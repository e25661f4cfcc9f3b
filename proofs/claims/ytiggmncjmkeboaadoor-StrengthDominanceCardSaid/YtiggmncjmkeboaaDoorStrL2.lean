/-
  The walk of StrengthDominance.
-/
import Derived.Test.YtiggmncjmkeboaaDoorStrK
namespace Go.Proofs.YtiggmncjmkeboaaDoor
open Go.RowKit
set_option linter.unusedSimpArgs false

def Lst (l : Int) (w : World) (v : Value) (w' : World) : Prop := v = .int .i8 l ∧ w' = w
def LstB (l : Bool) (w : World) (v : Value) (w' : World) : Prop := v = .bool l ∧ w' = w
def domG (p q r s : Int) : Bool := decide (p ≤ 0 ∧ 0 ≤ q ∨ min (mag p) (mag q) ≤ max s (-r))
theorem dom_lo {p q r s : Int} (h : domG p q r s = false) (h1 : p ≤ q) (h2 : r ≤ s) (b1 : -7 ≤ p) (b2 : q ≤ 7) (b3 : -7 ≤ r) (b4 : s ≤ 7) :
    cmbL [(p, q), (r, s)] 0 = p ∧ cmbH [(p, q), (r, s)] 0 = q ∧ cmbL [(r, s), (p, q)] 0 = p ∧ cmbH [(r, s), (p, q)] 0 = q := by
  have h := of_decide_eq_false h
  simp only [cmbL, cmbH, nLo_id b1 h1 b2, nHi_id b1 h1 b2, nLo_id b3 h2 b4, nHi_id b3 h2 b4, cLo_zero, cHi_zero]
  unfold mag at h
  unfold cLo cHi mag
  refine ⟨?_, ?_, ?_, ?_⟩ <;> (repeat' split) <;> omega

set_option maxHeartbeats 4000000 in
theorem StrengthDominance_walk (a b c d : Int) (w : World) (hN : Names w) : Calls Tryd.prog 9 #[iv a b, iv c d] w (Mk (.bool true) w) := by
  have HN := hide hN
  clear hN
  go_enter Tryd.func9, Tryd.ntmps9
  go_upto_region 1 with fail
  go_cut [5, 6] (Two w (nLo a b) (nHi a b) (nLo c d) (nHi c d))
  case first =>
    have k1 : At2 w.heap.size a b ((w.alloc (.cells #[.int .i8 a, .int .i8 b] 34)).alloc (.cells #[.int .i8 c, .int .i8 d] 34)) := (At2.new w a b _).alloc _
    have k2 : At2 (w.heap.size + 1) c d ((w.alloc (.cells #[.int .i8 a, .int .i8 b] 34)).alloc (.cells #[.int .i8 c, .int .i8 d] 34)) := by
      have := At2.new (w.alloc (.cells #[.int .i8 a, .int .i8 b] 34)) c d 34
      rwa [show (w.alloc (.cells #[.int .i8 a, .int .i8 b] 34)).heap.size = w.heap.size + 1 by simp] at this
    have k0 : Below w.heap.size w ((w.alloc (.cells #[.int .i8 a, .int .i8 b] 34)).alloc (.cells #[.int .i8 c, .int .i8 d] 34)) := by (repeat (first | exact Below.refl _ _ | assumption | refine Below.setCell ?_ (by first | (simp; done) | (simp; omega) | omega) _ | refine Below.alloc ?_ (by first | (simp; done) | (simp; omega) | omega) _ | refine below_drewN ?_ _ | refine Below.drew ?_))
    generalize (w.alloc (.cells #[.int .i8 a, .int .i8 b] 34)).alloc (.cells #[.int .i8 c, .int .i8 d] 34) = W1 at *
    obtain ⟨k11, k12, k13⟩ := k1
    obtain ⟨k21, k22, k23⟩ := k2
    refine region_anyT (S := fun w1 => Below W1.heap.size W1 w1) (n := 6) (by kernel_rfl) (Below.refl _ _).drew (fun hS inv => ?_)
    refine anyT_take (i := 0) (oi := _) (v := .agg #[.int .i8 (a), .int .i8 (b)]) rfl (by kernel_rfl) (by kernel_rfl) (by kernel_rfl) (by decide) (by decide) (by kernel_rfl) (by kernel_rfl) inv (fun _ _ _ h => h) (Or.inl ⟨by rfl, ?_⟩) hS (fun inv => ?_)
    · intro wz hSw
      have hk1 := (hSw : Below _ _ _).cell (p := ⟨w.heap.size, 0, none⟩) (by first | assumption | (simp; done) | (simp; omega)); have hk2 := (hSw : Below _ _ _).cell (p := ⟨w.heap.size, 1, none⟩) (by first | assumption | (simp; done) | (simp; omega)); go_simp
    (try simp only [Act.put, List.setIfInBounds_toArray, List.set_cons_zero, List.set_cons_succ])
    refine anyT_take (i := 2) (oi := _) (v := .agg #[.int .i8 (c), .int .i8 (d)]) rfl (by kernel_rfl) (by kernel_rfl) (by kernel_rfl) (by decide) (by decide) (by kernel_rfl) (by kernel_rfl) inv (fun _ _ _ h => h) (Or.inl ⟨by rfl, ?_⟩) hS (fun inv => ?_)
    · intro wz hSw
      have hk1 := (hSw : Below _ _ _).cell (p := ⟨w.heap.size + 1, 0, none⟩) (by first | assumption | (simp; done) | (simp; omega)); have hk2 := (hSw : Below _ _ _).cell (p := ⟨w.heap.size + 1, 1, none⟩) (by first | assumption | (simp; done) | (simp; omega)); go_simp
    (try simp only [Act.put, List.setIfInBounds_toArray, List.set_cons_zero, List.set_cons_succ])
    have hzd : W1.heap.size ≤ W1.drew.heap.size := Nat.le_refl _
    generalize hdr : W1.drew = D0 at *
    clear hdr
    refine anyT_ready (rs := [1, 4, 5]) (by kernel_rfl) (by simp) ?_
    refine ReadyT.head (o := _) rfl (by decide) (by kernel_rfl) inv (fun K hK => ?_) ?_
    · go_simp
      refine (norm_any a b _).mono ?_
      rintro e D1 ⟨rfl, hb⟩
      go_wp2_with fail
      refine hK.out _ _ ?_ (fun hS inv => ?_)
      · exact (hS : Below W1.heap.size W1 _).trans (hb.mono (Below.size hS))
      clear hK K
      (try simp only [Act.put, List.setIfInBounds_toArray, List.set_cons_zero, List.set_cons_succ])
      have hz0 : D0.heap.size ≤ D1.heap.size := hb.size
      clear hb
      refine anyT_ready (rs := [3, 4, 5]) (by kernel_rfl) (by simp) ?_
      refine ReadyT.head (o := _) rfl (by decide) (by kernel_rfl) inv (fun K hK => ?_) ?_
      · go_simp
        refine (norm_any c d _).mono ?_
        rintro e D2 ⟨rfl, hb⟩
        go_wp2_with fail
        refine hK.out _ _ ?_ (fun hS inv => ?_)
        · exact (hS : Below W1.heap.size W1 _).trans (hb.mono (Below.size hS))
        clear hK K
        (try simp only [Act.put, List.setIfInBounds_toArray, List.set_cons_zero, List.set_cons_succ])
        have hz1 : D1.heap.size ≤ D2.heap.size := hb.size
        clear hb
        refine anyT_ready (rs := [4, 5]) (by kernel_rfl) (by simp) ?_
        refine ReadyT.head (o := _) rfl (by decide) (by kernel_rfl) inv (fun K hK => ?_) ?_
        · go_simp
          refine hK.out _ _ ?_ (fun hS inv => ?_)
          · exact (hS : Below W1.heap.size W1 _).alloc (Below.size hS) _
          clear hK K
          (try simp only [Act.put, List.setIfInBounds_toArray, List.set_cons_zero, List.set_cons_succ])
          have e4 := hide (blk_new D2 (.cells #[.int .i8 0, .int .i8 0] 29))
          have hz2 : D2.heap.size < (D2.alloc (.cells #[.int .i8 0, .int .i8 0] 29)).heap.size := by simp
          generalize hdr : D2.alloc (.cells #[.int .i8 0, .int .i8 0] 29) = D3 at *
          clear hdr
          refine anyT_ready (rs := [5]) (by kernel_rfl) (by simp) ?_
          refine ReadyT.head (o := _) rfl (by decide) (by kernel_rfl) inv (fun K hK => ?_) ReadyT.nil
          go_simp
          refine hK.out _ _ ?_ (fun hS inv => ?_)
          · exact (hS : Below W1.heap.size W1 _).alloc (Below.size hS) _
          clear hK K
          (try simp only [Act.put, List.setIfInBounds_toArray, List.set_cons_zero, List.set_cons_succ])
          have e5 := hide (blk_new D3 (.cells #[.int .i8 0, .int .i8 0] 29))
          replace e4 := hide (blk_alloc (x := (.cells #[.int .i8 0, .int .i8 0] 29)) e4.out)
          have hz3 : D3.heap.size < (D3.alloc (.cells #[.int .i8 0, .int .i8 0] 29)).heap.size := by simp
          generalize hdr : D3.alloc (.cells #[.int .i8 0, .int .i8 0] 29) = D4 at *
          clear hdr
          obtain ⟨q1, q2, q3, q4, q5⟩ := blk2 e4.out
          obtain ⟨r1, r2, r3, r4, r5⟩ := blk2 e5.out
          have ne1 : D2.heap.size ≠ D3.heap.size := by omega
          have ne2 : D3.heap.size ≠ D2.heap.size := by omega
          refine anyT_ready (rs := [6]) (by kernel_rfl) (by simp) ?_
          refine ReadyT.tail (o := _) rfl (by decide) (fun K hK => ?_)
          go_simp
          refine hK.out _ _ ?_
          clear hK K
          (try simp only [Act.put, List.setIfInBounds_toArray, List.set_cons_zero, List.set_cons_succ])
          refine anyT_ready (rs := [7]) (by kernel_rfl) (by simp) ?_
          refine ReadyT.tail (o := _) rfl (by decide) (fun K hK => ?_)
          go_simp
          refine hK.out _ _ ?_
          clear hK K
          (try simp only [Act.put, List.setIfInBounds_toArray, List.set_cons_zero, List.set_cons_succ])
          refine anyT_done (by kernel_rfl) ?_ _
          go_wp2_with fail
          go_meet
          exact ⟨D2.heap.size, D3.heap.size, rfl, rfl, (((k0.trans (Below.mono hS (Below.size k0))).setCell (by have := Below.size k0; have := Below.size hS; simp; omega) _).setCell (by have := Below.size k0; have := Below.size hS; simp; omega) _ |>.setCell (by have := Below.size k0; have := Below.size hS; simp; omega) _).setCell (by have := Below.size k0; have := Below.size hS; simp; omega) _, At2.of_heap (blk_far (blk_far (blk2_set e4.out) ne1) ne1), At2.of_heap (blk2_set (blk_far (blk_far e5.out ne2) ne2))⟩
        refine ReadyT.head (o := _) rfl (by decide) (by kernel_rfl) inv (fun K hK => ?_) ReadyT.nil
        go_simp
        refine hK.out _ _ ?_ (fun hS inv => ?_)
        · exact (hS : Below W1.heap.size W1 _).alloc (Below.size hS) _
        clear hK K
        (try simp only [Act.put, List.setIfInBounds_toArray, List.set_cons_zero, List.set_cons_succ])
        have e5 := hide (blk_new D2 (.cells #[.int .i8 0, .int .i8 0] 29))
        have hz2 : D2.heap.size < (D2.alloc (.cells #[.int .i8 0, .int .i8 0] 29)).heap.size := by simp
        generalize hdr : D2.alloc (.cells #[.int .i8 0, .int .i8 0] 29) = D3 at *
        clear hdr
        refine anyT_ready (rs := [4]) (by kernel_rfl) (by simp) ?_
        refine ReadyT.head (o := _) rfl (by decide) (by kernel_rfl) inv (fun K hK => ?_) ReadyT.nil
        go_simp
        refine hK.out _ _ ?_ (fun hS inv => ?_)
        · exact (hS : Below W1.heap.size W1 _).alloc (Below.size hS) _
        clear hK K
        (try simp only [Act.put, List.setIfInBounds_toArray, List.set_cons_zero, List.set_cons_succ])
        have e4 := hide (blk_new D3 (.cells #[.int .i8 0, .int .i8 0] 29))
        replace e5 := hide (blk_alloc (x := (.cells #[.int .i8 0, .int .i8 0] 29)) e5.out)
        have hz3 : D3.heap.size < (D3.alloc (.cells #[.int .i8 0, .int .i8 0] 29)).heap.size := by simp
        generalize hdr : D3.alloc (.cells #[.int .i8 0, .int .i8 0] 29) = D4 at *
        clear hdr
        obtain ⟨q1, q2, q3, q4, q5⟩ := blk2 e4.out
        obtain ⟨r1, r2, r3, r4, r5⟩ := blk2 e5.out
        have ne1 : D3.heap.size ≠ D2.heap.size := by omega
        have ne2 : D2.heap.size ≠ D3.heap.size := by omega
        refine anyT_ready (rs := [6]) (by kernel_rfl) (by simp) ?_
        refine ReadyT.tail (o := _) rfl (by decide) (fun K hK => ?_)
        go_simp
        refine hK.out _ _ ?_
        clear hK K
        (try simp only [Act.put, List.setIfInBounds_toArray, List.set_cons_zero, List.set_cons_succ])
        refine anyT_ready (rs := [7]) (by kernel_rfl) (by simp) ?_
        refine ReadyT.tail (o := _) rfl (by decide) (fun K hK => ?_)
        go_simp
        refine hK.out _ _ ?_
        clear hK K
        (try simp only [Act.put, List.setIfInBounds_toArray, List.set_cons_zero, List.set_cons_succ])
        refine anyT_done (by kernel_rfl) ?_ _
        go_wp2_with fail
        go_meet
        exact ⟨D3.heap.size, D2.heap.size, rfl, rfl, (((k0.trans (Below.mono hS (Below.size k0))).setCell (by have := Below.size k0; have := Below.size hS; simp; omega) _).setCell (by have := Below.size k0; have := Below.size hS; simp; omega) _ |>.setCell (by have := Below.size k0; have := Below.size hS; simp; omega) _).setCell (by have := Below.size k0; have := Below.size hS; simp; omega) _, At2.of_heap (blk_far (blk_far (blk2_set e4.out) ne1) ne1), At2.of_heap (blk2_set (blk_far (blk_far e5.out ne2) ne2))⟩
      refine ReadyT.head (o := _) rfl (by decide) (by kernel_rfl) inv (fun K hK => ?_) ?_
      · go_simp
        refine hK.out _ _ ?_ (fun hS inv => ?_)
        · exact (hS : Below W1.heap.size W1 _).alloc (Below.size hS) _
        clear hK K
        (try simp only [Act.put, List.setIfInBounds_toArray, List.set_cons_zero, List.set_cons_succ])
        have e4 := hide (blk_new D1 (.cells #[.int .i8 0, .int .i8 0] 29))
        have hz1 : D1.heap.size < (D1.alloc (.cells #[.int .i8 0, .int .i8 0] 29)).heap.size := by simp
        generalize hdr : D1.alloc (.cells #[.int .i8 0, .int .i8 0] 29) = D2 at *
        clear hdr
        refine anyT_ready (rs := [3, 5]) (by kernel_rfl) (by simp) ?_
        refine ReadyT.head (o := _) rfl (by decide) (by kernel_rfl) inv (fun K hK => ?_) ?_
        · go_simp
          refine (norm_any c d _).mono ?_
          rintro e D3 ⟨rfl, hb⟩
          go_wp2_with fail
          refine hK.out _ _ ?_ (fun hS inv => ?_)
          · exact (hS : Below W1.heap.size W1 _).trans (hb.mono (Below.size hS))
          clear hK K
          (try simp only [Act.put, List.setIfInBounds_toArray, List.set_cons_zero, List.set_cons_succ])
          have hz2 : D2.heap.size ≤ D3.heap.size := hb.size
          replace e4 := hide (blk_keep e4.out hb)
          clear hb
          refine anyT_ready (rs := [5]) (by kernel_rfl) (by simp) ?_
          refine ReadyT.head (o := _) rfl (by decide) (by kernel_rfl) inv (fun K hK => ?_) ReadyT.nil
          go_simp
          refine hK.out _ _ ?_ (fun hS inv => ?_)
          · exact (hS : Below W1.heap.size W1 _).alloc (Below.size hS) _
          clear hK K
          (try simp only [Act.put, List.setIfInBounds_toArray, List.set_cons_zero, List.set_cons_succ])
          have e5 := hide (blk_new D3 (.cells #[.int .i8 0, .int .i8 0] 29))
          replace e4 := hide (blk_alloc (x := (.cells #[.int .i8 0, .int .i8 0] 29)) e4.out)
          have hz3 : D3.heap.size < (D3.alloc (.cells #[.int .i8 0, .int .i8 0] 29)).heap.size := by simp
          generalize hdr : D3.alloc (.cells #[.int .i8 0, .int .i8 0] 29) = D4 at *
          clear hdr
          obtain ⟨q1, q2, q3, q4, q5⟩ := blk2 e4.out
          obtain ⟨r1, r2, r3, r4, r5⟩ := blk2 e5.out
          have ne1 : D1.heap.size ≠ D3.heap.size := by omega
          have ne2 : D3.heap.size ≠ D1.heap.size := by omega
          refine anyT_ready (rs := [6]) (by kernel_rfl) (by simp) ?_
          refine ReadyT.tail (o := _) rfl (by decide) (fun K hK => ?_)
          go_simp
          refine hK.out _ _ ?_
          clear hK K
          (try simp only [Act.put, List.setIfInBounds_toArray, List.set_cons_zero, List.set_cons_succ])
          refine anyT_ready (rs := [7]) (by kernel_rfl) (by simp) ?_
          refine ReadyT.tail (o := _) rfl (by decide) (fun K hK => ?_)
          go_simp
          refine hK.out _ _ ?_
          clear hK K
          (try simp only [Act.put, List.setIfInBounds_toArray, List.set_cons_zero, List.set_cons_succ])
          refine anyT_done (by kernel_rfl) ?_ _
          go_wp2_with fail
          go_meet
          exact ⟨D1.heap.size, D3.heap.size, rfl, rfl, (((k0.trans (Below.mono hS (Below.size k0))).setCell (by have := Below.size k0; have := Below.size hS; simp; omega) _).setCell (by have := Below.size k0; have := Below.size hS; simp; omega) _ |>.setCell (by have := Below.size k0; have := Below.size hS; simp; omega) _).setCell (by have := Below.size k0; have := Below.size hS; simp; omega) _, At2.of_heap (blk_far (blk_far (blk2_set e4.out) ne1) ne1), At2.of_heap (blk2_set (blk_far (blk_far e5.out ne2) ne2))⟩
        refine ReadyT.head (o := _) rfl (by decide) (by kernel_rfl) inv (fun K hK => ?_) ReadyT.nil
        go_simp
        refine hK.out _ _ ?_ (fun hS inv => ?_)
        · exact (hS : Below W1.heap.size W1 _).alloc (Below.size hS) _
        clear hK K
        (try simp only [Act.put, List.setIfInBounds_toArray, List.set_cons_zero, List.set_cons_succ])
        have e5 := hide (blk_new D2 (.cells #[.int .i8 0, .int .i8 0] 29))
        replace e4 := hide (blk_alloc (x := (.cells #[.int .i8 0, .int .i8 0] 29)) e4.out)
        have hz2 : D2.heap.size < (D2.alloc (.cells #[.int .i8 0, .int .i8 0] 29)).heap.size := by simp
        generalize hdr : D2.alloc (.cells #[.int .i8 0, .int .i8 0] 29) = D3 at *
        clear hdr
        refine anyT_ready (rs := [3]) (by kernel_rfl) (by simp) ?_
        refine ReadyT.head (o := _) rfl (by decide) (by kernel_rfl) inv (fun K hK => ?_) ReadyT.nil
        go_simp
        refine (norm_any c d _).mono ?_
        rintro e D4 ⟨rfl, hb⟩
        go_wp2_with fail
        refine hK.out _ _ ?_ (fun hS inv => ?_)
        · exact (hS : Below W1.heap.size W1 _).trans (hb.mono (Below.size hS))
        clear hK K
        (try simp only [Act.put, List.setIfInBounds_toArray, List.set_cons_zero, List.set_cons_succ])
        have hz3 : D3.heap.size ≤ D4.heap.size := hb.size
        replace e4 := hide (blk_keep e4.out hb)
        replace e5 := hide (blk_keep e5.out hb)
        clear hb
        obtain ⟨q1, q2, q3, q4, q5⟩ := blk2 e4.out
        obtain ⟨r1, r2, r3, r4, r5⟩ := blk2 e5.out
        have ne1 : D1.heap.size ≠ D2.heap.size := by omega
        have ne2 : D2.heap.size ≠ D1.heap.size := by omega
        refine anyT_ready (rs := [6]) (by kernel_rfl) (by simp) ?_
        refine ReadyT.tail (o := _) rfl (by decide) (fun K hK => ?_)
        go_simp
        refine hK.out _ _ ?_
        clear hK K
        (try simp only [Act.put, List.setIfInBounds_toArray, List.set_cons_zero, List.set_cons_succ])
        refine anyT_ready (rs := [7]) (by kernel_rfl) (by simp) ?_
        refine ReadyT.tail (o := _) rfl (by decide) (fun K hK => ?_)
        go_simp
        refine hK.out _ _ ?_
        clear hK K
        (try simp only [Act.put, List.setIfInBounds_toArray, List.set_cons_zero, List.set_cons_succ])
        refine anyT_done (by kernel_rfl) ?_ _
        go_wp2_with fail
        go_meet
        exact ⟨D1.heap.size, D2.heap.size, rfl, rfl, (((k0.trans (Below.mono hS (Below.size k0))).setCell (by have := Below.size k0; have := Below.size hS; simp; omega) _).setCell (by have := Below.size k0; have := Below.size hS; simp; omega) _ |>.setCell (by have := Below.size k0; have := Below.size hS; simp; omega) _).setCell (by have := Below.size k0; have := Below.size hS; simp; omega) _, At2.of_heap (blk_far (blk_far (blk2_set e4.out) ne1) ne1), At2.of_heap (blk2_set (blk_far (blk_far e5.out ne2) ne2))⟩
      refine ReadyT.head (o := _) rfl (by decide) (by kernel_rfl) inv (fun K hK => ?_) ReadyT.nil
      go_simp
      refine hK.out _ _ ?_ (fun hS inv => ?_)
      · exact (hS : Below W1.heap.size W1 _).alloc (Below.size hS) _
      clear hK K
      (try simp only [Act.put, List.setIfInBounds_toArray, List.set_cons_zero, List.set_cons_succ])
      have e5 := hide (blk_new D1 (.cells #[.int .i8 0, .int .i8 0] 29))
      have hz1 : D1.heap.size < (D1.alloc (.cells #[.int .i8 0, .int .i8 0] 29)).heap.size := by simp
      generalize hdr : D1.alloc (.cells #[.int .i8 0, .int .i8 0] 29) = D2 at *
      clear hdr
      refine anyT_ready (rs := [3, 4]) (by kernel_rfl) (by simp) ?_
      refine ReadyT.head (o := _) rfl (by decide) (by kernel_rfl) inv (fun K hK => ?_) ?_
      · go_simp
        refine (norm_any c d _).mono ?_
        rintro e D3 ⟨rfl, hb⟩
        go_wp2_with fail
        refine hK.out _ _ ?_ (fun hS inv => ?_)
        · exact (hS : Below W1.heap.size W1 _).trans (hb.mono (Below.size hS))
        clear hK K
        (try simp only [Act.put, List.setIfInBounds_toArray, List.set_cons_zero, List.set_cons_succ])
        have hz2 : D2.heap.size ≤ D3.heap.size := hb.size
        replace e5 := hide (blk_keep e5.out hb)
        clear hb
        refine anyT_ready (rs := [4]) (by kernel_rfl) (by simp) ?_
        refine ReadyT.head (o := _) rfl (by decide) (by kernel_rfl) inv (fun K hK => ?_) ReadyT.nil
        go_simp
        refine hK.out _ _ ?_ (fun hS inv => ?_)
        · exact (hS : Below W1.heap.size W1 _).alloc (Below.size hS) _
        clear hK K
        (try simp only [Act.put, List.setIfInBounds_toArray, List.set_cons_zero, List.set_cons_succ])
        have e4 := hide (blk_new D3 (.cells #[.int .i8 0, .int .i8 0] 29))
        replace e5 := hide (blk_alloc (x := (.cells #[.int .i8 0, .int .i8 0] 29)) e5.out)
        have hz3 : D3.heap.size < (D3.alloc (.cells #[.int .i8 0, .int .i8 0] 29)).heap.size := by simp
        generalize hdr : D3.alloc (.cells #[.int .i8 0, .int .i8 0] 29) = D4 at *
        clear hdr
        obtain ⟨q1, q2, q3, q4, q5⟩ := blk2 e4.out
        obtain ⟨r1, r2, r3, r4, r5⟩ := blk2 e5.out
        have ne1 : D3.heap.size ≠ D1.heap.size := by omega
        have ne2 : D1.heap.size ≠ D3.heap.size := by omega
        refine anyT_ready (rs := [6]) (by kernel_rfl) (by simp) ?_
        refine ReadyT.tail (o := _) rfl (by decide) (fun K hK => ?_)
        go_simp
        refine hK.out _ _ ?_
        clear hK K
        (try simp only [Act.put, List.setIfInBounds_toArray, List.set_cons_zero, List.set_cons_succ])
        refine anyT_ready (rs := [7]) (by kernel_rfl) (by simp) ?_
        refine ReadyT.tail (o := _) rfl (by decide) (fun K hK => ?_)
        go_simp
        refine hK.out _ _ ?_
        clear hK K
        (try simp only [Act.put, List.setIfInBounds_toArray, List.set_cons_zero, List.set_cons_succ])
        refine anyT_done (by kernel_rfl) ?_ _
        go_wp2_with fail
        go_meet
        exact ⟨D3.heap.size, D1.heap.size, rfl, rfl, (((k0.trans (Below.mono hS (Below.size k0))).setCell (by have := Below.size k0; have := Below.size hS; simp; omega) _).setCell (by have := Below.size k0; have := Below.size hS; simp; omega) _ |>.setCell (by have := Below.size k0; have := Below.size hS; simp; omega) _).setCell (by have := Below.size k0; have := Below.size hS; simp; omega) _, At2.of_heap (blk_far (blk_far (blk2_set e4.out) ne1) ne1), At2.of_heap (blk2_set (blk_far (blk_far e5.out ne2) ne2))⟩
      refine ReadyT.head (o := _) rfl (by decide) (by kernel_rfl) inv (fun K hK => ?_) ReadyT.nil
      go_simp
      refine hK.out _ _ ?_ (fun hS inv => ?_)
      · exact (hS : Below W1.heap.size W1 _).alloc (Below.size hS) _
      clear hK K
      (try simp only [Act.put, List.setIfInBounds_toArray, List.set_cons_zero, List.set_cons_succ])
      have e4 := hide (blk_new D2 (.cells #[.int .i8 0, .int .i8 0] 29))
      replace e5 := hide (blk_alloc (x := (.cells #[.int .i8 0, .int .i8 0] 29)) e5.out)
      have hz2 : D2.heap.size < (D2.alloc (.cells #[.int .i8 0, .int .i8 0] 29)).heap.size := by simp
      generalize hdr : D2.alloc (.cells #[.int .i8 0, .int .i8 0] 29) = D3 at *
      clear hdr
      refine anyT_ready (rs := [3]) (by kernel_rfl) (by simp) ?_
      refine ReadyT.head (o := _) rfl (by decide) (by kernel_rfl) inv (fun K hK => ?_) ReadyT.nil
      go_simp
      refine (norm_any c d _).mono ?_
      rintro e D4 ⟨rfl, hb⟩
      go_wp2_with fail
      refine hK.out _ _ ?_ (fun hS inv => ?_)
      · exact (hS : Below W1.heap.size W1 _).trans (hb.mono (Below.size hS))
      clear hK K
      (try simp only [Act.put, List.setIfInBounds_toArray, List.set_cons_zero, List.set_cons_succ])
      have hz3 : D3.heap.size ≤ D4.heap.size := hb.size
      replace e4 := hide (blk_keep e4.out hb)
      replace e5 := hide (blk_keep e5.out hb)
      clear hb
      obtain ⟨q1, q2, q3, q4, q5⟩ := blk2 e4.out
      obtain ⟨r1, r2, r3, r4, r5⟩ := blk2 e5.out
      have ne1 : D2.heap.size ≠ D1.heap.size := by omega
      have ne2 : D1.heap.size ≠ D2.heap.size := by omega
      refine anyT_ready (rs := [6]) (by kernel_rfl) (by simp) ?_
      refine ReadyT.tail (o := _) rfl (by decide) (fun K hK => ?_)
      go_simp
      refine hK.out _ _ ?_
      clear hK K
      (try simp only [Act.put, List.setIfInBounds_toArray, List.set_cons_zero, List.set_cons_succ])
      refine anyT_ready (rs := [7]) (by kernel_rfl) (by simp) ?_
      refine ReadyT.tail (o := _) rfl (by decide) (fun K hK => ?_)
      go_simp
      refine hK.out _ _ ?_
      clear hK K
      (try simp only [Act.put, List.setIfInBounds_toArray, List.set_cons_zero, List.set_cons_succ])
      refine anyT_done (by kernel_rfl) ?_ _
      go_wp2_with fail
      go_meet
      exact ⟨D2.heap.size, D1.heap.size, rfl, rfl, (((k0.trans (Below.mono hS (Below.size k0))).setCell (by have := Below.size k0; have := Below.size hS; simp; omega) _).setCell (by have := Below.size k0; have := Below.size hS; simp; omega) _ |>.setCell (by have := Below.size k0; have := Below.size hS; simp; omega) _).setCell (by have := Below.size k0; have := Below.size hS; simp; omega) _, At2.of_heap (blk_far (blk_far (blk2_set e4.out) ne1) ne1), At2.of_heap (blk2_set (blk_far (blk_far e5.out ne2) ne2))⟩
    refine ReadyT.head (o := _) rfl (by decide) (by kernel_rfl) inv (fun K hK => ?_) ?_
    · go_simp
      refine hK.out _ _ ?_ (fun hS inv => ?_)
      · exact (hS : Below W1.heap.size W1 _).alloc (Below.size hS) _
      clear hK K
      (try simp only [Act.put, List.setIfInBounds_toArray, List.set_cons_zero, List.set_cons_succ])
      have e4 := hide (blk_new D0 (.cells #[.int .i8 0, .int .i8 0] 29))
      have hz0 : D0.heap.size < (D0.alloc (.cells #[.int .i8 0, .int .i8 0] 29)).heap.size := by simp
      generalize hdr : D0.alloc (.cells #[.int .i8 0, .int .i8 0] 29) = D1 at *
      clear hdr
      refine anyT_ready (rs := [1, 5]) (by kernel_rfl) (by simp) ?_
      refine ReadyT.head (o := _) rfl (by decide) (by kernel_rfl) inv (fun K hK => ?_) ?_
      · go_simp
        refine (norm_any a b _).mono ?_
        rintro e D2 ⟨rfl, hb⟩
        go_wp2_with fail
        refine hK.out _ _ ?_ (fun hS inv => ?_)
        · exact (hS : Below W1.heap.size W1 _).trans (hb.mono (Below.size hS))
        clear hK K
        (try simp only [Act.put, List.setIfInBounds_toArray, List.set_cons_zero, List.set_cons_succ])
        have hz1 : D1.heap.size ≤ D2.heap.size := hb.size
        replace e4 := hide (blk_keep e4.out hb)
        clear hb
        refine anyT_ready (rs := [3, 5]) (by kernel_rfl) (by simp) ?_
        refine ReadyT.head (o := _) rfl (by decide) (by kernel_rfl) inv (fun K hK => ?_) ?_
        · go_simp
          refine (norm_any c d _).mono ?_
          rintro e D3 ⟨rfl, hb⟩
          go_wp2_with fail
          refine hK.out _ _ ?_ (fun hS inv => ?_)
          · exact (hS : Below W1.heap.size W1 _).trans (hb.mono (Below.size hS))
          clear hK K
          (try simp only [Act.put, List.setIfInBounds_toArray, List.set_cons_zero, List.set_cons_succ])
          have hz2 : D2.heap.size ≤ D3.heap.size := hb.size
          replace e4 := hide (blk_keep e4.out hb)
          clear hb
          refine anyT_ready (rs := [5]) (by kernel_rfl) (by simp) ?_
          refine ReadyT.head (o := _) rfl (by decide) (by kernel_rfl) inv (fun K hK => ?_) ReadyT.nil
          go_simp
          refine hK.out _ _ ?_ (fun hS inv => ?_)
          · exact (hS : Below W1.heap.size W1 _).alloc (Below.size hS) _
          clear hK K
          (try simp only [Act.put, List.setIfInBounds_toArray, List.set_cons_zero, List.set_cons_succ])
          have e5 := hide (blk_new D3 (.cells #[.int .i8 0, .int .i8 0] 29))
          replace e4 := hide (blk_alloc (x := (.cells #[.int .i8 0, .int .i8 0] 29)) e4.out)
          have hz3 : D3.heap.size < (D3.alloc (.cells #[.int .i8 0, .int .i8 0] 29)).heap.size := by simp
          generalize hdr : D3.alloc (.cells #[.int .i8 0, .int .i8 0] 29) = D4 at *
          clear hdr
          obtain ⟨q1, q2, q3, q4, q5⟩ := blk2 e4.out
          obtain ⟨r1, r2, r3, r4, r5⟩ := blk2 e5.out
          have ne1 : D0.heap.size ≠ D3.heap.size := by omega
          have ne2 : D3.heap.size ≠ D0.heap.size := by omega
          refine anyT_ready (rs := [6]) (by kernel_rfl) (by simp) ?_
          refine ReadyT.tail (o := _) rfl (by decide) (fun K hK => ?_)
          go_simp
          refine hK.out _ _ ?_
          clear hK K
          (try simp only [Act.put, List.setIfInBounds_toArray, List.set_cons_zero, List.set_cons_succ])
          refine anyT_ready (rs := [7]) (by kernel_rfl) (by simp) ?_
          refine ReadyT.tail (o := _) rfl (by decide) (fun K hK => ?_)
          go_simp
          refine hK.out _ _ ?_
          clear hK K
          (try simp only [Act.put, List.setIfInBounds_toArray, List.set_cons_zero, List.set_cons_succ])
          refine anyT_done (by kernel_rfl) ?_ _
          go_wp2_with fail
          go_meet
          exact ⟨D0.heap.size, D3.heap.size, rfl, rfl, (((k0.trans (Below.mono hS (Below.size k0))).setCell (by have := Below.size k0; have := Below.size hS; simp; omega) _).setCell (by have := Below.size k0; have := Below.size hS; simp; omega) _ |>.setCell (by have := Below.size k0; have := Below.size hS; simp; omega) _).setCell (by have := Below.size k0; have := Below.size hS; simp; omega) _, At2.of_heap (blk_far (blk_far (blk2_set e4.out) ne1) ne1), At2.of_heap (blk2_set (blk_far (blk_far e5.out ne2) ne2))⟩
        refine ReadyT.head (o := _) rfl (by decide) (by kernel_rfl) inv (fun K hK => ?_) ReadyT.nil
        go_simp
        refine hK.out _ _ ?_ (fun hS inv => ?_)
        · exact (hS : Below W1.heap.size W1 _).alloc (Below.size hS) _
        clear hK K
        (try simp only [Act.put, List.setIfInBounds_toArray, List.set_cons_zero, List.set_cons_succ])
        have e5 := hide (blk_new D2 (.cells #[.int .i8 0, .int .i8 0] 29))
        replace e4 := hide (blk_alloc (x := (.cells #[.int .i8 0, .int .i8 0] 29)) e4.out)
        have hz2 : D2.heap.size < (D2.alloc (.cells #[.int .i8 0, .int .i8 0] 29)).heap.size := by simp
        generalize hdr : D2.alloc (.cells #[.int .i8 0, .int .i8 0] 29) = D3 at *
        clear hdr
        refine anyT_ready (rs := [3]) (by kernel_rfl) (by simp) ?_
        refine ReadyT.head (o := _) rfl (by decide) (by kernel_rfl) inv (fun K hK => ?_) ReadyT.nil
        go_simp
        refine (norm_any c d _).mono ?_
        rintro e D4 ⟨rfl, hb⟩
        go_wp2_with fail
        refine hK.out _ _ ?_ (fun hS inv => ?_)
        · exact (hS : Below W1.heap.size W1 _).trans (hb.mono (Below.size hS))
        clear hK K
        (try simp only [Act.put, List.setIfInBounds_toArray, List.set_cons_zero, List.set_cons_succ])
        have hz3 : D3.heap.size ≤ D4.heap.size := hb.size
        replace e4 := hide (blk_keep e4.out hb)
        replace e5 := hide (blk_keep e5.out hb)
        clear hb
        obtain ⟨q1, q2, q3, q4, q5⟩ := blk2 e4.out
        obtain ⟨r1, r2, r3, r4, r5⟩ := blk2 e5.out
        have ne1 : D0.heap.size ≠ D2.heap.size := by omega
        have ne2 : D2.heap.size ≠ D0.heap.size := by omega
        refine anyT_ready (rs := [6]) (by kernel_rfl) (by simp) ?_
        refine ReadyT.tail (o := _) rfl (by decide) (fun K hK => ?_)
        go_simp
        refine hK.out _ _ ?_
        clear hK K
        (try simp only [Act.put, List.setIfInBounds_toArray, List.set_cons_zero, List.set_cons_succ])
        refine anyT_ready (rs := [7]) (by kernel_rfl) (by simp) ?_
        refine ReadyT.tail (o := _) rfl (by decide) (fun K hK => ?_)
        go_simp
        refine hK.out _ _ ?_
        clear hK K
        (try simp only [Act.put, List.setIfInBounds_toArray, List.set_cons_zero, List.set_cons_succ])
        refine anyT_done (by kernel_rfl) ?_ _
        go_wp2_with fail
        go_meet
        exact ⟨D0.heap.size, D2.heap.size, rfl, rfl, (((k0.trans (Below.mono hS (Below.size k0))).setCell (by have := Below.size k0; have := Below.size hS; simp; omega) _).setCell (by have := Below.size k0; have := Below.size hS; simp; omega) _ |>.setCell (by have := Below.size k0; have := Below.size hS; simp; omega) _).setCell (by have := Below.size k0; have := Below.size hS; simp; omega) _, At2.of_heap (blk_far (blk_far (blk2_set e4.out) ne1) ne1), At2.of_heap (blk2_set (blk_far (blk_far e5.out ne2) ne2))⟩
      refine ReadyT.head (o := _) rfl (by decide) (by kernel_rfl) inv (fun K hK => ?_) ReadyT.nil
      go_simp
      refine hK.out _ _ ?_ (fun hS inv => ?_)
      · exact (hS : Below W1.heap.size W1 _).alloc (Below.size hS) _
      clear hK K
      (try simp only [Act.put, List.setIfInBounds_toArray, List.set_cons_zero, List.set_cons_succ])
      have e5 := hide (blk_new D1 (.cells #[.int .i8 0, .int .i8 0] 29))
      replace e4 := hide (blk_alloc (x := (.cells #[.int .i8 0, .int .i8 0] 29)) e4.out)
      have hz1 : D1.heap.size < (D1.alloc (.cells #[.int .i8 0, .int .i8 0] 29)).heap.size := by simp
      generalize hdr : D1.alloc (.cells #[.int .i8 0, .int .i8 0] 29) = D2 at *
      clear hdr
      refine anyT_ready (rs := [1]) (by kernel_rfl) (by simp) ?_
      refine ReadyT.head (o := _) rfl (by decide) (by kernel_rfl) inv (fun K hK => ?_) ReadyT.nil
      go_simp
      refine (norm_any a b _).mono ?_
      rintro e D3 ⟨rfl, hb⟩
      go_wp2_with fail
      refine hK.out _ _ ?_ (fun hS inv => ?_)
      · exact (hS : Below W1.heap.size W1 _).trans (hb.mono (Below.size hS))
      clear hK K
      (try simp only [Act.put, List.setIfInBounds_toArray, List.set_cons_zero, List.set_cons_succ])
      have hz2 : D2.heap.size ≤ D3.heap.size := hb.size
      replace e4 := hide (blk_keep e4.out hb)
      replace e5 := hide (blk_keep e5.out hb)
      clear hb
      refine anyT_ready (rs := [3]) (by kernel_rfl) (by simp) ?_
      refine ReadyT.head (o := _) rfl (by decide) (by kernel_rfl) inv (fun K hK => ?_) ReadyT.nil
      go_simp
      refine (norm_any c d _).mono ?_
      rintro e D4 ⟨rfl, hb⟩
      go_wp2_with fail
      refine hK.out _ _ ?_ (fun hS inv => ?_)
      · exact (hS : Below W1.heap.size W1 _).trans (hb.mono (Below.size hS))
      clear hK K
      (try simp only [Act.put, List.setIfInBounds_toArray, List.set_cons_zero, List.set_cons_succ])
      have hz3 : D3.heap.size ≤ D4.heap.size := hb.size
      replace e4 := hide (blk_keep e4.out hb)
      replace e5 := hide (blk_keep e5.out hb)
      clear hb
      obtain ⟨q1, q2, q3, q4, q5⟩ := blk2 e4.out
      obtain ⟨r1, r2, r3, r4, r5⟩ := blk2 e5.out
      have ne1 : D0.heap.size ≠ D1.heap.size := by omega
      have ne2 : D1.heap.size ≠ D0.heap.size := by omega
      refine anyT_ready (rs := [6]) (by kernel_rfl) (by simp) ?_
      refine ReadyT.tail (o := _) rfl (by decide) (fun K hK => ?_)
      go_simp
      refine hK.out _ _ ?_
      clear hK K
      (try simp only [Act.put, List.setIfInBounds_toArray, List.set_cons_zero, List.set_cons_succ])
      refine anyT_ready (rs := [7]) (by kernel_rfl) (by simp) ?_
      refine ReadyT.tail (o := _) rfl (by decide) (fun K hK => ?_)
      go_simp
      refine hK.out _ _ ?_
      clear hK K
      (try simp only [Act.put, List.setIfInBounds_toArray, List.set_cons_zero, List.set_cons_succ])
      refine anyT_done (by kernel_rfl) ?_ _
      go_wp2_with fail
      go_meet
      exact ⟨D0.heap.size, D1.heap.size, rfl, rfl, (((k0.trans (Below.mono hS (Below.size k0))).setCell (by have := Below.size k0; have := Below.size hS; simp; omega) _).setCell (by have := Below.size k0; have := Below.size hS; simp; omega) _ |>.setCell (by have := Below.size k0; have := Below.size hS; simp; omega) _).setCell (by have := Below.size k0; have := Below.size hS; simp; omega) _, At2.of_heap (blk_far (blk_far (blk2_set e4.out) ne1) ne1), At2.of_heap (blk2_set (blk_far (blk_far e5.out ne2) ne2))⟩
    refine ReadyT.head (o := _) rfl (by decide) (by kernel_rfl) inv (fun K hK => ?_) ReadyT.nil
    go_simp
    refine hK.out _ _ ?_ (fun hS inv => ?_)
    · exact (hS : Below W1.heap.size W1 _).alloc (Below.size hS) _
    clear hK K
    (try simp only [Act.put, List.setIfInBounds_toArray, List.set_cons_zero, List.set_cons_succ])
    have e5 := hide (blk_new D0 (.cells #[.int .i8 0, .int .i8 0] 29))
    have hz0 : D0.heap.size < (D0.alloc (.cells #[.int .i8 0, .int .i8 0] 29)).heap.size := by simp
    generalize hdr : D0.alloc (.cells #[.int .i8 0, .int .i8 0] 29) = D1 at *
    clear hdr
    refine anyT_ready (rs := [1, 4]) (by kernel_rfl) (by simp) ?_
    refine ReadyT.head (o := _) rfl (by decide) (by kernel_rfl) inv (fun K hK => ?_) ?_
    · go_simp
      refine (norm_any a b _).mono ?_
      rintro e D2 ⟨rfl, hb⟩
      go_wp2_with fail
      refine hK.out _ _ ?_ (fun hS inv => ?_)
      · exact (hS : Below W1.heap.size W1 _).trans (hb.mono (Below.size hS))
      clear hK K
      (try simp only [Act.put, List.setIfInBounds_toArray, List.set_cons_zero, List.set_cons_succ])
      have hz1 : D1.heap.size ≤ D2.heap.size := hb.size
      replace e5 := hide (blk_keep e5.out hb)
      clear hb
      refine anyT_ready (rs := [3, 4]) (by kernel_rfl) (by simp) ?_
      refine ReadyT.head (o := _) rfl (by decide) (by kernel_rfl) inv (fun K hK => ?_) ?_
      · go_simp
        refine (norm_any c d _).mono ?_
        rintro e D3 ⟨rfl, hb⟩
        go_wp2_with fail
        refine hK.out _ _ ?_ (fun hS inv => ?_)
        · exact (hS : Below W1.heap.size W1 _).trans (hb.mono (Below.size hS))
        clear hK K
        (try simp only [Act.put, List.setIfInBounds_toArray, List.set_cons_zero, List.set_cons_succ])
        have hz2 : D2.heap.size ≤ D3.heap.size := hb.size
        replace e5 := hide (blk_keep e5.out hb)
        clear hb
        refine anyT_ready (rs := [4]) (by kernel_rfl) (by simp) ?_
        refine ReadyT.head (o := _) rfl (by decide) (by kernel_rfl) inv (fun K hK => ?_) ReadyT.nil
        go_simp
        refine hK.out _ _ ?_ (fun hS inv => ?_)
        · exact (hS : Below W1.heap.size W1 _).alloc (Below.size hS) _
        clear hK K
        (try simp only [Act.put, List.setIfInBounds_toArray, List.set_cons_zero, List.set_cons_succ])
        have e4 := hide (blk_new D3 (.cells #[.int .i8 0, .int .i8 0] 29))
        replace e5 := hide (blk_alloc (x := (.cells #[.int .i8 0, .int .i8 0] 29)) e5.out)
        have hz3 : D3.heap.size < (D3.alloc (.cells #[.int .i8 0, .int .i8 0] 29)).heap.size := by simp
        generalize hdr : D3.alloc (.cells #[.int .i8 0, .int .i8 0] 29) = D4 at *
        clear hdr
        obtain ⟨q1, q2, q3, q4, q5⟩ := blk2 e4.out
        obtain ⟨r1, r2, r3, r4, r5⟩ := blk2 e5.out
        have ne1 : D3.heap.size ≠ D0.heap.size := by omega
        have ne2 : D0.heap.size ≠ D3.heap.size := by omega
        refine anyT_ready (rs := [6]) (by kernel_rfl) (by simp) ?_
        refine ReadyT.tail (o := _) rfl (by decide) (fun K hK => ?_)
        go_simp
        refine hK.out _ _ ?_
        clear hK K
        (try simp only [Act.put, List.setIfInBounds_toArray, List.set_cons_zero, List.set_cons_succ])
        refine anyT_ready (rs := [7]) (by kernel_rfl) (by simp) ?_
        refine ReadyT.tail (o := _) rfl (by decide) (fun K hK => ?_)
        go_simp
        refine hK.out _ _ ?_
        clear hK K
        (try simp only [Act.put, List.setIfInBounds_toArray, List.set_cons_zero, List.set_cons_succ])
        refine anyT_done (by kernel_rfl) ?_ _
        go_wp2_with fail
        go_meet
        exact ⟨D3.heap.size, D0.heap.size, rfl, rfl, (((k0.trans (Below.mono hS (Below.size k0))).setCell (by have := Below.size k0; have := Below.size hS; simp; omega) _).setCell (by have := Below.size k0; have := Below.size hS; simp; omega) _ |>.setCell (by have := Below.size k0; have := Below.size hS; simp; omega) _).setCell (by have := Below.size k0; have := Below.size hS; simp; omega) _, At2.of_heap (blk_far (blk_far (blk2_set e4.out) ne1) ne1), At2.of_heap (blk2_set (blk_far (blk_far e5.out ne2) ne2))⟩
      refine ReadyT.head (o := _) rfl (by decide) (by kernel_rfl) inv (fun K hK => ?_) ReadyT.nil
      go_simp
      refine hK.out _ _ ?_ (fun hS inv => ?_)
      · exact (hS : Below W1.heap.size W1 _).alloc (Below.size hS) _
      clear hK K
      (try simp only [Act.put, List.setIfInBounds_toArray, List.set_cons_zero, List.set_cons_succ])
      have e4 := hide (blk_new D2 (.cells #[.int .i8 0, .int .i8 0] 29))
      replace e5 := hide (blk_alloc (x := (.cells #[.int .i8 0, .int .i8 0] 29)) e5.out)
      have hz2 : D2.heap.size < (D2.alloc (.cells #[.int .i8 0, .int .i8 0] 29)).heap.size := by simp
      generalize hdr : D2.alloc (.cells #[.int .i8 0, .int .i8 0] 29) = D3 at *
      clear hdr
      refine anyT_ready (rs := [3]) (by kernel_rfl) (by simp) ?_
      refine ReadyT.head (o := _) rfl (by decide) (by kernel_rfl) inv (fun K hK => ?_) ReadyT.nil
      go_simp
      refine (norm_any c d _).mono ?_
      rintro e D4 ⟨rfl, hb⟩
      go_wp2_with fail
      refine hK.out _ _ ?_ (fun hS inv => ?_)
      · exact (hS : Below W1.heap.size W1 _).trans (hb.mono (Below.size hS))
      clear hK K
      (try simp only [Act.put, List.setIfInBounds_toArray, List.set_cons_zero, List.set_cons_succ])
      have hz3 : D3.heap.size ≤ D4.heap.size := hb.size
      replace e4 := hide (blk_keep e4.out hb)
      replace e5 := hide (blk_keep e5.out hb)
      clear hb
      obtain ⟨q1, q2, q3, q4, q5⟩ := blk2 e4.out
      obtain ⟨r1, r2, r3, r4, r5⟩ := blk2 e5.out
      have ne1 : D2.heap.size ≠ D0.heap.size := by omega
      have ne2 : D0.heap.size ≠ D2.heap.size := by omega
      refine anyT_ready (rs := [6]) (by kernel_rfl) (by simp) ?_
      refine ReadyT.tail (o := _) rfl (by decide) (fun K hK => ?_)
      go_simp
      refine hK.out _ _ ?_
      clear hK K
      (try simp only [Act.put, List.setIfInBounds_toArray, List.set_cons_zero, List.set_cons_succ])
      refine anyT_ready (rs := [7]) (by kernel_rfl) (by simp) ?_
      refine ReadyT.tail (o := _) rfl (by decide) (fun K hK => ?_)
      go_simp
      refine hK.out _ _ ?_
      clear hK K
      (try simp only [Act.put, List.setIfInBounds_toArray, List.set_cons_zero, List.set_cons_succ])
      refine anyT_done (by kernel_rfl) ?_ _
      go_wp2_with fail
      go_meet
      exact ⟨D2.heap.size, D0.heap.size, rfl, rfl, (((k0.trans (Below.mono hS (Below.size k0))).setCell (by have := Below.size k0; have := Below.size hS; simp; omega) _).setCell (by have := Below.size k0; have := Below.size hS; simp; omega) _ |>.setCell (by have := Below.size k0; have := Below.size hS; simp; omega) _).setCell (by have := Below.size k0; have := Below.size hS; simp; omega) _, At2.of_heap (blk_far (blk_far (blk2_set e4.out) ne1) ne1), At2.of_heap (blk2_set (blk_far (blk_far e5.out ne2) ne2))⟩
    refine ReadyT.head (o := _) rfl (by decide) (by kernel_rfl) inv (fun K hK => ?_) ReadyT.nil
    go_simp
    refine hK.out _ _ ?_ (fun hS inv => ?_)
    · exact (hS : Below W1.heap.size W1 _).alloc (Below.size hS) _
    clear hK K
    (try simp only [Act.put, List.setIfInBounds_toArray, List.set_cons_zero, List.set_cons_succ])
    have e4 := hide (blk_new D1 (.cells #[.int .i8 0, .int .i8 0] 29))
    replace e5 := hide (blk_alloc (x := (.cells #[.int .i8 0, .int .i8 0] 29)) e5.out)
    have hz1 : D1.heap.size < (D1.alloc (.cells #[.int .i8 0, .int .i8 0] 29)).heap.size := by simp
    generalize hdr : D1.alloc (.cells #[.int .i8 0, .int .i8 0] 29) = D2 at *
    clear hdr
    refine anyT_ready (rs := [1]) (by kernel_rfl) (by simp) ?_
    refine ReadyT.head (o := _) rfl (by decide) (by kernel_rfl) inv (fun K hK => ?_) ReadyT.nil
    go_simp
    refine (norm_any a b _).mono ?_
    rintro e D3 ⟨rfl, hb⟩
    go_wp2_with fail
    refine hK.out _ _ ?_ (fun hS inv => ?_)
    · exact (hS : Below W1.heap.size W1 _).trans (hb.mono (Below.size hS))
    clear hK K
    (try simp only [Act.put, List.setIfInBounds_toArray, List.set_cons_zero, List.set_cons_succ])
    have hz2 : D2.heap.size ≤ D3.heap.size := hb.size
    replace e4 := hide (blk_keep e4.out hb)
    replace e5 := hide (blk_keep e5.out hb)
    clear hb
    refine anyT_ready (rs := [3]) (by kernel_rfl) (by simp) ?_
    refine ReadyT.head (o := _) rfl (by decide) (by kernel_rfl) inv (fun K hK => ?_) ReadyT.nil
    go_simp
    refine (norm_any c d _).mono ?_
    rintro e D4 ⟨rfl, hb⟩
    go_wp2_with fail
    refine hK.out _ _ ?_ (fun hS inv => ?_)
    · exact (hS : Below W1.heap.size W1 _).trans (hb.mono (Below.size hS))
    clear hK K
    (try simp only [Act.put, List.setIfInBounds_toArray, List.set_cons_zero, List.set_cons_succ])
    have hz3 : D3.heap.size ≤ D4.heap.size := hb.size
    replace e4 := hide (blk_keep e4.out hb)
    replace e5 := hide (blk_keep e5.out hb)
    clear hb
    obtain ⟨q1, q2, q3, q4, q5⟩ := blk2 e4.out
    obtain ⟨r1, r2, r3, r4, r5⟩ := blk2 e5.out
    have ne1 : D1.heap.size ≠ D0.heap.size := by omega
    have ne2 : D0.heap.size ≠ D1.heap.size := by omega
    refine anyT_ready (rs := [6]) (by kernel_rfl) (by simp) ?_
    refine ReadyT.tail (o := _) rfl (by decide) (fun K hK => ?_)
    go_simp
    refine hK.out _ _ ?_
    clear hK K
    (try simp only [Act.put, List.setIfInBounds_toArray, List.set_cons_zero, List.set_cons_succ])
    refine anyT_ready (rs := [7]) (by kernel_rfl) (by simp) ?_
    refine ReadyT.tail (o := _) rfl (by decide) (fun K hK => ?_)
    go_simp
    refine hK.out _ _ ?_
    clear hK K
    (try simp only [Act.put, List.setIfInBounds_toArray, List.set_cons_zero, List.set_cons_succ])
    refine anyT_done (by kernel_rfl) ?_ _
    go_wp2_with fail
    go_meet
    exact ⟨D1.heap.size, D0.heap.size, rfl, rfl, (((k0.trans (Below.mono hS (Below.size k0))).setCell (by have := Below.size k0; have := Below.size hS; simp; omega) _).setCell (by have := Below.size k0; have := Below.size hS; simp; omega) _ |>.setCell (by have := Below.size k0; have := Below.size hS; simp; omega) _).setCell (by have := Below.size k0; have := Below.size hS; simp; omega) _, At2.of_heap (blk_far (blk_far (blk2_set e4.out) ne1) ne1), At2.of_heap (blk2_set (blk_far (blk_far e5.out ne2) ne2))⟩
  case rest =>
    obtain ⟨N, M, rfl, rfl, hB, hX, hY⟩ := hcut
    have h1 := nLo_le a b
    have h2 := nLo_le c d
    obtain ⟨b1, -⟩ := nLo_bd a b
    obtain ⟨-, b2⟩ := nHi_bd a b
    obtain ⟨b3, -⟩ := nLo_bd c d
    obtain ⟨-, b4⟩ := nHi_bd c d
    generalize nLo a b = p at *
    generalize nHi a b = q at *
    generalize nLo c d = r at *
    generalize nHi c d = s at *
    obtain ⟨x1, x2, x3⟩ := hX
    obtain ⟨y1, y2, y3⟩ := hY
    obtain ⟨w1, hw1⟩ : ∃ x, x = wc := ⟨_, rfl⟩
    rw [← hw1]
    rw [← hw1] at x1 x2 x3 y1 y2 y3 hB
    clear hw1
    go_upto_region 2 with fail
    go_cut [7] (Lst (min (mag p) (mag q)) w1)
    case first =>
      go_wp2_with fail
      all_goals
        go_meet
        exact ⟨congrArg (Value.int .i8) (by unfold mag; omega), rfl⟩
    case rest =>
      obtain ⟨rfl, hw⟩ := hcut
      rw [hw]
      clear hw
      generalize hl : min (mag p) (mag q) = l at *
      have Hl := Lib.hid hl
      clear hl
      go_upto_region 3 with fail
      go_cut [42] (LstB (domG p q r s) w1)
      case first =>
        go_wp2_with fail
        all_goals
          go_meet
          exact ⟨congrArg Value.bool (by unfold domG; rw [Hl.out]; first | exact bool_dec (by omega) | (rw [← Bool.decide_or]; exact bool_dec (by omega)) | exact (decide_eq_true (by omega)).symm | exact (decide_eq_false (by omega)).symm), rfl⟩
      case rest =>
        obtain ⟨rfl, hw⟩ := hcut
        rw [hw]
        clear hw Hl
        cases hg : domG p q r s
        · obtain ⟨e1, e2, e3, e4⟩ := dom_lo hg h1 h2 b1 b2 b3 b4
          have E1 := hide e1
          have E2 := hide e2
          have E3 := hide e3
          have E4 := hide e4
          clear hg e1 e2 e3 e4 h1 h2
          go_wp2_with fail
          have k0 : Below w.heap.size w w1 ∧ At2 N p q w1 ∧ At2 M r s w1 := ⟨hB, ⟨x1, x2, x3⟩, ⟨y1, y2, y3⟩⟩
          have hsz := hB.size
          go_region_held3 (fun w' => Below w.heap.size w w' ∧ (N < w'.heap.size ∧ w'.cell? ⟨N, 0, none⟩ = some (.int .i8 p) ∧ w'.cell? ⟨N, 1, none⟩ = some (.int .i8 q)) ∧
              (M < w'.heap.size ∧ w'.cell? ⟨M, 0, none⟩ = some (.int .i8 r) ∧ w'.cell? ⟨M, 1, none⟩ = some (.int .i8 s)))
            (first
              | exact ⟨k0.1.drew, k0.2.1, k0.2.2⟩
              | exact k2_call (by assumption) hb (Below.size (k2_bel (by assumption)))
              | exact k2_alloc (by assumption) _ (Below.size (k2_bel (by assumption))))
            (first
              | (go_at_call 15; (with_reducible refine (comb2_d p q r s p q _ _ E1.out E2.out).mono ?_); rintro e wz ⟨rfl, hb⟩)
              | (go_at_call 15; (with_reducible refine (comb2_r p q r s p q _ _ E1.out E2.out).mono ?_); rintro e wz ⟨rfl, hb⟩)
              | (go_at_call 15; (with_reducible refine (comb2_r r s p q p q _ _ E3.out E4.out).mono ?_); rintro e wz ⟨rfl, hb⟩)
              | (go_at_call 13; (with_reducible refine Calls.mono (awake_any _ ?_) ?_); (exact HN.out.below (k2_bel (by assumption))); rintro e wz ⟨rfl, hb⟩))
          go_wp2_with fail
          go_ret
          exact ⟨rfl, k2_bel (by assumption)⟩
        · go_wp2_with ((go_at_call 13; (with_reducible refine Calls.mono (awake_any _ ?_) ?_); (exact HN.out.below hB); rintro e wz ⟨rfl, hb⟩))
          go_ret
          exact ⟨rfl, hB.trans (hb.mono hB.size)⟩

end Go.Proofs.YtiggmncjmkeboaaDoor
