/-
  The walk of StrengthMonotone.
-/
import Derived.Test.YtiggmncjmkeboaaDoorStrK
namespace Go.Proofs.YtiggmncjmkeboaaDoor
open Go.RowKit
set_option linter.unusedSimpArgs false

theorem inB_t {a b c d : Int} (h : inB a b c d = true) : c ≤ a ∧ b ≤ d := of_decide_eq_true h
theorem cmb2 {a b c d : Int} (h1 : -7 ≤ a) (h2 : a ≤ b) (h3 : b ≤ 7) (h4 : -7 ≤ c) (h5 : c ≤ d) (h6 : d ≤ 7) : cmbL [(a, b), (c, d)] 0 = cLo a c ∧ cmbH [(a, b), (c, d)] 0 = cHi b d := by
  simp only [cmbL, cmbH, nLo_id h1 h2 h3, nHi_id h1 h2 h3, nLo_id h4 h5 h6, nHi_id h4 h5 h6, cLo_zero, cHi_zero]
  exact ⟨trivial, trivial⟩
theorem mono_read {xl xh pl ph : Int} (h1 : -7 ≤ xl) (h2 : xl ≤ xh) (h3 : xh ≤ 7) (h4 : -7 ≤ pl) (h5 : pl ≤ ph) (h6 : ph ≤ 7) (hin : xl ≤ pl ∧ ph ≤ xh) (hne : ¬ (pl = 0 ∧ ph = 0)) : mLeq (mRead xl xh) (mRead pl ph) = true := by
  have e1 : mRead xl xh = if xl = 0 ∧ xh = 0 then 3 else if xh < 0 then 0 else if 0 < xl then 1 else 2 := by unfold mRead; rw [nLo_id h1 h2 h3, nHi_id h1 h2 h3]
  have e2 : mRead pl ph = if pl = 0 ∧ ph = 0 then 3 else if ph < 0 then 0 else if 0 < pl then 1 else 2 := by unfold mRead; rw [nLo_id h4 h5 h6, nHi_id h4 h5 h6]
  rw [if_neg hne] at e2
  rw [if_neg (by omega)] at e1
  rw [e1, e2]
  (repeat' split) <;> first | omega | decide

theorem leq_m (a b : Int) (r : Bool) (w : World) (h : mLeq a b = r) : Calls Tryd.prog 34 #[.int .u8 a, .int .u8 b] w (Mk (.bool r) w) :=
  (leq_any a b w).mono fun _ _ ⟨he, hw⟩ => ⟨by rw [he, h], by rw [hw]; exact Below.refl _ _⟩
def mbad (pl ph ql qh xl xh yl yh : Int) : Bool := !inB pl ph xl xh || !inB ql qh yl yh

set_option maxHeartbeats 8000000 in
theorem StrengthMonotone_walk (a b c d e f g h : Int) (w : World) (hN : Names w) : Calls Tryd.prog 10 #[iv a b, iv c d, iv e f, iv g h] w (Mk (.bool true) w) := by
  have HN := hide hN
  clear hN
  go_enter Tryd.func10, Tryd.ntmps10
  go_upto_region 1 with fail
  have k1 : At2 w.heap.size a b ((((w.alloc (.cells #[.int .i8 a, .int .i8 b] 34)).alloc (.cells #[.int .i8 c, .int .i8 d] 34)).alloc (.cells #[.int .i8 e, .int .i8 f] 34)).alloc (.cells #[.int .i8 g, .int .i8 h] 34)) := (((At2.new w a b _).alloc _).alloc _).alloc _
  have k2 : At2 (w.heap.size + 1) c d ((((w.alloc (.cells #[.int .i8 a, .int .i8 b] 34)).alloc (.cells #[.int .i8 c, .int .i8 d] 34)).alloc (.cells #[.int .i8 e, .int .i8 f] 34)).alloc (.cells #[.int .i8 g, .int .i8 h] 34)) := by
    have := At2.new (w.alloc (.cells #[.int .i8 a, .int .i8 b] 34)) c d 34
    rw [show (w.alloc (.cells #[.int .i8 a, .int .i8 b] 34)).heap.size = w.heap.size + 1 by simp] at this
    exact (this.alloc _).alloc _
  have k3 : At2 (w.heap.size + 2) e f ((((w.alloc (.cells #[.int .i8 a, .int .i8 b] 34)).alloc (.cells #[.int .i8 c, .int .i8 d] 34)).alloc (.cells #[.int .i8 e, .int .i8 f] 34)).alloc (.cells #[.int .i8 g, .int .i8 h] 34)) := by
    have := At2.new ((w.alloc (.cells #[.int .i8 a, .int .i8 b] 34)).alloc (.cells #[.int .i8 c, .int .i8 d] 34)) e f 34
    rw [show ((w.alloc (.cells #[.int .i8 a, .int .i8 b] 34)).alloc (.cells #[.int .i8 c, .int .i8 d] 34)).heap.size = w.heap.size + 2 by simp] at this
    exact this.alloc _
  have k4 : At2 (w.heap.size + 3) g h ((((w.alloc (.cells #[.int .i8 a, .int .i8 b] 34)).alloc (.cells #[.int .i8 c, .int .i8 d] 34)).alloc (.cells #[.int .i8 e, .int .i8 f] 34)).alloc (.cells #[.int .i8 g, .int .i8 h] 34)) := by
    have := At2.new (((w.alloc (.cells #[.int .i8 a, .int .i8 b] 34)).alloc (.cells #[.int .i8 c, .int .i8 d] 34)).alloc (.cells #[.int .i8 e, .int .i8 f] 34)) g h 34
    rw [show (((w.alloc (.cells #[.int .i8 a, .int .i8 b] 34)).alloc (.cells #[.int .i8 c, .int .i8 d] 34)).alloc (.cells #[.int .i8 e, .int .i8 f] 34)).heap.size = w.heap.size + 3 by simp] at this
    exact this
  have hB : Below w.heap.size w ((((w.alloc (.cells #[.int .i8 a, .int .i8 b] 34)).alloc (.cells #[.int .i8 c, .int .i8 d] 34)).alloc (.cells #[.int .i8 e, .int .i8 f] 34)).alloc (.cells #[.int .i8 g, .int .i8 h] 34)) := by (repeat (first | exact Below.refl _ _ | assumption | refine Below.setCell ?_ (by first | (simp; done) | (simp; omega) | omega) _ | refine Below.alloc ?_ (by first | (simp; done) | (simp; omega) | omega) _ | refine below_drewN ?_ _ | refine Below.drew ?_))
  generalize hW1 : (((w.alloc (.cells #[.int .i8 a, .int .i8 b] 34)).alloc (.cells #[.int .i8 c, .int .i8 d] 34)).alloc (.cells #[.int .i8 e, .int .i8 f] 34)).alloc (.cells #[.int .i8 g, .int .i8 h] 34) = W1 at *
  clear hW1
  have k1' := hide k1
  have k2' := hide k2
  have k3' := hide k3
  have k4' := hide k4
  clear k1 k2 k3 k4
  go_cut [9, 10] (Two W1 (nLo a b) (nHi a b) (nLo c d) (nHi c d))
  case first =>
    obtain ⟨k11, k12, k13⟩ := k1'.out
    obtain ⟨k21, k22, k23⟩ := k2'.out
    refine region_anyT (S := fun w1 => Below W1.heap.size W1 w1) (n := 6) (by kernel_rfl) (Below.refl _ _).drew (fun hS inv => ?_)
    refine anyT_take (i := 0) (oi := _) (v := .agg #[.int .i8 (a), .int .i8 (b)]) rfl (by kernel_rfl) (by kernel_rfl) (by kernel_rfl) (by decide) (by decide) (by kernel_rfl) (by kernel_rfl) inv (fun _ _ _ h => h) (Or.inl ⟨by rfl, ?_⟩) hS (fun inv => ?_)
    · intro wz hSw
      have hk1 := (hSw : Below _ _ _).cell (p := ⟨w.heap.size, 0, none⟩) (by first | assumption | (simp; done) | (simp; omega)); have hk2 := (hSw : Below _ _ _).cell (p := ⟨w.heap.size, 1, none⟩) (by first | assumption | (simp; done) | (simp; omega)); go_simp
    (try simp only [Act.put, List.setIfInBounds_toArray, List.set_cons_zero, List.set_cons_succ])
    refine anyT_take (i := 2) (oi := _) (v := .agg #[.int .i8 (c), .int .i8 (d)]) rfl (by kernel_rfl) (by kernel_rfl) (by kernel_rfl) (by decide) (by decide) (by kernel_rfl) (by kernel_rfl) inv (fun _ _ _ h => h) (Or.inl ⟨by rfl, ?_⟩) hS (fun inv => ?_)
    · intro wz hSw
      have hk1 := (hSw : Below _ _ _).cell (p := ⟨w.heap.size + 1, 0, none⟩) (by first | assumption | (simp; done) | (simp; omega)); have hk2 := (hSw : Below _ _ _).cell (p := ⟨w.heap.size + 1, 1, none⟩) (by first | assumption | (simp; done) | (simp; omega)); go_simp
    (try simp only [Act.put, List.setIfInBounds_toArray, List.set_cons_zero, List.set_cons_succ])
    have hzd : W1.heap.size ≤ W1.drew.heap.size := Nat.le_refl _
    generalize hdr : W1.drew = D0 at *
    clear hdr
    refine anyT_ready (rs := [1, 4, 5]) (by kernel_rfl) (by simp) ?_
    refine ReadyT.head (o := _) rfl (by decide) (by kernel_rfl) inv (fun K hK => ?_) ?_
    · go_simp
      refine (norm_any a b _).mono ?_
      rintro e D1 ⟨rfl, hb⟩
      go_wp2_with fail
      refine hK.out _ _ ?_ (fun hS inv => ?_)
      · exact (hS : Below W1.heap.size W1 _).trans (hb.mono (Below.size hS))
      clear hK K
      (try simp only [Act.put, List.setIfInBounds_toArray, List.set_cons_zero, List.set_cons_succ])
      have hz0 : D0.heap.size ≤ D1.heap.size := hb.size
      clear hb
      refine anyT_ready (rs := [3, 4, 5]) (by kernel_rfl) (by simp) ?_
      refine ReadyT.head (o := _) rfl (by decide) (by kernel_rfl) inv (fun K hK => ?_) ?_
      · go_simp
        refine (norm_any c d _).mono ?_
        rintro e D2 ⟨rfl, hb⟩
        go_wp2_with fail
        refine hK.out _ _ ?_ (fun hS inv => ?_)
        · exact (hS : Below W1.heap.size W1 _).trans (hb.mono (Below.size hS))
        clear hK K
        (try simp only [Act.put, List.setIfInBounds_toArray, List.set_cons_zero, List.set_cons_succ])
        have hz1 : D1.heap.size ≤ D2.heap.size := hb.size
        clear hb
        refine anyT_ready (rs := [4, 5]) (by kernel_rfl) (by simp) ?_
        refine ReadyT.head (o := _) rfl (by decide) (by kernel_rfl) inv (fun K hK => ?_) ?_
        · go_simp
          refine hK.out _ _ ?_ (fun hS inv => ?_)
          · exact (hS : Below W1.heap.size W1 _).alloc (Below.size hS) _
          clear hK K
          (try simp only [Act.put, List.setIfInBounds_toArray, List.set_cons_zero, List.set_cons_succ])
          have e4 := hide (blk_new D2 (.cells #[.int .i8 0, .int .i8 0] 29))
          have hz2 : D2.heap.size < (D2.alloc (.cells #[.int .i8 0, .int .i8 0] 29)).heap.size := by simp
          generalize hdr : D2.alloc (.cells #[.int .i8 0, .int .i8 0] 29) = D3 at *
          clear hdr
          refine anyT_ready (rs := [5]) (by kernel_rfl) (by simp) ?_
          refine ReadyT.head (o := _) rfl (by decide) (by kernel_rfl) inv (fun K hK => ?_) ReadyT.nil
          go_simp
          refine hK.out _ _ ?_ (fun hS inv => ?_)
          · exact (hS : Below W1.heap.size W1 _).alloc (Below.size hS) _
          clear hK K
          (try simp only [Act.put, List.setIfInBounds_toArray, List.set_cons_zero, List.set_cons_succ])
          have e5 := hide (blk_new D3 (.cells #[.int .i8 0, .int .i8 0] 29))
          replace e4 := hide (blk_alloc (x := (.cells #[.int .i8 0, .int .i8 0] 29)) e4.out)
          have hz3 : D3.heap.size < (D3.alloc (.cells #[.int .i8 0, .int .i8 0] 29)).heap.size := by simp
          generalize hdr : D3.alloc (.cells #[.int .i8 0, .int .i8 0] 29) = D4 at *
          clear hdr
          obtain ⟨q1, q2, q3, q4, q5⟩ := blk2 e4.out
          obtain ⟨r1, r2, r3, r4, r5⟩ := blk2 e5.out
          have ne1 : D2.heap.size ≠ D3.heap.size := by omega
          have ne2 : D3.heap.size ≠ D2.heap.size := by omega
          refine anyT_ready (rs := [6]) (by kernel_rfl) (by simp) ?_
          refine ReadyT.tail (o := _) rfl (by decide) (fun K hK => ?_)
          go_simp
          refine hK.out _ _ ?_
          clear hK K
          (try simp only [Act.put, List.setIfInBounds_toArray, List.set_cons_zero, List.set_cons_succ])
          refine anyT_ready (rs := [7]) (by kernel_rfl) (by simp) ?_
          refine ReadyT.tail (o := _) rfl (by decide) (fun K hK => ?_)
          go_simp
          refine hK.out _ _ ?_
          clear hK K
          (try simp only [Act.put, List.setIfInBounds_toArray, List.set_cons_zero, List.set_cons_succ])
          refine anyT_done (by kernel_rfl) ?_ _
          go_wp2_with fail
          go_meet
          exact ⟨D2.heap.size, D3.heap.size, rfl, rfl, (((Below.setCell hS (by simp; omega) _).setCell (by simp; omega) _).setCell (by simp; omega) _).setCell (by simp; omega) _, At2.of_heap (blk_far (blk_far (blk2_set e4.out) ne1) ne1), At2.of_heap (blk2_set (blk_far (blk_far e5.out ne2) ne2))⟩
        refine ReadyT.head (o := _) rfl (by decide) (by kernel_rfl) inv (fun K hK => ?_) ReadyT.nil
        go_simp
        refine hK.out _ _ ?_ (fun hS inv => ?_)
        · exact (hS : Below W1.heap.size W1 _).alloc (Below.size hS) _
        clear hK K
        (try simp only [Act.put, List.setIfInBounds_toArray, List.set_cons_zero, List.set_cons_succ])
        have e5 := hide (blk_new D2 (.cells #[.int .i8 0, .int .i8 0] 29))
        have hz2 : D2.heap.size < (D2.alloc (.cells #[.int .i8 0, .int .i8 0] 29)).heap.size := by simp
        generalize hdr : D2.alloc (.cells #[.int .i8 0, .int .i8 0] 29) = D3 at *
        clear hdr
        refine anyT_ready (rs := [4]) (by kernel_rfl) (by simp) ?_
        refine ReadyT.head (o := _) rfl (by decide) (by kernel_rfl) inv (fun K hK => ?_) ReadyT.nil
        go_simp
        refine hK.out _ _ ?_ (fun hS inv => ?_)
        · exact (hS : Below W1.heap.size W1 _).alloc (Below.size hS) _
        clear hK K
        (try simp only [Act.put, List.setIfInBounds_toArray, List.set_cons_zero, List.set_cons_succ])
        have e4 := hide (blk_new D3 (.cells #[.int .i8 0, .int .i8 0] 29))
        replace e5 := hide (blk_alloc (x := (.cells #[.int .i8 0, .int .i8 0] 29)) e5.out)
        have hz3 : D3.heap.size < (D3.alloc (.cells #[.int .i8 0, .int .i8 0] 29)).heap.size := by simp
        generalize hdr : D3.alloc (.cells #[.int .i8 0, .int .i8 0] 29) = D4 at *
        clear hdr
        obtain ⟨q1, q2, q3, q4, q5⟩ := blk2 e4.out
        obtain ⟨r1, r2, r3, r4, r5⟩ := blk2 e5.out
        have ne1 : D3.heap.size ≠ D2.heap.size := by omega
        have ne2 : D2.heap.size ≠ D3.heap.size := by omega
        refine anyT_ready (rs := [6]) (by kernel_rfl) (by simp) ?_
        refine ReadyT.tail (o := _) rfl (by decide) (fun K hK => ?_)
        go_simp
        refine hK.out _ _ ?_
        clear hK K
        (try simp only [Act.put, List.setIfInBounds_toArray, List.set_cons_zero, List.set_cons_succ])
        refine anyT_ready (rs := [7]) (by kernel_rfl) (by simp) ?_
        refine ReadyT.tail (o := _) rfl (by decide) (fun K hK => ?_)
        go_simp
        refine hK.out _ _ ?_
        clear hK K
        (try simp only [Act.put, List.setIfInBounds_toArray, List.set_cons_zero, List.set_cons_succ])
        refine anyT_done (by kernel_rfl) ?_ _
        go_wp2_with fail
        go_meet
        exact ⟨D3.heap.size, D2.heap.size, rfl, rfl, (((Below.setCell hS (by simp; omega) _).setCell (by simp; omega) _).setCell (by simp; omega) _).setCell (by simp; omega) _, At2.of_heap (blk_far (blk_far (blk2_set e4.out) ne1) ne1), At2.of_heap (blk2_set (blk_far (blk_far e5.out ne2) ne2))⟩
      refine ReadyT.head (o := _) rfl (by decide) (by kernel_rfl) inv (fun K hK => ?_) ?_
      · go_simp
        refine hK.out _ _ ?_ (fun hS inv => ?_)
        · exact (hS : Below W1.heap.size W1 _).alloc (Below.size hS) _
        clear hK K
        (try simp only [Act.put, List.setIfInBounds_toArray, List.set_cons_zero, List.set_cons_succ])
        have e4 := hide (blk_new D1 (.cells #[.int .i8 0, .int .i8 0] 29))
        have hz1 : D1.heap.size < (D1.alloc (.cells #[.int .i8 0, .int .i8 0] 29)).heap.size := by simp
        generalize hdr : D1.alloc (.cells #[.int .i8 0, .int .i8 0] 29) = D2 at *
        clear hdr
        refine anyT_ready (rs := [3, 5]) (by kernel_rfl) (by simp) ?_
        refine ReadyT.head (o := _) rfl (by decide) (by kernel_rfl) inv (fun K hK => ?_) ?_
        · go_simp
          refine (norm_any c d _).mono ?_
          rintro e D3 ⟨rfl, hb⟩
          go_wp2_with fail
          refine hK.out _ _ ?_ (fun hS inv => ?_)
          · exact (hS : Below W1.heap.size W1 _).trans (hb.mono (Below.size hS))
          clear hK K
          (try simp only [Act.put, List.setIfInBounds_toArray, List.set_cons_zero, List.set_cons_succ])
          have hz2 : D2.heap.size ≤ D3.heap.size := hb.size
          replace e4 := hide (blk_keep e4.out hb)
          clear hb
          refine anyT_ready (rs := [5]) (by kernel_rfl) (by simp) ?_
          refine ReadyT.head (o := _) rfl (by decide) (by kernel_rfl) inv (fun K hK => ?_) ReadyT.nil
          go_simp
          refine hK.out _ _ ?_ (fun hS inv => ?_)
          · exact (hS : Below W1.heap.size W1 _).alloc (Below.size hS) _
          clear hK K
          (try simp only [Act.put, List.setIfInBounds_toArray, List.set_cons_zero, List.set_cons_succ])
          have e5 := hide (blk_new D3 (.cells #[.int .i8 0, .int .i8 0] 29))
          replace e4 := hide (blk_alloc (x := (.cells #[.int .i8 0, .int .i8 0] 29)) e4.out)
          have hz3 : D3.heap.size < (D3.alloc (.cells #[.int .i8 0, .int .i8 0] 29)).heap.size := by simp
          generalize hdr : D3.alloc (.cells #[.int .i8 0, .int .i8 0] 29) = D4 at *
          clear hdr
          obtain ⟨q1, q2, q3, q4, q5⟩ := blk2 e4.out
          obtain ⟨r1, r2, r3, r4, r5⟩ := blk2 e5.out
          have ne1 : D1.heap.size ≠ D3.heap.size := by omega
          have ne2 : D3.heap.size ≠ D1.heap.size := by omega
          refine anyT_ready (rs := [6]) (by kernel_rfl) (by simp) ?_
          refine ReadyT.tail (o := _) rfl (by decide) (fun K hK => ?_)
          go_simp
          refine hK.out _ _ ?_
          clear hK K
          (try simp only [Act.put, List.setIfInBounds_toArray, List.set_cons_zero, List.set_cons_succ])
          refine anyT_ready (rs := [7]) (by kernel_rfl) (by simp) ?_
          refine ReadyT.tail (o := _) rfl (by decide) (fun K hK => ?_)
          go_simp
          refine hK.out _ _ ?_
          clear hK K
          (try simp only [Act.put, List.setIfInBounds_toArray, List.set_cons_zero, List.set_cons_succ])
          refine anyT_done (by kernel_rfl) ?_ _
          go_wp2_with fail
          go_meet
          exact ⟨D1.heap.size, D3.heap.size, rfl, rfl, (((Below.setCell hS (by simp; omega) _).setCell (by simp; omega) _).setCell (by simp; omega) _).setCell (by simp; omega) _, At2.of_heap (blk_far (blk_far (blk2_set e4.out) ne1) ne1), At2.of_heap (blk2_set (blk_far (blk_far e5.out ne2) ne2))⟩
        refine ReadyT.head (o := _) rfl (by decide) (by kernel_rfl) inv (fun K hK => ?_) ReadyT.nil
        go_simp
        refine hK.out _ _ ?_ (fun hS inv => ?_)
        · exact (hS : Below W1.heap.size W1 _).alloc (Below.size hS) _
        clear hK K
        (try simp only [Act.put, List.setIfInBounds_toArray, List.set_cons_zero, List.set_cons_succ])
        have e5 := hide (blk_new D2 (.cells #[.int .i8 0, .int .i8 0] 29))
        replace e4 := hide (blk_alloc (x := (.cells #[.int .i8 0, .int .i8 0] 29)) e4.out)
        have hz2 : D2.heap.size < (D2.alloc (.cells #[.int .i8 0, .int .i8 0] 29)).heap.size := by simp
        generalize hdr : D2.alloc (.cells #[.int .i8 0, .int .i8 0] 29) = D3 at *
        clear hdr
        refine anyT_ready (rs := [3]) (by kernel_rfl) (by simp) ?_
        refine ReadyT.head (o := _) rfl (by decide) (by kernel_rfl) inv (fun K hK => ?_) ReadyT.nil
        go_simp
        refine (norm_any c d _).mono ?_
        rintro e D4 ⟨rfl, hb⟩
        go_wp2_with fail
        refine hK.out _ _ ?_ (fun hS inv => ?_)
        · exact (hS : Below W1.heap.size W1 _).trans (hb.mono (Below.size hS))
        clear hK K
        (try simp only [Act.put, List.setIfInBounds_toArray, List.set_cons_zero, List.set_cons_succ])
        have hz3 : D3.heap.size ≤ D4.heap.size := hb.size
        replace e4 := hide (blk_keep e4.out hb)
        replace e5 := hide (blk_keep e5.out hb)
        clear hb
        obtain ⟨q1, q2, q3, q4, q5⟩ := blk2 e4.out
        obtain ⟨r1, r2, r3, r4, r5⟩ := blk2 e5.out
        have ne1 : D1.heap.size ≠ D2.heap.size := by omega
        have ne2 : D2.heap.size ≠ D1.heap.size := by omega
        refine anyT_ready (rs := [6]) (by kernel_rfl) (by simp) ?_
        refine ReadyT.tail (o := _) rfl (by decide) (fun K hK => ?_)
        go_simp
        refine hK.out _ _ ?_
        clear hK K
        (try simp only [Act.put, List.setIfInBounds_toArray, List.set_cons_zero, List.set_cons_succ])
        refine anyT_ready (rs := [7]) (by kernel_rfl) (by simp) ?_
        refine ReadyT.tail (o := _) rfl (by decide) (fun K hK => ?_)
        go_simp
        refine hK.out _ _ ?_
        clear hK K
        (try simp only [Act.put, List.setIfInBounds_toArray, List.set_cons_zero, List.set_cons_succ])
        refine anyT_done (by kernel_rfl) ?_ _
        go_wp2_with fail
        go_meet
        exact ⟨D1.heap.size, D2.heap.size, rfl, rfl, (((Below.setCell hS (by simp; omega) _).setCell (by simp; omega) _).setCell (by simp; omega) _).setCell (by simp; omega) _, At2.of_heap (blk_far (blk_far (blk2_set e4.out) ne1) ne1), At2.of_heap (blk2_set (blk_far (blk_far e5.out ne2) ne2))⟩
      refine ReadyT.head (o := _) rfl (by decide) (by kernel_rfl) inv (fun K hK => ?_) ReadyT.nil
      go_simp
      refine hK.out _ _ ?_ (fun hS inv => ?_)
      · exact (hS : Below W1.heap.size W1 _).alloc (Below.size hS) _
      clear hK K
      (try simp only [Act.put, List.setIfInBounds_toArray, List.set_cons_zero, List.set_cons_succ])
      have e5 := hide (blk_new D1 (.cells #[.int .i8 0, .int .i8 0] 29))
      have hz1 : D1.heap.size < (D1.alloc (.cells #[.int .i8 0, .int .i8 0] 29)).heap.size := by simp
      generalize hdr : D1.alloc (.cells #[.int .i8 0, .int .i8 0] 29) = D2 at *
      clear hdr
      refine anyT_ready (rs := [3, 4]) (by kernel_rfl) (by simp) ?_
      refine ReadyT.head (o := _) rfl (by decide) (by kernel_rfl) inv (fun K hK => ?_) ?_
      · go_simp
        refine (norm_any c d _).mono ?_
        rintro e D3 ⟨rfl, hb⟩
        go_wp2_with fail
        refine hK.out _ _ ?_ (fun hS inv => ?_)
        · exact (hS : Below W1.heap.size W1 _).trans (hb.mono (Below.size hS))
        clear hK K
        (try simp only [Act.put, List.setIfInBounds_toArray, List.set_cons_zero, List.set_cons_succ])
        have hz2 : D2.heap.size ≤ D3.heap.size := hb.size
        replace e5 := hide (blk_keep e5.out hb)
        clear hb
        refine anyT_ready (rs := [4]) (by kernel_rfl) (by simp) ?_
        refine ReadyT.head (o := _) rfl (by decide) (by kernel_rfl) inv (fun K hK => ?_) ReadyT.nil
        go_simp
        refine hK.out _ _ ?_ (fun hS inv => ?_)
        · exact (hS : Below W1.heap.size W1 _).alloc (Below.size hS) _
        clear hK K
        (try simp only [Act.put, List.setIfInBounds_toArray, List.set_cons_zero, List.set_cons_succ])
        have e4 := hide (blk_new D3 (.cells #[.int .i8 0, .int .i8 0] 29))
        replace e5 := hide (blk_alloc (x := (.cells #[.int .i8 0, .int .i8 0] 29)) e5.out)
        have hz3 : D3.heap.size < (D3.alloc (.cells #[.int .i8 0, .int .i8 0] 29)).heap.size := by simp
        generalize hdr : D3.alloc (.cells #[.int .i8 0, .int .i8 0] 29) = D4 at *
        clear hdr
        obtain ⟨q1, q2, q3, q4, q5⟩ := blk2 e4.out
        obtain ⟨r1, r2, r3, r4, r5⟩ := blk2 e5.out
        have ne1 : D3.heap.size ≠ D1.heap.size := by omega
        have ne2 : D1.heap.size ≠ D3.heap.size := by omega
        refine anyT_ready (rs := [6]) (by kernel_rfl) (by simp) ?_
        refine ReadyT.tail (o := _) rfl (by decide) (fun K hK => ?_)
        go_simp
        refine hK.out _ _ ?_
        clear hK K
        (try simp only [Act.put, List.setIfInBounds_toArray, List.set_cons_zero, List.set_cons_succ])
        refine anyT_ready (rs := [7]) (by kernel_rfl) (by simp) ?_
        refine ReadyT.tail (o := _) rfl (by decide) (fun K hK => ?_)
        go_simp
        refine hK.out _ _ ?_
        clear hK K
        (try simp only [Act.put, List.setIfInBounds_toArray, List.set_cons_zero, List.set_cons_succ])
        refine anyT_done (by kernel_rfl) ?_ _
        go_wp2_with fail
        go_meet
        exact ⟨D3.heap.size, D1.heap.size, rfl, rfl, (((Below.setCell hS (by simp; omega) _).setCell (by simp; omega) _).setCell (by simp; omega) _).setCell (by simp; omega) _, At2.of_heap (blk_far (blk_far (blk2_set e4.out) ne1) ne1), At2.of_heap (blk2_set (blk_far (blk_far e5.out ne2) ne2))⟩
      refine ReadyT.head (o := _) rfl (by decide) (by kernel_rfl) inv (fun K hK => ?_) ReadyT.nil
      go_simp
      refine hK.out _ _ ?_ (fun hS inv => ?_)
      · exact (hS : Below W1.heap.size W1 _).alloc (Below.size hS) _
      clear hK K
      (try simp only [Act.put, List.setIfInBounds_toArray, List.set_cons_zero, List.set_cons_succ])
      have e4 := hide (blk_new D2 (.cells #[.int .i8 0, .int .i8 0] 29))
      replace e5 := hide (blk_alloc (x := (.cells #[.int .i8 0, .int .i8 0] 29)) e5.out)
      have hz2 : D2.heap.size < (D2.alloc (.cells #[.int .i8 0, .int .i8 0] 29)).heap.size := by simp
      generalize hdr : D2.alloc (.cells #[.int .i8 0, .int .i8 0] 29) = D3 at *
      clear hdr
      refine anyT_ready (rs := [3]) (by kernel_rfl) (by simp) ?_
      refine ReadyT.head (o := _) rfl (by decide) (by kernel_rfl) inv (fun K hK => ?_) ReadyT.nil
      go_simp
      refine (norm_any c d _).mono ?_
      rintro e D4 ⟨rfl, hb⟩
      go_wp2_with fail
      refine hK.out _ _ ?_ (fun hS inv => ?_)
      · exact (hS : Below W1.heap.size W1 _).trans (hb.mono (Below.size hS))
      clear hK K
      (try simp only [Act.put, List.setIfInBounds_toArray, List.set_cons_zero, List.set_cons_succ])
      have hz3 : D3.heap.size ≤ D4.heap.size := hb.size
      replace e4 := hide (blk_keep e4.out hb)
      replace e5 := hide (blk_keep e5.out hb)
      clear hb
      obtain ⟨q1, q2, q3, q4, q5⟩ := blk2 e4.out
      obtain ⟨r1, r2, r3, r4, r5⟩ := blk2 e5.out
      have ne1 : D2.heap.size ≠ D1.heap.size := by omega
      have ne2 : D1.heap.size ≠ D2.heap.size := by omega
      refine anyT_ready (rs := [6]) (by kernel_rfl) (by simp) ?_
      refine ReadyT.tail (o := _) rfl (by decide) (fun K hK => ?_)
      go_simp
      refine hK.out _ _ ?_
      clear hK K
      (try simp only [Act.put, List.setIfInBounds_toArray, List.set_cons_zero, List.set_cons_succ])
      refine anyT_ready (rs := [7]) (by kernel_rfl) (by simp) ?_
      refine ReadyT.tail (o := _) rfl (by decide) (fun K hK => ?_)
      go_simp
      refine hK.out _ _ ?_
      clear hK K
      (try simp only [Act.put, List.setIfInBounds_toArray, List.set_cons_zero, List.set_cons_succ])
      refine anyT_done (by kernel_rfl) ?_ _
      go_wp2_with fail
      go_meet
      exact ⟨D2.heap.size, D1.heap.size, rfl, rfl, (((Below.setCell hS (by simp; omega) _).setCell (by simp; omega) _).setCell (by simp; omega) _).setCell (by simp; omega) _, At2.of_heap (blk_far (blk_far (blk2_set e4.out) ne1) ne1), At2.of_heap (blk2_set (blk_far (blk_far e5.out ne2) ne2))⟩
    refine ReadyT.head (o := _) rfl (by decide) (by kernel_rfl) inv (fun K hK => ?_) ?_
    · go_simp
      refine hK.out _ _ ?_ (fun hS inv => ?_)
      · exact (hS : Below W1.heap.size W1 _).alloc (Below.size hS) _
      clear hK K
      (try simp only [Act.put, List.setIfInBounds_toArray, List.set_cons_zero, List.set_cons_succ])
      have e4 := hide (blk_new D0 (.cells #[.int .i8 0, .int .i8 0] 29))
      have hz0 : D0.heap.size < (D0.alloc (.cells #[.int .i8 0, .int .i8 0] 29)).heap.size := by simp
      generalize hdr : D0.alloc (.cells #[.int .i8 0, .int .i8 0] 29) = D1 at *
      clear hdr
      refine anyT_ready (rs := [1, 5]) (by kernel_rfl) (by simp) ?_
      refine ReadyT.head (o := _) rfl (by decide) (by kernel_rfl) inv (fun K hK => ?_) ?_
      · go_simp
        refine (norm_any a b _).mono ?_
        rintro e D2 ⟨rfl, hb⟩
        go_wp2_with fail
        refine hK.out _ _ ?_ (fun hS inv => ?_)
        · exact (hS : Below W1.heap.size W1 _).trans (hb.mono (Below.size hS))
        clear hK K
        (try simp only [Act.put, List.setIfInBounds_toArray, List.set_cons_zero, List.set_cons_succ])
        have hz1 : D1.heap.size ≤ D2.heap.size := hb.size
        replace e4 := hide (blk_keep e4.out hb)
        clear hb
        refine anyT_ready (rs := [3, 5]) (by kernel_rfl) (by simp) ?_
        refine ReadyT.head (o := _) rfl (by decide) (by kernel_rfl) inv (fun K hK => ?_) ?_
        · go_simp
          refine (norm_any c d _).mono ?_
          rintro e D3 ⟨rfl, hb⟩
          go_wp2_with fail
          refine hK.out _ _ ?_ (fun hS inv => ?_)
          · exact (hS : Below W1.heap.size W1 _).trans (hb.mono (Below.size hS))
          clear hK K
          (try simp only [Act.put, List.setIfInBounds_toArray, List.set_cons_zero, List.set_cons_succ])
          have hz2 : D2.heap.size ≤ D3.heap.size := hb.size
          replace e4 := hide (blk_keep e4.out hb)
          clear hb
          refine anyT_ready (rs := [5]) (by kernel_rfl) (by simp) ?_
          refine ReadyT.head (o := _) rfl (by decide) (by kernel_rfl) inv (fun K hK => ?_) ReadyT.nil
          go_simp
          refine hK.out _ _ ?_ (fun hS inv => ?_)
          · exact (hS : Below W1.heap.size W1 _).alloc (Below.size hS) _
          clear hK K
          (try simp only [Act.put, List.setIfInBounds_toArray, List.set_cons_zero, List.set_cons_succ])
          have e5 := hide (blk_new D3 (.cells #[.int .i8 0, .int .i8 0] 29))
          replace e4 := hide (blk_alloc (x := (.cells #[.int .i8 0, .int .i8 0] 29)) e4.out)
          have hz3 : D3.heap.size < (D3.alloc (.cells #[.int .i8 0, .int .i8 0] 29)).heap.size := by simp
          generalize hdr : D3.alloc (.cells #[.int .i8 0, .int .i8 0] 29) = D4 at *
          clear hdr
          obtain ⟨q1, q2, q3, q4, q5⟩ := blk2 e4.out
          obtain ⟨r1, r2, r3, r4, r5⟩ := blk2 e5.out
          have ne1 : D0.heap.size ≠ D3.heap.size := by omega
          have ne2 : D3.heap.size ≠ D0.heap.size := by omega
          refine anyT_ready (rs := [6]) (by kernel_rfl) (by simp) ?_
          refine ReadyT.tail (o := _) rfl (by decide) (fun K hK => ?_)
          go_simp
          refine hK.out _ _ ?_
          clear hK K
          (try simp only [Act.put, List.setIfInBounds_toArray, List.set_cons_zero, List.set_cons_succ])
          refine anyT_ready (rs := [7]) (by kernel_rfl) (by simp) ?_
          refine ReadyT.tail (o := _) rfl (by decide) (fun K hK => ?_)
          go_simp
          refine hK.out _ _ ?_
          clear hK K
          (try simp only [Act.put, List.setIfInBounds_toArray, List.set_cons_zero, List.set_cons_succ])
          refine anyT_done (by kernel_rfl) ?_ _
          go_wp2_with fail
          go_meet
          exact ⟨D0.heap.size, D3.heap.size, rfl, rfl, (((Below.setCell hS (by simp; omega) _).setCell (by simp; omega) _).setCell (by simp; omega) _).setCell (by simp; omega) _, At2.of_heap (blk_far (blk_far (blk2_set e4.out) ne1) ne1), At2.of_heap (blk2_set (blk_far (blk_far e5.out ne2) ne2))⟩
        refine ReadyT.head (o := _) rfl (by decide) (by kernel_rfl) inv (fun K hK => ?_) ReadyT.nil
        go_simp
        refine hK.out _ _ ?_ (fun hS inv => ?_)
        · exact (hS : Below W1.heap.size W1 _).alloc (Below.size hS) _
        clear hK K
        (try simp only [Act.put, List.setIfInBounds_toArray, List.set_cons_zero, List.set_cons_succ])
        have e5 := hide (blk_new D2 (.cells #[.int .i8 0, .int .i8 0] 29))
        replace e4 := hide (blk_alloc (x := (.cells #[.int .i8 0, .int .i8 0] 29)) e4.out)
        have hz2 : D2.heap.size < (D2.alloc (.cells #[.int .i8 0, .int .i8 0] 29)).heap.size := by simp
        generalize hdr : D2.alloc (.cells #[.int .i8 0, .int .i8 0] 29) = D3 at *
        clear hdr
        refine anyT_ready (rs := [3]) (by kernel_rfl) (by simp) ?_
        refine ReadyT.head (o := _) rfl (by decide) (by kernel_rfl) inv (fun K hK => ?_) ReadyT.nil
        go_simp
        refine (norm_any c d _).mono ?_
        rintro e D4 ⟨rfl, hb⟩
        go_wp2_with fail
        refine hK.out _ _ ?_ (fun hS inv => ?_)
        · exact (hS : Below W1.heap.size W1 _).trans (hb.mono (Below.size hS))
        clear hK K
        (try simp only [Act.put, List.setIfInBounds_toArray, List.set_cons_zero, List.set_cons_succ])
        have hz3 : D3.heap.size ≤ D4.heap.size := hb.size
        replace e4 := hide (blk_keep e4.out hb)
        replace e5 := hide (blk_keep e5.out hb)
        clear hb
        obtain ⟨q1, q2, q3, q4, q5⟩ := blk2 e4.out
        obtain ⟨r1, r2, r3, r4, r5⟩ := blk2 e5.out
        have ne1 : D0.heap.size ≠ D2.heap.size := by omega
        have ne2 : D2.heap.size ≠ D0.heap.size := by omega
        refine anyT_ready (rs := [6]) (by kernel_rfl) (by simp) ?_
        refine ReadyT.tail (o := _) rfl (by decide) (fun K hK => ?_)
        go_simp
        refine hK.out _ _ ?_
        clear hK K
        (try simp only [Act.put, List.setIfInBounds_toArray, List.set_cons_zero, List.set_cons_succ])
        refine anyT_ready (rs := [7]) (by kernel_rfl) (by simp) ?_
        refine ReadyT.tail (o := _) rfl (by decide) (fun K hK => ?_)
        go_simp
        refine hK.out _ _ ?_
        clear hK K
        (try simp only [Act.put, List.setIfInBounds_toArray, List.set_cons_zero, List.set_cons_succ])
        refine anyT_done (by kernel_rfl) ?_ _
        go_wp2_with fail
        go_meet
        exact ⟨D0.heap.size, D2.heap.size, rfl, rfl, (((Below.setCell hS (by simp; omega) _).setCell (by simp; omega) _).setCell (by simp; omega) _).setCell (by simp; omega) _, At2.of_heap (blk_far (blk_far (blk2_set e4.out) ne1) ne1), At2.of_heap (blk2_set (blk_far (blk_far e5.out ne2) ne2))⟩
      refine ReadyT.head (o := _) rfl (by decide) (by kernel_rfl) inv (fun K hK => ?_) ReadyT.nil
      go_simp
      refine hK.out _ _ ?_ (fun hS inv => ?_)
      · exact (hS : Below W1.heap.size W1 _).alloc (Below.size hS) _
      clear hK K
      (try simp only [Act.put, List.setIfInBounds_toArray, List.set_cons_zero, List.set_cons_succ])
      have e5 := hide (blk_new D1 (.cells #[.int .i8 0, .int .i8 0] 29))
      replace e4 := hide (blk_alloc (x := (.cells #[.int .i8 0, .int .i8 0] 29)) e4.out)
      have hz1 : D1.heap.size < (D1.alloc (.cells #[.int .i8 0, .int .i8 0] 29)).heap.size := by simp
      generalize hdr : D1.alloc (.cells #[.int .i8 0, .int .i8 0] 29) = D2 at *
      clear hdr
      refine anyT_ready (rs := [1]) (by kernel_rfl) (by simp) ?_
      refine ReadyT.head (o := _) rfl (by decide) (by kernel_rfl) inv (fun K hK => ?_) ReadyT.nil
      go_simp
      refine (norm_any a b _).mono ?_
      rintro e D3 ⟨rfl, hb⟩
      go_wp2_with fail
      refine hK.out _ _ ?_ (fun hS inv => ?_)
      · exact (hS : Below W1.heap.size W1 _).trans (hb.mono (Below.size hS))
      clear hK K
      (try simp only [Act.put, List.setIfInBounds_toArray, List.set_cons_zero, List.set_cons_succ])
      have hz2 : D2.heap.size ≤ D3.heap.size := hb.size
      replace e4 := hide (blk_keep e4.out hb)
      replace e5 := hide (blk_keep e5.out hb)
      clear hb
      refine anyT_ready (rs := [3]) (by kernel_rfl) (by simp) ?_
      refine ReadyT.head (o := _) rfl (by decide) (by kernel_rfl) inv (fun K hK => ?_) ReadyT.nil
      go_simp
      refine (norm_any c d _).mono ?_
      rintro e D4 ⟨rfl, hb⟩
      go_wp2_with fail
      refine hK.out _ _ ?_ (fun hS inv => ?_)
      · exact (hS : Below W1.heap.size W1 _).trans (hb.mono (Below.size hS))
      clear hK K
      (try simp only [Act.put, List.setIfInBounds_toArray, List.set_cons_zero, List.set_cons_succ])
      have hz3 : D3.heap.size ≤ D4.heap.size := hb.size
      replace e4 := hide (blk_keep e4.out hb)
      replace e5 := hide (blk_keep e5.out hb)
      clear hb
      obtain ⟨q1, q2, q3, q4, q5⟩ := blk2 e4.out
      obtain ⟨r1, r2, r3, r4, r5⟩ := blk2 e5.out
      have ne1 : D0.heap.size ≠ D1.heap.size := by omega
      have ne2 : D1.heap.size ≠ D0.heap.size := by omega
      refine anyT_ready (rs := [6]) (by kernel_rfl) (by simp) ?_
      refine ReadyT.tail (o := _) rfl (by decide) (fun K hK => ?_)
      go_simp
      refine hK.out _ _ ?_
      clear hK K
      (try simp only [Act.put, List.setIfInBounds_toArray, List.set_cons_zero, List.set_cons_succ])
      refine anyT_ready (rs := [7]) (by kernel_rfl) (by simp) ?_
      refine ReadyT.tail (o := _) rfl (by decide) (fun K hK => ?_)
      go_simp
      refine hK.out _ _ ?_
      clear hK K
      (try simp only [Act.put, List.setIfInBounds_toArray, List.set_cons_zero, List.set_cons_succ])
      refine anyT_done (by kernel_rfl) ?_ _
      go_wp2_with fail
      go_meet
      exact ⟨D0.heap.size, D1.heap.size, rfl, rfl, (((Below.setCell hS (by simp; omega) _).setCell (by simp; omega) _).setCell (by simp; omega) _).setCell (by simp; omega) _, At2.of_heap (blk_far (blk_far (blk2_set e4.out) ne1) ne1), At2.of_heap (blk2_set (blk_far (blk_far e5.out ne2) ne2))⟩
    refine ReadyT.head (o := _) rfl (by decide) (by kernel_rfl) inv (fun K hK => ?_) ReadyT.nil
    go_simp
    refine hK.out _ _ ?_ (fun hS inv => ?_)
    · exact (hS : Below W1.heap.size W1 _).alloc (Below.size hS) _
    clear hK K
    (try simp only [Act.put, List.setIfInBounds_toArray, List.set_cons_zero, List.set_cons_succ])
    have e5 := hide (blk_new D0 (.cells #[.int .i8 0, .int .i8 0] 29))
    have hz0 : D0.heap.size < (D0.alloc (.cells #[.int .i8 0, .int .i8 0] 29)).heap.size := by simp
    generalize hdr : D0.alloc (.cells #[.int .i8 0, .int .i8 0] 29) = D1 at *
    clear hdr
    refine anyT_ready (rs := [1, 4]) (by kernel_rfl) (by simp) ?_
    refine ReadyT.head (o := _) rfl (by decide) (by kernel_rfl) inv (fun K hK => ?_) ?_
    · go_simp
      refine (norm_any a b _).mono ?_
      rintro e D2 ⟨rfl, hb⟩
      go_wp2_with fail
      refine hK.out _ _ ?_ (fun hS inv => ?_)
      · exact (hS : Below W1.heap.size W1 _).trans (hb.mono (Below.size hS))
      clear hK K
      (try simp only [Act.put, List.setIfInBounds_toArray, List.set_cons_zero, List.set_cons_succ])
      have hz1 : D1.heap.size ≤ D2.heap.size := hb.size
      replace e5 := hide (blk_keep e5.out hb)
      clear hb
      refine anyT_ready (rs := [3, 4]) (by kernel_rfl) (by simp) ?_
      refine ReadyT.head (o := _) rfl (by decide) (by kernel_rfl) inv (fun K hK => ?_) ?_
      · go_simp
        refine (norm_any c d _).mono ?_
        rintro e D3 ⟨rfl, hb⟩
        go_wp2_with fail
        refine hK.out _ _ ?_ (fun hS inv => ?_)
        · exact (hS : Below W1.heap.size W1 _).trans (hb.mono (Below.size hS))
        clear hK K
        (try simp only [Act.put, List.setIfInBounds_toArray, List.set_cons_zero, List.set_cons_succ])
        have hz2 : D2.heap.size ≤ D3.heap.size := hb.size
        replace e5 := hide (blk_keep e5.out hb)
        clear hb
        refine anyT_ready (rs := [4]) (by kernel_rfl) (by simp) ?_
        refine ReadyT.head (o := _) rfl (by decide) (by kernel_rfl) inv (fun K hK => ?_) ReadyT.nil
        go_simp
        refine hK.out _ _ ?_ (fun hS inv => ?_)
        · exact (hS : Below W1.heap.size W1 _).alloc (Below.size hS) _
        clear hK K
        (try simp only [Act.put, List.setIfInBounds_toArray, List.set_cons_zero, List.set_cons_succ])
        have e4 := hide (blk_new D3 (.cells #[.int .i8 0, .int .i8 0] 29))
        replace e5 := hide (blk_alloc (x := (.cells #[.int .i8 0, .int .i8 0] 29)) e5.out)
        have hz3 : D3.heap.size < (D3.alloc (.cells #[.int .i8 0, .int .i8 0] 29)).heap.size := by simp
        generalize hdr : D3.alloc (.cells #[.int .i8 0, .int .i8 0] 29) = D4 at *
        clear hdr
        obtain ⟨q1, q2, q3, q4, q5⟩ := blk2 e4.out
        obtain ⟨r1, r2, r3, r4, r5⟩ := blk2 e5.out
        have ne1 : D3.heap.size ≠ D0.heap.size := by omega
        have ne2 : D0.heap.size ≠ D3.heap.size := by omega
        refine anyT_ready (rs := [6]) (by kernel_rfl) (by simp) ?_
        refine ReadyT.tail (o := _) rfl (by decide) (fun K hK => ?_)
        go_simp
        refine hK.out _ _ ?_
        clear hK K
        (try simp only [Act.put, List.setIfInBounds_toArray, List.set_cons_zero, List.set_cons_succ])
        refine anyT_ready (rs := [7]) (by kernel_rfl) (by simp) ?_
        refine ReadyT.tail (o := _) rfl (by decide) (fun K hK => ?_)
        go_simp
        refine hK.out _ _ ?_
        clear hK K
        (try simp only [Act.put, List.setIfInBounds_toArray, List.set_cons_zero, List.set_cons_succ])
        refine anyT_done (by kernel_rfl) ?_ _
        go_wp2_with fail
        go_meet
        exact ⟨D3.heap.size, D0.heap.size, rfl, rfl, (((Below.setCell hS (by simp; omega) _).setCell (by simp; omega) _).setCell (by simp; omega) _).setCell (by simp; omega) _, At2.of_heap (blk_far (blk_far (blk2_set e4.out) ne1) ne1), At2.of_heap (blk2_set (blk_far (blk_far e5.out ne2) ne2))⟩
      refine ReadyT.head (o := _) rfl (by decide) (by kernel_rfl) inv (fun K hK => ?_) ReadyT.nil
      go_simp
      refine hK.out _ _ ?_ (fun hS inv => ?_)
      · exact (hS : Below W1.heap.size W1 _).alloc (Below.size hS) _
      clear hK K
      (try simp only [Act.put, List.setIfInBounds_toArray, List.set_cons_zero, List.set_cons_succ])
      have e4 := hide (blk_new D2 (.cells #[.int .i8 0, .int .i8 0] 29))
      replace e5 := hide (blk_alloc (x := (.cells #[.int .i8 0, .int .i8 0] 29)) e5.out)
      have hz2 : D2.heap.size < (D2.alloc (.cells #[.int .i8 0, .int .i8 0] 29)).heap.size := by simp
      generalize hdr : D2.alloc (.cells #[.int .i8 0, .int .i8 0] 29) = D3 at *
      clear hdr
      refine anyT_ready (rs := [3]) (by kernel_rfl) (by simp) ?_
      refine ReadyT.head (o := _) rfl (by decide) (by kernel_rfl) inv (fun K hK => ?_) ReadyT.nil
      go_simp
      refine (norm_any c d _).mono ?_
      rintro e D4 ⟨rfl, hb⟩
      go_wp2_with fail
      refine hK.out _ _ ?_ (fun hS inv => ?_)
      · exact (hS : Below W1.heap.size W1 _).trans (hb.mono (Below.size hS))
      clear hK K
      (try simp only [Act.put, List.setIfInBounds_toArray, List.set_cons_zero, List.set_cons_succ])
      have hz3 : D3.heap.size ≤ D4.heap.size := hb.size
      replace e4 := hide (blk_keep e4.out hb)
      replace e5 := hide (blk_keep e5.out hb)
      clear hb
      obtain ⟨q1, q2, q3, q4, q5⟩ := blk2 e4.out
      obtain ⟨r1, r2, r3, r4, r5⟩ := blk2 e5.out
      have ne1 : D2.heap.size ≠ D0.heap.size := by omega
      have ne2 : D0.heap.size ≠ D2.heap.size := by omega
      refine anyT_ready (rs := [6]) (by kernel_rfl) (by simp) ?_
      refine ReadyT.tail (o := _) rfl (by decide) (fun K hK => ?_)
      go_simp
      refine hK.out _ _ ?_
      clear hK K
      (try simp only [Act.put, List.setIfInBounds_toArray, List.set_cons_zero, List.set_cons_succ])
      refine anyT_ready (rs := [7]) (by kernel_rfl) (by simp) ?_
      refine ReadyT.tail (o := _) rfl (by decide) (fun K hK => ?_)
      go_simp
      refine hK.out _ _ ?_
      clear hK K
      (try simp only [Act.put, List.setIfInBounds_toArray, List.set_cons_zero, List.set_cons_succ])
      refine anyT_done (by kernel_rfl) ?_ _
      go_wp2_with fail
      go_meet
      exact ⟨D2.heap.size, D0.heap.size, rfl, rfl, (((Below.setCell hS (by simp; omega) _).setCell (by simp; omega) _).setCell (by simp; omega) _).setCell (by simp; omega) _, At2.of_heap (blk_far (blk_far (blk2_set e4.out) ne1) ne1), At2.of_heap (blk2_set (blk_far (blk_far e5.out ne2) ne2))⟩
    refine ReadyT.head (o := _) rfl (by decide) (by kernel_rfl) inv (fun K hK => ?_) ReadyT.nil
    go_simp
    refine hK.out _ _ ?_ (fun hS inv => ?_)
    · exact (hS : Below W1.heap.size W1 _).alloc (Below.size hS) _
    clear hK K
    (try simp only [Act.put, List.setIfInBounds_toArray, List.set_cons_zero, List.set_cons_succ])
    have e4 := hide (blk_new D1 (.cells #[.int .i8 0, .int .i8 0] 29))
    replace e5 := hide (blk_alloc (x := (.cells #[.int .i8 0, .int .i8 0] 29)) e5.out)
    have hz1 : D1.heap.size < (D1.alloc (.cells #[.int .i8 0, .int .i8 0] 29)).heap.size := by simp
    generalize hdr : D1.alloc (.cells #[.int .i8 0, .int .i8 0] 29) = D2 at *
    clear hdr
    refine anyT_ready (rs := [1]) (by kernel_rfl) (by simp) ?_
    refine ReadyT.head (o := _) rfl (by decide) (by kernel_rfl) inv (fun K hK => ?_) ReadyT.nil
    go_simp
    refine (norm_any a b _).mono ?_
    rintro e D3 ⟨rfl, hb⟩
    go_wp2_with fail
    refine hK.out _ _ ?_ (fun hS inv => ?_)
    · exact (hS : Below W1.heap.size W1 _).trans (hb.mono (Below.size hS))
    clear hK K
    (try simp only [Act.put, List.setIfInBounds_toArray, List.set_cons_zero, List.set_cons_succ])
    have hz2 : D2.heap.size ≤ D3.heap.size := hb.size
    replace e4 := hide (blk_keep e4.out hb)
    replace e5 := hide (blk_keep e5.out hb)
    clear hb
    refine anyT_ready (rs := [3]) (by kernel_rfl) (by simp) ?_
    refine ReadyT.head (o := _) rfl (by decide) (by kernel_rfl) inv (fun K hK => ?_) ReadyT.nil
    go_simp
    refine (norm_any c d _).mono ?_
    rintro e D4 ⟨rfl, hb⟩
    go_wp2_with fail
    refine hK.out _ _ ?_ (fun hS inv => ?_)
    · exact (hS : Below W1.heap.size W1 _).trans (hb.mono (Below.size hS))
    clear hK K
    (try simp only [Act.put, List.setIfInBounds_toArray, List.set_cons_zero, List.set_cons_succ])
    have hz3 : D3.heap.size ≤ D4.heap.size := hb.size
    replace e4 := hide (blk_keep e4.out hb)
    replace e5 := hide (blk_keep e5.out hb)
    clear hb
    obtain ⟨q1, q2, q3, q4, q5⟩ := blk2 e4.out
    obtain ⟨r1, r2, r3, r4, r5⟩ := blk2 e5.out
    have ne1 : D1.heap.size ≠ D0.heap.size := by omega
    have ne2 : D0.heap.size ≠ D1.heap.size := by omega
    refine anyT_ready (rs := [6]) (by kernel_rfl) (by simp) ?_
    refine ReadyT.tail (o := _) rfl (by decide) (fun K hK => ?_)
    go_simp
    refine hK.out _ _ ?_
    clear hK K
    (try simp only [Act.put, List.setIfInBounds_toArray, List.set_cons_zero, List.set_cons_succ])
    refine anyT_ready (rs := [7]) (by kernel_rfl) (by simp) ?_
    refine ReadyT.tail (o := _) rfl (by decide) (fun K hK => ?_)
    go_simp
    refine hK.out _ _ ?_
    clear hK K
    (try simp only [Act.put, List.setIfInBounds_toArray, List.set_cons_zero, List.set_cons_succ])
    refine anyT_done (by kernel_rfl) ?_ _
    go_wp2_with fail
    go_meet
    exact ⟨D1.heap.size, D0.heap.size, rfl, rfl, (((Below.setCell hS (by simp; omega) _).setCell (by simp; omega) _).setCell (by simp; omega) _).setCell (by simp; omega) _, At2.of_heap (blk_far (blk_far (blk2_set e4.out) ne1) ne1), At2.of_heap (blk2_set (blk_far (blk_far e5.out ne2) ne2))⟩
  case rest =>
    obtain ⟨N, M, rfl, rfl, hB1, hX, hY⟩ := hcut
    obtain ⟨W2, hW2⟩ : ∃ x, x = wc := ⟨_, rfl⟩
    rw [← hW2]
    rw [← hW2] at hX hY hB1
    clear hW2
    have k3 := hide (k3'.out.below hB1)
    have k4 := hide (k4'.out.below hB1)
    replace hB := hB.trans (hB1.mono hB.size)
    clear k1' k2' k3' k4' hB1
    have HX := hide hX
    have HY := hide hY
    clear hX hY
    go_upto_region 2 with fail
    go_cut [11, 12] (Two W2 (nLo e f) (nHi e f) (nLo g h) (nHi g h))
    case first =>
      obtain ⟨k11, k12, k13⟩ := k3.out
      obtain ⟨k21, k22, k23⟩ := k4.out
      refine region_anyT (S := fun w1 => Below W2.heap.size W2 w1) (n := 6) (by kernel_rfl) (Below.refl _ _).drew (fun hS inv => ?_)
      refine anyT_take (i := 0) (oi := _) (v := .agg #[.int .i8 (e), .int .i8 (f)]) rfl (by kernel_rfl) (by kernel_rfl) (by kernel_rfl) (by decide) (by decide) (by kernel_rfl) (by kernel_rfl) inv (fun _ _ _ h => h) (Or.inl ⟨by rfl, ?_⟩) hS (fun inv => ?_)
      · intro wz hSw
        have hk1 := (hSw : Below _ _ _).cell (p := ⟨w.heap.size + 2, 0, none⟩) (by first | assumption | (simp; done) | (simp; omega)); have hk2 := (hSw : Below _ _ _).cell (p := ⟨w.heap.size + 2, 1, none⟩) (by first | assumption | (simp; done) | (simp; omega)); go_simp
      (try simp only [Act.put, List.setIfInBounds_toArray, List.set_cons_zero, List.set_cons_succ])
      refine anyT_take (i := 2) (oi := _) (v := .agg #[.int .i8 (g), .int .i8 (h)]) rfl (by kernel_rfl) (by kernel_rfl) (by kernel_rfl) (by decide) (by decide) (by kernel_rfl) (by kernel_rfl) inv (fun _ _ _ h => h) (Or.inl ⟨by rfl, ?_⟩) hS (fun inv => ?_)
      · intro wz hSw
        have hk1 := (hSw : Below _ _ _).cell (p := ⟨w.heap.size + 3, 0, none⟩) (by first | assumption | (simp; done) | (simp; omega)); have hk2 := (hSw : Below _ _ _).cell (p := ⟨w.heap.size + 3, 1, none⟩) (by first | assumption | (simp; done) | (simp; omega)); go_simp
      (try simp only [Act.put, List.setIfInBounds_toArray, List.set_cons_zero, List.set_cons_succ])
      have hzd : W2.heap.size ≤ W2.drew.heap.size := Nat.le_refl _
      generalize hdr : W2.drew = D0 at *
      clear hdr
      refine anyT_ready (rs := [1, 4, 5]) (by kernel_rfl) (by simp) ?_
      refine ReadyT.head (o := _) rfl (by decide) (by kernel_rfl) inv (fun K hK => ?_) ?_
      · go_simp
        refine (norm_any e f _).mono ?_
        rintro e D1 ⟨rfl, hb⟩
        go_wp2_with fail
        refine hK.out _ _ ?_ (fun hS inv => ?_)
        · exact (hS : Below W2.heap.size W2 _).trans (hb.mono (Below.size hS))
        clear hK K
        (try simp only [Act.put, List.setIfInBounds_toArray, List.set_cons_zero, List.set_cons_succ])
        have hz0 : D0.heap.size ≤ D1.heap.size := hb.size
        clear hb
        refine anyT_ready (rs := [3, 4, 5]) (by kernel_rfl) (by simp) ?_
        refine ReadyT.head (o := _) rfl (by decide) (by kernel_rfl) inv (fun K hK => ?_) ?_
        · go_simp
          refine (norm_any g h _).mono ?_
          rintro e D2 ⟨rfl, hb⟩
          go_wp2_with fail
          refine hK.out _ _ ?_ (fun hS inv => ?_)
          · exact (hS : Below W2.heap.size W2 _).trans (hb.mono (Below.size hS))
          clear hK K
          (try simp only [Act.put, List.setIfInBounds_toArray, List.set_cons_zero, List.set_cons_succ])
          have hz1 : D1.heap.size ≤ D2.heap.size := hb.size
          clear hb
          refine anyT_ready (rs := [4, 5]) (by kernel_rfl) (by simp) ?_
          refine ReadyT.head (o := _) rfl (by decide) (by kernel_rfl) inv (fun K hK => ?_) ?_
          · go_simp
            refine hK.out _ _ ?_ (fun hS inv => ?_)
            · exact (hS : Below W2.heap.size W2 _).alloc (Below.size hS) _
            clear hK K
            (try simp only [Act.put, List.setIfInBounds_toArray, List.set_cons_zero, List.set_cons_succ])
            have e4 := hide (blk_new D2 (.cells #[.int .i8 0, .int .i8 0] 29))
            have hz2 : D2.heap.size < (D2.alloc (.cells #[.int .i8 0, .int .i8 0] 29)).heap.size := by simp
            generalize hdr : D2.alloc (.cells #[.int .i8 0, .int .i8 0] 29) = D3 at *
            clear hdr
            refine anyT_ready (rs := [5]) (by kernel_rfl) (by simp) ?_
            refine ReadyT.head (o := _) rfl (by decide) (by kernel_rfl) inv (fun K hK => ?_) ReadyT.nil
            go_simp
            refine hK.out _ _ ?_ (fun hS inv => ?_)
            · exact (hS : Below W2.heap.size W2 _).alloc (Below.size hS) _
            clear hK K
            (try simp only [Act.put, List.setIfInBounds_toArray, List.set_cons_zero, List.set_cons_succ])
            have e5 := hide (blk_new D3 (.cells #[.int .i8 0, .int .i8 0] 29))
            replace e4 := hide (blk_alloc (x := (.cells #[.int .i8 0, .int .i8 0] 29)) e4.out)
            have hz3 : D3.heap.size < (D3.alloc (.cells #[.int .i8 0, .int .i8 0] 29)).heap.size := by simp
            generalize hdr : D3.alloc (.cells #[.int .i8 0, .int .i8 0] 29) = D4 at *
            clear hdr
            obtain ⟨q1, q2, q3, q4, q5⟩ := blk2 e4.out
            obtain ⟨r1, r2, r3, r4, r5⟩ := blk2 e5.out
            have ne1 : D2.heap.size ≠ D3.heap.size := by omega
            have ne2 : D3.heap.size ≠ D2.heap.size := by omega
            refine anyT_ready (rs := [6]) (by kernel_rfl) (by simp) ?_
            refine ReadyT.tail (o := _) rfl (by decide) (fun K hK => ?_)
            go_simp
            refine hK.out _ _ ?_
            clear hK K
            (try simp only [Act.put, List.setIfInBounds_toArray, List.set_cons_zero, List.set_cons_succ])
            refine anyT_ready (rs := [7]) (by kernel_rfl) (by simp) ?_
            refine ReadyT.tail (o := _) rfl (by decide) (fun K hK => ?_)
            go_simp
            refine hK.out _ _ ?_
            clear hK K
            (try simp only [Act.put, List.setIfInBounds_toArray, List.set_cons_zero, List.set_cons_succ])
            refine anyT_done (by kernel_rfl) ?_ _
            go_wp2_with fail
            go_meet
            exact ⟨D2.heap.size, D3.heap.size, rfl, rfl, (((Below.setCell hS (by simp; omega) _).setCell (by simp; omega) _).setCell (by simp; omega) _).setCell (by simp; omega) _, At2.of_heap (blk_far (blk_far (blk2_set e4.out) ne1) ne1), At2.of_heap (blk2_set (blk_far (blk_far e5.out ne2) ne2))⟩
          refine ReadyT.head (o := _) rfl (by decide) (by kernel_rfl) inv (fun K hK => ?_) ReadyT.nil
          go_simp
          refine hK.out _ _ ?_ (fun hS inv => ?_)
          · exact (hS : Below W2.heap.size W2 _).alloc (Below.size hS) _
          clear hK K
          (try simp only [Act.put, List.setIfInBounds_toArray, List.set_cons_zero, List.set_cons_succ])
          have e5 := hide (blk_new D2 (.cells #[.int .i8 0, .int .i8 0] 29))
          have hz2 : D2.heap.size < (D2.alloc (.cells #[.int .i8 0, .int .i8 0] 29)).heap.size := by simp
          generalize hdr : D2.alloc (.cells #[.int .i8 0, .int .i8 0] 29) = D3 at *
          clear hdr
          refine anyT_ready (rs := [4]) (by kernel_rfl) (by simp) ?_
          refine ReadyT.head (o := _) rfl (by decide) (by kernel_rfl) inv (fun K hK => ?_) ReadyT.nil
          go_simp
          refine hK.out _ _ ?_ (fun hS inv => ?_)
          · exact (hS : Below W2.heap.size W2 _).alloc (Below.size hS) _
          clear hK K
          (try simp only [Act.put, List.setIfInBounds_toArray, List.set_cons_zero, List.set_cons_succ])
          have e4 := hide (blk_new D3 (.cells #[.int .i8 0, .int .i8 0] 29))
          replace e5 := hide (blk_alloc (x := (.cells #[.int .i8 0, .int .i8 0] 29)) e5.out)
          have hz3 : D3.heap.size < (D3.alloc (.cells #[.int .i8 0, .int .i8 0] 29)).heap.size := by simp
          generalize hdr : D3.alloc (.cells #[.int .i8 0, .int .i8 0] 29) = D4 at *
          clear hdr
          obtain ⟨q1, q2, q3, q4, q5⟩ := blk2 e4.out
          obtain ⟨r1, r2, r3, r4, r5⟩ := blk2 e5.out
          have ne1 : D3.heap.size ≠ D2.heap.size := by omega
          have ne2 : D2.heap.size ≠ D3.heap.size := by omega
          refine anyT_ready (rs := [6]) (by kernel_rfl) (by simp) ?_
          refine ReadyT.tail (o := _) rfl (by decide) (fun K hK => ?_)
          go_simp
          refine hK.out _ _ ?_
          clear hK K
          (try simp only [Act.put, List.setIfInBounds_toArray, List.set_cons_zero, List.set_cons_succ])
          refine anyT_ready (rs := [7]) (by kernel_rfl) (by simp) ?_
          refine ReadyT.tail (o := _) rfl (by decide) (fun K hK => ?_)
          go_simp
          refine hK.out _ _ ?_
          clear hK K
          (try simp only [Act.put, List.setIfInBounds_toArray, List.set_cons_zero, List.set_cons_succ])
          refine anyT_done (by kernel_rfl) ?_ _
          go_wp2_with fail
          go_meet
          exact ⟨D3.heap.size, D2.heap.size, rfl, rfl, (((Below.setCell hS (by simp; omega) _).setCell (by simp; omega) _).setCell (by simp; omega) _).setCell (by simp; omega) _, At2.of_heap (blk_far (blk_far (blk2_set e4.out) ne1) ne1), At2.of_heap (blk2_set (blk_far (blk_far e5.out ne2) ne2))⟩
        refine ReadyT.head (o := _) rfl (by decide) (by kernel_rfl) inv (fun K hK => ?_) ?_
        · go_simp
          refine hK.out _ _ ?_ (fun hS inv => ?_)
          · exact (hS : Below W2.heap.size W2 _).alloc (Below.size hS) _
          clear hK K
          (try simp only [Act.put, List.setIfInBounds_toArray, List.set_cons_zero, List.set_cons_succ])
          have e4 := hide (blk_new D1 (.cells #[.int .i8 0, .int .i8 0] 29))
          have hz1 : D1.heap.size < (D1.alloc (.cells #[.int .i8 0, .int .i8 0] 29)).heap.size := by simp
          generalize hdr : D1.alloc (.cells #[.int .i8 0, .int .i8 0] 29) = D2 at *
          clear hdr
          refine anyT_ready (rs := [3, 5]) (by kernel_rfl) (by simp) ?_
          refine ReadyT.head (o := _) rfl (by decide) (by kernel_rfl) inv (fun K hK => ?_) ?_
          · go_simp
            refine (norm_any g h _).mono ?_
            rintro e D3 ⟨rfl, hb⟩
            go_wp2_with fail
            refine hK.out _ _ ?_ (fun hS inv => ?_)
            · exact (hS : Below W2.heap.size W2 _).trans (hb.mono (Below.size hS))
            clear hK K
            (try simp only [Act.put, List.setIfInBounds_toArray, List.set_cons_zero, List.set_cons_succ])
            have hz2 : D2.heap.size ≤ D3.heap.size := hb.size
            replace e4 := hide (blk_keep e4.out hb)
            clear hb
            refine anyT_ready (rs := [5]) (by kernel_rfl) (by simp) ?_
            refine ReadyT.head (o := _) rfl (by decide) (by kernel_rfl) inv (fun K hK => ?_) ReadyT.nil
            go_simp
            refine hK.out _ _ ?_ (fun hS inv => ?_)
            · exact (hS : Below W2.heap.size W2 _).alloc (Below.size hS) _
            clear hK K
            (try simp only [Act.put, List.setIfInBounds_toArray, List.set_cons_zero, List.set_cons_succ])
            have e5 := hide (blk_new D3 (.cells #[.int .i8 0, .int .i8 0] 29))
            replace e4 := hide (blk_alloc (x := (.cells #[.int .i8 0, .int .i8 0] 29)) e4.out)
            have hz3 : D3.heap.size < (D3.alloc (.cells #[.int .i8 0, .int .i8 0] 29)).heap.size := by simp
            generalize hdr : D3.alloc (.cells #[.int .i8 0, .int .i8 0] 29) = D4 at *
            clear hdr
            obtain ⟨q1, q2, q3, q4, q5⟩ := blk2 e4.out
            obtain ⟨r1, r2, r3, r4, r5⟩ := blk2 e5.out
            have ne1 : D1.heap.size ≠ D3.heap.size := by omega
            have ne2 : D3.heap.size ≠ D1.heap.size := by omega
            refine anyT_ready (rs := [6]) (by kernel_rfl) (by simp) ?_
            refine ReadyT.tail (o := _) rfl (by decide) (fun K hK => ?_)
            go_simp
            refine hK.out _ _ ?_
            clear hK K
            (try simp only [Act.put, List.setIfInBounds_toArray, List.set_cons_zero, List.set_cons_succ])
            refine anyT_ready (rs := [7]) (by kernel_rfl) (by simp) ?_
            refine ReadyT.tail (o := _) rfl (by decide) (fun K hK => ?_)
            go_simp
            refine hK.out _ _ ?_
            clear hK K
            (try simp only [Act.put, List.setIfInBounds_toArray, List.set_cons_zero, List.set_cons_succ])
            refine anyT_done (by kernel_rfl) ?_ _
            go_wp2_with fail
            go_meet
            exact ⟨D1.heap.size, D3.heap.size, rfl, rfl, (((Below.setCell hS (by simp; omega) _).setCell (by simp; omega) _).setCell (by simp; omega) _).setCell (by simp; omega) _, At2.of_heap (blk_far (blk_far (blk2_set e4.out) ne1) ne1), At2.of_heap (blk2_set (blk_far (blk_far e5.out ne2) ne2))⟩
          refine ReadyT.head (o := _) rfl (by decide) (by kernel_rfl) inv (fun K hK => ?_) ReadyT.nil
          go_simp
          refine hK.out _ _ ?_ (fun hS inv => ?_)
          · exact (hS : Below W2.heap.size W2 _).alloc (Below.size hS) _
          clear hK K
          (try simp only [Act.put, List.setIfInBounds_toArray, List.set_cons_zero, List.set_cons_succ])
          have e5 := hide (blk_new D2 (.cells #[.int .i8 0, .int .i8 0] 29))
          replace e4 := hide (blk_alloc (x := (.cells #[.int .i8 0, .int .i8 0] 29)) e4.out)
          have hz2 : D2.heap.size < (D2.alloc (.cells #[.int .i8 0, .int .i8 0] 29)).heap.size := by simp
          generalize hdr : D2.alloc (.cells #[.int .i8 0, .int .i8 0] 29) = D3 at *
          clear hdr
          refine anyT_ready (rs := [3]) (by kernel_rfl) (by simp) ?_
          refine ReadyT.head (o := _) rfl (by decide) (by kernel_rfl) inv (fun K hK => ?_) ReadyT.nil
          go_simp
          refine (norm_any g h _).mono ?_
          rintro e D4 ⟨rfl, hb⟩
          go_wp2_with fail
          refine hK.out _ _ ?_ (fun hS inv => ?_)
          · exact (hS : Below W2.heap.size W2 _).trans (hb.mono (Below.size hS))
          clear hK K
          (try simp only [Act.put, List.setIfInBounds_toArray, List.set_cons_zero, List.set_cons_succ])
          have hz3 : D3.heap.size ≤ D4.heap.size := hb.size
          replace e4 := hide (blk_keep e4.out hb)
          replace e5 := hide (blk_keep e5.out hb)
          clear hb
          obtain ⟨q1, q2, q3, q4, q5⟩ := blk2 e4.out
          obtain ⟨r1, r2, r3, r4, r5⟩ := blk2 e5.out
          have ne1 : D1.heap.size ≠ D2.heap.size := by omega
          have ne2 : D2.heap.size ≠ D1.heap.size := by omega
          refine anyT_ready (rs := [6]) (by kernel_rfl) (by simp) ?_
          refine ReadyT.tail (o := _) rfl (by decide) (fun K hK => ?_)
          go_simp
          refine hK.out _ _ ?_
          clear hK K
          (try simp only [Act.put, List.setIfInBounds_toArray, List.set_cons_zero, List.set_cons_succ])
          refine anyT_ready (rs := [7]) (by kernel_rfl) (by simp) ?_
          refine ReadyT.tail (o := _) rfl (by decide) (fun K hK => ?_)
          go_simp
          refine hK.out _ _ ?_
          clear hK K
          (try simp only [Act.put, List.setIfInBounds_toArray, List.set_cons_zero, List.set_cons_succ])
          refine anyT_done (by kernel_rfl) ?_ _
          go_wp2_with fail
          go_meet
          exact ⟨D1.heap.size, D2.heap.size, rfl, rfl, (((Below.setCell hS (by simp; omega) _).setCell (by simp; omega) _).setCell (by simp; omega) _).setCell (by simp; omega) _, At2.of_heap (blk_far (blk_far (blk2_set e4.out) ne1) ne1), At2.of_heap (blk2_set (blk_far (blk_far e5.out ne2) ne2))⟩
        refine ReadyT.head (o := _) rfl (by decide) (by kernel_rfl) inv (fun K hK => ?_) ReadyT.nil
        go_simp
        refine hK.out _ _ ?_ (fun hS inv => ?_)
        · exact (hS : Below W2.heap.size W2 _).alloc (Below.size hS) _
        clear hK K
        (try simp only [Act.put, List.setIfInBounds_toArray, List.set_cons_zero, List.set_cons_succ])
        have e5 := hide (blk_new D1 (.cells #[.int .i8 0, .int .i8 0] 29))
        have hz1 : D1.heap.size < (D1.alloc (.cells #[.int .i8 0, .int .i8 0] 29)).heap.size := by simp
        generalize hdr : D1.alloc (.cells #[.int .i8 0, .int .i8 0] 29) = D2 at *
        clear hdr
        refine anyT_ready (rs := [3, 4]) (by kernel_rfl) (by simp) ?_
        refine ReadyT.head (o := _) rfl (by decide) (by kernel_rfl) inv (fun K hK => ?_) ?_
        · go_simp
          refine (norm_any g h _).mono ?_
          rintro e D3 ⟨rfl, hb⟩
          go_wp2_with fail
          refine hK.out _ _ ?_ (fun hS inv => ?_)
          · exact (hS : Below W2.heap.size W2 _).trans (hb.mono (Below.size hS))
          clear hK K
          (try simp only [Act.put, List.setIfInBounds_toArray, List.set_cons_zero, List.set_cons_succ])
          have hz2 : D2.heap.size ≤ D3.heap.size := hb.size
          replace e5 := hide (blk_keep e5.out hb)
          clear hb
          refine anyT_ready (rs := [4]) (by kernel_rfl) (by simp) ?_
          refine ReadyT.head (o := _) rfl (by decide) (by kernel_rfl) inv (fun K hK => ?_) ReadyT.nil
          go_simp
          refine hK.out _ _ ?_ (fun hS inv => ?_)
          · exact (hS : Below W2.heap.size W2 _).alloc (Below.size hS) _
          clear hK K
          (try simp only [Act.put, List.setIfInBounds_toArray, List.set_cons_zero, List.set_cons_succ])
          have e4 := hide (blk_new D3 (.cells #[.int .i8 0, .int .i8 0] 29))
          replace e5 := hide (blk_alloc (x := (.cells #[.int .i8 0, .int .i8 0] 29)) e5.out)
          have hz3 : D3.heap.size < (D3.alloc (.cells #[.int .i8 0, .int .i8 0] 29)).heap.size := by simp
          generalize hdr : D3.alloc (.cells #[.int .i8 0, .int .i8 0] 29) = D4 at *
          clear hdr
          obtain ⟨q1, q2, q3, q4, q5⟩ := blk2 e4.out
          obtain ⟨r1, r2, r3, r4, r5⟩ := blk2 e5.out
          have ne1 : D3.heap.size ≠ D1.heap.size := by omega
          have ne2 : D1.heap.size ≠ D3.heap.size := by omega
          refine anyT_ready (rs := [6]) (by kernel_rfl) (by simp) ?_
          refine ReadyT.tail (o := _) rfl (by decide) (fun K hK => ?_)
          go_simp
          refine hK.out _ _ ?_
          clear hK K
          (try simp only [Act.put, List.setIfInBounds_toArray, List.set_cons_zero, List.set_cons_succ])
          refine anyT_ready (rs := [7]) (by kernel_rfl) (by simp) ?_
          refine ReadyT.tail (o := _) rfl (by decide) (fun K hK => ?_)
          go_simp
          refine hK.out _ _ ?_
          clear hK K
          (try simp only [Act.put, List.setIfInBounds_toArray, List.set_cons_zero, List.set_cons_succ])
          refine anyT_done (by kernel_rfl) ?_ _
          go_wp2_with fail
          go_meet
          exact ⟨D3.heap.size, D1.heap.size, rfl, rfl, (((Below.setCell hS (by simp; omega) _).setCell (by simp; omega) _).setCell (by simp; omega) _).setCell (by simp; omega) _, At2.of_heap (blk_far (blk_far (blk2_set e4.out) ne1) ne1), At2.of_heap (blk2_set (blk_far (blk_far e5.out ne2) ne2))⟩
        refine ReadyT.head (o := _) rfl (by decide) (by kernel_rfl) inv (fun K hK => ?_) ReadyT.nil
        go_simp
        refine hK.out _ _ ?_ (fun hS inv => ?_)
        · exact (hS : Below W2.heap.size W2 _).alloc (Below.size hS) _
        clear hK K
        (try simp only [Act.put, List.setIfInBounds_toArray, List.set_cons_zero, List.set_cons_succ])
        have e4 := hide (blk_new D2 (.cells #[.int .i8 0, .int .i8 0] 29))
        replace e5 := hide (blk_alloc (x := (.cells #[.int .i8 0, .int .i8 0] 29)) e5.out)
        have hz2 : D2.heap.size < (D2.alloc (.cells #[.int .i8 0, .int .i8 0] 29)).heap.size := by simp
        generalize hdr : D2.alloc (.cells #[.int .i8 0, .int .i8 0] 29) = D3 at *
        clear hdr
        refine anyT_ready (rs := [3]) (by kernel_rfl) (by simp) ?_
        refine ReadyT.head (o := _) rfl (by decide) (by kernel_rfl) inv (fun K hK => ?_) ReadyT.nil
        go_simp
        refine (norm_any g h _).mono ?_
        rintro e D4 ⟨rfl, hb⟩
        go_wp2_with fail
        refine hK.out _ _ ?_ (fun hS inv => ?_)
        · exact (hS : Below W2.heap.size W2 _).trans (hb.mono (Below.size hS))
        clear hK K
        (try simp only [Act.put, List.setIfInBounds_toArray, List.set_cons_zero, List.set_cons_succ])
        have hz3 : D3.heap.size ≤ D4.heap.size := hb.size
        replace e4 := hide (blk_keep e4.out hb)
        replace e5 := hide (blk_keep e5.out hb)
        clear hb
        obtain ⟨q1, q2, q3, q4, q5⟩ := blk2 e4.out
        obtain ⟨r1, r2, r3, r4, r5⟩ := blk2 e5.out
        have ne1 : D2.heap.size ≠ D1.heap.size := by omega
        have ne2 : D1.heap.size ≠ D2.heap.size := by omega
        refine anyT_ready (rs := [6]) (by kernel_rfl) (by simp) ?_
        refine ReadyT.tail (o := _) rfl (by decide) (fun K hK => ?_)
        go_simp
        refine hK.out _ _ ?_
        clear hK K
        (try simp only [Act.put, List.setIfInBounds_toArray, List.set_cons_zero, List.set_cons_succ])
        refine anyT_ready (rs := [7]) (by kernel_rfl) (by simp) ?_
        refine ReadyT.tail (o := _) rfl (by decide) (fun K hK => ?_)
        go_simp
        refine hK.out _ _ ?_
        clear hK K
        (try simp only [Act.put, List.setIfInBounds_toArray, List.set_cons_zero, List.set_cons_succ])
        refine anyT_done (by kernel_rfl) ?_ _
        go_wp2_with fail
        go_meet
        exact ⟨D2.heap.size, D1.heap.size, rfl, rfl, (((Below.setCell hS (by simp; omega) _).setCell (by simp; omega) _).setCell (by simp; omega) _).setCell (by simp; omega) _, At2.of_heap (blk_far (blk_far (blk2_set e4.out) ne1) ne1), At2.of_heap (blk2_set (blk_far (blk_far e5.out ne2) ne2))⟩
      refine ReadyT.head (o := _) rfl (by decide) (by kernel_rfl) inv (fun K hK => ?_) ?_
      · go_simp
        refine hK.out _ _ ?_ (fun hS inv => ?_)
        · exact (hS : Below W2.heap.size W2 _).alloc (Below.size hS) _
        clear hK K
        (try simp only [Act.put, List.setIfInBounds_toArray, List.set_cons_zero, List.set_cons_succ])
        have e4 := hide (blk_new D0 (.cells #[.int .i8 0, .int .i8 0] 29))
        have hz0 : D0.heap.size < (D0.alloc (.cells #[.int .i8 0, .int .i8 0] 29)).heap.size := by simp
        generalize hdr : D0.alloc (.cells #[.int .i8 0, .int .i8 0] 29) = D1 at *
        clear hdr
        refine anyT_ready (rs := [1, 5]) (by kernel_rfl) (by simp) ?_
        refine ReadyT.head (o := _) rfl (by decide) (by kernel_rfl) inv (fun K hK => ?_) ?_
        · go_simp
          refine (norm_any e f _).mono ?_
          rintro e D2 ⟨rfl, hb⟩
          go_wp2_with fail
          refine hK.out _ _ ?_ (fun hS inv => ?_)
          · exact (hS : Below W2.heap.size W2 _).trans (hb.mono (Below.size hS))
          clear hK K
          (try simp only [Act.put, List.setIfInBounds_toArray, List.set_cons_zero, List.set_cons_succ])
          have hz1 : D1.heap.size ≤ D2.heap.size := hb.size
          replace e4 := hide (blk_keep e4.out hb)
          clear hb
          refine anyT_ready (rs := [3, 5]) (by kernel_rfl) (by simp) ?_
          refine ReadyT.head (o := _) rfl (by decide) (by kernel_rfl) inv (fun K hK => ?_) ?_
          · go_simp
            refine (norm_any g h _).mono ?_
            rintro e D3 ⟨rfl, hb⟩
            go_wp2_with fail
            refine hK.out _ _ ?_ (fun hS inv => ?_)
            · exact (hS : Below W2.heap.size W2 _).trans (hb.mono (Below.size hS))
            clear hK K
            (try simp only [Act.put, List.setIfInBounds_toArray, List.set_cons_zero, List.set_cons_succ])
            have hz2 : D2.heap.size ≤ D3.heap.size := hb.size
            replace e4 := hide (blk_keep e4.out hb)
            clear hb
            refine anyT_ready (rs := [5]) (by kernel_rfl) (by simp) ?_
            refine ReadyT.head (o := _) rfl (by decide) (by kernel_rfl) inv (fun K hK => ?_) ReadyT.nil
            go_simp
            refine hK.out _ _ ?_ (fun hS inv => ?_)
            · exact (hS : Below W2.heap.size W2 _).alloc (Below.size hS) _
            clear hK K
            (try simp only [Act.put, List.setIfInBounds_toArray, List.set_cons_zero, List.set_cons_succ])
            have e5 := hide (blk_new D3 (.cells #[.int .i8 0, .int .i8 0] 29))
            replace e4 := hide (blk_alloc (x := (.cells #[.int .i8 0, .int .i8 0] 29)) e4.out)
            have hz3 : D3.heap.size < (D3.alloc (.cells #[.int .i8 0, .int .i8 0] 29)).heap.size := by simp
            generalize hdr : D3.alloc (.cells #[.int .i8 0, .int .i8 0] 29) = D4 at *
            clear hdr
            obtain ⟨q1, q2, q3, q4, q5⟩ := blk2 e4.out
            obtain ⟨r1, r2, r3, r4, r5⟩ := blk2 e5.out
            have ne1 : D0.heap.size ≠ D3.heap.size := by omega
            have ne2 : D3.heap.size ≠ D0.heap.size := by omega
            refine anyT_ready (rs := [6]) (by kernel_rfl) (by simp) ?_
            refine ReadyT.tail (o := _) rfl (by decide) (fun K hK => ?_)
            go_simp
            refine hK.out _ _ ?_
            clear hK K
            (try simp only [Act.put, List.setIfInBounds_toArray, List.set_cons_zero, List.set_cons_succ])
            refine anyT_ready (rs := [7]) (by kernel_rfl) (by simp) ?_
            refine ReadyT.tail (o := _) rfl (by decide) (fun K hK => ?_)
            go_simp
            refine hK.out _ _ ?_
            clear hK K
            (try simp only [Act.put, List.setIfInBounds_toArray, List.set_cons_zero, List.set_cons_succ])
            refine anyT_done (by kernel_rfl) ?_ _
            go_wp2_with fail
            go_meet
            exact ⟨D0.heap.size, D3.heap.size, rfl, rfl, (((Below.setCell hS (by simp; omega) _).setCell (by simp; omega) _).setCell (by simp; omega) _).setCell (by simp; omega) _, At2.of_heap (blk_far (blk_far (blk2_set e4.out) ne1) ne1), At2.of_heap (blk2_set (blk_far (blk_far e5.out ne2) ne2))⟩
          refine ReadyT.head (o := _) rfl (by decide) (by kernel_rfl) inv (fun K hK => ?_) ReadyT.nil
          go_simp
          refine hK.out _ _ ?_ (fun hS inv => ?_)
          · exact (hS : Below W2.heap.size W2 _).alloc (Below.size hS) _
          clear hK K
          (try simp only [Act.put, List.setIfInBounds_toArray, List.set_cons_zero, List.set_cons_succ])
          have e5 := hide (blk_new D2 (.cells #[.int .i8 0, .int .i8 0] 29))
          replace e4 := hide (blk_alloc (x := (.cells #[.int .i8 0, .int .i8 0] 29)) e4.out)
          have hz2 : D2.heap.size < (D2.alloc (.cells #[.int .i8 0, .int .i8 0] 29)).heap.size := by simp
          generalize hdr : D2.alloc (.cells #[.int .i8 0, .int .i8 0] 29) = D3 at *
          clear hdr
          refine anyT_ready (rs := [3]) (by kernel_rfl) (by simp) ?_
          refine ReadyT.head (o := _) rfl (by decide) (by kernel_rfl) inv (fun K hK => ?_) ReadyT.nil
          go_simp
          refine (norm_any g h _).mono ?_
          rintro e D4 ⟨rfl, hb⟩
          go_wp2_with fail
          refine hK.out _ _ ?_ (fun hS inv => ?_)
          · exact (hS : Below W2.heap.size W2 _).trans (hb.mono (Below.size hS))
          clear hK K
          (try simp only [Act.put, List.setIfInBounds_toArray, List.set_cons_zero, List.set_cons_succ])
          have hz3 : D3.heap.size ≤ D4.heap.size := hb.size
          replace e4 := hide (blk_keep e4.out hb)
          replace e5 := hide (blk_keep e5.out hb)
          clear hb
          obtain ⟨q1, q2, q3, q4, q5⟩ := blk2 e4.out
          obtain ⟨r1, r2, r3, r4, r5⟩ := blk2 e5.out
          have ne1 : D0.heap.size ≠ D2.heap.size := by omega
          have ne2 : D2.heap.size ≠ D0.heap.size := by omega
          refine anyT_ready (rs := [6]) (by kernel_rfl) (by simp) ?_
          refine ReadyT.tail (o := _) rfl (by decide) (fun K hK => ?_)
          go_simp
          refine hK.out _ _ ?_
          clear hK K
          (try simp only [Act.put, List.setIfInBounds_toArray, List.set_cons_zero, List.set_cons_succ])
          refine anyT_ready (rs := [7]) (by kernel_rfl) (by simp) ?_
          refine ReadyT.tail (o := _) rfl (by decide) (fun K hK => ?_)
          go_simp
          refine hK.out _ _ ?_
          clear hK K
          (try simp only [Act.put, List.setIfInBounds_toArray, List.set_cons_zero, List.set_cons_succ])
          refine anyT_done (by kernel_rfl) ?_ _
          go_wp2_with fail
          go_meet
          exact ⟨D0.heap.size, D2.heap.size, rfl, rfl, (((Below.setCell hS (by simp; omega) _).setCell (by simp; omega) _).setCell (by simp; omega) _).setCell (by simp; omega) _, At2.of_heap (blk_far (blk_far (blk2_set e4.out) ne1) ne1), At2.of_heap (blk2_set (blk_far (blk_far e5.out ne2) ne2))⟩
        refine ReadyT.head (o := _) rfl (by decide) (by kernel_rfl) inv (fun K hK => ?_) ReadyT.nil
        go_simp
        refine hK.out _ _ ?_ (fun hS inv => ?_)
        · exact (hS : Below W2.heap.size W2 _).alloc (Below.size hS) _
        clear hK K
        (try simp only [Act.put, List.setIfInBounds_toArray, List.set_cons_zero, List.set_cons_succ])
        have e5 := hide (blk_new D1 (.cells #[.int .i8 0, .int .i8 0] 29))
        replace e4 := hide (blk_alloc (x := (.cells #[.int .i8 0, .int .i8 0] 29)) e4.out)
        have hz1 : D1.heap.size < (D1.alloc (.cells #[.int .i8 0, .int .i8 0] 29)).heap.size := by simp
        generalize hdr : D1.alloc (.cells #[.int .i8 0, .int .i8 0] 29) = D2 at *
        clear hdr
        refine anyT_ready (rs := [1]) (by kernel_rfl) (by simp) ?_
        refine ReadyT.head (o := _) rfl (by decide) (by kernel_rfl) inv (fun K hK => ?_) ReadyT.nil
        go_simp
        refine (norm_any e f _).mono ?_
        rintro e D3 ⟨rfl, hb⟩
        go_wp2_with fail
        refine hK.out _ _ ?_ (fun hS inv => ?_)
        · exact (hS : Below W2.heap.size W2 _).trans (hb.mono (Below.size hS))
        clear hK K
        (try simp only [Act.put, List.setIfInBounds_toArray, List.set_cons_zero, List.set_cons_succ])
        have hz2 : D2.heap.size ≤ D3.heap.size := hb.size
        replace e4 := hide (blk_keep e4.out hb)
        replace e5 := hide (blk_keep e5.out hb)
        clear hb
        refine anyT_ready (rs := [3]) (by kernel_rfl) (by simp) ?_
        refine ReadyT.head (o := _) rfl (by decide) (by kernel_rfl) inv (fun K hK => ?_) ReadyT.nil
        go_simp
        refine (norm_any g h _).mono ?_
        rintro e D4 ⟨rfl, hb⟩
        go_wp2_with fail
        refine hK.out _ _ ?_ (fun hS inv => ?_)
        · exact (hS : Below W2.heap.size W2 _).trans (hb.mono (Below.size hS))
        clear hK K
        (try simp only [Act.put, List.setIfInBounds_toArray, List.set_cons_zero, List.set_cons_succ])
        have hz3 : D3.heap.size ≤ D4.heap.size := hb.size
        replace e4 := hide (blk_keep e4.out hb)
        replace e5 := hide (blk_keep e5.out hb)
        clear hb
        obtain ⟨q1, q2, q3, q4, q5⟩ := blk2 e4.out
        obtain ⟨r1, r2, r3, r4, r5⟩ := blk2 e5.out
        have ne1 : D0.heap.size ≠ D1.heap.size := by omega
        have ne2 : D1.heap.size ≠ D0.heap.size := by omega
        refine anyT_ready (rs := [6]) (by kernel_rfl) (by simp) ?_
        refine ReadyT.tail (o := _) rfl (by decide) (fun K hK => ?_)
        go_simp
        refine hK.out _ _ ?_
        clear hK K
        (try simp only [Act.put, List.setIfInBounds_toArray, List.set_cons_zero, List.set_cons_succ])
        refine anyT_ready (rs := [7]) (by kernel_rfl) (by simp) ?_
        refine ReadyT.tail (o := _) rfl (by decide) (fun K hK => ?_)
        go_simp
        refine hK.out _ _ ?_
        clear hK K
        (try simp only [Act.put, List.setIfInBounds_toArray, List.set_cons_zero, List.set_cons_succ])
        refine anyT_done (by kernel_rfl) ?_ _
        go_wp2_with fail
        go_meet
        exact ⟨D0.heap.size, D1.heap.size, rfl, rfl, (((Below.setCell hS (by simp; omega) _).setCell (by simp; omega) _).setCell (by simp; omega) _).setCell (by simp; omega) _, At2.of_heap (blk_far (blk_far (blk2_set e4.out) ne1) ne1), At2.of_heap (blk2_set (blk_far (blk_far e5.out ne2) ne2))⟩
      refine ReadyT.head (o := _) rfl (by decide) (by kernel_rfl) inv (fun K hK => ?_) ReadyT.nil
      go_simp
      refine hK.out _ _ ?_ (fun hS inv => ?_)
      · exact (hS : Below W2.heap.size W2 _).alloc (Below.size hS) _
      clear hK K
      (try simp only [Act.put, List.setIfInBounds_toArray, List.set_cons_zero, List.set_cons_succ])
      have e5 := hide (blk_new D0 (.cells #[.int .i8 0, .int .i8 0] 29))
      have hz0 : D0.heap.size < (D0.alloc (.cells #[.int .i8 0, .int .i8 0] 29)).heap.size := by simp
      generalize hdr : D0.alloc (.cells #[.int .i8 0, .int .i8 0] 29) = D1 at *
      clear hdr
      refine anyT_ready (rs := [1, 4]) (by kernel_rfl) (by simp) ?_
      refine ReadyT.head (o := _) rfl (by decide) (by kernel_rfl) inv (fun K hK => ?_) ?_
      · go_simp
        refine (norm_any e f _).mono ?_
        rintro e D2 ⟨rfl, hb⟩
        go_wp2_with fail
        refine hK.out _ _ ?_ (fun hS inv => ?_)
        · exact (hS : Below W2.heap.size W2 _).trans (hb.mono (Below.size hS))
        clear hK K
        (try simp only [Act.put, List.setIfInBounds_toArray, List.set_cons_zero, List.set_cons_succ])
        have hz1 : D1.heap.size ≤ D2.heap.size := hb.size
        replace e5 := hide (blk_keep e5.out hb)
        clear hb
        refine anyT_ready (rs := [3, 4]) (by kernel_rfl) (by simp) ?_
        refine ReadyT.head (o := _) rfl (by decide) (by kernel_rfl) inv (fun K hK => ?_) ?_
        · go_simp
          refine (norm_any g h _).mono ?_
          rintro e D3 ⟨rfl, hb⟩
          go_wp2_with fail
          refine hK.out _ _ ?_ (fun hS inv => ?_)
          · exact (hS : Below W2.heap.size W2 _).trans (hb.mono (Below.size hS))
          clear hK K
          (try simp only [Act.put, List.setIfInBounds_toArray, List.set_cons_zero, List.set_cons_succ])
          have hz2 : D2.heap.size ≤ D3.heap.size := hb.size
          replace e5 := hide (blk_keep e5.out hb)
          clear hb
          refine anyT_ready (rs := [4]) (by kernel_rfl) (by simp) ?_
          refine ReadyT.head (o := _) rfl (by decide) (by kernel_rfl) inv (fun K hK => ?_) ReadyT.nil
          go_simp
          refine hK.out _ _ ?_ (fun hS inv => ?_)
          · exact (hS : Below W2.heap.size W2 _).alloc (Below.size hS) _
          clear hK K
          (try simp only [Act.put, List.setIfInBounds_toArray, List.set_cons_zero, List.set_cons_succ])
          have e4 := hide (blk_new D3 (.cells #[.int .i8 0, .int .i8 0] 29))
          replace e5 := hide (blk_alloc (x := (.cells #[.int .i8 0, .int .i8 0] 29)) e5.out)
          have hz3 : D3.heap.size < (D3.alloc (.cells #[.int .i8 0, .int .i8 0] 29)).heap.size := by simp
          generalize hdr : D3.alloc (.cells #[.int .i8 0, .int .i8 0] 29) = D4 at *
          clear hdr
          obtain ⟨q1, q2, q3, q4, q5⟩ := blk2 e4.out
          obtain ⟨r1, r2, r3, r4, r5⟩ := blk2 e5.out
          have ne1 : D3.heap.size ≠ D0.heap.size := by omega
          have ne2 : D0.heap.size ≠ D3.heap.size := by omega
          refine anyT_ready (rs := [6]) (by kernel_rfl) (by simp) ?_
          refine ReadyT.tail (o := _) rfl (by decide) (fun K hK => ?_)
          go_simp
          refine hK.out _ _ ?_
          clear hK K
          (try simp only [Act.put, List.setIfInBounds_toArray, List.set_cons_zero, List.set_cons_succ])
          refine anyT_ready (rs := [7]) (by kernel_rfl) (by simp) ?_
          refine ReadyT.tail (o := _) rfl (by decide) (fun K hK => ?_)
          go_simp
          refine hK.out _ _ ?_
          clear hK K
          (try simp only [Act.put, List.setIfInBounds_toArray, List.set_cons_zero, List.set_cons_succ])
          refine anyT_done (by kernel_rfl) ?_ _
          go_wp2_with fail
          go_meet
          exact ⟨D3.heap.size, D0.heap.size, rfl, rfl, (((Below.setCell hS (by simp; omega) _).setCell (by simp; omega) _).setCell (by simp; omega) _).setCell (by simp; omega) _, At2.of_heap (blk_far (blk_far (blk2_set e4.out) ne1) ne1), At2.of_heap (blk2_set (blk_far (blk_far e5.out ne2) ne2))⟩
        refine ReadyT.head (o := _) rfl (by decide) (by kernel_rfl) inv (fun K hK => ?_) ReadyT.nil
        go_simp
        refine hK.out _ _ ?_ (fun hS inv => ?_)
        · exact (hS : Below W2.heap.size W2 _).alloc (Below.size hS) _
        clear hK K
        (try simp only [Act.put, List.setIfInBounds_toArray, List.set_cons_zero, List.set_cons_succ])
        have e4 := hide (blk_new D2 (.cells #[.int .i8 0, .int .i8 0] 29))
        replace e5 := hide (blk_alloc (x := (.cells #[.int .i8 0, .int .i8 0] 29)) e5.out)
        have hz2 : D2.heap.size < (D2.alloc (.cells #[.int .i8 0, .int .i8 0] 29)).heap.size := by simp
        generalize hdr : D2.alloc (.cells #[.int .i8 0, .int .i8 0] 29) = D3 at *
        clear hdr
        refine anyT_ready (rs := [3]) (by kernel_rfl) (by simp) ?_
        refine ReadyT.head (o := _) rfl (by decide) (by kernel_rfl) inv (fun K hK => ?_) ReadyT.nil
        go_simp
        refine (norm_any g h _).mono ?_
        rintro e D4 ⟨rfl, hb⟩
        go_wp2_with fail
        refine hK.out _ _ ?_ (fun hS inv => ?_)
        · exact (hS : Below W2.heap.size W2 _).trans (hb.mono (Below.size hS))
        clear hK K
        (try simp only [Act.put, List.setIfInBounds_toArray, List.set_cons_zero, List.set_cons_succ])
        have hz3 : D3.heap.size ≤ D4.heap.size := hb.size
        replace e4 := hide (blk_keep e4.out hb)
        replace e5 := hide (blk_keep e5.out hb)
        clear hb
        obtain ⟨q1, q2, q3, q4, q5⟩ := blk2 e4.out
        obtain ⟨r1, r2, r3, r4, r5⟩ := blk2 e5.out
        have ne1 : D2.heap.size ≠ D0.heap.size := by omega
        have ne2 : D0.heap.size ≠ D2.heap.size := by omega
        refine anyT_ready (rs := [6]) (by kernel_rfl) (by simp) ?_
        refine ReadyT.tail (o := _) rfl (by decide) (fun K hK => ?_)
        go_simp
        refine hK.out _ _ ?_
        clear hK K
        (try simp only [Act.put, List.setIfInBounds_toArray, List.set_cons_zero, List.set_cons_succ])
        refine anyT_ready (rs := [7]) (by kernel_rfl) (by simp) ?_
        refine ReadyT.tail (o := _) rfl (by decide) (fun K hK => ?_)
        go_simp
        refine hK.out _ _ ?_
        clear hK K
        (try simp only [Act.put, List.setIfInBounds_toArray, List.set_cons_zero, List.set_cons_succ])
        refine anyT_done (by kernel_rfl) ?_ _
        go_wp2_with fail
        go_meet
        exact ⟨D2.heap.size, D0.heap.size, rfl, rfl, (((Below.setCell hS (by simp; omega) _).setCell (by simp; omega) _).setCell (by simp; omega) _).setCell (by simp; omega) _, At2.of_heap (blk_far (blk_far (blk2_set e4.out) ne1) ne1), At2.of_heap (blk2_set (blk_far (blk_far e5.out ne2) ne2))⟩
      refine ReadyT.head (o := _) rfl (by decide) (by kernel_rfl) inv (fun K hK => ?_) ReadyT.nil
      go_simp
      refine hK.out _ _ ?_ (fun hS inv => ?_)
      · exact (hS : Below W2.heap.size W2 _).alloc (Below.size hS) _
      clear hK K
      (try simp only [Act.put, List.setIfInBounds_toArray, List.set_cons_zero, List.set_cons_succ])
      have e4 := hide (blk_new D1 (.cells #[.int .i8 0, .int .i8 0] 29))
      replace e5 := hide (blk_alloc (x := (.cells #[.int .i8 0, .int .i8 0] 29)) e5.out)
      have hz1 : D1.heap.size < (D1.alloc (.cells #[.int .i8 0, .int .i8 0] 29)).heap.size := by simp
      generalize hdr : D1.alloc (.cells #[.int .i8 0, .int .i8 0] 29) = D2 at *
      clear hdr
      refine anyT_ready (rs := [1]) (by kernel_rfl) (by simp) ?_
      refine ReadyT.head (o := _) rfl (by decide) (by kernel_rfl) inv (fun K hK => ?_) ReadyT.nil
      go_simp
      refine (norm_any e f _).mono ?_
      rintro e D3 ⟨rfl, hb⟩
      go_wp2_with fail
      refine hK.out _ _ ?_ (fun hS inv => ?_)
      · exact (hS : Below W2.heap.size W2 _).trans (hb.mono (Below.size hS))
      clear hK K
      (try simp only [Act.put, List.setIfInBounds_toArray, List.set_cons_zero, List.set_cons_succ])
      have hz2 : D2.heap.size ≤ D3.heap.size := hb.size
      replace e4 := hide (blk_keep e4.out hb)
      replace e5 := hide (blk_keep e5.out hb)
      clear hb
      refine anyT_ready (rs := [3]) (by kernel_rfl) (by simp) ?_
      refine ReadyT.head (o := _) rfl (by decide) (by kernel_rfl) inv (fun K hK => ?_) ReadyT.nil
      go_simp
      refine (norm_any g h _).mono ?_
      rintro e D4 ⟨rfl, hb⟩
      go_wp2_with fail
      refine hK.out _ _ ?_ (fun hS inv => ?_)
      · exact (hS : Below W2.heap.size W2 _).trans (hb.mono (Below.size hS))
      clear hK K
      (try simp only [Act.put, List.setIfInBounds_toArray, List.set_cons_zero, List.set_cons_succ])
      have hz3 : D3.heap.size ≤ D4.heap.size := hb.size
      replace e4 := hide (blk_keep e4.out hb)
      replace e5 := hide (blk_keep e5.out hb)
      clear hb
      obtain ⟨q1, q2, q3, q4, q5⟩ := blk2 e4.out
      obtain ⟨r1, r2, r3, r4, r5⟩ := blk2 e5.out
      have ne1 : D1.heap.size ≠ D0.heap.size := by omega
      have ne2 : D0.heap.size ≠ D1.heap.size := by omega
      refine anyT_ready (rs := [6]) (by kernel_rfl) (by simp) ?_
      refine ReadyT.tail (o := _) rfl (by decide) (fun K hK => ?_)
      go_simp
      refine hK.out _ _ ?_
      clear hK K
      (try simp only [Act.put, List.setIfInBounds_toArray, List.set_cons_zero, List.set_cons_succ])
      refine anyT_ready (rs := [7]) (by kernel_rfl) (by simp) ?_
      refine ReadyT.tail (o := _) rfl (by decide) (fun K hK => ?_)
      go_simp
      refine hK.out _ _ ?_
      clear hK K
      (try simp only [Act.put, List.setIfInBounds_toArray, List.set_cons_zero, List.set_cons_succ])
      refine anyT_done (by kernel_rfl) ?_ _
      go_wp2_with fail
      go_meet
      exact ⟨D1.heap.size, D0.heap.size, rfl, rfl, (((Below.setCell hS (by simp; omega) _).setCell (by simp; omega) _).setCell (by simp; omega) _).setCell (by simp; omega) _, At2.of_heap (blk_far (blk_far (blk2_set e4.out) ne1) ne1), At2.of_heap (blk2_set (blk_far (blk_far e5.out ne2) ne2))⟩
    case rest =>
      obtain ⟨K, L, rfl, rfl, hB1, hP, hQ⟩ := hcut
      obtain ⟨W3, hW3⟩ : ∃ x, x = wc := ⟨_, rfl⟩
      rw [← hW3]
      rw [← hW3] at hP hQ hB1
      clear hW3
      have hX := HX.out.below hB1
      have hY := HY.out.below hB1
      replace hB := hB.trans (hB1.mono hB.size)
      clear HX HY k3 k4 hB1
      have x1 := nLo_le a b
      obtain ⟨x2, -⟩ := nLo_bd a b
      obtain ⟨-, x3⟩ := nHi_bd a b
      have y1 := nLo_le c d
      obtain ⟨y2, -⟩ := nLo_bd c d
      obtain ⟨-, y3⟩ := nHi_bd c d
      have p1 := nLo_le e f
      obtain ⟨p2, -⟩ := nLo_bd e f
      obtain ⟨-, p3⟩ := nHi_bd e f
      have q1 := nLo_le g h
      obtain ⟨q2, -⟩ := nLo_bd g h
      obtain ⟨-, q3⟩ := nHi_bd g h
      generalize nLo a b = xl at *
      generalize nHi a b = xh at *
      generalize nLo c d = yl at *
      generalize nHi c d = yh at *
      generalize nLo e f = pl at *
      generalize nHi e f = ph at *
      generalize nLo g h = ql at *
      generalize nHi g h = qh at *
      have ⟨hX1, hX2, hX3⟩ := hX
      have ⟨hY1, hY2, hY3⟩ := hY
      have ⟨hP1, hP2, hP3⟩ := hP
      have ⟨hQ1, hQ2, hQ3⟩ := hQ
      go_upto_region 3 with fail
      go_cut [30] (fun v wx => v = .bool (mbad pl ph ql qh xl xh yl yh) ∧ Below W3.heap.size W3 wx)
      case first =>
        cases i1 : inB pl ph xl xh <;> cases i2 : inB ql qh yl yh
        all_goals
          go_wp2_with (first
            | (go_at_call 33; (with_reducible refine (within_any pl ph xl xh _).mono ?_); rintro e wz ⟨rfl, hb⟩; obtain ⟨hc, hf⟩ := bcell hb)
            | (go_at_call 33; (with_reducible refine (within_any ql qh yl yh _).mono ?_); rintro e wz ⟨rfl, hb2⟩))
          go_meet
          first
            | exact ⟨congrArg Value.bool (by simp [mbad, i1, i2]), hb⟩
            | exact ⟨congrArg Value.bool (by simp [mbad, i1, i2]), hb.trans (hb2.mono hb.size)⟩
      case rest =>
        obtain ⟨rfl, hB1⟩ := hcut
        obtain ⟨W5, hW5⟩ : ∃ x, x = wc := ⟨_, rfl⟩
        rw [← hW5]
        rw [← hW5] at hB1
        clear hW5
        replace hX := hX.below hB1
        replace hY := hY.below hB1
        replace hP := hP.below hB1
        replace hQ := hQ.below hB1
        replace hB := hB.trans (hB1.mono hB.size)
        clear hX1 hX2 hX3 hY1 hY2 hY3 hP1 hP2 hP3 hQ1 hQ2 hQ3 hB1
        cases hbad : mbad pl ph ql qh xl xh yl yh
        case true =>
          clear hbad
          go_wp2_with ((go_at_call 13; (with_reducible refine Calls.mono (awake_any _ ?_) ?_); (exact HN.out.below hB); rintro e wz ⟨rfl, hb⟩))
          go_ret
          exact ⟨rfl, hB.trans (hb.mono hB.size)⟩
        case false =>
          · have i1 : inB pl ph xl xh = true := by cases h1 : inB pl ph xl xh <;> simp [mbad, h1] at hbad ⊢
            have i2 : inB ql qh yl yh = true := by cases h2 : inB ql qh yl yh <;> simp [mbad, h2, i1] at hbad ⊢
            clear hbad
            have j1 := inB_t i1
            have j2 := inB_t i2
            obtain ⟨e1, e2⟩ := cmb2 p2 p1 p3 q2 q1 q3
            obtain ⟨e3, e4⟩ := cmb2 x2 x1 x3 y2 y1 y3
            have E1 := hide e1
            have E2 := hide e2
            have E3 := hide e3
            have E4 := hide e4
            have hin : inB (cLo pl ql) (cHi ph qh) (cLo xl yl) (cHi xh yh) = true := decide_eq_true ⟨cLo_mono j1.1 j2.1, cHi_mono j1.2 j2.2⟩
            have hrd := mono_read x2 x1 x3 p2 p1 p3 j1
            have Hrd := hide hrd
            clear e1 e2 e3 e4 i1 i2 j1 j2 hrd
            have HI := hide hin
            clear hin
            have k0 := And.intro hB (And.intro hX (And.intro hY (And.intro hP hQ)))
            have hK := hide k0
            obtain ⟨hX1, hX2, hX3⟩ := hX
            obtain ⟨hY1, hY2, hY3⟩ := hY
            obtain ⟨hP1, hP2, hP3⟩ := hP
            obtain ⟨hQ1, hQ2, hQ3⟩ := hQ
            have hsz := hB.size
            go_upto_region 5 with fail
            go_cut [41] (fun v wx => v = .bool false ∧ Below w.heap.size w wx ∧ At2 N xl xh wx ∧ At2 M yl yh wx ∧ At2 K pl ph wx ∧ At2 L ql qh wx)
            case first =>
              go_region_held3 (fun w' => Below w.heap.size w w' ∧ (N < w'.heap.size ∧ w'.cell? ⟨N, 0, none⟩ = some (.int .i8 xl) ∧ w'.cell? ⟨N, 1, none⟩ = some (.int .i8 xh)) ∧ (M < w'.heap.size ∧ w'.cell? ⟨M, 0, none⟩ = some (.int .i8 yl) ∧ w'.cell? ⟨M, 1, none⟩ = some (.int .i8 yh)) ∧ (K < w'.heap.size ∧ w'.cell? ⟨K, 0, none⟩ = some (.int .i8 pl) ∧ w'.cell? ⟨K, 1, none⟩ = some (.int .i8 ph)) ∧ (L < w'.heap.size ∧ w'.cell? ⟨L, 0, none⟩ = some (.int .i8 ql) ∧ w'.cell? ⟨L, 1, none⟩ = some (.int .i8 qh)))
                (first
                  | exact ⟨k0.1.drew, k0.2.1, k0.2.2.1, k0.2.2.2.1, k0.2.2.2.2⟩
                  | exact k4_call (by assumption) hb (Below.size (k4_bel (by assumption)))
                  | exact k4_alloc (by assumption) _ (Below.size (k4_bel (by assumption)))
                  | (repeat (first | assumption | exact k0 | refine k4_drew ?_ | refine k4_alloc ?_ _ ?_ | omega | (simp; done) | (simp; omega))))
                (first
                  | (go_at_call 15; (with_reducible refine (comb2_d pl ph ql qh (cLo pl ql) (cHi ph qh) _ _ E1.out E2.out).mono ?_); rintro e wz ⟨rfl, hb⟩)
                  | (go_at_call 15; (with_reducible refine (comb2_d xl xh yl yh (cLo xl yl) (cHi xh yh) _ _ E3.out E4.out).mono ?_); rintro e wz ⟨rfl, hb⟩)
                  | (go_at_call 15; (with_reducible refine (comb2_r pl ph ql qh (cLo pl ql) (cHi ph qh) _ _ E1.out E2.out).mono ?_); rintro e wz ⟨rfl, hb⟩)
                  | (go_at_call 15; (with_reducible refine (comb2_r xl xh yl yh (cLo xl yl) (cHi xh yh) _ _ E3.out E4.out).mono ?_); rintro e wz ⟨rfl, hb⟩)
                  | (go_at_call 15; (with_reducible refine (comb2_p pl ph ql qh _ _ _ _ (cLo pl ql) (cHi ph qh) _ _ E1.out E2.out).mono ?_); rintro e wz ⟨rfl, hb⟩)
                  | (go_at_call 15; (with_reducible refine (comb2_p xl xh yl yh _ _ _ _ (cLo xl yl) (cHi xh yh) _ _ E3.out E4.out).mono ?_); rintro e wz ⟨rfl, hb⟩)
                  | (go_at_call 15; (with_reducible refine (comb2_q _ _ _ _ pl ph ql qh (cLo pl ql) (cHi ph qh) _ _ E1.out E2.out).mono ?_); rintro e wz ⟨rfl, hb⟩)
                  | (go_at_call 15; (with_reducible refine (comb2_q _ _ _ _ xl xh yl yh (cLo xl yl) (cHi xh yh) _ _ E3.out E4.out).mono ?_); rintro e wz ⟨rfl, hb⟩)
                  | (go_at_call 15; (with_reducible refine (comb2_pl xl xh yl yh _ _ _ _ (cLo xl yl) (cHi xh yh) _ _ _ hb E3.out E4.out).mono ?_); rintro e wz ⟨rfl, hb⟩)
                  | (go_at_call 15; (with_reducible refine (comb2_ql _ _ _ _ xl xh yl yh (cLo xl yl) (cHi xh yh) _ _ _ hb E3.out E4.out).mono ?_); rintro e wz ⟨rfl, hb⟩)
                  | (go_at_call 33; (with_reducible refine (within_any _ _ _ _ _).mono ?_); rw [HI.out]; rintro e wz ⟨rfl, hb⟩))
              all_goals
                go_wp2_with fail
                go_meet
                exact ⟨rfl, by assumption⟩
            case rest =>
              clear k0 hK hX1 hX2 hX3 hY1 hY2 hY3 hP1 hP2 hP3 hQ1 hQ2 hQ3 hsz E1 E2 E3 E4 HI hB
              obtain ⟨rfl, k0⟩ := hcut
              obtain ⟨W6, hW6⟩ : ∃ x, x = wc := ⟨_, rfl⟩
              rw [← hW6]
              rw [← hW6] at k0
              clear hW6
              have hz7 := k0.1.size
              by_cases hz : pl = 0 ∧ ph = 0
              · obtain ⟨z1, z2⟩ := hz
                subst z1
                subst z2
                clear Hrd
                obtain ⟨g0, gX, gY, gP, gQ⟩ := k0
                obtain ⟨gP1, gP2, gP3⟩ := gP
                clear gX gY gQ
                go_wp2_with fail
                refine region_anyT (S := fun w1 => Below W6.heap.size W6 w1) (n := 13) (by kernel_rfl) (Below.refl _ _).drew (fun hS inv => ?_)
                refine anyT_take (i := 0) (oi := _) (v := .agg #[.int .i8 (0), .int .i8 (0)]) rfl (by kernel_rfl) (by kernel_rfl) (by kernel_rfl) (by decide) (by decide) (by kernel_rfl) (by kernel_rfl) inv (fun _ _ _ h => h) (Or.inl ⟨by rfl, ?_⟩) hS (fun inv => ?_)
                · intro wz hSw
                  have hk1 := (hSw : Below _ _ _).cell (p := ⟨K, 0, none⟩) (by first | assumption | (simp; done) | (simp; omega)); have hk2 := (hSw : Below _ _ _).cell (p := ⟨K, 1, none⟩) (by first | assumption | (simp; done) | (simp; omega)); go_simp
                (try simp only [Act.put, List.setIfInBounds_toArray, List.set_cons_zero, List.set_cons_succ])
                refine anyT_ready (rs := [1]) (by kernel_rfl) (by simp) ?_
                refine ReadyT.head (o := _) rfl (by decide) (by kernel_rfl) inv (fun K hK => ?_) ReadyT.nil
                go_simp
                refine (to_any 0 0 _).mono ?_; rintro e wa ⟨rfl, hba⟩
                go_wp2_with fail
                refine hK.out _ _ ?_ (fun hS inv => ?_)
                · exact (hS : Below W6.heap.size W6 _).trans (hba.mono (Below.size hS))
                clear hK K
                (try simp only [Act.put, List.setIfInBounds_toArray, List.set_cons_zero, List.set_cons_succ])
                refine anyT_take (i := 2) (oi := _) (v := .bool true) rfl (by kernel_rfl) (by kernel_rfl) (by kernel_rfl) (by decide) (by decide) (by kernel_rfl) (by kernel_rfl) inv (fun _ _ _ h => h) (Or.inl ⟨by rfl, ?_⟩) hS (fun inv => ?_)
                · intro wz hSw
                  go_simp
                (try simp only [Act.put, List.setIfInBounds_toArray, List.set_cons_zero, List.set_cons_succ])
                refine anyT_take (i := 3) (oi := _) (v := .bool true) rfl (by kernel_rfl) (by kernel_rfl) (by kernel_rfl) (by decide) (by decide) (by kernel_rfl) (by kernel_rfl) inv (fun _ _ _ h => h) (Or.inl ⟨by rfl, ?_⟩) hS (fun inv => ?_)
                · intro wz hSw
                  go_simp
                (try simp only [Act.put, List.setIfInBounds_toArray, List.set_cons_zero, List.set_cons_succ])
                refine anyT_take (i := 4) (oi := _) (v := undef) rfl (by kernel_rfl) (by kernel_rfl) (by kernel_rfl) (by decide) (by decide) (by kernel_rfl) (by kernel_rfl) inv (fun _ _ _ h => h) (Or.inr ⟨by rfl, rfl⟩) hS (fun inv => ?_)
                (try simp only [Act.put, List.setIfInBounds_toArray, List.set_cons_zero, List.set_cons_succ])
                refine anyT_take (i := 5) (oi := _) (v := undef) rfl (by kernel_rfl) (by kernel_rfl) (by kernel_rfl) (by decide) (by decide) (by kernel_rfl) (by kernel_rfl) inv (fun _ _ _ h => h) (Or.inr ⟨by rfl, rfl⟩) hS (fun inv => ?_)
                (try simp only [Act.put, List.setIfInBounds_toArray, List.set_cons_zero, List.set_cons_succ])
                refine anyT_take (i := 6) (oi := _) (v := undef) rfl (by kernel_rfl) (by kernel_rfl) (by kernel_rfl) (by decide) (by decide) (by kernel_rfl) (by kernel_rfl) inv (fun _ _ _ h => h) (Or.inr ⟨by rfl, rfl⟩) hS (fun inv => ?_)
                (try simp only [Act.put, List.setIfInBounds_toArray, List.set_cons_zero, List.set_cons_succ])
                refine anyT_take (i := 7) (oi := _) (v := undef) rfl (by kernel_rfl) (by kernel_rfl) (by kernel_rfl) (by decide) (by decide) (by kernel_rfl) (by kernel_rfl) inv (fun _ _ _ h => h) (Or.inr ⟨by rfl, rfl⟩) hS (fun inv => ?_)
                (try simp only [Act.put, List.setIfInBounds_toArray, List.set_cons_zero, List.set_cons_succ])
                refine anyT_take (i := 8) (oi := _) (v := undef) rfl (by kernel_rfl) (by kernel_rfl) (by kernel_rfl) (by decide) (by decide) (by kernel_rfl) (by kernel_rfl) inv (fun _ _ _ h => h) (Or.inr ⟨by rfl, rfl⟩) hS (fun inv => ?_)
                (try simp only [Act.put, List.setIfInBounds_toArray, List.set_cons_zero, List.set_cons_succ])
                refine anyT_take (i := 9) (oi := _) (v := .bool true) rfl (by kernel_rfl) (by kernel_rfl) (by kernel_rfl) (by decide) (by decide) (by kernel_rfl) (by kernel_rfl) inv (fun _ _ _ h => h) (Or.inl ⟨by rfl, ?_⟩) hS (fun inv => ?_)
                · intro wz hSw
                  go_simp
                (try simp only [Act.put, List.setIfInBounds_toArray, List.set_cons_zero, List.set_cons_succ])
                refine anyT_take (i := 10) (oi := _) (v := .bool true) rfl (by kernel_rfl) (by kernel_rfl) (by kernel_rfl) (by decide) (by decide) (by kernel_rfl) (by kernel_rfl) inv (fun _ _ _ h => h) (Or.inl ⟨by rfl, ?_⟩) hS (fun inv => ?_)
                · intro wz hSw
                  go_simp
                (try simp only [Act.put, List.setIfInBounds_toArray, List.set_cons_zero, List.set_cons_succ])
                refine anyT_ready (rs := [11]) (by kernel_rfl) (by simp) ?_
                refine ReadyT.head (o := _) rfl (by decide) (by kernel_rfl) inv (fun K hK => ?_) ReadyT.nil
                go_simp
                refine (awake_any _ (HN.out.below (g0.trans (Below.mono hS hz7)))).mono ?_; rintro e wb ⟨rfl, hbb⟩
                go_wp2_with fail
                refine hK.out _ _ ?_ (fun hS inv => ?_)
                · exact (hS : Below W6.heap.size W6 _).trans (hbb.mono (Below.size hS))
                clear hK K
                (try simp only [Act.put, List.setIfInBounds_toArray, List.set_cons_zero, List.set_cons_succ])
                refine anyT_take (i := 12) (oi := _) (v := .bool true) rfl (by kernel_rfl) (by kernel_rfl) (by kernel_rfl) (by decide) (by decide) (by kernel_rfl) (by kernel_rfl) inv (fun _ _ _ h => h) (Or.inl ⟨by rfl, ?_⟩) hS (fun inv => ?_)
                · intro wz hSw
                  go_simp
                (try simp only [Act.put, List.setIfInBounds_toArray, List.set_cons_zero, List.set_cons_succ])
                refine anyT_ready (rs := [13]) (by kernel_rfl) (by simp) ?_
                refine ReadyT.tail (o := _) rfl (by decide) (fun K hK => ?_)
                go_simp
                refine hK.out _ _ ?_
                clear hK K
                (try simp only [Act.put, List.setIfInBounds_toArray, List.set_cons_zero, List.set_cons_succ])
                refine anyT_done (by kernel_rfl) ?_ _
                go_wp2_with fail
                go_ret
                exact ⟨rfl, g0.trans (Below.mono hS hz7)⟩
              · have hrd := Hrd.out hz
                have HR := hide hrd
                have hzb : pl = 0 → (ph == 0) = false := fun h => by simpa using fun h2 => hz ⟨h, h2⟩
                clear hrd Hrd
                by_cases z1 : pl = 0
                · have z2 := hzb z1
                  subst z1
                  clear hzb hz
                  go_wp2_with fail
                  go_region_held3 (fun w' => Below w.heap.size w w' ∧ (N < w'.heap.size ∧ w'.cell? ⟨N, 0, none⟩ = some (.int .i8 xl) ∧ w'.cell? ⟨N, 1, none⟩ = some (.int .i8 xh)) ∧ (M < w'.heap.size ∧ w'.cell? ⟨M, 0, none⟩ = some (.int .i8 yl) ∧ w'.cell? ⟨M, 1, none⟩ = some (.int .i8 yh)) ∧ (K < w'.heap.size ∧ w'.cell? ⟨K, 0, none⟩ = some (.int .i8 0) ∧ w'.cell? ⟨K, 1, none⟩ = some (.int .i8 ph)) ∧ (L < w'.heap.size ∧ w'.cell? ⟨L, 0, none⟩ = some (.int .i8 ql) ∧ w'.cell? ⟨L, 1, none⟩ = some (.int .i8 qh)))
                    (first
                  | exact ⟨k0.1.drew, k0.2.1, k0.2.2.1, k0.2.2.2.1, k0.2.2.2.2⟩
                  | exact k4_call (by assumption) hb (Below.size (k4_bel (by assumption)))
                  | exact k4_alloc (by assumption) _ (Below.size (k4_bel (by assumption)))
                  | (repeat (first | assumption | exact k0 | refine k4_drew ?_ | refine k4_alloc ?_ _ ?_ | omega | (simp; done) | (simp; omega))))
                    (first
                      | (go_at_call 31; (with_reducible refine (to_any _ _ _).mono ?_); rintro e wz ⟨rfl, hb⟩)
                      | (go_at_call 21; (with_reducible refine (read_any _ _ _).mono ?_); rintro e wz ⟨rfl, hb⟩)
                      | (go_at_call 34; (with_reducible refine (leq_m _ _ true _ HR.out).mono ?_); rintro e wz ⟨rfl, hb⟩)
                      | (go_at_call 13; (with_reducible refine Calls.mono (awake_any _ ?_) ?_); (exact HN.out.below (k4_bel (by assumption))); rintro e wz ⟨rfl, hb⟩))
                  go_wp2_with fail
                  go_ret
                  exact ⟨rfl, k4_bel (by assumption)⟩
                · have z2 : (pl == 0) = false := by simpa using z1
                  clear hzb hz z1
                  go_wp2_with fail
                  go_region_held3 (fun w' => Below w.heap.size w w' ∧ (N < w'.heap.size ∧ w'.cell? ⟨N, 0, none⟩ = some (.int .i8 xl) ∧ w'.cell? ⟨N, 1, none⟩ = some (.int .i8 xh)) ∧ (M < w'.heap.size ∧ w'.cell? ⟨M, 0, none⟩ = some (.int .i8 yl) ∧ w'.cell? ⟨M, 1, none⟩ = some (.int .i8 yh)) ∧ (K < w'.heap.size ∧ w'.cell? ⟨K, 0, none⟩ = some (.int .i8 pl) ∧ w'.cell? ⟨K, 1, none⟩ = some (.int .i8 ph)) ∧ (L < w'.heap.size ∧ w'.cell? ⟨L, 0, none⟩ = some (.int .i8 ql) ∧ w'.cell? ⟨L, 1, none⟩ = some (.int .i8 qh)))
                    (first
                  | exact ⟨k0.1.drew, k0.2.1, k0.2.2.1, k0.2.2.2.1, k0.2.2.2.2⟩
                  | exact k4_call (by assumption) hb (Below.size (k4_bel (by assumption)))
                  | exact k4_alloc (by assumption) _ (Below.size (k4_bel (by assumption)))
                  | (repeat (first | assumption | exact k0 | refine k4_drew ?_ | refine k4_alloc ?_ _ ?_ | omega | (simp; done) | (simp; omega))))
                    (first
                      | (go_at_call 31; (with_reducible refine (to_any _ _ _).mono ?_); rintro e wz ⟨rfl, hb⟩)
                      | (go_at_call 21; (with_reducible refine (read_any _ _ _).mono ?_); rintro e wz ⟨rfl, hb⟩)
                      | (go_at_call 34; (with_reducible refine (leq_m _ _ true _ HR.out).mono ?_); rintro e wz ⟨rfl, hb⟩)
                      | (go_at_call 13; (with_reducible refine Calls.mono (awake_any _ ?_) ?_); (exact HN.out.below (k4_bel (by assumption))); rintro e wz ⟨rfl, hb⟩))
                  go_wp2_with fail
                  go_ret
                  exact ⟨rfl, k4_bel (by assumption)⟩

end Go.Proofs.YtiggmncjmkeboaaDoor
