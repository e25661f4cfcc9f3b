/-
  The walk of StrengthAlgebra.
-/
import Derived.Test.YtgaihbenlfeeeaaDoorStrH2
namespace Go.Proofs.YtgaihbenlfeeeaaDoor
open Go.RowKit
set_option linter.unusedSimpArgs false

structure Box (P : Prop) : Prop where
  out : P
theorem cutP {P G : Prop} (main : Box P → G) (pf : P) : G := main ⟨pf⟩
/-- Three intervals laid into three new blocks. -/
def Three (w : World) (x y u v r s : Int) (p q o : Value) (w' : World) : Prop := ∃ N M K : Nat, p = .pointer (some ⟨N, 0, none⟩) ∧ q = .pointer (some ⟨M, 0, none⟩) ∧ o = .pointer (some ⟨K, 0, none⟩) ∧ Below w.heap.size w w' ∧ At2 N x y w' ∧ At2 M u v w' ∧ At2 K r s w'

theorem alg_facts (a b c d e f : Int) : ∃ ul uh vl vh al ah : Int,
    cmbL [(a, b), (c, d)] 0 = ul ∧ cmbH [(a, b), (c, d)] 0 = uh ∧ cmbL [(c, d), (a, b)] 0 = ul ∧ cmbH [(c, d), (a, b)] 0 = uh ∧
    cmbL [(a, b), (c, d), (e, f)] 0 = al ∧ cmbH [(a, b), (c, d), (e, f)] 0 = ah ∧ cmbL [(e, f), (a, b), (c, d)] 0 = al ∧ cmbH [(e, f), (a, b), (c, d)] 0 = ah ∧
    cmbL [(ul, uh), (e, f)] 0 = al ∧ cmbH [(ul, uh), (e, f)] 0 = ah ∧ cmbL [(c, d), (e, f)] 0 = vl ∧ cmbH [(c, d), (e, f)] 0 = vh ∧
    cmbL [(a, b), (vl, vh)] 0 = al ∧ cmbH [(a, b), (vl, vh)] 0 = ah ∧ cmbL [(a, b), (0, 0)] 0 = nLo a b ∧ cmbH [(a, b), (0, 0)] 0 = nHi a b ∧
    cmbL [(a, b)] 0 = nLo a b ∧ cmbH [(a, b)] 0 = nHi a b := by
  have hu := cmb_bd [(a, b), (c, d)] 0 0 (by omega) (by omega) (by omega)
  have hv := cmb_bd [(c, d), (e, f)] 0 0 (by omega) (by omega) (by omega)
  refine ⟨_, _, _, _, _, _, rfl, rfl, ?_, ?_, rfl, rfl, ?_, ?_, ?_, ?_, rfl, rfl, ?_, ?_, ?_, ?_, ?_, ?_⟩
  · simp only [cmbL, cLo_zero]; exact cLo_comm _ _
  · simp only [cmbH, cHi_zero]; exact cHi_comm _ _
  · simp only [cmbL, cLo_zero]; rw [cLo_assoc, cLo_comm]
  · simp only [cmbH, cHi_zero]; rw [cHi_assoc, cHi_comm]
  · show cLo (cLo 0 (nLo (cmbL [(a, b), (c, d)] 0) (cmbH [(a, b), (c, d)] 0))) (nLo e f) = _
    rw [nLo_id hu.1 hu.2.1 hu.2.2, cLo_zero]; rfl
  · show cHi (cHi 0 (nHi (cmbL [(a, b), (c, d)] 0) (cmbH [(a, b), (c, d)] 0))) (nHi e f) = _
    rw [nHi_id hu.1 hu.2.1 hu.2.2, cHi_zero]; rfl
  · show cLo (cLo 0 (nLo a b)) (nLo (cmbL [(c, d), (e, f)] 0) (cmbH [(c, d), (e, f)] 0)) = _
    rw [nLo_id hv.1 hv.2.1 hv.2.2]; simp only [cmbL, cLo_zero]; rw [cLo_assoc]
  · show cHi (cHi 0 (nHi a b)) (nHi (cmbL [(c, d), (e, f)] 0) (cmbH [(c, d), (e, f)] 0)) = _
    rw [nHi_id hv.1 hv.2.1 hv.2.2]; simp only [cmbH, cHi_zero]; rw [cHi_assoc]
  · simp only [cmbL, cLo_zero]; rw [cLo_comm]; exact cLo_zero _
  · simp only [cmbH, cHi_zero]; rw [cHi_comm]; exact cHi_zero _
  · simp only [cmbL, cLo_zero]
  · simp only [cmbH, cHi_zero]

set_option maxRecDepth 100000 in
set_option maxHeartbeats 20000000 in
theorem StrengthAlgebra_walk (a b c d e f : Int) (w : World) (hN : Names w) : Calls Tryd.prog 8 #[iv a b, iv c d, iv e f] w (Mk (.bool true) w) := by
  have HN := hide hN
  clear hN
  go_enter Tryd.func8, Tryd.ntmps8
  go_upto_region 1 with fail
  have k1 : At2 w.heap.size a b (((w.alloc (.cells #[.int .i8 a, .int .i8 b] 34)).alloc (.cells #[.int .i8 c, .int .i8 d] 34)).alloc (.cells #[.int .i8 e, .int .i8 f] 34)) := ((At2.new w a b _).alloc _).alloc _
  have k2 : At2 (w.heap.size + 1) c d (((w.alloc (.cells #[.int .i8 a, .int .i8 b] 34)).alloc (.cells #[.int .i8 c, .int .i8 d] 34)).alloc (.cells #[.int .i8 e, .int .i8 f] 34)) := by
    have := At2.new (w.alloc (.cells #[.int .i8 a, .int .i8 b] 34)) c d 34
    rw [show (w.alloc (.cells #[.int .i8 a, .int .i8 b] 34)).heap.size = w.heap.size + 1 by simp] at this
    exact this.alloc _
  have k3 : At2 (w.heap.size + 2) e f (((w.alloc (.cells #[.int .i8 a, .int .i8 b] 34)).alloc (.cells #[.int .i8 c, .int .i8 d] 34)).alloc (.cells #[.int .i8 e, .int .i8 f] 34)) := by
    have := At2.new ((w.alloc (.cells #[.int .i8 a, .int .i8 b] 34)).alloc (.cells #[.int .i8 c, .int .i8 d] 34)) e f 34
    rw [show ((w.alloc (.cells #[.int .i8 a, .int .i8 b] 34)).alloc (.cells #[.int .i8 c, .int .i8 d] 34)).heap.size = w.heap.size + 2 by simp] at this
    exact this
  have hB : Below w.heap.size w (((w.alloc (.cells #[.int .i8 a, .int .i8 b] 34)).alloc (.cells #[.int .i8 c, .int .i8 d] 34)).alloc (.cells #[.int .i8 e, .int .i8 f] 34)) := by (repeat (first | exact Below.refl _ _ | assumption | refine Below.setCell ?_ (by first | (simp; done) | (simp; omega) | omega) _ | refine Below.alloc ?_ (by first | (simp; done) | (simp; omega) | omega) _ | refine below_drewN ?_ _ | refine Below.drew ?_))
  generalize hW1 : ((w.alloc (.cells #[.int .i8 a, .int .i8 b] 34)).alloc (.cells #[.int .i8 c, .int .i8 d] 34)).alloc (.cells #[.int .i8 e, .int .i8 f] 34) = W1 at *
  clear hW1
  have k1' := hide k1
  have k2' := hide k2
  have k3' := hide k3
  clear k1 k2 k3
  go_cut [7, 8, 9] (Three W1 a b c d e f)
  case first => focus
    obtain ⟨k11, k12, k13⟩ := k1'.out
    obtain ⟨k21, k22, k23⟩ := k2'.out
    obtain ⟨k31, k32, k33⟩ := k3'.out
    refine region_anyT (S := fun w1 => Below W1.heap.size W1 w1) (n := 8) (by kernel_rfl) (Below.refl _ _).drew (fun hS inv => ?_)
    refine anyT_take (i := 0) (oi := _) (v := .agg #[.int .i8 (a), .int .i8 (b)]) rfl (by kernel_rfl) (by kernel_rfl) (by kernel_rfl) (by decide) (by decide) (by kernel_rfl) (by kernel_rfl) inv (fun _ _ _ h => h) (Or.inl ⟨by kernel_rfl, ?_⟩) hS (fun inv => ?_)
    · intro wz hSw
      have hk1 := (hSw : Below _ _ _).cell (p := ⟨w.heap.size, 0, none⟩) (by first | assumption | (simp; done) | (simp; omega)); have hk2 := (hSw : Below _ _ _).cell (p := ⟨w.heap.size, 1, none⟩) (by first | assumption | (simp; done) | (simp; omega)); go_simp
    (try simp only [Act.put, List.setIfInBounds_toArray, List.set_cons_zero, List.set_cons_succ])
    refine anyT_take (i := 1) (oi := _) (v := .agg #[.int .i8 (c), .int .i8 (d)]) rfl (by kernel_rfl) (by kernel_rfl) (by kernel_rfl) (by decide) (by decide) (by kernel_rfl) (by kernel_rfl) inv (fun _ _ _ h => h) (Or.inl ⟨by kernel_rfl, ?_⟩) hS (fun inv => ?_)
    · intro wz hSw
      have hk1 := (hSw : Below _ _ _).cell (p := ⟨w.heap.size + 1, 0, none⟩) (by first | assumption | (simp; done) | (simp; omega)); have hk2 := (hSw : Below _ _ _).cell (p := ⟨w.heap.size + 1, 1, none⟩) (by first | assumption | (simp; done) | (simp; omega)); go_simp
    (try simp only [Act.put, List.setIfInBounds_toArray, List.set_cons_zero, List.set_cons_succ])
    refine anyT_take (i := 2) (oi := _) (v := .agg #[.int .i8 (e), .int .i8 (f)]) rfl (by kernel_rfl) (by kernel_rfl) (by kernel_rfl) (by decide) (by decide) (by kernel_rfl) (by kernel_rfl) inv (fun _ _ _ h => h) (Or.inl ⟨by kernel_rfl, ?_⟩) hS (fun inv => ?_)
    · intro wz hSw
      have hk1 := (hSw : Below _ _ _).cell (p := ⟨w.heap.size + 2, 0, none⟩) (by first | assumption | (simp; done) | (simp; omega)); have hk2 := (hSw : Below _ _ _).cell (p := ⟨w.heap.size + 2, 1, none⟩) (by first | assumption | (simp; done) | (simp; omega)); go_simp
    (try simp only [Act.put, List.setIfInBounds_toArray, List.set_cons_zero, List.set_cons_succ])
    have hzd : W1.heap.size ≤ W1.drew.heap.size := Nat.le_refl _
    generalize hdr : W1.drew = D0 at *
    clear hdr
    refine anyT_ready (rs := [3, 4, 5]) (by kernel_rfl) (by simp) ?_
    refine ReadyT.head (o := _) rfl (by decide) (by kernel_rfl) inv (fun K hK => ?_) ?_
    · go_simp
      refine hK.out _ _ ?_ (fun hS inv => ?_)
      · exact (hS : Below W1.heap.size W1 _).alloc (Below.size hS) _
      clear hK K
      (try simp only [Act.put, List.setIfInBounds_toArray, List.set_cons_zero, List.set_cons_succ])
      have e3 := hide (blk_new D0 (.cells #[.int .i8 0, .int .i8 0] 29))
      have hz0 : D0.heap.size < (D0.alloc (.cells #[.int .i8 0, .int .i8 0] 29)).heap.size := by simp
      generalize hdr : D0.alloc (.cells #[.int .i8 0, .int .i8 0] 29) = D1 at *
      clear hdr
      refine anyT_ready (rs := [4, 5]) (by kernel_rfl) (by simp) ?_
      refine ReadyT.head (o := _) rfl (by decide) (by kernel_rfl) inv (fun K hK => ?_) ?_
      · go_simp
        refine hK.out _ _ ?_ (fun hS inv => ?_)
        · exact (hS : Below W1.heap.size W1 _).alloc (Below.size hS) _
        clear hK K
        (try simp only [Act.put, List.setIfInBounds_toArray, List.set_cons_zero, List.set_cons_succ])
        have e4 := hide (blk_new D1 (.cells #[.int .i8 0, .int .i8 0] 29))
        replace e3 := hide (blk_alloc (x := (.cells #[.int .i8 0, .int .i8 0] 29)) e3.out)
        have hz1 : D1.heap.size < (D1.alloc (.cells #[.int .i8 0, .int .i8 0] 29)).heap.size := by simp
        generalize hdr : D1.alloc (.cells #[.int .i8 0, .int .i8 0] 29) = D2 at *
        clear hdr
        refine anyT_ready (rs := [5]) (by kernel_rfl) (by simp) ?_
        refine ReadyT.head (o := _) rfl (by decide) (by kernel_rfl) inv (fun K hK => ?_) ReadyT.nil
        go_simp
        refine hK.out _ _ ?_ (fun hS inv => ?_)
        · exact (hS : Below W1.heap.size W1 _).alloc (Below.size hS) _
        clear hK K
        (try simp only [Act.put, List.setIfInBounds_toArray, List.set_cons_zero, List.set_cons_succ])
        have e5 := hide (blk_new D2 (.cells #[.int .i8 0, .int .i8 0] 29))
        replace e3 := hide (blk_alloc (x := (.cells #[.int .i8 0, .int .i8 0] 29)) e3.out)
        replace e4 := hide (blk_alloc (x := (.cells #[.int .i8 0, .int .i8 0] 29)) e4.out)
        have hz2 : D2.heap.size < (D2.alloc (.cells #[.int .i8 0, .int .i8 0] 29)).heap.size := by simp
        generalize hdr : D2.alloc (.cells #[.int .i8 0, .int .i8 0] 29) = D3 at *
        clear hdr
        obtain ⟨qa3, qb3, qc3, qd3, qe3⟩ := blk2 e3.out
        obtain ⟨qa4, qb4, qc4, qd4, qe4⟩ := blk2 e4.out
        obtain ⟨qa5, qb5, qc5, qd5, qe5⟩ := blk2 e5.out
        have ne01 : D0.heap.size ≠ D1.heap.size := by omega
        have ne02 : D0.heap.size ≠ D2.heap.size := by omega
        have ne10 : D1.heap.size ≠ D0.heap.size := by omega
        have ne12 : D1.heap.size ≠ D2.heap.size := by omega
        have ne20 : D2.heap.size ≠ D0.heap.size := by omega
        have ne21 : D2.heap.size ≠ D1.heap.size := by omega
        refine anyT_ready (rs := [6]) (by kernel_rfl) (by simp) ?_
        refine ReadyT.head (o := _) rfl (by decide) (by kernel_rfl) inv (fun K hK => ?_) ReadyT.nil
        go_simp
        refine hK.out _ _ ?_ (fun hS inv => ?_)
        · exact (hS : Below W1.heap.size W1 _).setCell (by simp; omega) _ |>.setCell (by simp; omega) _
        clear hK K
        (try simp only [Act.put, List.setIfInBounds_toArray, List.set_cons_zero, List.set_cons_succ])
        refine anyT_ready (rs := [7]) (by kernel_rfl) (by simp) ?_
        refine ReadyT.head (o := _) rfl (by decide) (by kernel_rfl) inv (fun K hK => ?_) ReadyT.nil
        go_simp
        refine hK.out _ _ ?_ (fun hS inv => ?_)
        · exact (hS : Below W1.heap.size W1 _).setCell (by simp; omega) _ |>.setCell (by simp; omega) _
        clear hK K
        (try simp only [Act.put, List.setIfInBounds_toArray, List.set_cons_zero, List.set_cons_succ])
        refine anyT_ready (rs := [8]) (by kernel_rfl) (by simp) ?_
        refine ReadyT.tail (o := _) rfl (by decide) (fun K hK => ?_)
        go_simp
        refine hK.out _ _ ?_
        clear hK K
        (try simp only [Act.put, List.setIfInBounds_toArray, List.set_cons_zero, List.set_cons_succ])
        refine anyT_done (by kernel_rfl) ?_ _
        go_wp2_with fail
        go_meet
        exact ⟨D0.heap.size, D1.heap.size, D2.heap.size, rfl, rfl, rfl, (Below.setCell hS (by simp; omega) _).setCell (by simp; omega) _, At2.of_heap (blk_far (blk_far (blk_far (blk_far (blk2_set e3.out) ne01) ne01) ne02) ne02), At2.of_heap (blk_far (blk_far (blk2_set (blk_far (blk_far e4.out ne10) ne10)) ne12) ne12), At2.of_heap (blk2_set (blk_far (blk_far (blk_far (blk_far e5.out ne20) ne20) ne21) ne21))⟩
      refine ReadyT.head (o := _) rfl (by decide) (by kernel_rfl) inv (fun K hK => ?_) ReadyT.nil
      go_simp
      refine hK.out _ _ ?_ (fun hS inv => ?_)
      · exact (hS : Below W1.heap.size W1 _).alloc (Below.size hS) _
      clear hK K
      (try simp only [Act.put, List.setIfInBounds_toArray, List.set_cons_zero, List.set_cons_succ])
      have e5 := hide (blk_new D1 (.cells #[.int .i8 0, .int .i8 0] 29))
      replace e3 := hide (blk_alloc (x := (.cells #[.int .i8 0, .int .i8 0] 29)) e3.out)
      have hz1 : D1.heap.size < (D1.alloc (.cells #[.int .i8 0, .int .i8 0] 29)).heap.size := by simp
      generalize hdr : D1.alloc (.cells #[.int .i8 0, .int .i8 0] 29) = D2 at *
      clear hdr
      refine anyT_ready (rs := [4]) (by kernel_rfl) (by simp) ?_
      refine ReadyT.head (o := _) rfl (by decide) (by kernel_rfl) inv (fun K hK => ?_) ReadyT.nil
      go_simp
      refine hK.out _ _ ?_ (fun hS inv => ?_)
      · exact (hS : Below W1.heap.size W1 _).alloc (Below.size hS) _
      clear hK K
      (try simp only [Act.put, List.setIfInBounds_toArray, List.set_cons_zero, List.set_cons_succ])
      have e4 := hide (blk_new D2 (.cells #[.int .i8 0, .int .i8 0] 29))
      replace e3 := hide (blk_alloc (x := (.cells #[.int .i8 0, .int .i8 0] 29)) e3.out)
      replace e5 := hide (blk_alloc (x := (.cells #[.int .i8 0, .int .i8 0] 29)) e5.out)
      have hz2 : D2.heap.size < (D2.alloc (.cells #[.int .i8 0, .int .i8 0] 29)).heap.size := by simp
      generalize hdr : D2.alloc (.cells #[.int .i8 0, .int .i8 0] 29) = D3 at *
      clear hdr
      obtain ⟨qa3, qb3, qc3, qd3, qe3⟩ := blk2 e3.out
      obtain ⟨qa4, qb4, qc4, qd4, qe4⟩ := blk2 e4.out
      obtain ⟨qa5, qb5, qc5, qd5, qe5⟩ := blk2 e5.out
      have ne01 : D0.heap.size ≠ D2.heap.size := by omega
      have ne02 : D0.heap.size ≠ D1.heap.size := by omega
      have ne10 : D2.heap.size ≠ D0.heap.size := by omega
      have ne12 : D2.heap.size ≠ D1.heap.size := by omega
      have ne20 : D1.heap.size ≠ D0.heap.size := by omega
      have ne21 : D1.heap.size ≠ D2.heap.size := by omega
      refine anyT_ready (rs := [6]) (by kernel_rfl) (by simp) ?_
      refine ReadyT.head (o := _) rfl (by decide) (by kernel_rfl) inv (fun K hK => ?_) ReadyT.nil
      go_simp
      refine hK.out _ _ ?_ (fun hS inv => ?_)
      · exact (hS : Below W1.heap.size W1 _).setCell (by simp; omega) _ |>.setCell (by simp; omega) _
      clear hK K
      (try simp only [Act.put, List.setIfInBounds_toArray, List.set_cons_zero, List.set_cons_succ])
      refine anyT_ready (rs := [7]) (by kernel_rfl) (by simp) ?_
      refine ReadyT.head (o := _) rfl (by decide) (by kernel_rfl) inv (fun K hK => ?_) ReadyT.nil
      go_simp
      refine hK.out _ _ ?_ (fun hS inv => ?_)
      · exact (hS : Below W1.heap.size W1 _).setCell (by simp; omega) _ |>.setCell (by simp; omega) _
      clear hK K
      (try simp only [Act.put, List.setIfInBounds_toArray, List.set_cons_zero, List.set_cons_succ])
      refine anyT_ready (rs := [8]) (by kernel_rfl) (by simp) ?_
      refine ReadyT.tail (o := _) rfl (by decide) (fun K hK => ?_)
      go_simp
      refine hK.out _ _ ?_
      clear hK K
      (try simp only [Act.put, List.setIfInBounds_toArray, List.set_cons_zero, List.set_cons_succ])
      refine anyT_done (by kernel_rfl) ?_ _
      go_wp2_with fail
      go_meet
      exact ⟨D0.heap.size, D2.heap.size, D1.heap.size, rfl, rfl, rfl, (Below.setCell hS (by simp; omega) _).setCell (by simp; omega) _, At2.of_heap (blk_far (blk_far (blk_far (blk_far (blk2_set e3.out) ne01) ne01) ne02) ne02), At2.of_heap (blk_far (blk_far (blk2_set (blk_far (blk_far e4.out ne10) ne10)) ne12) ne12), At2.of_heap (blk2_set (blk_far (blk_far (blk_far (blk_far e5.out ne20) ne20) ne21) ne21))⟩
    refine ReadyT.head (o := _) rfl (by decide) (by kernel_rfl) inv (fun K hK => ?_) ?_
    · go_simp
      refine hK.out _ _ ?_ (fun hS inv => ?_)
      · exact (hS : Below W1.heap.size W1 _).alloc (Below.size hS) _
      clear hK K
      (try simp only [Act.put, List.setIfInBounds_toArray, List.set_cons_zero, List.set_cons_succ])
      have e4 := hide (blk_new D0 (.cells #[.int .i8 0, .int .i8 0] 29))
      have hz0 : D0.heap.size < (D0.alloc (.cells #[.int .i8 0, .int .i8 0] 29)).heap.size := by simp
      generalize hdr : D0.alloc (.cells #[.int .i8 0, .int .i8 0] 29) = D1 at *
      clear hdr
      refine anyT_ready (rs := [3, 5]) (by kernel_rfl) (by simp) ?_
      refine ReadyT.head (o := _) rfl (by decide) (by kernel_rfl) inv (fun K hK => ?_) ?_
      · go_simp
        refine hK.out _ _ ?_ (fun hS inv => ?_)
        · exact (hS : Below W1.heap.size W1 _).alloc (Below.size hS) _
        clear hK K
        (try simp only [Act.put, List.setIfInBounds_toArray, List.set_cons_zero, List.set_cons_succ])
        have e3 := hide (blk_new D1 (.cells #[.int .i8 0, .int .i8 0] 29))
        replace e4 := hide (blk_alloc (x := (.cells #[.int .i8 0, .int .i8 0] 29)) e4.out)
        have hz1 : D1.heap.size < (D1.alloc (.cells #[.int .i8 0, .int .i8 0] 29)).heap.size := by simp
        generalize hdr : D1.alloc (.cells #[.int .i8 0, .int .i8 0] 29) = D2 at *
        clear hdr
        refine anyT_ready (rs := [5]) (by kernel_rfl) (by simp) ?_
        refine ReadyT.head (o := _) rfl (by decide) (by kernel_rfl) inv (fun K hK => ?_) ReadyT.nil
        go_simp
        refine hK.out _ _ ?_ (fun hS inv => ?_)
        · exact (hS : Below W1.heap.size W1 _).alloc (Below.size hS) _
        clear hK K
        (try simp only [Act.put, List.setIfInBounds_toArray, List.set_cons_zero, List.set_cons_succ])
        have e5 := hide (blk_new D2 (.cells #[.int .i8 0, .int .i8 0] 29))
        replace e3 := hide (blk_alloc (x := (.cells #[.int .i8 0, .int .i8 0] 29)) e3.out)
        replace e4 := hide (blk_alloc (x := (.cells #[.int .i8 0, .int .i8 0] 29)) e4.out)
        have hz2 : D2.heap.size < (D2.alloc (.cells #[.int .i8 0, .int .i8 0] 29)).heap.size := by simp
        generalize hdr : D2.alloc (.cells #[.int .i8 0, .int .i8 0] 29) = D3 at *
        clear hdr
        obtain ⟨qa3, qb3, qc3, qd3, qe3⟩ := blk2 e3.out
        obtain ⟨qa4, qb4, qc4, qd4, qe4⟩ := blk2 e4.out
        obtain ⟨qa5, qb5, qc5, qd5, qe5⟩ := blk2 e5.out
        have ne01 : D1.heap.size ≠ D0.heap.size := by omega
        have ne02 : D1.heap.size ≠ D2.heap.size := by omega
        have ne10 : D0.heap.size ≠ D1.heap.size := by omega
        have ne12 : D0.heap.size ≠ D2.heap.size := by omega
        have ne20 : D2.heap.size ≠ D1.heap.size := by omega
        have ne21 : D2.heap.size ≠ D0.heap.size := by omega
        refine anyT_ready (rs := [6]) (by kernel_rfl) (by simp) ?_
        refine ReadyT.head (o := _) rfl (by decide) (by kernel_rfl) inv (fun K hK => ?_) ReadyT.nil
        go_simp
        refine hK.out _ _ ?_ (fun hS inv => ?_)
        · exact (hS : Below W1.heap.size W1 _).setCell (by simp; omega) _ |>.setCell (by simp; omega) _
        clear hK K
        (try simp only [Act.put, List.setIfInBounds_toArray, List.set_cons_zero, List.set_cons_succ])
        refine anyT_ready (rs := [7]) (by kernel_rfl) (by simp) ?_
        refine ReadyT.head (o := _) rfl (by decide) (by kernel_rfl) inv (fun K hK => ?_) ReadyT.nil
        go_simp
        refine hK.out _ _ ?_ (fun hS inv => ?_)
        · exact (hS : Below W1.heap.size W1 _).setCell (by simp; omega) _ |>.setCell (by simp; omega) _
        clear hK K
        (try simp only [Act.put, List.setIfInBounds_toArray, List.set_cons_zero, List.set_cons_succ])
        refine anyT_ready (rs := [8]) (by kernel_rfl) (by simp) ?_
        refine ReadyT.tail (o := _) rfl (by decide) (fun K hK => ?_)
        go_simp
        refine hK.out _ _ ?_
        clear hK K
        (try simp only [Act.put, List.setIfInBounds_toArray, List.set_cons_zero, List.set_cons_succ])
        refine anyT_done (by kernel_rfl) ?_ _
        go_wp2_with fail
        go_meet
        exact ⟨D1.heap.size, D0.heap.size, D2.heap.size, rfl, rfl, rfl, (Below.setCell hS (by simp; omega) _).setCell (by simp; omega) _, At2.of_heap (blk_far (blk_far (blk_far (blk_far (blk2_set e3.out) ne01) ne01) ne02) ne02), At2.of_heap (blk_far (blk_far (blk2_set (blk_far (blk_far e4.out ne10) ne10)) ne12) ne12), At2.of_heap (blk2_set (blk_far (blk_far (blk_far (blk_far e5.out ne20) ne20) ne21) ne21))⟩
      refine ReadyT.head (o := _) rfl (by decide) (by kernel_rfl) inv (fun K hK => ?_) ReadyT.nil
      go_simp
      refine hK.out _ _ ?_ (fun hS inv => ?_)
      · exact (hS : Below W1.heap.size W1 _).alloc (Below.size hS) _
      clear hK K
      (try simp only [Act.put, List.setIfInBounds_toArray, List.set_cons_zero, List.set_cons_succ])
      have e5 := hide (blk_new D1 (.cells #[.int .i8 0, .int .i8 0] 29))
      replace e4 := hide (blk_alloc (x := (.cells #[.int .i8 0, .int .i8 0] 29)) e4.out)
      have hz1 : D1.heap.size < (D1.alloc (.cells #[.int .i8 0, .int .i8 0] 29)).heap.size := by simp
      generalize hdr : D1.alloc (.cells #[.int .i8 0, .int .i8 0] 29) = D2 at *
      clear hdr
      refine anyT_ready (rs := [3]) (by kernel_rfl) (by simp) ?_
      refine ReadyT.head (o := _) rfl (by decide) (by kernel_rfl) inv (fun K hK => ?_) ReadyT.nil
      go_simp
      refine hK.out _ _ ?_ (fun hS inv => ?_)
      · exact (hS : Below W1.heap.size W1 _).alloc (Below.size hS) _
      clear hK K
      (try simp only [Act.put, List.setIfInBounds_toArray, List.set_cons_zero, List.set_cons_succ])
      have e3 := hide (blk_new D2 (.cells #[.int .i8 0, .int .i8 0] 29))
      replace e4 := hide (blk_alloc (x := (.cells #[.int .i8 0, .int .i8 0] 29)) e4.out)
      replace e5 := hide (blk_alloc (x := (.cells #[.int .i8 0, .int .i8 0] 29)) e5.out)
      have hz2 : D2.heap.size < (D2.alloc (.cells #[.int .i8 0, .int .i8 0] 29)).heap.size := by simp
      generalize hdr : D2.alloc (.cells #[.int .i8 0, .int .i8 0] 29) = D3 at *
      clear hdr
      obtain ⟨qa3, qb3, qc3, qd3, qe3⟩ := blk2 e3.out
      obtain ⟨qa4, qb4, qc4, qd4, qe4⟩ := blk2 e4.out
      obtain ⟨qa5, qb5, qc5, qd5, qe5⟩ := blk2 e5.out
      have ne01 : D2.heap.size ≠ D0.heap.size := by omega
      have ne02 : D2.heap.size ≠ D1.heap.size := by omega
      have ne10 : D0.heap.size ≠ D2.heap.size := by omega
      have ne12 : D0.heap.size ≠ D1.heap.size := by omega
      have ne20 : D1.heap.size ≠ D2.heap.size := by omega
      have ne21 : D1.heap.size ≠ D0.heap.size := by omega
      refine anyT_ready (rs := [6]) (by kernel_rfl) (by simp) ?_
      refine ReadyT.head (o := _) rfl (by decide) (by kernel_rfl) inv (fun K hK => ?_) ReadyT.nil
      go_simp
      refine hK.out _ _ ?_ (fun hS inv => ?_)
      · exact (hS : Below W1.heap.size W1 _).setCell (by simp; omega) _ |>.setCell (by simp; omega) _
      clear hK K
      (try simp only [Act.put, List.setIfInBounds_toArray, List.set_cons_zero, List.set_cons_succ])
      refine anyT_ready (rs := [7]) (by kernel_rfl) (by simp) ?_
      refine ReadyT.head (o := _) rfl (by decide) (by kernel_rfl) inv (fun K hK => ?_) ReadyT.nil
      go_simp
      refine hK.out _ _ ?_ (fun hS inv => ?_)
      · exact (hS : Below W1.heap.size W1 _).setCell (by simp; omega) _ |>.setCell (by simp; omega) _
      clear hK K
      (try simp only [Act.put, List.setIfInBounds_toArray, List.set_cons_zero, List.set_cons_succ])
      refine anyT_ready (rs := [8]) (by kernel_rfl) (by simp) ?_
      refine ReadyT.tail (o := _) rfl (by decide) (fun K hK => ?_)
      go_simp
      refine hK.out _ _ ?_
      clear hK K
      (try simp only [Act.put, List.setIfInBounds_toArray, List.set_cons_zero, List.set_cons_succ])
      refine anyT_done (by kernel_rfl) ?_ _
      go_wp2_with fail
      go_meet
      exact ⟨D2.heap.size, D0.heap.size, D1.heap.size, rfl, rfl, rfl, (Below.setCell hS (by simp; omega) _).setCell (by simp; omega) _, At2.of_heap (blk_far (blk_far (blk_far (blk_far (blk2_set e3.out) ne01) ne01) ne02) ne02), At2.of_heap (blk_far (blk_far (blk2_set (blk_far (blk_far e4.out ne10) ne10)) ne12) ne12), At2.of_heap (blk2_set (blk_far (blk_far (blk_far (blk_far e5.out ne20) ne20) ne21) ne21))⟩
    refine ReadyT.head (o := _) rfl (by decide) (by kernel_rfl) inv (fun K hK => ?_) ReadyT.nil
    go_simp
    refine hK.out _ _ ?_ (fun hS inv => ?_)
    · exact (hS : Below W1.heap.size W1 _).alloc (Below.size hS) _
    clear hK K
    (try simp only [Act.put, List.setIfInBounds_toArray, List.set_cons_zero, List.set_cons_succ])
    have e5 := hide (blk_new D0 (.cells #[.int .i8 0, .int .i8 0] 29))
    have hz0 : D0.heap.size < (D0.alloc (.cells #[.int .i8 0, .int .i8 0] 29)).heap.size := by simp
    generalize hdr : D0.alloc (.cells #[.int .i8 0, .int .i8 0] 29) = D1 at *
    clear hdr
    refine anyT_ready (rs := [3, 4]) (by kernel_rfl) (by simp) ?_
    refine ReadyT.head (o := _) rfl (by decide) (by kernel_rfl) inv (fun K hK => ?_) ?_
    · go_simp
      refine hK.out _ _ ?_ (fun hS inv => ?_)
      · exact (hS : Below W1.heap.size W1 _).alloc (Below.size hS) _
      clear hK K
      (try simp only [Act.put, List.setIfInBounds_toArray, List.set_cons_zero, List.set_cons_succ])
      have e3 := hide (blk_new D1 (.cells #[.int .i8 0, .int .i8 0] 29))
      replace e5 := hide (blk_alloc (x := (.cells #[.int .i8 0, .int .i8 0] 29)) e5.out)
      have hz1 : D1.heap.size < (D1.alloc (.cells #[.int .i8 0, .int .i8 0] 29)).heap.size := by simp
      generalize hdr : D1.alloc (.cells #[.int .i8 0, .int .i8 0] 29) = D2 at *
      clear hdr
      refine anyT_ready (rs := [4]) (by kernel_rfl) (by simp) ?_
      refine ReadyT.head (o := _) rfl (by decide) (by kernel_rfl) inv (fun K hK => ?_) ReadyT.nil
      go_simp
      refine hK.out _ _ ?_ (fun hS inv => ?_)
      · exact (hS : Below W1.heap.size W1 _).alloc (Below.size hS) _
      clear hK K
      (try simp only [Act.put, List.setIfInBounds_toArray, List.set_cons_zero, List.set_cons_succ])
      have e4 := hide (blk_new D2 (.cells #[.int .i8 0, .int .i8 0] 29))
      replace e3 := hide (blk_alloc (x := (.cells #[.int .i8 0, .int .i8 0] 29)) e3.out)
      replace e5 := hide (blk_alloc (x := (.cells #[.int .i8 0, .int .i8 0] 29)) e5.out)
      have hz2 : D2.heap.size < (D2.alloc (.cells #[.int .i8 0, .int .i8 0] 29)).heap.size := by simp
      generalize hdr : D2.alloc (.cells #[.int .i8 0, .int .i8 0] 29) = D3 at *
      clear hdr
      obtain ⟨qa3, qb3, qc3, qd3, qe3⟩ := blk2 e3.out
      obtain ⟨qa4, qb4, qc4, qd4, qe4⟩ := blk2 e4.out
      obtain ⟨qa5, qb5, qc5, qd5, qe5⟩ := blk2 e5.out
      have ne01 : D1.heap.size ≠ D2.heap.size := by omega
      have ne02 : D1.heap.size ≠ D0.heap.size := by omega
      have ne10 : D2.heap.size ≠ D1.heap.size := by omega
      have ne12 : D2.heap.size ≠ D0.heap.size := by omega
      have ne20 : D0.heap.size ≠ D1.heap.size := by omega
      have ne21 : D0.heap.size ≠ D2.heap.size := by omega
      refine anyT_ready (rs := [6]) (by kernel_rfl) (by simp) ?_
      refine ReadyT.head (o := _) rfl (by decide) (by kernel_rfl) inv (fun K hK => ?_) ReadyT.nil
      go_simp
      refine hK.out _ _ ?_ (fun hS inv => ?_)
      · exact (hS : Below W1.heap.size W1 _).setCell (by simp; omega) _ |>.setCell (by simp; omega) _
      clear hK K
      (try simp only [Act.put, List.setIfInBounds_toArray, List.set_cons_zero, List.set_cons_succ])
      refine anyT_ready (rs := [7]) (by kernel_rfl) (by simp) ?_
      refine ReadyT.head (o := _) rfl (by decide) (by kernel_rfl) inv (fun K hK => ?_) ReadyT.nil
      go_simp
      refine hK.out _ _ ?_ (fun hS inv => ?_)
      · exact (hS : Below W1.heap.size W1 _).setCell (by simp; omega) _ |>.setCell (by simp; omega) _
      clear hK K
      (try simp only [Act.put, List.setIfInBounds_toArray, List.set_cons_zero, List.set_cons_succ])
      refine anyT_ready (rs := [8]) (by kernel_rfl) (by simp) ?_
      refine ReadyT.tail (o := _) rfl (by decide) (fun K hK => ?_)
      go_simp
      refine hK.out _ _ ?_
      clear hK K
      (try simp only [Act.put, List.setIfInBounds_toArray, List.set_cons_zero, List.set_cons_succ])
      refine anyT_done (by kernel_rfl) ?_ _
      go_wp2_with fail
      go_meet
      exact ⟨D1.heap.size, D2.heap.size, D0.heap.size, rfl, rfl, rfl, (Below.setCell hS (by simp; omega) _).setCell (by simp; omega) _, At2.of_heap (blk_far (blk_far (blk_far (blk_far (blk2_set e3.out) ne01) ne01) ne02) ne02), At2.of_heap (blk_far (blk_far (blk2_set (blk_far (blk_far e4.out ne10) ne10)) ne12) ne12), At2.of_heap (blk2_set (blk_far (blk_far (blk_far (blk_far e5.out ne20) ne20) ne21) ne21))⟩
    refine ReadyT.head (o := _) rfl (by decide) (by kernel_rfl) inv (fun K hK => ?_) ReadyT.nil
    go_simp
    refine hK.out _ _ ?_ (fun hS inv => ?_)
    · exact (hS : Below W1.heap.size W1 _).alloc (Below.size hS) _
    clear hK K
    (try simp only [Act.put, List.setIfInBounds_toArray, List.set_cons_zero, List.set_cons_succ])
    have e4 := hide (blk_new D1 (.cells #[.int .i8 0, .int .i8 0] 29))
    replace e5 := hide (blk_alloc (x := (.cells #[.int .i8 0, .int .i8 0] 29)) e5.out)
    have hz1 : D1.heap.size < (D1.alloc (.cells #[.int .i8 0, .int .i8 0] 29)).heap.size := by simp
    generalize hdr : D1.alloc (.cells #[.int .i8 0, .int .i8 0] 29) = D2 at *
    clear hdr
    refine anyT_ready (rs := [3]) (by kernel_rfl) (by simp) ?_
    refine ReadyT.head (o := _) rfl (by decide) (by kernel_rfl) inv (fun K hK => ?_) ReadyT.nil
    go_simp
    refine hK.out _ _ ?_ (fun hS inv => ?_)
    · exact (hS : Below W1.heap.size W1 _).alloc (Below.size hS) _
    clear hK K
    (try simp only [Act.put, List.setIfInBounds_toArray, List.set_cons_zero, List.set_cons_succ])
    have e3 := hide (blk_new D2 (.cells #[.int .i8 0, .int .i8 0] 29))
    replace e4 := hide (blk_alloc (x := (.cells #[.int .i8 0, .int .i8 0] 29)) e4.out)
    replace e5 := hide (blk_alloc (x := (.cells #[.int .i8 0, .int .i8 0] 29)) e5.out)
    have hz2 : D2.heap.size < (D2.alloc (.cells #[.int .i8 0, .int .i8 0] 29)).heap.size := by simp
    generalize hdr : D2.alloc (.cells #[.int .i8 0, .int .i8 0] 29) = D3 at *
    clear hdr
    obtain ⟨qa3, qb3, qc3, qd3, qe3⟩ := blk2 e3.out
    obtain ⟨qa4, qb4, qc4, qd4, qe4⟩ := blk2 e4.out
    obtain ⟨qa5, qb5, qc5, qd5, qe5⟩ := blk2 e5.out
    have ne01 : D2.heap.size ≠ D1.heap.size := by omega
    have ne02 : D2.heap.size ≠ D0.heap.size := by omega
    have ne10 : D1.heap.size ≠ D2.heap.size := by omega
    have ne12 : D1.heap.size ≠ D0.heap.size := by omega
    have ne20 : D0.heap.size ≠ D2.heap.size := by omega
    have ne21 : D0.heap.size ≠ D1.heap.size := by omega
    refine anyT_ready (rs := [6]) (by kernel_rfl) (by simp) ?_
    refine ReadyT.head (o := _) rfl (by decide) (by kernel_rfl) inv (fun K hK => ?_) ReadyT.nil
    go_simp
    refine hK.out _ _ ?_ (fun hS inv => ?_)
    · exact (hS : Below W1.heap.size W1 _).setCell (by simp; omega) _ |>.setCell (by simp; omega) _
    clear hK K
    (try simp only [Act.put, List.setIfInBounds_toArray, List.set_cons_zero, List.set_cons_succ])
    refine anyT_ready (rs := [7]) (by kernel_rfl) (by simp) ?_
    refine ReadyT.head (o := _) rfl (by decide) (by kernel_rfl) inv (fun K hK => ?_) ReadyT.nil
    go_simp
    refine hK.out _ _ ?_ (fun hS inv => ?_)
    · exact (hS : Below W1.heap.size W1 _).setCell (by simp; omega) _ |>.setCell (by simp; omega) _
    clear hK K
    (try simp only [Act.put, List.setIfInBounds_toArray, List.set_cons_zero, List.set_cons_succ])
    refine anyT_ready (rs := [8]) (by kernel_rfl) (by simp) ?_
    refine ReadyT.tail (o := _) rfl (by decide) (fun K hK => ?_)
    go_simp
    refine hK.out _ _ ?_
    clear hK K
    (try simp only [Act.put, List.setIfInBounds_toArray, List.set_cons_zero, List.set_cons_succ])
    refine anyT_done (by kernel_rfl) ?_ _
    go_wp2_with fail
    go_meet
    exact ⟨D2.heap.size, D1.heap.size, D0.heap.size, rfl, rfl, rfl, (Below.setCell hS (by simp; omega) _).setCell (by simp; omega) _, At2.of_heap (blk_far (blk_far (blk_far (blk_far (blk2_set e3.out) ne01) ne01) ne02) ne02), At2.of_heap (blk_far (blk_far (blk2_set (blk_far (blk_far e4.out ne10) ne10)) ne12) ne12), At2.of_heap (blk2_set (blk_far (blk_far (blk_far (blk_far e5.out ne20) ne20) ne21) ne21))⟩
  case rest =>
    obtain ⟨N, M, K, rfl, rfl, rfl, hB1, hX, hY, hZ⟩ := hcut
    obtain ⟨W2, hW2⟩ : ∃ x, x = wc := ⟨_, rfl⟩
    rw [← hW2]
    rw [← hW2] at hX hY hZ hB1
    clear hW2
    replace hB := hB.trans (hB1.mono hB.size)
    clear k1' k2' k3' hB1
    have ⟨x1, x2, x3⟩ := hX
    have ⟨y1, y2, y3⟩ := hY
    have ⟨z1, z2, z3⟩ := hZ
    obtain ⟨ul, uh, vl, vh, al, ah, g1, g2, g3, g4, g5, g6, g7, g8, g9, g10, g11, g12, g13, g14, g15, g16, g17, g18⟩ := alg_facts a b c d e f
    have E1 := hide g1
    have E2 := hide g2
    have E3 := hide g3
    have E4 := hide g4
    have E5 := hide g5
    have E6 := hide g6
    have E7 := hide g7
    have E8 := hide g8
    have E9 := hide g9
    have E10 := hide g10
    have E11 := hide g11
    have E12 := hide g12
    have E13 := hide g13
    have E14 := hide g14
    have E15 := hide g15
    have E16 := hide g16
    have E17 := hide g17
    have E18 := hide g18
    clear g1 g2 g3 g4 g5 g6 g7 g8 g9 g10 g11 g12 g13 g14 g15 g16 g17 g18
    go_wp2_with fail
    refine (comb3_r a b c d e f al ah _ _ E5.out E6.out).mono ?_
    rintro e w3 ⟨rfl, hb⟩
    have hX3 := (hX.alloc (.cells #[.int .i8 a, .int .i8 b, .int .i8 c, .int .i8 d, .int .i8 e, .int .i8 f] 29)).below hb
    have hY3 := (hY.alloc (.cells #[.int .i8 a, .int .i8 b, .int .i8 c, .int .i8 d, .int .i8 e, .int .i8 f] 29)).below hb
    have hZ3 := (hZ.alloc (.cells #[.int .i8 a, .int .i8 b, .int .i8 c, .int .i8 d, .int .i8 e, .int .i8 f] 29)).below hb
    have hB3 : Below w.heap.size w w3 := (hB.alloc hB.size _).trans (hb.mono (by have := hB.size; simp; omega))
    clear hb hX hY hZ hB x1 x2 x3 y1 y2 y3 z1 z2 z3
    have k0 : Below w.heap.size w (w3.alloc (.cells #[.int .i8 al, .int .i8 ah] 29)) ∧ At2 N a b (w3.alloc (.cells #[.int .i8 al, .int .i8 ah] 29)) ∧ At2 M c d (w3.alloc (.cells #[.int .i8 al, .int .i8 ah] 29)) ∧ At2 K e f (w3.alloc (.cells #[.int .i8 al, .int .i8 ah] 29)) ∧ At2 w3.heap.size al ah (w3.alloc (.cells #[.int .i8 al, .int .i8 ah] 29)) :=
      ⟨hB3.alloc hB3.size _, hX3.alloc _, hY3.alloc _, hZ3.alloc _, At2.new _ _ _ _⟩
    clear hB3 hX3 hY3 hZ3
    go_wp2_with fail
    generalize hV3 : w3.alloc (.cells #[.int .i8 al, .int .i8 ah] 29) = V3 at *
    clear hV3
    generalize w3.heap.size = L at *
    have hz := k0.1.size
    have ⟨kB, ⟨p1, p2, p3⟩, ⟨q1, q2, q3⟩, ⟨r1, r2, r3⟩, ⟨s1, s2, s3⟩⟩ := k0
    clear k0
    (try simp only [List.append_eq, List.cons_append, List.nil_append])
    apply cutP
    case main =>
      intro key
      refine region_anyT2 (S := fun w1 => Below V3.heap.size V3 w1) (n := 60) ⟨by kernel_rfl, by kernel_rfl, by kernel_rfl, by decide⟩ (by kernel_rfl) (Below.refl _ _).drew (fun hok hS inv => ?_)
      refine anyT_step (i := 0) (oi := _) (v := .agg #[.int .i8 (a), .int .i8 (b)]) hok rfl (by decide) (by kernel_rfl) (by kernel_rfl) inv (fun _ _ _ h => h) (Or.inl ⟨by kernel_rfl, ?_⟩) hS (fun inv2 => ?_)
      · clear inv hok
        intro wz hSw
        have hk1 := (hSw : Below _ _ _).cell (p := ⟨N, 0, none⟩) (by assumption); have hk2 := (hSw : Below _ _ _).cell (p := ⟨N, 1, none⟩) (by assumption); go_simp
      clear inv
      have inv := inv2
      clear inv2
      (try simp only [Act.put, List.setIfInBounds_toArray, List.set_cons_zero, List.set_cons_succ])
      refine anyT_step (i := 1) (oi := _) (v := .agg #[.int .i8 (c), .int .i8 (d)]) hok rfl (by decide) (by kernel_rfl) (by kernel_rfl) inv (fun _ _ _ h => h) (Or.inl ⟨by kernel_rfl, ?_⟩) hS (fun inv2 => ?_)
      · clear inv hok
        intro wz hSw
        have hk1 := (hSw : Below _ _ _).cell (p := ⟨M, 0, none⟩) (by assumption); have hk2 := (hSw : Below _ _ _).cell (p := ⟨M, 1, none⟩) (by assumption); go_simp
      clear inv
      have inv := inv2
      clear inv2
      (try simp only [Act.put, List.setIfInBounds_toArray, List.set_cons_zero, List.set_cons_succ])
      refine anyT_step (i := 4) (oi := _) (v := .agg #[.int .i8 (c), .int .i8 (d)]) hok rfl (by decide) (by kernel_rfl) (by kernel_rfl) inv (fun _ _ _ h => h) (Or.inl ⟨by kernel_rfl, ?_⟩) hS (fun inv2 => ?_)
      · clear inv hok
        intro wz hSw
        have hk1 := (hSw : Below _ _ _).cell (p := ⟨M, 0, none⟩) (by assumption); have hk2 := (hSw : Below _ _ _).cell (p := ⟨M, 1, none⟩) (by assumption); go_simp
      clear inv
      have inv := inv2
      clear inv2
      (try simp only [Act.put, List.setIfInBounds_toArray, List.set_cons_zero, List.set_cons_succ])
      refine anyT_step (i := 5) (oi := _) (v := .agg #[.int .i8 (a), .int .i8 (b)]) hok rfl (by decide) (by kernel_rfl) (by kernel_rfl) inv (fun _ _ _ h => h) (Or.inl ⟨by kernel_rfl, ?_⟩) hS (fun inv2 => ?_)
      · clear inv hok
        intro wz hSw
        have hk1 := (hSw : Below _ _ _).cell (p := ⟨N, 0, none⟩) (by assumption); have hk2 := (hSw : Below _ _ _).cell (p := ⟨N, 1, none⟩) (by assumption); go_simp
      clear inv
      have inv := inv2
      clear inv2
      (try simp only [Act.put, List.setIfInBounds_toArray, List.set_cons_zero, List.set_cons_succ])
      generalize hdr : V3.drew = D0 at hS ⊢
      clear hdr
      refine anyT_ready (rs := [2, 6]) (by kernel_rfl) (by simp) ?_
      refine ReadyT.head (o := _) rfl (by decide) (by kernel_rfl) inv (fun K hK => ?_) ?_
      · go_simp
        refine hK.out _ _ ?_ (fun hS2 inv2 => ?_)
        · exact (hS : Below V3.heap.size V3 _).alloc (Below.size hS) _
        clear hK K inv hS
        have inv := inv2
        have hS := hS2
        clear inv2 hS2
        (try simp only [Act.put, List.setIfInBounds_toArray, List.set_cons_zero, List.set_cons_succ])
        refine anyT_ready (rs := [3, 6]) (by kernel_rfl) (by simp) ?_
        refine ReadyT.head (o := _) rfl (by decide) (by kernel_rfl) inv (fun K hK => ?_) ?_
        · go_simp
          refine (comb2_r a b c d ul uh _ _ E1.out E2.out).mono ?_
          rintro e d1 ⟨rfl, hb1⟩
          go_wp2_with fail
          refine hK.out _ _ ?_ (fun hS2 inv2 => ?_)
          · exact (hS : Below V3.heap.size V3 _).trans (hb1.mono (Below.size hS))
          clear hK K inv hS
          have inv := inv2
          have hS := hS2
          clear inv2 hS2
          (try simp only [Act.put, List.setIfInBounds_toArray, List.set_cons_zero, List.set_cons_succ])
          refine anyT_ready (rs := [6]) (by kernel_rfl) (by simp) ?_
          refine ReadyT.head (o := _) rfl (by decide) (by kernel_rfl) inv (fun K hK => ?_) ReadyT.nil
          go_simp
          refine hK.out _ _ ?_ (fun hS2 inv2 => ?_)
          · exact (hS : Below V3.heap.size V3 _).alloc (Below.size hS) _
          clear hK K inv hS
          have inv := inv2
          have hS := hS2
          clear inv2 hS2
          (try simp only [Act.put, List.setIfInBounds_toArray, List.set_cons_zero, List.set_cons_succ])
          refine anyT_ready (rs := [7]) (by kernel_rfl) (by simp) ?_
          refine ReadyT.head (o := _) rfl (by decide) (by kernel_rfl) inv (fun K hK => ?_) ReadyT.nil
          go_simp
          refine (comb2_r c d a b ul uh _ _ E3.out E4.out).mono ?_
          rintro e d2 ⟨rfl, hb2⟩
          go_wp2_with fail
          refine hK.out _ _ ?_ (fun hS2 inv2 => ?_)
          · exact (hS : Below V3.heap.size V3 _).trans (hb2.mono (Below.size hS))
          clear hK K inv hS
          have inv := inv2
          have hS := hS2
          clear inv2 hS2
          (try simp only [Act.put, List.setIfInBounds_toArray, List.set_cons_zero, List.set_cons_succ])
          generalize hdn : Array.setIfInBounds _ 7 true = dn at inv ⊢
          generalize Value.slice (some ⟨D0.heap.size, 0, none⟩) 2 2 = t2
          generalize Value.slice (some ⟨d1.heap.size, 0, none⟩) 2 2 = t6
          clear hb1 hb2
          revert inv
          revert hdn
          revert dn
          revert hS
          revert t6
          revert t2
          revert d2; revert hok
          exact key.out
        refine ReadyT.head (o := _) rfl (by decide) (by kernel_rfl) inv (fun K hK => ?_) ReadyT.nil
        go_simp
        refine hK.out _ _ ?_ (fun hS2 inv2 => ?_)
        · exact (hS : Below V3.heap.size V3 _).alloc (Below.size hS) _
        clear hK K inv hS
        have inv := inv2
        have hS := hS2
        clear inv2 hS2
        (try simp only [Act.put, List.setIfInBounds_toArray, List.set_cons_zero, List.set_cons_succ])
        refine anyT_ready (rs := [3]) (by kernel_rfl) (by simp) ?_
        refine ReadyT.head (o := _) rfl (by decide) (by kernel_rfl) inv (fun K hK => ?_) ReadyT.nil
        go_simp
        refine (comb2_p3 a b c d c d a b ul uh _ _ E1.out E2.out).mono ?_
        rintro e d14 ⟨rfl, hb14⟩
        go_wp2_with fail
        refine hK.out _ _ ?_ (fun hS2 inv2 => ?_)
        · exact (hS : Below V3.heap.size V3 _).trans (hb14.mono (Below.size hS))
        clear hK K inv hS
        have inv := inv2
        have hS := hS2
        clear inv2 hS2
        (try simp only [Act.put, List.setIfInBounds_toArray, List.set_cons_zero, List.set_cons_succ])
        refine anyT_ready (rs := [7]) (by kernel_rfl) (by simp) ?_
        refine ReadyT.head (o := _) rfl (by decide) (by kernel_rfl) inv (fun K hK => ?_) ReadyT.nil
        go_simp
        refine (comb2_ql3 a b c d c d a b ul uh _ _ _ hb14 E3.out E4.out).mono ?_
        rintro e d15 ⟨rfl, hb15⟩
        go_wp2_with fail
        refine hK.out _ _ ?_ (fun hS2 inv2 => ?_)
        · exact (hS : Below V3.heap.size V3 _).trans (hb15.mono (Below.size hS))
        clear hK K inv hS
        have inv := inv2
        have hS := hS2
        clear inv2 hS2
        (try simp only [Act.put, List.setIfInBounds_toArray, List.set_cons_zero, List.set_cons_succ])
        generalize hdn : Array.setIfInBounds _ 7 true = dn at inv ⊢
        generalize Value.slice (some ⟨D0.heap.size, 0, none⟩) 2 2 = t2
        generalize Value.slice (some ⟨D0.heap.size + 1, 0, none⟩) 2 2 = t6
        exact key.out hok d15 t2 t6 hS dn (Eq.trans (by kernel_rfl) hdn) inv
      refine ReadyT.head (o := _) rfl (by decide) (by kernel_rfl) inv (fun K hK => ?_) ReadyT.nil
      go_simp
      refine hK.out _ _ ?_ (fun hS2 inv2 => ?_)
      · exact (hS : Below V3.heap.size V3 _).alloc (Below.size hS) _
      clear hK K inv hS
      have inv := inv2
      have hS := hS2
      clear inv2 hS2
      (try simp only [Act.put, List.setIfInBounds_toArray, List.set_cons_zero, List.set_cons_succ])
      refine anyT_ready (rs := [2]) (by kernel_rfl) (by simp) ?_
      refine ReadyT.head (o := _) rfl (by decide) (by kernel_rfl) inv (fun K hK => ?_) ReadyT.nil
      go_simp
      refine hK.out _ _ ?_ (fun hS2 inv2 => ?_)
      · exact (hS : Below V3.heap.size V3 _).alloc (Below.size hS) _
      clear hK K inv hS
      have inv := inv2
      have hS := hS2
      clear inv2 hS2
      (try simp only [Act.put, List.setIfInBounds_toArray, List.set_cons_zero, List.set_cons_succ])
      refine anyT_ready (rs := [3]) (by kernel_rfl) (by simp) ?_
      refine ReadyT.head (o := _) rfl (by decide) (by kernel_rfl) inv (fun K hK => ?_) ReadyT.nil
      go_simp
      refine (comb2_q3 c d a b a b c d ul uh _ _ E1.out E2.out).mono ?_
      rintro e d27 ⟨rfl, hb27⟩
      go_wp2_with fail
      refine hK.out _ _ ?_ (fun hS2 inv2 => ?_)
      · exact (hS : Below V3.heap.size V3 _).trans (hb27.mono (Below.size hS))
      clear hK K inv hS
      have inv := inv2
      have hS := hS2
      clear inv2 hS2
      (try simp only [Act.put, List.setIfInBounds_toArray, List.set_cons_zero, List.set_cons_succ])
      refine anyT_ready (rs := [7]) (by kernel_rfl) (by simp) ?_
      refine ReadyT.head (o := _) rfl (by decide) (by kernel_rfl) inv (fun K hK => ?_) ReadyT.nil
      go_simp
      refine (comb2_pl3 c d a b a b c d ul uh _ _ _ hb27 E3.out E4.out).mono ?_
      rintro e d28 ⟨rfl, hb28⟩
      go_wp2_with fail
      refine hK.out _ _ ?_ (fun hS2 inv2 => ?_)
      · exact (hS : Below V3.heap.size V3 _).trans (hb28.mono (Below.size hS))
      clear hK K inv hS
      have inv := inv2
      have hS := hS2
      clear inv2 hS2
      (try simp only [Act.put, List.setIfInBounds_toArray, List.set_cons_zero, List.set_cons_succ])
      generalize hdn : Array.setIfInBounds _ 7 true = dn at inv ⊢
      generalize Value.slice (some ⟨D0.heap.size + 1, 0, none⟩) 2 2 = t2
      generalize Value.slice (some ⟨D0.heap.size, 0, none⟩) 2 2 = t6
      exact key.out hok d28 t2 t6 hS dn (Eq.trans (by kernel_rfl) hdn) inv
    case pf =>
      intro hok d2 t2 t6 hS dn hdn inv
      subst hdn
      refine anyT_step (i := 8) (oi := _) (v := .bool true) hok rfl (by decide) (by kernel_rfl) (by kernel_rfl) inv (fun _ _ _ h => h) (Or.inl ⟨by kernel_rfl, ?_⟩) hS (fun inv2 => ?_)
      · clear inv hok
        intro wz hSw
        go_simp
      clear inv
      have inv := inv2
      clear inv2
      (try simp only [Act.put, List.setIfInBounds_toArray, List.set_cons_zero, List.set_cons_succ])
      refine anyT_step (i := 9) (oi := _) (v := .bool true) hok rfl (by decide) (by kernel_rfl) (by kernel_rfl) inv (fun _ _ _ h => h) (Or.inl ⟨by kernel_rfl, ?_⟩) hS (fun inv2 => ?_)
      · clear inv hok
        intro wz hSw
        go_simp
      clear inv
      have inv := inv2
      clear inv2
      (try simp only [Act.put, List.setIfInBounds_toArray, List.set_cons_zero, List.set_cons_succ])
      refine anyT_step (i := 10) (oi := _) (v := .agg #[.int .i8 (e), .int .i8 (f)]) hok rfl (by decide) (by kernel_rfl) (by kernel_rfl) inv (fun _ _ _ h => h) (Or.inl ⟨by kernel_rfl, ?_⟩) hS (fun inv2 => ?_)
      · clear inv hok
        intro wz hSw
        have hk1 := (hSw : Below _ _ _).cell (p := ⟨K, 0, none⟩) (by assumption); have hk2 := (hSw : Below _ _ _).cell (p := ⟨K, 1, none⟩) (by assumption); go_simp
      clear inv
      have inv := inv2
      clear inv2
      (try simp only [Act.put, List.setIfInBounds_toArray, List.set_cons_zero, List.set_cons_succ])
      refine anyT_step (i := 11) (oi := _) (v := .agg #[.int .i8 (a), .int .i8 (b)]) hok rfl (by decide) (by kernel_rfl) (by kernel_rfl) inv (fun _ _ _ h => h) (Or.inl ⟨by kernel_rfl, ?_⟩) hS (fun inv2 => ?_)
      · clear inv hok
        intro wz hSw
        have hk1 := (hSw : Below _ _ _).cell (p := ⟨N, 0, none⟩) (by assumption); have hk2 := (hSw : Below _ _ _).cell (p := ⟨N, 1, none⟩) (by assumption); go_simp
      clear inv
      have inv := inv2
      clear inv2
      (try simp only [Act.put, List.setIfInBounds_toArray, List.set_cons_zero, List.set_cons_succ])
      refine anyT_step (i := 12) (oi := _) (v := .agg #[.int .i8 (c), .int .i8 (d)]) hok rfl (by decide) (by kernel_rfl) (by kernel_rfl) inv (fun _ _ _ h => h) (Or.inl ⟨by kernel_rfl, ?_⟩) hS (fun inv2 => ?_)
      · clear inv hok
        intro wz hSw
        have hk1 := (hSw : Below _ _ _).cell (p := ⟨M, 0, none⟩) (by assumption); have hk2 := (hSw : Below _ _ _).cell (p := ⟨M, 1, none⟩) (by assumption); go_simp
      clear inv
      have inv := inv2
      clear inv2
      (try simp only [Act.put, List.setIfInBounds_toArray, List.set_cons_zero, List.set_cons_succ])
      refine anyT_step (i := 15) (oi := _) (v := .agg #[.int .i8 (al), .int .i8 (ah)]) hok rfl (by decide) (by kernel_rfl) (by kernel_rfl) inv (fun _ _ _ h => h) (Or.inl ⟨by kernel_rfl, ?_⟩) hS (fun inv2 => ?_)
      · clear inv hok
        intro wz hSw
        have hk1 := (hSw : Below _ _ _).cell (p := ⟨L, 0, none⟩) (by assumption); have hk2 := (hSw : Below _ _ _).cell (p := ⟨L, 1, none⟩) (by assumption); go_simp
      clear inv
      have inv := inv2
      clear inv2
      (try simp only [Act.put, List.setIfInBounds_toArray, List.set_cons_zero, List.set_cons_succ])
      refine anyT_ready (rs := [13]) (by kernel_rfl) (by simp) ?_
      refine ReadyT.head (o := _) rfl (by decide) (by kernel_rfl) inv (fun K hK => ?_) ReadyT.nil
      go_simp
      refine hK.out _ _ ?_ (fun hS2 inv2 => ?_)
      · exact (hS : Below V3.heap.size V3 _).alloc (Below.size hS) _
      clear hK K inv hS
      have inv := inv2
      have hS := hS2
      clear inv2 hS2
      (try simp only [Act.put, List.setIfInBounds_toArray, List.set_cons_zero, List.set_cons_succ])
      refine anyT_ready (rs := [14]) (by kernel_rfl) (by simp) ?_
      refine ReadyT.head (o := _) rfl (by decide) (by kernel_rfl) inv (fun K hK => ?_) ReadyT.nil
      go_simp
      refine (comb3_r e f a b c d al ah _ _ E7.out E8.out).mono ?_
      rintro e d3 ⟨rfl, hb3⟩
      go_wp2_with fail
      refine hK.out _ _ ?_ (fun hS2 inv2 => ?_)
      · exact (hS : Below V3.heap.size V3 _).trans (hb3.mono (Below.size hS))
      clear hK K inv hS
      have inv := inv2
      have hS := hS2
      clear inv2 hS2
      (try simp only [Act.put, List.setIfInBounds_toArray, List.set_cons_zero, List.set_cons_succ])
      refine anyT_step (i := 16) (oi := _) (v := .bool true) hok rfl (by decide) (by kernel_rfl) (by kernel_rfl) inv (fun _ _ _ h => h) (Or.inl ⟨by kernel_rfl, ?_⟩) hS (fun inv2 => ?_)
      · clear inv hok
        intro wz hSw
        go_simp
      clear inv
      have inv := inv2
      clear inv2
      (try simp only [Act.put, List.setIfInBounds_toArray, List.set_cons_zero, List.set_cons_succ])
      refine anyT_step (i := 17) (oi := _) (v := .bool true) hok rfl (by decide) (by kernel_rfl) (by kernel_rfl) inv (fun _ _ _ h => h) (Or.inl ⟨by kernel_rfl, ?_⟩) hS (fun inv2 => ?_)
      · clear inv hok
        intro wz hSw
        go_simp
      clear inv
      have inv := inv2
      clear inv2
      (try simp only [Act.put, List.setIfInBounds_toArray, List.set_cons_zero, List.set_cons_succ])
      refine anyT_step (i := 18) (oi := _) (v := .bool true) hok rfl (by decide) (by kernel_rfl) (by kernel_rfl) inv (fun _ _ _ h => h) (Or.inl ⟨by kernel_rfl, ?_⟩) hS (fun inv2 => ?_)
      · clear inv hok
        intro wz hSw
        go_simp
      clear inv
      have inv := inv2
      clear inv2
      (try simp only [Act.put, List.setIfInBounds_toArray, List.set_cons_zero, List.set_cons_succ])
      refine anyT_step (i := 19) (oi := _) (v := .agg #[.int .i8 (a), .int .i8 (b)]) hok rfl (by decide) (by kernel_rfl) (by kernel_rfl) inv (fun _ _ _ h => h) (Or.inl ⟨by kernel_rfl, ?_⟩) hS (fun inv2 => ?_)
      · clear inv hok
        intro wz hSw
        have hk1 := (hSw : Below _ _ _).cell (p := ⟨N, 0, none⟩) (by assumption); have hk2 := (hSw : Below _ _ _).cell (p := ⟨N, 1, none⟩) (by assumption); go_simp
      clear inv
      have inv := inv2
      clear inv2
      (try simp only [Act.put, List.setIfInBounds_toArray, List.set_cons_zero, List.set_cons_succ])
      refine anyT_step (i := 20) (oi := _) (v := .agg #[.int .i8 (c), .int .i8 (d)]) hok rfl (by decide) (by kernel_rfl) (by kernel_rfl) inv (fun _ _ _ h => h) (Or.inl ⟨by kernel_rfl, ?_⟩) hS (fun inv2 => ?_)
      · clear inv hok
        intro wz hSw
        have hk1 := (hSw : Below _ _ _).cell (p := ⟨M, 0, none⟩) (by assumption); have hk2 := (hSw : Below _ _ _).cell (p := ⟨M, 1, none⟩) (by assumption); go_simp
      clear inv
      have inv := inv2
      clear inv2
      (try simp only [Act.put, List.setIfInBounds_toArray, List.set_cons_zero, List.set_cons_succ])
      refine anyT_step (i := 23) (oi := _) (v := .agg #[.int .i8 (e), .int .i8 (f)]) hok rfl (by decide) (by kernel_rfl) (by kernel_rfl) inv (fun _ _ _ h => h) (Or.inl ⟨by kernel_rfl, ?_⟩) hS (fun inv2 => ?_)
      · clear inv hok
        intro wz hSw
        have hk1 := (hSw : Below _ _ _).cell (p := ⟨K, 0, none⟩) (by assumption); have hk2 := (hSw : Below _ _ _).cell (p := ⟨K, 1, none⟩) (by assumption); go_simp
      clear inv
      have inv := inv2
      clear inv2
      (try simp only [Act.put, List.setIfInBounds_toArray, List.set_cons_zero, List.set_cons_succ])
      refine anyT_step (i := 26) (oi := _) (v := .agg #[.int .i8 (al), .int .i8 (ah)]) hok rfl (by decide) (by kernel_rfl) (by kernel_rfl) inv (fun _ _ _ h => h) (Or.inl ⟨by kernel_rfl, ?_⟩) hS (fun inv2 => ?_)
      · clear inv hok
        intro wz hSw
        have hk1 := (hSw : Below _ _ _).cell (p := ⟨L, 0, none⟩) (by assumption); have hk2 := (hSw : Below _ _ _).cell (p := ⟨L, 1, none⟩) (by assumption); go_simp
      clear inv
      have inv := inv2
      clear inv2
      (try simp only [Act.put, List.setIfInBounds_toArray, List.set_cons_zero, List.set_cons_succ])
      refine anyT_ready (rs := [21]) (by kernel_rfl) (by simp) ?_
      refine ReadyT.head (o := _) rfl (by decide) (by kernel_rfl) inv (fun K hK => ?_) ReadyT.nil
      go_simp
      refine hK.out _ _ ?_ (fun hS2 inv2 => ?_)
      · exact (hS : Below V3.heap.size V3 _).alloc (Below.size hS) _
      clear hK K inv hS
      have inv := inv2
      have hS := hS2
      clear inv2 hS2
      (try simp only [Act.put, List.setIfInBounds_toArray, List.set_cons_zero, List.set_cons_succ])
      refine anyT_ready (rs := [22]) (by kernel_rfl) (by simp) ?_
      refine ReadyT.head (o := _) rfl (by decide) (by kernel_rfl) inv (fun K hK => ?_) ReadyT.nil
      go_simp
      refine (comb2_r a b c d ul uh _ _ E1.out E2.out).mono ?_
      rintro e d4 ⟨rfl, hb4⟩
      go_wp2_with fail
      refine hK.out _ _ ?_ (fun hS2 inv2 => ?_)
      · exact (hS : Below V3.heap.size V3 _).trans (hb4.mono (Below.size hS))
      clear hK K inv hS
      have inv := inv2
      have hS := hS2
      clear inv2 hS2
      (try simp only [Act.put, List.setIfInBounds_toArray, List.set_cons_zero, List.set_cons_succ])
      refine anyT_ready (rs := [24]) (by kernel_rfl) (by simp) ?_
      refine ReadyT.head (o := _) rfl (by decide) (by kernel_rfl) inv (fun K hK => ?_) ReadyT.nil
      go_simp
      refine hK.out _ _ ?_ (fun hS2 inv2 => ?_)
      · exact (hS : Below V3.heap.size V3 _).alloc (Below.size hS) _
      clear hK K inv hS
      have inv := inv2
      have hS := hS2
      clear inv2 hS2
      (try simp only [Act.put, List.setIfInBounds_toArray, List.set_cons_zero, List.set_cons_succ])
      refine anyT_ready (rs := [25]) (by kernel_rfl) (by simp) ?_
      refine ReadyT.head (o := _) rfl (by decide) (by kernel_rfl) inv (fun K hK => ?_) ReadyT.nil
      go_simp
      refine (comb2_r ul uh e f al ah _ _ E9.out E10.out).mono ?_
      rintro e d5 ⟨rfl, hb5⟩
      go_wp2_with fail
      refine hK.out _ _ ?_ (fun hS2 inv2 => ?_)
      · exact (hS : Below V3.heap.size V3 _).trans (hb5.mono (Below.size hS))
      clear hK K inv hS
      have inv := inv2
      have hS := hS2
      clear inv2 hS2
      (try simp only [Act.put, List.setIfInBounds_toArray, List.set_cons_zero, List.set_cons_succ])
      refine anyT_step (i := 27) (oi := _) (v := .bool true) hok rfl (by decide) (by kernel_rfl) (by kernel_rfl) inv (fun _ _ _ h => h) (Or.inl ⟨by kernel_rfl, ?_⟩) hS (fun inv2 => ?_)
      · clear inv hok
        intro wz hSw
        go_simp
      clear inv
      have inv := inv2
      clear inv2
      (try simp only [Act.put, List.setIfInBounds_toArray, List.set_cons_zero, List.set_cons_succ])
      refine anyT_step (i := 28) (oi := _) (v := .bool true) hok rfl (by decide) (by kernel_rfl) (by kernel_rfl) inv (fun _ _ _ h => h) (Or.inl ⟨by kernel_rfl, ?_⟩) hS (fun inv2 => ?_)
      · clear inv hok
        intro wz hSw
        go_simp
      clear inv
      have inv := inv2
      clear inv2
      (try simp only [Act.put, List.setIfInBounds_toArray, List.set_cons_zero, List.set_cons_succ])
      refine anyT_step (i := 29) (oi := _) (v := .bool true) hok rfl (by decide) (by kernel_rfl) (by kernel_rfl) inv (fun _ _ _ h => h) (Or.inl ⟨by kernel_rfl, ?_⟩) hS (fun inv2 => ?_)
      · clear inv hok
        intro wz hSw
        go_simp
      clear inv
      have inv := inv2
      clear inv2
      (try simp only [Act.put, List.setIfInBounds_toArray, List.set_cons_zero, List.set_cons_succ])
      refine anyT_step (i := 30) (oi := _) (v := .agg #[.int .i8 (a), .int .i8 (b)]) hok rfl (by decide) (by kernel_rfl) (by kernel_rfl) inv (fun _ _ _ h => h) (Or.inl ⟨by kernel_rfl, ?_⟩) hS (fun inv2 => ?_)
      · clear inv hok
        intro wz hSw
        have hk1 := (hSw : Below _ _ _).cell (p := ⟨N, 0, none⟩) (by assumption); have hk2 := (hSw : Below _ _ _).cell (p := ⟨N, 1, none⟩) (by assumption); go_simp
      clear inv
      have inv := inv2
      clear inv2
      (try simp only [Act.put, List.setIfInBounds_toArray, List.set_cons_zero, List.set_cons_succ])
      refine anyT_step (i := 31) (oi := _) (v := .agg #[.int .i8 (c), .int .i8 (d)]) hok rfl (by decide) (by kernel_rfl) (by kernel_rfl) inv (fun _ _ _ h => h) (Or.inl ⟨by kernel_rfl, ?_⟩) hS (fun inv2 => ?_)
      · clear inv hok
        intro wz hSw
        have hk1 := (hSw : Below _ _ _).cell (p := ⟨M, 0, none⟩) (by assumption); have hk2 := (hSw : Below _ _ _).cell (p := ⟨M, 1, none⟩) (by assumption); go_simp
      clear inv
      have inv := inv2
      clear inv2
      (try simp only [Act.put, List.setIfInBounds_toArray, List.set_cons_zero, List.set_cons_succ])
      refine anyT_step (i := 32) (oi := _) (v := .agg #[.int .i8 (e), .int .i8 (f)]) hok rfl (by decide) (by kernel_rfl) (by kernel_rfl) inv (fun _ _ _ h => h) (Or.inl ⟨by kernel_rfl, ?_⟩) hS (fun inv2 => ?_)
      · clear inv hok
        intro wz hSw
        have hk1 := (hSw : Below _ _ _).cell (p := ⟨K, 0, none⟩) (by assumption); have hk2 := (hSw : Below _ _ _).cell (p := ⟨K, 1, none⟩) (by assumption); go_simp
      clear inv
      have inv := inv2
      clear inv2
      (try simp only [Act.put, List.setIfInBounds_toArray, List.set_cons_zero, List.set_cons_succ])
      refine anyT_step (i := 37) (oi := _) (v := .agg #[.int .i8 (al), .int .i8 (ah)]) hok rfl (by decide) (by kernel_rfl) (by kernel_rfl) inv (fun _ _ _ h => h) (Or.inl ⟨by kernel_rfl, ?_⟩) hS (fun inv2 => ?_)
      · clear inv hok
        intro wz hSw
        have hk1 := (hSw : Below _ _ _).cell (p := ⟨L, 0, none⟩) (by assumption); have hk2 := (hSw : Below _ _ _).cell (p := ⟨L, 1, none⟩) (by assumption); go_simp
      clear inv
      have inv := inv2
      clear inv2
      (try simp only [Act.put, List.setIfInBounds_toArray, List.set_cons_zero, List.set_cons_succ])
      refine anyT_ready (rs := [33]) (by kernel_rfl) (by simp) ?_
      refine ReadyT.head (o := _) rfl (by decide) (by kernel_rfl) inv (fun K hK => ?_) ReadyT.nil
      go_simp
      refine hK.out _ _ ?_ (fun hS2 inv2 => ?_)
      · exact (hS : Below V3.heap.size V3 _).alloc (Below.size hS) _
      clear hK K inv hS
      have inv := inv2
      have hS := hS2
      clear inv2 hS2
      (try simp only [Act.put, List.setIfInBounds_toArray, List.set_cons_zero, List.set_cons_succ])
      refine anyT_ready (rs := [34]) (by kernel_rfl) (by simp) ?_
      refine ReadyT.head (o := _) rfl (by decide) (by kernel_rfl) inv (fun K hK => ?_) ReadyT.nil
      go_simp
      refine (comb2_r c d e f vl vh _ _ E11.out E12.out).mono ?_
      rintro e d6 ⟨rfl, hb6⟩
      go_wp2_with fail
      refine hK.out _ _ ?_ (fun hS2 inv2 => ?_)
      · exact (hS : Below V3.heap.size V3 _).trans (hb6.mono (Below.size hS))
      clear hK K inv hS
      have inv := inv2
      have hS := hS2
      clear inv2 hS2
      (try simp only [Act.put, List.setIfInBounds_toArray, List.set_cons_zero, List.set_cons_succ])
      refine anyT_ready (rs := [35]) (by kernel_rfl) (by simp) ?_
      refine ReadyT.head (o := _) rfl (by decide) (by kernel_rfl) inv (fun K hK => ?_) ReadyT.nil
      go_simp
      refine hK.out _ _ ?_ (fun hS2 inv2 => ?_)
      · exact (hS : Below V3.heap.size V3 _).alloc (Below.size hS) _
      clear hK K inv hS
      have inv := inv2
      have hS := hS2
      clear inv2 hS2
      (try simp only [Act.put, List.setIfInBounds_toArray, List.set_cons_zero, List.set_cons_succ])
      refine anyT_ready (rs := [36]) (by kernel_rfl) (by simp) ?_
      refine ReadyT.head (o := _) rfl (by decide) (by kernel_rfl) inv (fun K hK => ?_) ReadyT.nil
      go_simp
      refine (comb2_r a b vl vh al ah _ _ E13.out E14.out).mono ?_
      rintro e d7 ⟨rfl, hb7⟩
      go_wp2_with fail
      refine hK.out _ _ ?_ (fun hS2 inv2 => ?_)
      · exact (hS : Below V3.heap.size V3 _).trans (hb7.mono (Below.size hS))
      clear hK K inv hS
      have inv := inv2
      have hS := hS2
      clear inv2 hS2
      (try simp only [Act.put, List.setIfInBounds_toArray, List.set_cons_zero, List.set_cons_succ])
      refine anyT_step (i := 38) (oi := _) (v := .bool true) hok rfl (by decide) (by kernel_rfl) (by kernel_rfl) inv (fun _ _ _ h => h) (Or.inl ⟨by kernel_rfl, ?_⟩) hS (fun inv2 => ?_)
      · clear inv hok
        intro wz hSw
        go_simp
      clear inv
      have inv := inv2
      clear inv2
      (try simp only [Act.put, List.setIfInBounds_toArray, List.set_cons_zero, List.set_cons_succ])
      refine anyT_step (i := 39) (oi := _) (v := .bool true) hok rfl (by decide) (by kernel_rfl) (by kernel_rfl) inv (fun _ _ _ h => h) (Or.inl ⟨by kernel_rfl, ?_⟩) hS (fun inv2 => ?_)
      · clear inv hok
        intro wz hSw
        go_simp
      clear inv
      have inv := inv2
      clear inv2
      (try simp only [Act.put, List.setIfInBounds_toArray, List.set_cons_zero, List.set_cons_succ])
      refine anyT_step (i := 40) (oi := _) (v := .bool true) hok rfl (by decide) (by kernel_rfl) (by kernel_rfl) inv (fun _ _ _ h => h) (Or.inl ⟨by kernel_rfl, ?_⟩) hS (fun inv2 => ?_)
      · clear inv hok
        intro wz hSw
        go_simp
      clear inv
      have inv := inv2
      clear inv2
      (try simp only [Act.put, List.setIfInBounds_toArray, List.set_cons_zero, List.set_cons_succ])
      refine anyT_step (i := 41) (oi := _) (v := .agg #[.int .i8 (a), .int .i8 (b)]) hok rfl (by decide) (by kernel_rfl) (by kernel_rfl) inv (fun _ _ _ h => h) (Or.inl ⟨by kernel_rfl, ?_⟩) hS (fun inv2 => ?_)
      · clear inv hok
        intro wz hSw
        have hk1 := (hSw : Below _ _ _).cell (p := ⟨N, 0, none⟩) (by assumption); have hk2 := (hSw : Below _ _ _).cell (p := ⟨N, 1, none⟩) (by assumption); go_simp
      clear inv
      have inv := inv2
      clear inv2
      (try simp only [Act.put, List.setIfInBounds_toArray, List.set_cons_zero, List.set_cons_succ])
      refine anyT_step (i := 45) (oi := _) (v := .agg #[.int .i8 (a), .int .i8 (b)]) hok rfl (by decide) (by kernel_rfl) (by kernel_rfl) inv (fun _ _ _ h => h) (Or.inl ⟨by kernel_rfl, ?_⟩) hS (fun inv2 => ?_)
      · clear inv hok
        intro wz hSw
        have hk1 := (hSw : Below _ _ _).cell (p := ⟨N, 0, none⟩) (by assumption); have hk2 := (hSw : Below _ _ _).cell (p := ⟨N, 1, none⟩) (by assumption); go_simp
      clear inv
      have inv := inv2
      clear inv2
      (try simp only [Act.put, List.setIfInBounds_toArray, List.set_cons_zero, List.set_cons_succ])
      refine anyT_ready (rs := [42]) (by kernel_rfl) (by simp) ?_
      refine ReadyT.head (o := _) rfl (by decide) (by kernel_rfl) inv (fun K hK => ?_) ReadyT.nil
      go_simp
      refine (to_any 0 0 _).mono ?_
      rintro e d8 ⟨rfl, hb8⟩
      go_wp2_with fail
      refine hK.out _ _ ?_ (fun hS2 inv2 => ?_)
      · exact (hS : Below V3.heap.size V3 _).trans (hb8.mono (Below.size hS))
      clear hK K inv hS
      have inv := inv2
      have hS := hS2
      clear inv2 hS2
      (try simp only [Act.put, List.setIfInBounds_toArray, List.set_cons_zero, List.set_cons_succ])
      refine anyT_ready (rs := [43]) (by kernel_rfl) (by simp) ?_
      refine ReadyT.head (o := _) rfl (by decide) (by kernel_rfl) inv (fun K hK => ?_) ReadyT.nil
      go_simp
      refine hK.out _ _ ?_ (fun hS2 inv2 => ?_)
      · exact (hS : Below V3.heap.size V3 _).alloc (Below.size hS) _
      clear hK K inv hS
      have inv := inv2
      have hS := hS2
      clear inv2 hS2
      (try simp only [Act.put, List.setIfInBounds_toArray, List.set_cons_zero, List.set_cons_succ])
      refine anyT_ready (rs := [44]) (by kernel_rfl) (by simp) ?_
      refine ReadyT.head (o := _) rfl (by decide) (by kernel_rfl) inv (fun K hK => ?_) ReadyT.nil
      go_simp
      refine (comb2_r a b 0 0 (nLo a b) (nHi a b) _ _ E15.out E16.out).mono ?_
      rintro e d9 ⟨rfl, hb9⟩
      go_wp2_with fail
      refine hK.out _ _ ?_ (fun hS2 inv2 => ?_)
      · exact (hS : Below V3.heap.size V3 _).trans (hb9.mono (Below.size hS))
      clear hK K inv hS
      have inv := inv2
      have hS := hS2
      clear inv2 hS2
      (try simp only [Act.put, List.setIfInBounds_toArray, List.set_cons_zero, List.set_cons_succ])
      refine anyT_ready (rs := [46]) (by kernel_rfl) (by simp) ?_
      refine ReadyT.head (o := _) rfl (by decide) (by kernel_rfl) inv (fun K hK => ?_) ReadyT.nil
      go_simp
      refine (norm_any a b _).mono ?_
      rintro e d10 ⟨rfl, hb10⟩
      go_wp2_with fail
      refine hK.out _ _ ?_ (fun hS2 inv2 => ?_)
      · exact (hS : Below V3.heap.size V3 _).trans (hb10.mono (Below.size hS))
      clear hK K inv hS
      have inv := inv2
      have hS := hS2
      clear inv2 hS2
      (try simp only [Act.put, List.setIfInBounds_toArray, List.set_cons_zero, List.set_cons_succ])
      refine anyT_step (i := 47) (oi := _) (v := .bool true) hok rfl (by decide) (by kernel_rfl) (by kernel_rfl) inv (fun _ _ _ h => h) (Or.inl ⟨by kernel_rfl, ?_⟩) hS (fun inv2 => ?_)
      · clear inv hok
        intro wz hSw
        go_simp
      clear inv
      have inv := inv2
      clear inv2
      (try simp only [Act.put, List.setIfInBounds_toArray, List.set_cons_zero, List.set_cons_succ])
      refine anyT_step (i := 48) (oi := _) (v := .bool true) hok rfl (by decide) (by kernel_rfl) (by kernel_rfl) inv (fun _ _ _ h => h) (Or.inl ⟨by kernel_rfl, ?_⟩) hS (fun inv2 => ?_)
      · clear inv hok
        intro wz hSw
        go_simp
      clear inv
      have inv := inv2
      clear inv2
      (try simp only [Act.put, List.setIfInBounds_toArray, List.set_cons_zero, List.set_cons_succ])
      refine anyT_step (i := 49) (oi := _) (v := .bool true) hok rfl (by decide) (by kernel_rfl) (by kernel_rfl) inv (fun _ _ _ h => h) (Or.inl ⟨by kernel_rfl, ?_⟩) hS (fun inv2 => ?_)
      · clear inv hok
        intro wz hSw
        go_simp
      clear inv
      have inv := inv2
      clear inv2
      (try simp only [Act.put, List.setIfInBounds_toArray, List.set_cons_zero, List.set_cons_succ])
      refine anyT_step (i := 50) (oi := _) (v := .agg #[.int .i8 (a), .int .i8 (b)]) hok rfl (by decide) (by kernel_rfl) (by kernel_rfl) inv (fun _ _ _ h => h) (Or.inl ⟨by kernel_rfl, ?_⟩) hS (fun inv2 => ?_)
      · clear inv hok
        intro wz hSw
        have hk1 := (hSw : Below _ _ _).cell (p := ⟨N, 0, none⟩) (by assumption); have hk2 := (hSw : Below _ _ _).cell (p := ⟨N, 1, none⟩) (by assumption); go_simp
      clear inv
      have inv := inv2
      clear inv2
      (try simp only [Act.put, List.setIfInBounds_toArray, List.set_cons_zero, List.set_cons_succ])
      refine anyT_step (i := 53) (oi := _) (v := .agg #[.int .i8 (a), .int .i8 (b)]) hok rfl (by decide) (by kernel_rfl) (by kernel_rfl) inv (fun _ _ _ h => h) (Or.inl ⟨by kernel_rfl, ?_⟩) hS (fun inv2 => ?_)
      · clear inv hok
        intro wz hSw
        have hk1 := (hSw : Below _ _ _).cell (p := ⟨N, 0, none⟩) (by assumption); have hk2 := (hSw : Below _ _ _).cell (p := ⟨N, 1, none⟩) (by assumption); go_simp
      clear inv
      have inv := inv2
      clear inv2
      (try simp only [Act.put, List.setIfInBounds_toArray, List.set_cons_zero, List.set_cons_succ])
      refine anyT_ready (rs := [51]) (by kernel_rfl) (by simp) ?_
      refine ReadyT.head (o := _) rfl (by decide) (by kernel_rfl) inv (fun K hK => ?_) ReadyT.nil
      go_simp
      refine hK.out _ _ ?_ (fun hS2 inv2 => ?_)
      · exact (hS : Below V3.heap.size V3 _).alloc (Below.size hS) _
      clear hK K inv hS
      have inv := inv2
      have hS := hS2
      clear inv2 hS2
      (try simp only [Act.put, List.setIfInBounds_toArray, List.set_cons_zero, List.set_cons_succ])
      refine anyT_ready (rs := [52]) (by kernel_rfl) (by simp) ?_
      refine ReadyT.head (o := _) rfl (by decide) (by kernel_rfl) inv (fun K hK => ?_) ReadyT.nil
      go_simp
      refine (comb1_r a b (nLo a b) (nHi a b) _ _ E17.out E18.out).mono ?_
      rintro e d11 ⟨rfl, hb11⟩
      go_wp2_with fail
      refine hK.out _ _ ?_ (fun hS2 inv2 => ?_)
      · exact (hS : Below V3.heap.size V3 _).trans (hb11.mono (Below.size hS))
      clear hK K inv hS
      have inv := inv2
      have hS := hS2
      clear inv2 hS2
      (try simp only [Act.put, List.setIfInBounds_toArray, List.set_cons_zero, List.set_cons_succ])
      refine anyT_ready (rs := [54]) (by kernel_rfl) (by simp) ?_
      refine ReadyT.head (o := _) rfl (by decide) (by kernel_rfl) inv (fun K hK => ?_) ReadyT.nil
      go_simp
      refine (norm_any a b _).mono ?_
      rintro e d12 ⟨rfl, hb12⟩
      go_wp2_with fail
      refine hK.out _ _ ?_ (fun hS2 inv2 => ?_)
      · exact (hS : Below V3.heap.size V3 _).trans (hb12.mono (Below.size hS))
      clear hK K inv hS
      have inv := inv2
      have hS := hS2
      clear inv2 hS2
      (try simp only [Act.put, List.setIfInBounds_toArray, List.set_cons_zero, List.set_cons_succ])
      refine anyT_step (i := 55) (oi := _) (v := .bool true) hok rfl (by decide) (by kernel_rfl) (by kernel_rfl) inv (fun _ _ _ h => h) (Or.inl ⟨by kernel_rfl, ?_⟩) hS (fun inv2 => ?_)
      · clear inv hok
        intro wz hSw
        go_simp
      clear inv
      have inv := inv2
      clear inv2
      (try simp only [Act.put, List.setIfInBounds_toArray, List.set_cons_zero, List.set_cons_succ])
      refine anyT_step (i := 56) (oi := _) (v := .bool true) hok rfl (by decide) (by kernel_rfl) (by kernel_rfl) inv (fun _ _ _ h => h) (Or.inl ⟨by kernel_rfl, ?_⟩) hS (fun inv2 => ?_)
      · clear inv hok
        intro wz hSw
        go_simp
      clear inv
      have inv := inv2
      clear inv2
      (try simp only [Act.put, List.setIfInBounds_toArray, List.set_cons_zero, List.set_cons_succ])
      refine anyT_step (i := 57) (oi := _) (v := .bool true) hok rfl (by decide) (by kernel_rfl) (by kernel_rfl) inv (fun _ _ _ h => h) (Or.inl ⟨by kernel_rfl, ?_⟩) hS (fun inv2 => ?_)
      · clear inv hok
        intro wz hSw
        go_simp
      clear inv
      have inv := inv2
      clear inv2
      (try simp only [Act.put, List.setIfInBounds_toArray, List.set_cons_zero, List.set_cons_succ])
      refine anyT_ready (rs := [58]) (by kernel_rfl) (by simp) ?_
      refine ReadyT.head (o := _) rfl (by decide) (by kernel_rfl) inv (fun K hK => ?_) ReadyT.nil
      go_simp
      refine (awake_any _ (HN.out.below (kB.trans (Below.mono hS hz)))).mono ?_
      rintro e d13 ⟨rfl, hb13⟩
      go_wp2_with fail
      refine hK.out _ _ ?_ (fun hS2 inv2 => ?_)
      · exact (hS : Below V3.heap.size V3 _).trans (hb13.mono (Below.size hS))
      clear hK K inv hS
      have inv := inv2
      have hS := hS2
      clear inv2 hS2
      (try simp only [Act.put, List.setIfInBounds_toArray, List.set_cons_zero, List.set_cons_succ])
      refine anyT_step (i := 59) (oi := _) (v := .bool true) hok rfl (by decide) (by kernel_rfl) (by kernel_rfl) inv (fun _ _ _ h => h) (Or.inl ⟨by kernel_rfl, ?_⟩) hS (fun inv2 => ?_)
      · clear inv hok
        intro wz hSw
        go_simp
      clear inv
      have inv := inv2
      clear inv2
      (try simp only [Act.put, List.setIfInBounds_toArray, List.set_cons_zero, List.set_cons_succ])
      refine anyT_ready (rs := [60]) (by kernel_rfl) (by simp) ?_
      refine ReadyT.tail (o := _) rfl (by decide) (fun K hK => ?_)
      go_simp
      refine hK.out _ _ ?_
      clear hK K inv
      (try simp only [Act.put, List.setIfInBounds_toArray, List.set_cons_zero, List.set_cons_succ])
      refine anyT_done (by kernel_rfl) ?_ _
      go_wp2_with fail
      go_ret
      exact ⟨rfl, kB.trans (Below.mono hS hz)⟩
end Go.Proofs.YtgaihbenlfeeeaaDoor
