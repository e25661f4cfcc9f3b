/-
  Texts of MS joined (VecP, VecU, QR, VecW, VecRA, VecRB, VecY, VecMM, VecS, BvP2, BvQ, VecMU, VecV, VecZ, VecAA, VecBB, VecSW, VecSX, VecTW, VecSZ, VecT).
-/
import Derived.Handy
import Derived.Laws.OwnMore
import Derived.LoopN
import Derived.Laws.EntriesVeiled
import Derived.Test.YtbcpeagannjgpaaGreatDoorMS2
set_option linter.unusedVariables false
set_option linter.unusedSimpArgs false
set_option linter.unusedSectionVars false
namespace Go.Proofs.YtbcpeagannjgpaaGreatDoor
section
open Go.RowKit
set_option maxRecDepth 100000
set_option linter.unusedSimpArgs false
set_option linter.unusedVariables false
theorem window_q (A : Option Addr) (a : List Int) (c n : Nat) (lo f : Int) (w : World) (ha : a.length ≤ 4096) (hn : n ≤ 4096) (h1 : -9223372036854775808 ≤ lo) (h2 : lo + n ≤ 9223372036854775808) (hA : RQ w A a) :
    Calls Tryz.prog 106 #[.slice A a.length c, .int .i64 lo, .int .i64 n, .int .u8 f] w (RetQP (· = wdw a lo n f) w) := (window_any A a c n lo f w ha hn h1 h2 hA).mono fun _ _ h => RetQP.of_mkV rfl h
/-- A function value that moves the bits of a vector. -/
structure Moves (N : Nat) (m : Vc → Nat → List Int) : Prop where
  cf : Ent N
  ct : ∀ A l c s k w, Gd l → k ≤ l.length → RQ w A l → Calls Tryz.prog N #[.agg #[.slice A l.length c, .bool s], .int .i64 (k : Nat)] w (RetQP (· = m ⟨l, s⟩ k) w)
set_option maxHeartbeats 2000000 in
theorem shift_any (N : Nat) (m : Vc → Nat → List Int) (hop : Moves N m) (A B : Option Addr) (a b : List Int) (c d : Nat) (s t : Bool) (w : World) (ha : a.length ≤ 4096) (hb : b.length ≤ 4096) (hca : Hid (a.length ≤ c ∧ c ≤ maxLen)) (hcb : Hid (b.length ≤ d ∧ d ≤ maxLen)) (hA : RQ w A a) (hB : RQ w B b) (ya : By a) (yb : By b) :
    Calls Tryz.prog 138 #[.agg #[.slice A a.length c, .bool s], .agg #[.slice B b.length d, .bool t], .func (.func N) #[] #[]] w (RetC (· = shf m ⟨a, s⟩ ⟨b, t⟩) w) := by
  have hcf : ∀ args w, (callFunc N args).run Tryz.prog w = .ok (.enter N args) w := hop.cf
  have HO := hide hop
  have HA := hide hA
  have HBB := hide hB
  have LA := hide ha
  have LB := hide hb
  have YA := hide ya
  have YB := hide yb
  clear hA hB ha hb ya yb
  clear hop
  obtain ⟨R, hR⟩ : ∃ R, R = shf m ⟨a, s⟩ ⟨b, t⟩ := ⟨_, rfl⟩
  rw [← hR]
  unfold shf dst at hR
  have HR := hide hR
  clear hR
  go_enter Tryz.func138, Tryz.ntmps138
  go_wp2_with fail
  obtain ⟨W1, hW1⟩ : ∃ x, x = (((w.alloc (Obj.cells #[Value.slice A a.length c, Value.bool s] 24)).alloc (Obj.cells #[Value.slice B b.length d, Value.bool t] 24)).alloc (Obj.cells #[Value.slice none 0 0, Value.bool false] 24)) := ⟨_, rfl⟩
  rw [← hW1]
  have hBW1 : Below w.heap.size w W1 := by rw [hW1]; exact belo
  have qW1_0 : W1.cell? ⟨w.heap.size, 0, none⟩ = some (Value.slice A a.length c) := by rw [hW1]; simp [go_sem]
  have fW1_0 : W1.frozen? ⟨w.heap.size, 0, none⟩ = false := by rw [hW1]; simp [go_sem]
  have qW1_1 : W1.cell? ⟨w.heap.size, 1, none⟩ = some (Value.bool s) := by rw [hW1]; simp [go_sem]
  have fW1_1 : W1.frozen? ⟨w.heap.size, 1, none⟩ = false := by rw [hW1]; simp [go_sem]
  have qW1_2 : W1.cell? ⟨w.heap.size + 1, 0, none⟩ = some (Value.slice B b.length d) := by rw [hW1]; simp [go_sem]
  have fW1_2 : W1.frozen? ⟨w.heap.size + 1, 0, none⟩ = false := by rw [hW1]; simp [go_sem]
  have qW1_3 : W1.cell? ⟨w.heap.size + 1, 1, none⟩ = some (Value.bool t) := by rw [hW1]; simp [go_sem]
  have fW1_3 : W1.frozen? ⟨w.heap.size + 1, 1, none⟩ = false := by rw [hW1]; simp [go_sem]
  have qW1_4 : W1.cell? ⟨w.heap.size + 2, 0, none⟩ = some (Value.slice none 0 0) := by rw [hW1]; simp [go_sem]
  have fW1_4 : W1.frozen? ⟨w.heap.size + 2, 0, none⟩ = false := by rw [hW1]; simp [go_sem]
  have qW1_5 : W1.cell? ⟨w.heap.size + 2, 1, none⟩ = some (Value.bool false) := by rw [hW1]; simp [go_sem]
  have fW1_5 : W1.frozen? ⟨w.heap.size + 2, 1, none⟩ = false := by rw [hW1]; simp [go_sem]
  have zW1_0 : w.heap.size < W1.heap.size := by rw [hW1]; first | (simp; done) | (simp; omega)
  have zW1_1 : w.heap.size + 1 < W1.heap.size := by rw [hW1]; first | (simp; done) | (simp; omega)
  have zW1_2 : w.heap.size + 2 < W1.heap.size := by rw [hW1]; first | (simp; done) | (simp; omega)
  clear hW1
  refine region_anyT (S := fun wS => Below W1.heap.size W1 wS) (n := 4) (by kernel_rfl) (Below.refl _ _).drew (fun hS inv => ?_)
  refine anyT_take (i := 0) (oi := _) (v := Value.agg #[Value.slice A a.length c, Value.bool s]) rfl (by kernel_rfl) (by kernel_rfl) (by kernel_rfl) (by decide) (by decide) (by kernel_rfl) (by kernel_rfl) inv (fun _ _ _ h => h) (Or.inl ⟨by kernel_rfl, ?_⟩) hS (fun inv => ?_)
  · intro wz hSw
    have hk0 := (hSw : Below _ _ _).cell (p := ⟨w.heap.size, 0, none⟩) (by first | assumption | (simp; done) | omega | (simp; omega)); have hk1 := (hSw : Below _ _ _).cell (p := ⟨w.heap.size, 1, none⟩) (by first | assumption | (simp; done) | omega | (simp; omega)); go_simp
  (try simp only [Act.put, List.getElem_toArray, List.getElem_cons_zero, List.getElem_cons_succ, List.setIfInBounds_toArray, List.set_cons_zero, List.set_cons_succ])
  refine anyT_take (i := 2) (oi := _) (v := Value.agg #[Value.slice B b.length d, Value.bool t]) rfl (by kernel_rfl) (by kernel_rfl) (by kernel_rfl) (by decide) (by decide) (by kernel_rfl) (by kernel_rfl) inv (fun _ _ _ h => h) (Or.inl ⟨by kernel_rfl, ?_⟩) hS (fun inv => ?_)
  · intro wz hSw
    have hk0 := (hSw : Below _ _ _).cell (p := ⟨w.heap.size + 1, 0, none⟩) (by first | assumption | (simp; done) | omega | (simp; omega)); have hk1 := (hSw : Below _ _ _).cell (p := ⟨w.heap.size + 1, 1, none⟩) (by first | assumption | (simp; done) | omega | (simp; omega)); go_simp
  (try simp only [Act.put, List.getElem_toArray, List.getElem_cons_zero, List.getElem_cons_succ, List.setIfInBounds_toArray, List.set_cons_zero, List.set_cons_succ])
  refine anyT_ready (rs := [1]) (by kernel_rfl) (by simp) ?_
  refine ReadyT.head (o := _) rfl (by decide) (by kernel_rfl) inv (fun K hK => ?_) ReadyT.nil
  go_simp
  refine (counted_any A a c s w _ LA.out hca HA.out belo).mono ?_
  rintro e w1 ⟨l1, s1, A1, c1, E1, rfl, C1, O1, hb⟩
  go_wp2_with fail
  refine hK.out _ _ ?_ (fun hS inv => ?_)
  · exact (hS : Below W1.heap.size W1 _).trans (hb.mono (Below.size hS))
  clear hK K
  (try simp only [Act.put, List.getElem_toArray, List.getElem_cons_zero, List.getElem_cons_succ, List.setIfInBounds_toArray, List.set_cons_zero, List.set_cons_succ])
  replace O1 := hide (O1.out.lower (show w.heap.size + 3 ≤ _ by first | omega | (simp; omega) | (simp; done)))
  have hB1 : Below w.heap.size w w1 := Below.trans belo (hb.mono (by first | omega | (simp; done) | (simp; omega)))
  obtain ⟨kc1, kf1⟩ := bcell hb
  have hz1 := hb.size
  (try simp at hz1)
  have n1_0 : w.heap.size < w1.heap.size := by omega
  have n1_1 : w.heap.size + 1 < w1.heap.size := by omega
  have n1_2 : w.heap.size + 2 < w1.heap.size := by omega
  have r1_0 : w1.cell? ⟨w.heap.size + 2, 0, none⟩ = some (.slice none 0 0) := (kc1 _ _ (by first | assumption | (simp; done) | omega | (simp; omega))).trans (by first | assumption | (simp [go_sem]; done) | (simp; done))
  have g1_0 : w1.frozen? ⟨w.heap.size + 2, 0, none⟩ = false := (kf1 _ _ (by first | assumption | (simp; done) | omega | (simp; omega))).trans (by first | assumption | (simp [go_sem]; done) | (simp; done))
  have r1_1 : w1.cell? ⟨w.heap.size + 2, 1, none⟩ = some (.bool false) := (kc1 _ _ (by first | assumption | (simp; done) | omega | (simp; omega))).trans (by first | assumption | (simp [go_sem]; done) | (simp; done))
  have g1_1 : w1.frozen? ⟨w.heap.size + 2, 1, none⟩ = false := (kf1 _ _ (by first | assumption | (simp; done) | omega | (simp; omega))).trans (by first | assumption | (simp [go_sem]; done) | (simp; done))
  clear hb
  have m1_0 : w1.cell? ⟨w.heap.size, 0, none⟩ = some (Value.slice A a.length c) := (kc1 _ _ (by first | assumption | (simp; done) | omega | (simp; omega))).trans (by first | assumption | (simp [go_sem]; done))
  have v1_0 : w1.frozen? ⟨w.heap.size, 0, none⟩ = false := (kf1 _ _ (by first | assumption | (simp; done) | omega | (simp; omega))).trans (by first | assumption | (simp [go_sem]; done))
  have m1_1 : w1.cell? ⟨w.heap.size, 1, none⟩ = some (Value.bool s) := (kc1 _ _ (by first | assumption | (simp; done) | omega | (simp; omega))).trans (by first | assumption | (simp [go_sem]; done))
  have v1_1 : w1.frozen? ⟨w.heap.size, 1, none⟩ = false := (kf1 _ _ (by first | assumption | (simp; done) | omega | (simp; omega))).trans (by first | assumption | (simp [go_sem]; done))
  have m1_2 : w1.cell? ⟨w.heap.size + 1, 0, none⟩ = some (Value.slice B b.length d) := (kc1 _ _ (by first | assumption | (simp; done) | omega | (simp; omega))).trans (by first | assumption | (simp [go_sem]; done))
  have v1_2 : w1.frozen? ⟨w.heap.size + 1, 0, none⟩ = false := (kf1 _ _ (by first | assumption | (simp; done) | omega | (simp; omega))).trans (by first | assumption | (simp [go_sem]; done))
  have m1_3 : w1.cell? ⟨w.heap.size + 1, 1, none⟩ = some (Value.bool t) := (kc1 _ _ (by first | assumption | (simp; done) | omega | (simp; omega))).trans (by first | assumption | (simp [go_sem]; done))
  have v1_3 : w1.frozen? ⟨w.heap.size + 1, 1, none⟩ = false := (kf1 _ _ (by first | assumption | (simp; done) | omega | (simp; omega))).trans (by first | assumption | (simp [go_sem]; done))
  have m1_4 : w1.cell? ⟨w.heap.size + 2, 0, none⟩ = some (Value.slice none 0 0) := (kc1 _ _ (by first | assumption | (simp; done) | omega | (simp; omega))).trans (by first | assumption | (simp [go_sem]; done))
  have v1_4 : w1.frozen? ⟨w.heap.size + 2, 0, none⟩ = false := (kf1 _ _ (by first | assumption | (simp; done) | omega | (simp; omega))).trans (by first | assumption | (simp [go_sem]; done))
  have m1_5 : w1.cell? ⟨w.heap.size + 2, 1, none⟩ = some (Value.bool false) := (kc1 _ _ (by first | assumption | (simp; done) | omega | (simp; omega))).trans (by first | assumption | (simp [go_sem]; done))
  have v1_5 : w1.frozen? ⟨w.heap.size + 2, 1, none⟩ = false := (kf1 _ _ (by first | assumption | (simp; done) | omega | (simp; omega))).trans (by first | assumption | (simp [go_sem]; done))
  clear kc1 kf1
  refine anyT_ready (rs := [3]) (by kernel_rfl) (by simp) ?_
  refine ReadyT.head (o := _) rfl (by decide) (by kernel_rfl) inv (fun K hK => ?_) ReadyT.nil
  go_simp
  refine (counted_any B b d t w _ LB.out hcb HBB.out belo).mono ?_
  rintro e w2 ⟨l2, s2, A2, c2, E2, rfl, C2, O2, hb⟩
  go_wp2_with fail
  refine hK.out _ _ ?_ (fun hS inv => ?_)
  · exact (hS : Below W1.heap.size W1 _).trans (hb.mono (Below.size hS))
  clear hK K
  (try simp only [Act.put, List.getElem_toArray, List.getElem_cons_zero, List.getElem_cons_succ, List.setIfInBounds_toArray, List.set_cons_zero, List.set_cons_succ])
  replace O1 := hide ((show RG w.heap.size (w.heap.size + 3) _ A1 l1 by (repeat (first | with_reducible exact O1.out | with_reducible refine RG.setc ?_ (by first | (simp; done) | omega | (simp; omega)) (by first | (simp; done) | omega | (simp; omega)) _ | with_reducible refine RG.allc ?_ _ | with_reducible refine RG.drew ?_ | with_reducible refine RG.drewN ?_ _))).kept hb)
  replace O2 := hide (O2.out.lower (show w.heap.size + 3 ≤ _ by first | omega | (simp; omega) | (simp; done)))
  have hB2 : Below w.heap.size w w2 := Below.trans belo (hb.mono (by first | omega | (simp; done) | (simp; omega)))
  obtain ⟨kc2, kf2⟩ := bcell hb
  have hz2 := hb.size
  (try simp at hz2)
  have n2_0 : w.heap.size < w2.heap.size := by omega
  have n2_1 : w.heap.size + 1 < w2.heap.size := by omega
  have n2_2 : w.heap.size + 2 < w2.heap.size := by omega
  have r2_0 : w2.cell? ⟨w.heap.size + 2, 0, none⟩ = some (.slice none 0 0) := (kc2 _ _ (by first | assumption | (simp; done) | omega | (simp; omega))).trans (by first | assumption | (simp [go_sem]; done) | (simp; done))
  have g2_0 : w2.frozen? ⟨w.heap.size + 2, 0, none⟩ = false := (kf2 _ _ (by first | assumption | (simp; done) | omega | (simp; omega))).trans (by first | assumption | (simp [go_sem]; done) | (simp; done))
  have r2_1 : w2.cell? ⟨w.heap.size + 2, 1, none⟩ = some (.bool false) := (kc2 _ _ (by first | assumption | (simp; done) | omega | (simp; omega))).trans (by first | assumption | (simp [go_sem]; done) | (simp; done))
  have g2_1 : w2.frozen? ⟨w.heap.size + 2, 1, none⟩ = false := (kf2 _ _ (by first | assumption | (simp; done) | omega | (simp; omega))).trans (by first | assumption | (simp [go_sem]; done) | (simp; done))
  clear hb
  have m2_0 : w2.cell? ⟨w.heap.size, 0, none⟩ = some (Value.slice A a.length c) := (kc2 _ _ (by first | assumption | (simp; done) | omega | (simp; omega))).trans (by first | assumption | (simp [go_sem]; done))
  have v2_0 : w2.frozen? ⟨w.heap.size, 0, none⟩ = false := (kf2 _ _ (by first | assumption | (simp; done) | omega | (simp; omega))).trans (by first | assumption | (simp [go_sem]; done))
  have m2_1 : w2.cell? ⟨w.heap.size, 1, none⟩ = some (Value.bool s) := (kc2 _ _ (by first | assumption | (simp; done) | omega | (simp; omega))).trans (by first | assumption | (simp [go_sem]; done))
  have v2_1 : w2.frozen? ⟨w.heap.size, 1, none⟩ = false := (kf2 _ _ (by first | assumption | (simp; done) | omega | (simp; omega))).trans (by first | assumption | (simp [go_sem]; done))
  have m2_2 : w2.cell? ⟨w.heap.size + 1, 0, none⟩ = some (Value.slice B b.length d) := (kc2 _ _ (by first | assumption | (simp; done) | omega | (simp; omega))).trans (by first | assumption | (simp [go_sem]; done))
  have v2_2 : w2.frozen? ⟨w.heap.size + 1, 0, none⟩ = false := (kf2 _ _ (by first | assumption | (simp; done) | omega | (simp; omega))).trans (by first | assumption | (simp [go_sem]; done))
  have m2_3 : w2.cell? ⟨w.heap.size + 1, 1, none⟩ = some (Value.bool t) := (kc2 _ _ (by first | assumption | (simp; done) | omega | (simp; omega))).trans (by first | assumption | (simp [go_sem]; done))
  have v2_3 : w2.frozen? ⟨w.heap.size + 1, 1, none⟩ = false := (kf2 _ _ (by first | assumption | (simp; done) | omega | (simp; omega))).trans (by first | assumption | (simp [go_sem]; done))
  have m2_4 : w2.cell? ⟨w.heap.size + 2, 0, none⟩ = some (Value.slice none 0 0) := (kc2 _ _ (by first | assumption | (simp; done) | omega | (simp; omega))).trans (by first | assumption | (simp [go_sem]; done))
  have v2_4 : w2.frozen? ⟨w.heap.size + 2, 0, none⟩ = false := (kf2 _ _ (by first | assumption | (simp; done) | omega | (simp; omega))).trans (by first | assumption | (simp [go_sem]; done))
  have m2_5 : w2.cell? ⟨w.heap.size + 2, 1, none⟩ = some (Value.bool false) := (kc2 _ _ (by first | assumption | (simp; done) | omega | (simp; omega))).trans (by first | assumption | (simp [go_sem]; done))
  have v2_5 : w2.frozen? ⟨w.heap.size + 2, 1, none⟩ = false := (kf2 _ _ (by first | assumption | (simp; done) | omega | (simp; omega))).trans (by first | assumption | (simp [go_sem]; done))
  clear kc2 kf2
  refine anyT_ready (rs := [4]) (by kernel_rfl) (by simp) ?_
  refine ReadyT.tail (o := _) rfl (by decide) (fun K hK => ?_)
  go_simp
  refine hK.out _ _ ?_
  clear hK K
  (try simp only [Act.put, List.getElem_toArray, List.getElem_cons_zero, List.getElem_cons_succ, List.setIfInBounds_toArray, List.set_cons_zero, List.set_cons_succ])
  refine anyT_ready (rs := [5]) (by kernel_rfl) (by simp) ?_
  refine ReadyT.tail (o := _) rfl (by decide) (fun K hK => ?_)
  go_simp
  refine hK.out _ _ ?_
  clear hK K
  (try simp only [Act.put, List.getElem_toArray, List.getElem_cons_zero, List.getElem_cons_succ, List.setIfInBounds_toArray, List.set_cons_zero, List.set_cons_succ])
  refine anyT_done (by kernel_rfl) ?_ _
  go_wp2_with fail
  obtain ⟨V, hV⟩ : ∃ x, x = ((((w2.setCell ⟨w.heap.size, 0, none⟩ (.slice A1 l1.length c1)).setCell ⟨w.heap.size, 1, none⟩ (.bool s1)).setCell ⟨w.heap.size + 1, 0, none⟩ (.slice A2 l2.length c2)).setCell ⟨w.heap.size + 1, 1, none⟩ (.bool s2)) := ⟨_, rfl⟩
  rw [← hV]
  have hBV : Below w.heap.size w V := by rw [hV]; exact belo
  have qa0 : V.cell? ⟨w.heap.size, 0, none⟩ = some (.slice A1 l1.length c1) := by rw [hV]; (repeat (first | with_reducible refine cset_eq' ?_ | with_reducible refine cset_ne (by first | (simp; done) | (simp; omega)) ?_ | with_reducible refine cset_ex ?_ | exact ⟨_, by assumption⟩ | assumption))
  have ja0 : V.frozen? ⟨w.heap.size, 0, none⟩ = false := by rw [hV]; (repeat (first | with_reducible refine fset ?_ | assumption))
  have qa1 : V.cell? ⟨w.heap.size, 1, none⟩ = some (.bool s1) := by rw [hV]; (repeat (first | with_reducible refine cset_eq' ?_ | with_reducible refine cset_ne (by first | (simp; done) | (simp; omega)) ?_ | with_reducible refine cset_ex ?_ | exact ⟨_, by assumption⟩ | assumption))
  have ja1 : V.frozen? ⟨w.heap.size, 1, none⟩ = false := by rw [hV]; (repeat (first | with_reducible refine fset ?_ | assumption))
  have qb0 : V.cell? ⟨w.heap.size + 1, 0, none⟩ = some (.slice A2 l2.length c2) := by rw [hV]; (repeat (first | with_reducible refine cset_eq' ?_ | with_reducible refine cset_ne (by first | (simp; done) | (simp; omega)) ?_ | with_reducible refine cset_ex ?_ | exact ⟨_, by assumption⟩ | assumption))
  have jb0 : V.frozen? ⟨w.heap.size + 1, 0, none⟩ = false := by rw [hV]; (repeat (first | with_reducible refine fset ?_ | assumption))
  have qb1 : V.cell? ⟨w.heap.size + 1, 1, none⟩ = some (.bool s2) := by rw [hV]; (repeat (first | with_reducible refine cset_eq' ?_ | with_reducible refine cset_ne (by first | (simp; done) | (simp; omega)) ?_ | with_reducible refine cset_ex ?_ | exact ⟨_, by assumption⟩ | assumption))
  have jb1 : V.frozen? ⟨w.heap.size + 1, 1, none⟩ = false := by rw [hV]; (repeat (first | with_reducible refine fset ?_ | assumption))
  have rV_0 : V.cell? ⟨w.heap.size + 2, 0, none⟩ = some (.slice none 0 0) := by rw [hV]; (repeat (first | with_reducible refine cset_eq' ?_ | with_reducible refine cset_ne (by first | (simp; done) | (simp; omega)) ?_ | with_reducible refine cset_ex ?_ | exact ⟨_, by assumption⟩ | assumption))
  have gV_0 : V.frozen? ⟨w.heap.size + 2, 0, none⟩ = false := by rw [hV]; (repeat (first | with_reducible refine fset ?_ | assumption))
  have rV_1 : V.cell? ⟨w.heap.size + 2, 1, none⟩ = some (.bool false) := by rw [hV]; (repeat (first | with_reducible refine cset_eq' ?_ | with_reducible refine cset_ne (by first | (simp; done) | (simp; omega)) ?_ | with_reducible refine cset_ex ?_ | exact ⟨_, by assumption⟩ | assumption))
  have gV_1 : V.frozen? ⟨w.heap.size + 2, 1, none⟩ = false := by rw [hV]; (repeat (first | with_reducible refine fset ?_ | assumption))
  have nV_0 : w.heap.size < V.heap.size := by rw [hV]; simp; omega
  have nV_1 : w.heap.size + 1 < V.heap.size := by rw [hV]; simp; omega
  have nV_2 : w.heap.size + 2 < V.heap.size := by rw [hV]; simp; omega
  replace O1 := hide (show RG w.heap.size (w.heap.size + 3) V A1 l1 by rw [hV]; (repeat (first | with_reducible exact O1.out | with_reducible refine RG.setc ?_ (by first | (simp; done) | omega | (simp; omega)) (by first | (simp; done) | omega | (simp; omega)) _ | with_reducible refine RG.allc ?_ _ | with_reducible refine RG.drew ?_ | with_reducible refine RG.drewN ?_ _)))
  replace O2 := hide (show RG w.heap.size (w.heap.size + 3) V A2 l2 by rw [hV]; (repeat (first | with_reducible exact O2.out | with_reducible refine RG.setc ?_ (by first | (simp; done) | omega | (simp; omega)) (by first | (simp; done) | omega | (simp; omega)) _ | with_reducible refine RG.allc ?_ _ | with_reducible refine RG.drew ?_ | with_reducible refine RG.drewN ?_ _)))
  have G1 : Gd l1 := by have h := cnt_gd (v := ⟨a, s⟩) YA.out; rw [← E1.out] at h; exact h
  have G2 : Gd l2 := by have h := cnt_gd (v := ⟨b, t⟩) YB.out; rw [← E2.out] at h; exact h
  have HG1 := hide G1
  have HG2 := hide G2
  have p1 := G1.pos
  have p2 := G2.pos
  have u1 := G1.le
  have u2 := G2.le
  clear hV G1 G2
  rw [← E1.out, ← E2.out] at HR
  have k2 := hide fun W (hW : Below V.heap.size V W) => known_any A2 l2 c2 W (by omega) (O2.out.rd.below hW)
  cases hk : kn l2
  · rw [hk] at k2 HR
    clear hk
    go_wp2_with fail
    refine (k2.out _ belo).mono ?_
    rintro e w' ⟨rfl, rfl⟩
    go_wp2_with fail
    refine (unknown_any l1.length s1 _ p1 (by omega)).mono ?_
    rintro e w3 ⟨l3, s3, A3, c3, E3, rfl, C3, O3, hb⟩
    replace O1 := hide ((show RG w.heap.size (w.heap.size + 3) _ A1 l1 by (repeat (first | with_reducible exact O1.out | with_reducible refine RG.setc ?_ (by first | (simp; done) | omega | (simp; omega)) (by first | (simp; done) | omega | (simp; omega)) _ | with_reducible refine RG.allc ?_ _ | with_reducible refine RG.drew ?_ | with_reducible refine RG.drewN ?_ _))).kept hb)
    replace O2 := hide ((show RG w.heap.size (w.heap.size + 3) _ A2 l2 by (repeat (first | with_reducible exact O2.out | with_reducible refine RG.setc ?_ (by first | (simp; done) | omega | (simp; omega)) (by first | (simp; done) | omega | (simp; omega)) _ | with_reducible refine RG.allc ?_ _ | with_reducible refine RG.drew ?_ | with_reducible refine RG.drewN ?_ _))).kept hb)
    replace O3 := hide (O3.out.base (show w.heap.size + 3 ≤ _ by first | omega | (simp; omega) | (simp; done)))
    have hB3 : Below w.heap.size w w3 := Below.trans belo (hb.mono (by first | omega | (simp; done) | (simp; omega)))
    obtain ⟨kc3, kf3⟩ := bcell hb
    have hz3 := hb.size
    (try simp at hz3)
    have n3_0 : w.heap.size < w3.heap.size := by omega
    have n3_1 : w.heap.size + 1 < w3.heap.size := by omega
    have n3_2 : w.heap.size + 2 < w3.heap.size := by omega
    have m3_0 : w3.cell? ⟨w.heap.size, 0, none⟩ = some (.slice A1 l1.length c1) := (kc3 _ _ (by first | assumption | (simp; done) | omega | (simp; omega))).trans (by first | assumption | (simp [go_sem]; done))
    have v3_0 : w3.frozen? ⟨w.heap.size, 0, none⟩ = false := (kf3 _ _ (by first | assumption | (simp; done) | omega | (simp; omega))).trans (by first | assumption | (simp [go_sem]; done))
    have m3_1 : w3.cell? ⟨w.heap.size, 1, none⟩ = some (.bool s1) := (kc3 _ _ (by first | assumption | (simp; done) | omega | (simp; omega))).trans (by first | assumption | (simp [go_sem]; done))
    have v3_1 : w3.frozen? ⟨w.heap.size, 1, none⟩ = false := (kf3 _ _ (by first | assumption | (simp; done) | omega | (simp; omega))).trans (by first | assumption | (simp [go_sem]; done))
    have m3_2 : w3.cell? ⟨w.heap.size + 1, 0, none⟩ = some (.slice A2 l2.length c2) := (kc3 _ _ (by first | assumption | (simp; done) | omega | (simp; omega))).trans (by first | assumption | (simp [go_sem]; done))
    have v3_2 : w3.frozen? ⟨w.heap.size + 1, 0, none⟩ = false := (kf3 _ _ (by first | assumption | (simp; done) | omega | (simp; omega))).trans (by first | assumption | (simp [go_sem]; done))
    have m3_3 : w3.cell? ⟨w.heap.size + 1, 1, none⟩ = some (.bool s2) := (kc3 _ _ (by first | assumption | (simp; done) | omega | (simp; omega))).trans (by first | assumption | (simp [go_sem]; done))
    have v3_3 : w3.frozen? ⟨w.heap.size + 1, 1, none⟩ = false := (kf3 _ _ (by first | assumption | (simp; done) | omega | (simp; omega))).trans (by first | assumption | (simp [go_sem]; done))
    have m3_4 : w3.cell? ⟨w.heap.size + 2, 0, none⟩ = some (.slice none 0 0) := (kc3 _ _ (by first | assumption | (simp; done) | omega | (simp; omega))).trans (by first | assumption | (simp [go_sem]; done))
    have v3_4 : w3.frozen? ⟨w.heap.size + 2, 0, none⟩ = false := (kf3 _ _ (by first | assumption | (simp; done) | omega | (simp; omega))).trans (by first | assumption | (simp [go_sem]; done))
    have m3_5 : w3.cell? ⟨w.heap.size + 2, 1, none⟩ = some (.bool false) := (kc3 _ _ (by first | assumption | (simp; done) | omega | (simp; omega))).trans (by first | assumption | (simp [go_sem]; done))
    have v3_5 : w3.frozen? ⟨w.heap.size + 2, 1, none⟩ = false := (kf3 _ _ (by first | assumption | (simp; done) | omega | (simp; omega))).trans (by first | assumption | (simp [go_sem]; done))
    clear kc3 kf3
    clear hb
    go_wp2
    refine bodyPost_ret (v := .agg #[.slice A3 l3.length c3, .bool s3]) (by simp [results, Tryz.results138, go_sem, *]) rfl ?_
    exact ⟨l3, s3, A3, c3, hide (E3.out.trans (by rw [HR.out]; simp)), rfl, C3, hide (OwQ.base (B := w.heap.size + 3) (by (repeat (first | with_reducible exact O3.out | with_reducible refine OwQ.far ?_ (by first | (simp; done) | omega | (simp; omega)) _ | with_reducible refine OwQ.allc ?_ _ | with_reducible refine OwQ.drew ?_ | with_reducible refine OwQ.drewN ?_ _))) (by omega)), belo⟩
  · rw [hk] at k2 HR
    clear hk
    go_wp2_with fail
    refine (k2.out _ belo).mono ?_
    rintro e w' ⟨rfl, rfl⟩
    go_wp2_with fail
    refine (number_q A2 l2 c2 _ (by omega) O2.out.rd).mono ?_
    rintro e w3 ⟨lm, Am, cm, Em, rfl, Cm, Om, hb⟩
    replace O1 := hide ((show RG w.heap.size (w.heap.size + 3) _ A1 l1 by (repeat (first | with_reducible exact O1.out | with_reducible refine RG.setc ?_ (by first | (simp; done) | omega | (simp; omega)) (by first | (simp; done) | omega | (simp; omega)) _ | with_reducible refine RG.allc ?_ _ | with_reducible refine RG.drew ?_ | with_reducible refine RG.drewN ?_ _))).kept hb)
    replace O2 := hide ((show RG w.heap.size (w.heap.size + 3) _ A2 l2 by (repeat (first | with_reducible exact O2.out | with_reducible refine RG.setc ?_ (by first | (simp; done) | omega | (simp; omega)) (by first | (simp; done) | omega | (simp; omega)) _ | with_reducible refine RG.allc ?_ _ | with_reducible refine RG.drew ?_ | with_reducible refine RG.drewN ?_ _))).kept hb)
    replace Om := hide Om.out.rd
    have hB3 : Below w.heap.size w w3 := Below.trans belo (hb.mono (by first | omega | (simp; done) | (simp; omega)))
    obtain ⟨kc3, kf3⟩ := bcell hb
    have hz3 := hb.size
    (try simp at hz3)
    have n3_0 : w.heap.size < w3.heap.size := by omega
    have n3_1 : w.heap.size + 1 < w3.heap.size := by omega
    have n3_2 : w.heap.size + 2 < w3.heap.size := by omega
    have m3_0 : w3.cell? ⟨w.heap.size, 0, none⟩ = some (.slice A1 l1.length c1) := (kc3 _ _ (by first | assumption | (simp; done) | omega | (simp; omega))).trans (by first | assumption | (simp [go_sem]; done))
    have v3_0 : w3.frozen? ⟨w.heap.size, 0, none⟩ = false := (kf3 _ _ (by first | assumption | (simp; done) | omega | (simp; omega))).trans (by first | assumption | (simp [go_sem]; done))
    have m3_1 : w3.cell? ⟨w.heap.size, 1, none⟩ = some (.bool s1) := (kc3 _ _ (by first | assumption | (simp; done) | omega | (simp; omega))).trans (by first | assumption | (simp [go_sem]; done))
    have v3_1 : w3.frozen? ⟨w.heap.size, 1, none⟩ = false := (kf3 _ _ (by first | assumption | (simp; done) | omega | (simp; omega))).trans (by first | assumption | (simp [go_sem]; done))
    have m3_2 : w3.cell? ⟨w.heap.size + 1, 0, none⟩ = some (.slice A2 l2.length c2) := (kc3 _ _ (by first | assumption | (simp; done) | omega | (simp; omega))).trans (by first | assumption | (simp [go_sem]; done))
    have v3_2 : w3.frozen? ⟨w.heap.size + 1, 0, none⟩ = false := (kf3 _ _ (by first | assumption | (simp; done) | omega | (simp; omega))).trans (by first | assumption | (simp [go_sem]; done))
    have m3_3 : w3.cell? ⟨w.heap.size + 1, 1, none⟩ = some (.bool s2) := (kc3 _ _ (by first | assumption | (simp; done) | omega | (simp; omega))).trans (by first | assumption | (simp [go_sem]; done))
    have v3_3 : w3.frozen? ⟨w.heap.size + 1, 1, none⟩ = false := (kf3 _ _ (by first | assumption | (simp; done) | omega | (simp; omega))).trans (by first | assumption | (simp [go_sem]; done))
    have m3_4 : w3.cell? ⟨w.heap.size + 2, 0, none⟩ = some (.slice none 0 0) := (kc3 _ _ (by first | assumption | (simp; done) | omega | (simp; omega))).trans (by first | assumption | (simp [go_sem]; done))
    have v3_4 : w3.frozen? ⟨w.heap.size + 2, 0, none⟩ = false := (kf3 _ _ (by first | assumption | (simp; done) | omega | (simp; omega))).trans (by first | assumption | (simp [go_sem]; done))
    have m3_5 : w3.cell? ⟨w.heap.size + 2, 1, none⟩ = some (.bool false) := (kc3 _ _ (by first | assumption | (simp; done) | omega | (simp; omega))).trans (by first | assumption | (simp [go_sem]; done))
    have v3_5 : w3.frozen? ⟨w.heap.size + 2, 1, none⟩ = false := (kf3 _ _ (by first | assumption | (simp; done) | omega | (simp; omega))).trans (by first | assumption | (simp [go_sem]; done))
    clear kc3 kf3
    clear hb
    have em : lm.length ≤ 4096 := by rw [Em.out, nb_length]; omega
    rw [← Em.out] at HR
    have hu := uint_any Am lm cm w3 em Om.out
    have HU := hide hu
    clear hu
    go_wp2_with fail
    refine (HU.out).mono ?_
    rintro e w' ⟨hu | hu, rfl⟩
    · obtain ⟨hu, rfl⟩ := hu
      by_cases hlt : nv lm < l1.length
      · have HD := hide (show min (nv lm) l1.length = nv lm by omega)
        go_wp2_with fail
        refine region_anyT (S := fun wS => Below w3.heap.size w3 wS) (n := 7) (by kernel_rfl) (Below.refl _ _).drew (fun hS inv => ?_)
        refine anyT_take (i := 0) (oi := _) (v := Value.func (Fn.func N) #[] #[]) rfl (by kernel_rfl) (by kernel_rfl) (by kernel_rfl) (by decide) (by decide) (by kernel_rfl) (by kernel_rfl) inv (fun _ _ _ h => h) (Or.inl ⟨by kernel_rfl, ?_⟩) hS (fun inv => ?_)
        · intro wz hSw
          first | kernel_rfl | go_simp
        (try simp only [Act.put, List.getElem_toArray, List.getElem_cons_zero, List.getElem_cons_succ, List.setIfInBounds_toArray, List.set_cons_zero, List.set_cons_succ])
        refine anyT_take (i := 1) (oi := _) (v := Value.agg #[Value.slice A1 l1.length c1, Value.bool s1]) rfl (by kernel_rfl) (by kernel_rfl) (by kernel_rfl) (by decide) (by decide) (by kernel_rfl) (by kernel_rfl) inv (fun _ _ _ h => h) (Or.inl ⟨by kernel_rfl, ?_⟩) hS (fun inv => ?_)
        · intro wz hSw
          have hk0 := (hSw : Below _ _ _).cell (p := ⟨w.heap.size, 0, none⟩) (by first | assumption | (simp; done) | omega | (simp; omega)); have hk1 := (hSw : Below _ _ _).cell (p := ⟨w.heap.size, 1, none⟩) (by first | assumption | (simp; done) | omega | (simp; omega)); go_simp
        (try simp only [Act.put, List.getElem_toArray, List.getElem_cons_zero, List.getElem_cons_succ, List.setIfInBounds_toArray, List.set_cons_zero, List.set_cons_succ])
        refine anyT_take (i := 2) (oi := _) (v := Value.int IntKind.i64 ↑(nv lm)) rfl (by kernel_rfl) (by kernel_rfl) (by kernel_rfl) (by decide) (by decide) (by kernel_rfl) (by kernel_rfl) inv (fun _ _ _ h => h) (Or.inl ⟨by kernel_rfl, ?_⟩) hS (fun inv => ?_)
        · intro wz hSw
          first | kernel_rfl | go_simp
        (try simp only [Act.put, List.getElem_toArray, List.getElem_cons_zero, List.getElem_cons_succ, List.setIfInBounds_toArray, List.set_cons_zero, List.set_cons_succ])
        refine anyT_take (i := 4) (oi := _) (v := Value.pointer (some ⟨w.heap.size, 1, none⟩)) rfl (by kernel_rfl) (by kernel_rfl) (by kernel_rfl) (by decide) (by decide) (by kernel_rfl) (by kernel_rfl) inv (fun _ _ _ h => h) (Or.inl ⟨by kernel_rfl, ?_⟩) hS (fun inv => ?_)
        · intro wz hSw
          first | kernel_rfl | go_simp
        (try simp only [Act.put, List.getElem_toArray, List.getElem_cons_zero, List.getElem_cons_succ, List.setIfInBounds_toArray, List.set_cons_zero, List.set_cons_succ])
        refine anyT_take (i := 5) (oi := _) (v := Value.bool s1) rfl (by kernel_rfl) (by kernel_rfl) (by kernel_rfl) (by decide) (by decide) (by kernel_rfl) (by kernel_rfl) inv (fun _ _ _ h => h) (Or.inl ⟨by kernel_rfl, ?_⟩) hS (fun inv => ?_)
        · intro wz hSw
          have hk0 := (hSw : Below _ _ _).cell (p := ⟨w.heap.size, 1, none⟩) (by first | assumption | (simp; done) | omega | (simp; omega)); go_simp
        (try simp only [Act.put, List.getElem_toArray, List.getElem_cons_zero, List.getElem_cons_succ, List.setIfInBounds_toArray, List.set_cons_zero, List.set_cons_succ])
        refine anyT_ready (rs := [3]) (by kernel_rfl) (by simp) ?_
        refine ReadyT.head (o := _) rfl (by decide) (by kernel_rfl) inv (fun K hK => ?_) ReadyT.nil
        go_simp
        refine (HO.out.ct A1 l1 c1 s1 (nv lm) _ HG1.out (by omega) (by refine RG.rd (B0 := w.heap.size) (B1 := w.heap.size + 3) ?_; (repeat (first | with_reducible exact O1.out | with_reducible refine RG.setc ?_ (by first | (simp; done) | omega | (simp; omega)) (by first | (simp; done) | omega | (simp; omega)) _ | with_reducible refine RG.allc ?_ _ | with_reducible refine RG.drew ?_ | with_reducible refine RG.drewN ?_ _)))).mono ?_
        rintro e w4 ⟨ln, An, cn, En, rfl, Cn, On, hb⟩
        go_wp2_with fail
        refine hK.out _ _ ?_ (fun hS inv => ?_)
        · exact (hS : Below w3.heap.size w3 _).trans (hb.mono (Below.size hS))
        clear hK K
        (try simp only [Act.put, List.getElem_toArray, List.getElem_cons_zero, List.getElem_cons_succ, List.setIfInBounds_toArray, List.set_cons_zero, List.set_cons_succ])
        replace Om := hide (Rd.below (by exact Om.out) hb)
        replace O1 := hide ((show RG w.heap.size (w.heap.size + 3) _ A1 l1 by (repeat (first | with_reducible exact O1.out | with_reducible refine RG.setc ?_ (by first | (simp; done) | omega | (simp; omega)) (by first | (simp; done) | omega | (simp; omega)) _ | with_reducible refine RG.allc ?_ _ | with_reducible refine RG.drew ?_ | with_reducible refine RG.drewN ?_ _))).kept hb)
        replace O2 := hide ((show RG w.heap.size (w.heap.size + 3) _ A2 l2 by (repeat (first | with_reducible exact O2.out | with_reducible refine RG.setc ?_ (by first | (simp; done) | omega | (simp; omega)) (by first | (simp; done) | omega | (simp; omega)) _ | with_reducible refine RG.allc ?_ _ | with_reducible refine RG.drew ?_ | with_reducible refine RG.drewN ?_ _))).kept hb)
        replace On := hide (On.out.base (show w.heap.size + 3 ≤ _ by first | omega | (simp; omega) | (simp; done)))
        have hB4 : Below w.heap.size w w4 := Below.trans belo (hb.mono (by first | omega | (simp; done) | (simp; omega)))
        obtain ⟨kc4, kf4⟩ := bcell hb
        have hz4 := hb.size
        (try simp at hz4)
        have n4_0 : w.heap.size < w4.heap.size := by omega
        have n4_1 : w.heap.size + 1 < w4.heap.size := by omega
        have n4_2 : w.heap.size + 2 < w4.heap.size := by omega
        have m4_0 : w4.cell? ⟨w.heap.size, 0, none⟩ = some (.slice A1 l1.length c1) := (kc4 _ _ (by first | assumption | (simp; done) | omega | (simp; omega))).trans (by first | assumption | (simp [go_sem]; done))
        have v4_0 : w4.frozen? ⟨w.heap.size, 0, none⟩ = false := (kf4 _ _ (by first | assumption | (simp; done) | omega | (simp; omega))).trans (by first | assumption | (simp [go_sem]; done))
        have m4_1 : w4.cell? ⟨w.heap.size, 1, none⟩ = some (.bool s1) := (kc4 _ _ (by first | assumption | (simp; done) | omega | (simp; omega))).trans (by first | assumption | (simp [go_sem]; done))
        have v4_1 : w4.frozen? ⟨w.heap.size, 1, none⟩ = false := (kf4 _ _ (by first | assumption | (simp; done) | omega | (simp; omega))).trans (by first | assumption | (simp [go_sem]; done))
        have m4_2 : w4.cell? ⟨w.heap.size + 1, 0, none⟩ = some (.slice A2 l2.length c2) := (kc4 _ _ (by first | assumption | (simp; done) | omega | (simp; omega))).trans (by first | assumption | (simp [go_sem]; done))
        have v4_2 : w4.frozen? ⟨w.heap.size + 1, 0, none⟩ = false := (kf4 _ _ (by first | assumption | (simp; done) | omega | (simp; omega))).trans (by first | assumption | (simp [go_sem]; done))
        have m4_3 : w4.cell? ⟨w.heap.size + 1, 1, none⟩ = some (.bool s2) := (kc4 _ _ (by first | assumption | (simp; done) | omega | (simp; omega))).trans (by first | assumption | (simp [go_sem]; done))
        have v4_3 : w4.frozen? ⟨w.heap.size + 1, 1, none⟩ = false := (kf4 _ _ (by first | assumption | (simp; done) | omega | (simp; omega))).trans (by first | assumption | (simp [go_sem]; done))
        have m4_4 : w4.cell? ⟨w.heap.size + 2, 0, none⟩ = some (.slice none 0 0) := (kc4 _ _ (by first | assumption | (simp; done) | omega | (simp; omega))).trans (by first | assumption | (simp [go_sem]; done))
        have v4_4 : w4.frozen? ⟨w.heap.size + 2, 0, none⟩ = false := (kf4 _ _ (by first | assumption | (simp; done) | omega | (simp; omega))).trans (by first | assumption | (simp [go_sem]; done))
        have m4_5 : w4.cell? ⟨w.heap.size + 2, 1, none⟩ = some (.bool false) := (kc4 _ _ (by first | assumption | (simp; done) | omega | (simp; omega))).trans (by first | assumption | (simp [go_sem]; done))
        have v4_5 : w4.frozen? ⟨w.heap.size + 2, 1, none⟩ = false := (kf4 _ _ (by first | assumption | (simp; done) | omega | (simp; omega))).trans (by first | assumption | (simp [go_sem]; done))
        clear kc4 kf4
        clear hb
        refine anyT_take (i := 6) (oi := _) (v := Value.agg #[Value.slice An ln.length cn, Value.bool s1]) rfl (by kernel_rfl) (by kernel_rfl) (by kernel_rfl) (by decide) (by decide) (by kernel_rfl) (by kernel_rfl) inv (fun _ _ _ h => h) (Or.inl ⟨by kernel_rfl, ?_⟩) hS (fun inv => ?_)
        · intro wz hSw
          first | kernel_rfl | go_simp
        (try simp only [Act.put, List.getElem_toArray, List.getElem_cons_zero, List.getElem_cons_succ, List.setIfInBounds_toArray, List.set_cons_zero, List.set_cons_succ])
        refine anyT_ready (rs := [7]) (by kernel_rfl) (by simp) ?_
        refine ReadyT.tail (o := _) rfl (by decide) (fun K hK => ?_)
        go_simp
        refine hK.out _ _ ?_
        clear hK K
        (try simp only [Act.put, List.getElem_toArray, List.getElem_cons_zero, List.getElem_cons_succ, List.setIfInBounds_toArray, List.set_cons_zero, List.set_cons_succ])
        refine anyT_done (by kernel_rfl) ?_ _
        go_wp2
        refine bodyPost_ret (v := .agg #[.slice An ln.length cn, .bool s1]) (by simp [results, Tryz.results138, go_sem, *]) rfl ?_
        exact ⟨ln, s1, An, cn, hide (by rw [HR.out, En.out]; simp [HD.out]), rfl, Cn, hide (OwQ.base (B := w.heap.size + 3) (by (repeat (first | with_reducible exact On.out | with_reducible refine OwQ.far ?_ (by first | (simp; done) | omega | (simp; omega)) _ | with_reducible refine OwQ.allc ?_ _ | with_reducible refine OwQ.drew ?_ | with_reducible refine OwQ.drewN ?_ _))) (by omega)), belo⟩
      · have HD := hide (show min (nv lm) l1.length = l1.length by omega)
        go_wp2_with fail
        refine region_anyT (S := fun wS => Below w3.heap.size w3 wS) (n := 7) (by kernel_rfl) (Below.refl _ _).drew (fun hS inv => ?_)
        refine anyT_take (i := 0) (oi := _) (v := Value.func (Fn.func N) #[] #[]) rfl (by kernel_rfl) (by kernel_rfl) (by kernel_rfl) (by decide) (by decide) (by kernel_rfl) (by kernel_rfl) inv (fun _ _ _ h => h) (Or.inl ⟨by kernel_rfl, ?_⟩) hS (fun inv => ?_)
        · intro wz hSw
          first | kernel_rfl | go_simp
        (try simp only [Act.put, List.getElem_toArray, List.getElem_cons_zero, List.getElem_cons_succ, List.setIfInBounds_toArray, List.set_cons_zero, List.set_cons_succ])
        refine anyT_take (i := 1) (oi := _) (v := Value.agg #[Value.slice A1 l1.length c1, Value.bool s1]) rfl (by kernel_rfl) (by kernel_rfl) (by kernel_rfl) (by decide) (by decide) (by kernel_rfl) (by kernel_rfl) inv (fun _ _ _ h => h) (Or.inl ⟨by kernel_rfl, ?_⟩) hS (fun inv => ?_)
        · intro wz hSw
          have hk0 := (hSw : Below _ _ _).cell (p := ⟨w.heap.size, 0, none⟩) (by first | assumption | (simp; done) | omega | (simp; omega)); have hk1 := (hSw : Below _ _ _).cell (p := ⟨w.heap.size, 1, none⟩) (by first | assumption | (simp; done) | omega | (simp; omega)); go_simp
        (try simp only [Act.put, List.getElem_toArray, List.getElem_cons_zero, List.getElem_cons_succ, List.setIfInBounds_toArray, List.set_cons_zero, List.set_cons_succ])
        refine anyT_take (i := 2) (oi := _) (v := Value.int IntKind.i64 ↑l1.length) rfl (by kernel_rfl) (by kernel_rfl) (by kernel_rfl) (by decide) (by decide) (by kernel_rfl) (by kernel_rfl) inv (fun _ _ _ h => h) (Or.inl ⟨by kernel_rfl, ?_⟩) hS (fun inv => ?_)
        · intro wz hSw
          first | kernel_rfl | go_simp
        (try simp only [Act.put, List.getElem_toArray, List.getElem_cons_zero, List.getElem_cons_succ, List.setIfInBounds_toArray, List.set_cons_zero, List.set_cons_succ])
        refine anyT_take (i := 4) (oi := _) (v := Value.pointer (some ⟨w.heap.size, 1, none⟩)) rfl (by kernel_rfl) (by kernel_rfl) (by kernel_rfl) (by decide) (by decide) (by kernel_rfl) (by kernel_rfl) inv (fun _ _ _ h => h) (Or.inl ⟨by kernel_rfl, ?_⟩) hS (fun inv => ?_)
        · intro wz hSw
          first | kernel_rfl | go_simp
        (try simp only [Act.put, List.getElem_toArray, List.getElem_cons_zero, List.getElem_cons_succ, List.setIfInBounds_toArray, List.set_cons_zero, List.set_cons_succ])
        refine anyT_take (i := 5) (oi := _) (v := Value.bool s1) rfl (by kernel_rfl) (by kernel_rfl) (by kernel_rfl) (by decide) (by decide) (by kernel_rfl) (by kernel_rfl) inv (fun _ _ _ h => h) (Or.inl ⟨by kernel_rfl, ?_⟩) hS (fun inv => ?_)
        · intro wz hSw
          have hk0 := (hSw : Below _ _ _).cell (p := ⟨w.heap.size, 1, none⟩) (by first | assumption | (simp; done) | omega | (simp; omega)); go_simp
        (try simp only [Act.put, List.getElem_toArray, List.getElem_cons_zero, List.getElem_cons_succ, List.setIfInBounds_toArray, List.set_cons_zero, List.set_cons_succ])
        refine anyT_ready (rs := [3]) (by kernel_rfl) (by simp) ?_
        refine ReadyT.head (o := _) rfl (by decide) (by kernel_rfl) inv (fun K hK => ?_) ReadyT.nil
        go_simp
        refine (HO.out.ct A1 l1 c1 s1 l1.length _ HG1.out (by omega) (by refine RG.rd (B0 := w.heap.size) (B1 := w.heap.size + 3) ?_; (repeat (first | with_reducible exact O1.out | with_reducible refine RG.setc ?_ (by first | (simp; done) | omega | (simp; omega)) (by first | (simp; done) | omega | (simp; omega)) _ | with_reducible refine RG.allc ?_ _ | with_reducible refine RG.drew ?_ | with_reducible refine RG.drewN ?_ _)))).mono ?_
        rintro e w4 ⟨ln, An, cn, En, rfl, Cn, On, hb⟩
        go_wp2_with fail
        refine hK.out _ _ ?_ (fun hS inv => ?_)
        · exact (hS : Below w3.heap.size w3 _).trans (hb.mono (Below.size hS))
        clear hK K
        (try simp only [Act.put, List.getElem_toArray, List.getElem_cons_zero, List.getElem_cons_succ, List.setIfInBounds_toArray, List.set_cons_zero, List.set_cons_succ])
        replace Om := hide (Rd.below (by exact Om.out) hb)
        replace O1 := hide ((show RG w.heap.size (w.heap.size + 3) _ A1 l1 by (repeat (first | with_reducible exact O1.out | with_reducible refine RG.setc ?_ (by first | (simp; done) | omega | (simp; omega)) (by first | (simp; done) | omega | (simp; omega)) _ | with_reducible refine RG.allc ?_ _ | with_reducible refine RG.drew ?_ | with_reducible refine RG.drewN ?_ _))).kept hb)
        replace O2 := hide ((show RG w.heap.size (w.heap.size + 3) _ A2 l2 by (repeat (first | with_reducible exact O2.out | with_reducible refine RG.setc ?_ (by first | (simp; done) | omega | (simp; omega)) (by first | (simp; done) | omega | (simp; omega)) _ | with_reducible refine RG.allc ?_ _ | with_reducible refine RG.drew ?_ | with_reducible refine RG.drewN ?_ _))).kept hb)
        replace On := hide (On.out.base (show w.heap.size + 3 ≤ _ by first | omega | (simp; omega) | (simp; done)))
        have hB4 : Below w.heap.size w w4 := Below.trans belo (hb.mono (by first | omega | (simp; done) | (simp; omega)))
        obtain ⟨kc4, kf4⟩ := bcell hb
        have hz4 := hb.size
        (try simp at hz4)
        have n4_0 : w.heap.size < w4.heap.size := by omega
        have n4_1 : w.heap.size + 1 < w4.heap.size := by omega
        have n4_2 : w.heap.size + 2 < w4.heap.size := by omega
        have m4_0 : w4.cell? ⟨w.heap.size, 0, none⟩ = some (.slice A1 l1.length c1) := (kc4 _ _ (by first | assumption | (simp; done) | omega | (simp; omega))).trans (by first | assumption | (simp [go_sem]; done))
        have v4_0 : w4.frozen? ⟨w.heap.size, 0, none⟩ = false := (kf4 _ _ (by first | assumption | (simp; done) | omega | (simp; omega))).trans (by first | assumption | (simp [go_sem]; done))
        have m4_1 : w4.cell? ⟨w.heap.size, 1, none⟩ = some (.bool s1) := (kc4 _ _ (by first | assumption | (simp; done) | omega | (simp; omega))).trans (by first | assumption | (simp [go_sem]; done))
        have v4_1 : w4.frozen? ⟨w.heap.size, 1, none⟩ = false := (kf4 _ _ (by first | assumption | (simp; done) | omega | (simp; omega))).trans (by first | assumption | (simp [go_sem]; done))
        have m4_2 : w4.cell? ⟨w.heap.size + 1, 0, none⟩ = some (.slice A2 l2.length c2) := (kc4 _ _ (by first | assumption | (simp; done) | omega | (simp; omega))).trans (by first | assumption | (simp [go_sem]; done))
        have v4_2 : w4.frozen? ⟨w.heap.size + 1, 0, none⟩ = false := (kf4 _ _ (by first | assumption | (simp; done) | omega | (simp; omega))).trans (by first | assumption | (simp [go_sem]; done))
        have m4_3 : w4.cell? ⟨w.heap.size + 1, 1, none⟩ = some (.bool s2) := (kc4 _ _ (by first | assumption | (simp; done) | omega | (simp; omega))).trans (by first | assumption | (simp [go_sem]; done))
        have v4_3 : w4.frozen? ⟨w.heap.size + 1, 1, none⟩ = false := (kf4 _ _ (by first | assumption | (simp; done) | omega | (simp; omega))).trans (by first | assumption | (simp [go_sem]; done))
        have m4_4 : w4.cell? ⟨w.heap.size + 2, 0, none⟩ = some (.slice none 0 0) := (kc4 _ _ (by first | assumption | (simp; done) | omega | (simp; omega))).trans (by first | assumption | (simp [go_sem]; done))
        have v4_4 : w4.frozen? ⟨w.heap.size + 2, 0, none⟩ = false := (kf4 _ _ (by first | assumption | (simp; done) | omega | (simp; omega))).trans (by first | assumption | (simp [go_sem]; done))
        have m4_5 : w4.cell? ⟨w.heap.size + 2, 1, none⟩ = some (.bool false) := (kc4 _ _ (by first | assumption | (simp; done) | omega | (simp; omega))).trans (by first | assumption | (simp [go_sem]; done))
        have v4_5 : w4.frozen? ⟨w.heap.size + 2, 1, none⟩ = false := (kf4 _ _ (by first | assumption | (simp; done) | omega | (simp; omega))).trans (by first | assumption | (simp [go_sem]; done))
        clear kc4 kf4
        clear hb
        refine anyT_take (i := 6) (oi := _) (v := Value.agg #[Value.slice An ln.length cn, Value.bool s1]) rfl (by kernel_rfl) (by kernel_rfl) (by kernel_rfl) (by decide) (by decide) (by kernel_rfl) (by kernel_rfl) inv (fun _ _ _ h => h) (Or.inl ⟨by kernel_rfl, ?_⟩) hS (fun inv => ?_)
        · intro wz hSw
          first | kernel_rfl | go_simp
        (try simp only [Act.put, List.getElem_toArray, List.getElem_cons_zero, List.getElem_cons_succ, List.setIfInBounds_toArray, List.set_cons_zero, List.set_cons_succ])
        refine anyT_ready (rs := [7]) (by kernel_rfl) (by simp) ?_
        refine ReadyT.tail (o := _) rfl (by decide) (fun K hK => ?_)
        go_simp
        refine hK.out _ _ ?_
        clear hK K
        (try simp only [Act.put, List.getElem_toArray, List.getElem_cons_zero, List.getElem_cons_succ, List.setIfInBounds_toArray, List.set_cons_zero, List.set_cons_succ])
        refine anyT_done (by kernel_rfl) ?_ _
        go_wp2
        refine bodyPost_ret (v := .agg #[.slice An ln.length cn, .bool s1]) (by simp [results, Tryz.results138, go_sem, *]) rfl ?_
        exact ⟨ln, s1, An, cn, hide (by rw [HR.out, En.out]; simp [HD.out]), rfl, Cn, hide (OwQ.base (B := w.heap.size + 3) (by (repeat (first | with_reducible exact On.out | with_reducible refine OwQ.far ?_ (by first | (simp; done) | omega | (simp; omega)) _ | with_reducible refine OwQ.allc ?_ _ | with_reducible refine OwQ.drew ?_ | with_reducible refine OwQ.drewN ?_ _))) (by omega)), belo⟩
    · obtain ⟨hu, rfl⟩ := hu
      have HD := hide (show min (nv lm) l1.length = l1.length by omega)
      go_wp2_with fail
      refine region_anyT (S := fun wS => Below w3.heap.size w3 wS) (n := 7) (by kernel_rfl) (Below.refl _ _).drew (fun hS inv => ?_)
      refine anyT_take (i := 0) (oi := _) (v := Value.func (Fn.func N) #[] #[]) rfl (by kernel_rfl) (by kernel_rfl) (by kernel_rfl) (by decide) (by decide) (by kernel_rfl) (by kernel_rfl) inv (fun _ _ _ h => h) (Or.inl ⟨by kernel_rfl, ?_⟩) hS (fun inv => ?_)
      · intro wz hSw
        first | kernel_rfl | go_simp
      (try simp only [Act.put, List.getElem_toArray, List.getElem_cons_zero, List.getElem_cons_succ, List.setIfInBounds_toArray, List.set_cons_zero, List.set_cons_succ])
      refine anyT_take (i := 1) (oi := _) (v := Value.agg #[Value.slice A1 l1.length c1, Value.bool s1]) rfl (by kernel_rfl) (by kernel_rfl) (by kernel_rfl) (by decide) (by decide) (by kernel_rfl) (by kernel_rfl) inv (fun _ _ _ h => h) (Or.inl ⟨by kernel_rfl, ?_⟩) hS (fun inv => ?_)
      · intro wz hSw
        have hk0 := (hSw : Below _ _ _).cell (p := ⟨w.heap.size, 0, none⟩) (by first | assumption | (simp; done) | omega | (simp; omega)); have hk1 := (hSw : Below _ _ _).cell (p := ⟨w.heap.size, 1, none⟩) (by first | assumption | (simp; done) | omega | (simp; omega)); go_simp
      (try simp only [Act.put, List.getElem_toArray, List.getElem_cons_zero, List.getElem_cons_succ, List.setIfInBounds_toArray, List.set_cons_zero, List.set_cons_succ])
      refine anyT_take (i := 2) (oi := _) (v := Value.int IntKind.i64 ↑l1.length) rfl (by kernel_rfl) (by kernel_rfl) (by kernel_rfl) (by decide) (by decide) (by kernel_rfl) (by kernel_rfl) inv (fun _ _ _ h => h) (Or.inl ⟨by kernel_rfl, ?_⟩) hS (fun inv => ?_)
      · intro wz hSw
        first | kernel_rfl | go_simp
      (try simp only [Act.put, List.getElem_toArray, List.getElem_cons_zero, List.getElem_cons_succ, List.setIfInBounds_toArray, List.set_cons_zero, List.set_cons_succ])
      refine anyT_take (i := 4) (oi := _) (v := Value.pointer (some ⟨w.heap.size, 1, none⟩)) rfl (by kernel_rfl) (by kernel_rfl) (by kernel_rfl) (by decide) (by decide) (by kernel_rfl) (by kernel_rfl) inv (fun _ _ _ h => h) (Or.inl ⟨by kernel_rfl, ?_⟩) hS (fun inv => ?_)
      · intro wz hSw
        first | kernel_rfl | go_simp
      (try simp only [Act.put, List.getElem_toArray, List.getElem_cons_zero, List.getElem_cons_succ, List.setIfInBounds_toArray, List.set_cons_zero, List.set_cons_succ])
      refine anyT_take (i := 5) (oi := _) (v := Value.bool s1) rfl (by kernel_rfl) (by kernel_rfl) (by kernel_rfl) (by decide) (by decide) (by kernel_rfl) (by kernel_rfl) inv (fun _ _ _ h => h) (Or.inl ⟨by kernel_rfl, ?_⟩) hS (fun inv => ?_)
      · intro wz hSw
        have hk0 := (hSw : Below _ _ _).cell (p := ⟨w.heap.size, 1, none⟩) (by first | assumption | (simp; done) | omega | (simp; omega)); go_simp
      (try simp only [Act.put, List.getElem_toArray, List.getElem_cons_zero, List.getElem_cons_succ, List.setIfInBounds_toArray, List.set_cons_zero, List.set_cons_succ])
      refine anyT_ready (rs := [3]) (by kernel_rfl) (by simp) ?_
      refine ReadyT.head (o := _) rfl (by decide) (by kernel_rfl) inv (fun K hK => ?_) ReadyT.nil
      go_simp
      refine (HO.out.ct A1 l1 c1 s1 l1.length _ HG1.out (by omega) (by refine RG.rd (B0 := w.heap.size) (B1 := w.heap.size + 3) ?_; (repeat (first | with_reducible exact O1.out | with_reducible refine RG.setc ?_ (by first | (simp; done) | omega | (simp; omega)) (by first | (simp; done) | omega | (simp; omega)) _ | with_reducible refine RG.allc ?_ _ | with_reducible refine RG.drew ?_ | with_reducible refine RG.drewN ?_ _)))).mono ?_
      rintro e w4 ⟨ln, An, cn, En, rfl, Cn, On, hb⟩
      go_wp2_with fail
      refine hK.out _ _ ?_ (fun hS inv => ?_)
      · exact (hS : Below w3.heap.size w3 _).trans (hb.mono (Below.size hS))
      clear hK K
      (try simp only [Act.put, List.getElem_toArray, List.getElem_cons_zero, List.getElem_cons_succ, List.setIfInBounds_toArray, List.set_cons_zero, List.set_cons_succ])
      replace Om := hide (Rd.below (by exact Om.out) hb)
      replace O1 := hide ((show RG w.heap.size (w.heap.size + 3) _ A1 l1 by (repeat (first | with_reducible exact O1.out | with_reducible refine RG.setc ?_ (by first | (simp; done) | omega | (simp; omega)) (by first | (simp; done) | omega | (simp; omega)) _ | with_reducible refine RG.allc ?_ _ | with_reducible refine RG.drew ?_ | with_reducible refine RG.drewN ?_ _))).kept hb)
      replace O2 := hide ((show RG w.heap.size (w.heap.size + 3) _ A2 l2 by (repeat (first | with_reducible exact O2.out | with_reducible refine RG.setc ?_ (by first | (simp; done) | omega | (simp; omega)) (by first | (simp; done) | omega | (simp; omega)) _ | with_reducible refine RG.allc ?_ _ | with_reducible refine RG.drew ?_ | with_reducible refine RG.drewN ?_ _))).kept hb)
      replace On := hide (On.out.base (show w.heap.size + 3 ≤ _ by first | omega | (simp; omega) | (simp; done)))
      have hB4 : Below w.heap.size w w4 := Below.trans belo (hb.mono (by first | omega | (simp; done) | (simp; omega)))
      obtain ⟨kc4, kf4⟩ := bcell hb
      have hz4 := hb.size
      (try simp at hz4)
      have n4_0 : w.heap.size < w4.heap.size := by omega
      have n4_1 : w.heap.size + 1 < w4.heap.size := by omega
      have n4_2 : w.heap.size + 2 < w4.heap.size := by omega
      have m4_0 : w4.cell? ⟨w.heap.size, 0, none⟩ = some (.slice A1 l1.length c1) := (kc4 _ _ (by first | assumption | (simp; done) | omega | (simp; omega))).trans (by first | assumption | (simp [go_sem]; done))
      have v4_0 : w4.frozen? ⟨w.heap.size, 0, none⟩ = false := (kf4 _ _ (by first | assumption | (simp; done) | omega | (simp; omega))).trans (by first | assumption | (simp [go_sem]; done))
      have m4_1 : w4.cell? ⟨w.heap.size, 1, none⟩ = some (.bool s1) := (kc4 _ _ (by first | assumption | (simp; done) | omega | (simp; omega))).trans (by first | assumption | (simp [go_sem]; done))
      have v4_1 : w4.frozen? ⟨w.heap.size, 1, none⟩ = false := (kf4 _ _ (by first | assumption | (simp; done) | omega | (simp; omega))).trans (by first | assumption | (simp [go_sem]; done))
      have m4_2 : w4.cell? ⟨w.heap.size + 1, 0, none⟩ = some (.slice A2 l2.length c2) := (kc4 _ _ (by first | assumption | (simp; done) | omega | (simp; omega))).trans (by first | assumption | (simp [go_sem]; done))
      have v4_2 : w4.frozen? ⟨w.heap.size + 1, 0, none⟩ = false := (kf4 _ _ (by first | assumption | (simp; done) | omega | (simp; omega))).trans (by first | assumption | (simp [go_sem]; done))
      have m4_3 : w4.cell? ⟨w.heap.size + 1, 1, none⟩ = some (.bool s2) := (kc4 _ _ (by first | assumption | (simp; done) | omega | (simp; omega))).trans (by first | assumption | (simp [go_sem]; done))
      have v4_3 : w4.frozen? ⟨w.heap.size + 1, 1, none⟩ = false := (kf4 _ _ (by first | assumption | (simp; done) | omega | (simp; omega))).trans (by first | assumption | (simp [go_sem]; done))
      have m4_4 : w4.cell? ⟨w.heap.size + 2, 0, none⟩ = some (.slice none 0 0) := (kc4 _ _ (by first | assumption | (simp; done) | omega | (simp; omega))).trans (by first | assumption | (simp [go_sem]; done))
      have v4_4 : w4.frozen? ⟨w.heap.size + 2, 0, none⟩ = false := (kf4 _ _ (by first | assumption | (simp; done) | omega | (simp; omega))).trans (by first | assumption | (simp [go_sem]; done))
      have m4_5 : w4.cell? ⟨w.heap.size + 2, 1, none⟩ = some (.bool false) := (kc4 _ _ (by first | assumption | (simp; done) | omega | (simp; omega))).trans (by first | assumption | (simp [go_sem]; done))
      have v4_5 : w4.frozen? ⟨w.heap.size + 2, 1, none⟩ = false := (kf4 _ _ (by first | assumption | (simp; done) | omega | (simp; omega))).trans (by first | assumption | (simp [go_sem]; done))
      clear kc4 kf4
      clear hb
      refine anyT_take (i := 6) (oi := _) (v := Value.agg #[Value.slice An ln.length cn, Value.bool s1]) rfl (by kernel_rfl) (by kernel_rfl) (by kernel_rfl) (by decide) (by decide) (by kernel_rfl) (by kernel_rfl) inv (fun _ _ _ h => h) (Or.inl ⟨by kernel_rfl, ?_⟩) hS (fun inv => ?_)
      · intro wz hSw
        first | kernel_rfl | go_simp
      (try simp only [Act.put, List.getElem_toArray, List.getElem_cons_zero, List.getElem_cons_succ, List.setIfInBounds_toArray, List.set_cons_zero, List.set_cons_succ])
      refine anyT_ready (rs := [7]) (by kernel_rfl) (by simp) ?_
      refine ReadyT.tail (o := _) rfl (by decide) (fun K hK => ?_)
      go_simp
      refine hK.out _ _ ?_
      clear hK K
      (try simp only [Act.put, List.getElem_toArray, List.getElem_cons_zero, List.getElem_cons_succ, List.setIfInBounds_toArray, List.set_cons_zero, List.set_cons_succ])
      refine anyT_done (by kernel_rfl) ?_ _
      go_wp2
      refine bodyPost_ret (v := .agg #[.slice An ln.length cn, .bool s1]) (by simp [results, Tryz.results138, go_sem, *]) rfl ?_
      exact ⟨ln, s1, An, cn, hide (by rw [HR.out, En.out]; simp [HD.out]), rfl, Cn, hide (OwQ.base (B := w.heap.size + 3) (by (repeat (first | with_reducible exact On.out | with_reducible refine OwQ.far ?_ (by first | (simp; done) | omega | (simp; omega)) _ | with_reducible refine OwQ.allc ?_ _ | with_reducible refine OwQ.drew ?_ | with_reducible refine OwQ.drewN ?_ _))) (by omega)), belo⟩
end
section
open Go.RowKit
set_option maxRecDepth 100000
set_option linter.unusedSimpArgs false
set_option linter.unusedVariables false
/-- The error of a span. -/
def spn (hi lo : Int) : Int := if hi < lo then 1 else if 128 ≤ hi - lo then 12 else 0
theorem u64_sub {hi lo : Int} (h1 : -9223372036854775808 ≤ lo) (h2 : hi ≤ 9223372036854775807) (h : lo ≤ hi) : IntKind.u64.wrap (IntKind.u64.wrap hi - IntKind.u64.wrap lo) = hi - lo := by
  rw [IntKind.wrap_u64, IntKind.wrap_u64, IntKind.wrap_u64]
  omega
theorem span_any (hi lo : Int) (w : World) (h1 : -9223372036854775808 ≤ lo) (h2 : hi ≤ 9223372036854775807) (h3 : -9223372036854775808 ≤ hi) (h4 : lo ≤ 9223372036854775807) :
    Calls Tryz.prog 105 #[.int .i64 hi, .int .i64 lo] w fun e w' => e = .returned (.tuple #[.int .i64 (if spn hi lo = 0 then hi - lo + 1 else 0), .int .i64 (spn hi lo)]) ∧ w = w' := by
  obtain ⟨r, hr⟩ : ∃ r, r = spn hi lo := ⟨_, rfl⟩
  rw [← hr]
  unfold spn at hr
  by_cases c1 : hi < lo
  · rw [if_pos c1] at hr
    subst hr
    go_enter Tryz.func105, Tryz.ntmps105
    go_wp2
    go_ret2
    exact ⟨rfl, rfl⟩
  · rw [if_neg c1] at hr
    have e1 := u64_sub h1 h2 (Int.not_lt.1 c1)
    obtain ⟨d, hd⟩ : ∃ d, d = hi - lo := ⟨_, rfl⟩
    by_cases c2 : 128 ≤ hi - lo
    · rw [if_pos c2] at hr
      subst hr
      rw [← hd] at e1 c2
      clear hd
      go_enter Tryz.func105, Tryz.ntmps105
      go_wp2
      go_ret2
      exact ⟨rfl, rfl⟩
    · rw [if_neg c2] at hr
      subst hr
      have e2 : (128 ≤ IntKind.u64.wrap (IntKind.u64.wrap hi - IntKind.u64.wrap lo)) = False := by rw [e1]; exact eq_false c2
      clear e1 hd
      go_enter Tryz.func105, Tryz.ntmps105
      go_wp2
      go_ret2
      exact ⟨rfl, rfl⟩
theorem spn_0 {hi lo : Int} : spn hi lo = 0 ↔ lo ≤ hi ∧ hi - lo < 128 := by unfold spn; (repeat' split) <;> omega
theorem vSlice_any (hi lo : Int) (A : Option Addr) (a : List Int) (c : Nat) (s : Bool) (w : World) (ha : a.length ≤ 4096) (hca : Hid (a.length ≤ c ∧ c ≤ maxLen)) (hA : RQ w A a) (ya : By a) (b1 : -9223372036854775808 ≤ lo) (b2 : hi ≤ 9223372036854775807) (b3 : -9223372036854775808 ≤ hi) (b4 : lo ≤ 9223372036854775807) :
    Calls Tryz.prog 29 #[.agg #[.slice A a.length c, .bool s], .int .i64 hi, .int .i64 lo] w (RetE (spn hi lo) ⟨wdw (cnt ⟨a, s⟩).b lo (hi - lo + 1).toNat 2, false⟩ w) := by
  have HA := hide hA
  have LA := hide ha
  have YA := hide ya
  clear hA ha ya
  have hcall := hide fun w => span_any hi lo w b1 b2 b3 b4
  obtain ⟨r, hr⟩ : ∃ r, r = spn hi lo := ⟨_, rfl⟩
  rw [← hr] at hcall ⊢
  have hfld := fld0
  by_cases h0 : r = 0
  · obtain ⟨g1, g2⟩ := spn_0.1 (hr.symm.trans h0)
    subst h0
    clear hr
    rw [if_pos rfl] at hcall
    obtain ⟨k, hk⟩ : ∃ k : Nat, hi - lo + 1 = k := ⟨(hi - lo + 1).toNat, by omega⟩
    rw [hk, Int.toNat_natCast]
    rw [hk] at hcall
    have hk1 : lo + k ≤ 9223372036854775808 := by omega
    have hk2 : k ≤ 128 := by omega
    clear hk g1 g2 b2 b3 b4
    go_enter Tryz.func29, Tryz.ntmps29
    go_wp2_with fail
    refine (hcall.out _).mono ?_
    rintro e w' ⟨rfl, rfl⟩
    go_wp2_with fail
    refine (counted_any A a c s w _ LA.out hca HA.out belo).mono ?_
    rintro e w1 ⟨l1, s1, A1, c1, E1, rfl, C1, O1, hb⟩
    replace O1 := hide (O1.out.lower (show w.heap.size + 2 ≤ _ by first | omega | (simp; omega) | (simp; done)))
    have hB1 : Below w.heap.size w w1 := Below.trans belo (hb.mono (by first | omega | (simp; done) | (simp; omega)))
    obtain ⟨kc1, kf1⟩ := bcell hb
    have hz1 := hb.size
    (try simp at hz1)
    have n1_0 : w.heap.size < w1.heap.size := by omega
    have n1_1 : w.heap.size + 1 < w1.heap.size := by omega
    have r1_0 : w1.cell? ⟨w.heap.size + 1, 0, none⟩ = some (.slice none 0 0) := (kc1 _ _ (by first | assumption | (simp; done) | omega | (simp; omega))).trans (by first | assumption | (simp [go_sem]; done) | (simp; done))
    have g1_0 : w1.frozen? ⟨w.heap.size + 1, 0, none⟩ = false := (kf1 _ _ (by first | assumption | (simp; done) | omega | (simp; omega))).trans (by first | assumption | (simp [go_sem]; done) | (simp; done))
    have r1_1 : w1.cell? ⟨w.heap.size + 1, 1, none⟩ = some (.bool false) := (kc1 _ _ (by first | assumption | (simp; done) | omega | (simp; omega))).trans (by first | assumption | (simp [go_sem]; done) | (simp; done))
    have g1_1 : w1.frozen? ⟨w.heap.size + 1, 1, none⟩ = false := (kf1 _ _ (by first | assumption | (simp; done) | omega | (simp; omega))).trans (by first | assumption | (simp [go_sem]; done) | (simp; done))
    clear hb
    have G1 : Gd l1 := by have h := cnt_gd (v := ⟨a, s⟩) YA.out; rw [← E1.out] at h; exact h
    have u1 := G1.le
    go_wp2_with fail
    refine (window_q A1 l1 c1 k lo 2 _ (by omega) (by omega) b1 hk1 (by refine RG.rd (B0 := w.heap.size) (B1 := w.heap.size + 2) ?_; (repeat (first | with_reducible exact O1.out | with_reducible refine RG.setc ?_ (by first | (simp; done) | omega | (simp; omega)) (by first | (simp; done) | omega | (simp; omega)) _ | with_reducible refine RG.allc ?_ _ | with_reducible refine RG.drew ?_ | with_reducible refine RG.drewN ?_ _)))).mono ?_
    rintro e w2 ⟨l2, A2, c2, E2, rfl, C2, O2, hb⟩
    replace O1 := hide ((show RG w.heap.size (w.heap.size + 2) _ A1 l1 by (repeat (first | with_reducible exact O1.out | with_reducible refine RG.setc ?_ (by first | (simp; done) | omega | (simp; omega)) (by first | (simp; done) | omega | (simp; omega)) _ | with_reducible refine RG.allc ?_ _ | with_reducible refine RG.drew ?_ | with_reducible refine RG.drewN ?_ _))).kept hb)
    replace O2 := hide (O2.out.base (show w.heap.size + 2 ≤ _ by first | omega | (simp; omega) | (simp; done)))
    have hB2 : Below w.heap.size w w2 := Below.trans belo (hb.mono (by first | omega | (simp; done) | (simp; omega)))
    obtain ⟨kc2, kf2⟩ := bcell hb
    have hz2 := hb.size
    (try simp at hz2)
    have n2_0 : w.heap.size < w2.heap.size := by omega
    have n2_1 : w.heap.size + 1 < w2.heap.size := by omega
    have r2_0 : w2.cell? ⟨w.heap.size + 1, 0, none⟩ = some (.slice none 0 0) := (kc2 _ _ (by first | assumption | (simp; done) | omega | (simp; omega))).trans (by first | assumption | (simp [go_sem]; done) | (simp; done))
    have g2_0 : w2.frozen? ⟨w.heap.size + 1, 0, none⟩ = false := (kf2 _ _ (by first | assumption | (simp; done) | omega | (simp; omega))).trans (by first | assumption | (simp [go_sem]; done) | (simp; done))
    have r2_1 : w2.cell? ⟨w.heap.size + 1, 1, none⟩ = some (.bool false) := (kc2 _ _ (by first | assumption | (simp; done) | omega | (simp; omega))).trans (by first | assumption | (simp [go_sem]; done) | (simp; done))
    have g2_1 : w2.frozen? ⟨w.heap.size + 1, 1, none⟩ = false := (kf2 _ _ (by first | assumption | (simp; done) | omega | (simp; omega))).trans (by first | assumption | (simp [go_sem]; done) | (simp; done))
    clear hb
    go_wp2
    refine bodyPost_ret (v := .tuple #[.agg #[.slice A2 l2.length c2, .bool false], .int .i64 0]) (by simp [results, Tryz.results29, go_sem, *]) rfl ?_
    exact ⟨l2, false, A2, c2, hide (by rw [if_pos rfl]; exact (by rw [E2.out, ← E1.out])), rfl, C2, hide (OwQ.base (B := w.heap.size + 2) (by (repeat (first | with_reducible exact O2.out | with_reducible refine OwQ.far ?_ (by first | (simp; done) | omega | (simp; omega)) _ | with_reducible refine OwQ.allc ?_ _ | with_reducible refine OwQ.drew ?_ | with_reducible refine OwQ.drewN ?_ _))) (by omega)), belo⟩
  · rw [if_neg h0] at hcall
    go_enter Tryz.func29, Tryz.ntmps29
    go_wp2_with fail
    refine (hcall.out _).mono ?_
    rintro e w' ⟨rfl, rfl⟩
    go_wp2
    refine bodyPost_ret (v := .tuple #[.agg #[.slice none 0 0, .bool false], .int .i64 r]) (by simp [results, Tryz.results29, go_sem, *]) rfl ?_
    exact ⟨[], false, none, 0, hide (by rw [if_neg h0]; exact ⟨rfl, rfl⟩), rfl, hide ⟨Nat.le_refl _, by simp [maxLen]⟩, hide (fun h => absurd h (by simp)), belo⟩
/-- The error of Repeat. -/
def rpe (n : Int) (L : Nat) : Int := if n < 1 then 1 else if 128 / (L : Int) < n then 12 else 0
theorem vRepeat_any (n : Int) (A : Option Addr) (a : List Int) (c : Nat) (s : Bool) (w : World) (ha : a.length ≤ 4096) (hca : Hid (a.length ≤ c ∧ c ≤ maxLen)) (hA : RQ w A a) (ya : By a) :
    Calls Tryz.prog 27 #[.agg #[.slice A a.length c, .bool s], .int .i64 n] w (RetE (rpe n (cnt ⟨a, s⟩).b.length) ⟨ql ((cnt ⟨a, s⟩).b.length * n.toNat) fun i => qt (cnt ⟨a, s⟩).b (i % (cnt ⟨a, s⟩).b.length), false⟩ w) := by
  have HA := hide hA
  have LA := hide ha
  have YA := hide ya
  clear hA ha ya
  have hfld := fld0
  obtain ⟨e0, he0⟩ : ∃ e0, e0 = rpe n (cnt ⟨a, s⟩).b.length := ⟨_, rfl⟩
  rw [← he0]
  have HE0 := hide he0
  clear he0
  obtain ⟨Z, hZ⟩ : ∃ Z, Z = (⟨ql ((cnt ⟨a, s⟩).b.length * n.toNat) fun i => qt (cnt ⟨a, s⟩).b (i % (cnt ⟨a, s⟩).b.length), false⟩ : Vc) := ⟨_, rfl⟩
  rw [← hZ]
  have HZ := hide hZ
  clear hZ
  go_enter Tryz.func27, Tryz.ntmps27
  go_wp2_with fail
  refine (counted_any A a c s w _ LA.out hca HA.out belo).mono ?_
  rintro e w1 ⟨l1, s1, A1, c1, E1, rfl, C1, O1, hb⟩
  replace O1 := hide (O1.out.lower (show w.heap.size + 2 ≤ _ by first | omega | (simp; omega) | (simp; done)))
  have hB1 : Below w.heap.size w w1 := Below.trans belo (hb.mono (by first | omega | (simp; done) | (simp; omega)))
  obtain ⟨kc1, kf1⟩ := bcell hb
  have hz1 := hb.size
  (try simp at hz1)
  have n1_0 : w.heap.size < w1.heap.size := by omega
  have n1_1 : w.heap.size + 1 < w1.heap.size := by omega
  have r1_0 : w1.cell? ⟨w.heap.size + 1, 0, none⟩ = some (.slice none 0 0) := (kc1 _ _ (by first | assumption | (simp; done) | omega | (simp; omega))).trans (by first | assumption | (simp [go_sem]; done) | (simp; done))
  have g1_0 : w1.frozen? ⟨w.heap.size + 1, 0, none⟩ = false := (kf1 _ _ (by first | assumption | (simp; done) | omega | (simp; omega))).trans (by first | assumption | (simp [go_sem]; done) | (simp; done))
  have r1_1 : w1.cell? ⟨w.heap.size + 1, 1, none⟩ = some (.bool false) := (kc1 _ _ (by first | assumption | (simp; done) | omega | (simp; omega))).trans (by first | assumption | (simp [go_sem]; done) | (simp; done))
  have g1_1 : w1.frozen? ⟨w.heap.size + 1, 1, none⟩ = false := (kf1 _ _ (by first | assumption | (simp; done) | omega | (simp; omega))).trans (by first | assumption | (simp [go_sem]; done) | (simp; done))
  clear hb
  have G1 : Gd l1 := by have h := cnt_gd (v := ⟨a, s⟩) YA.out; rw [← E1.out] at h; exact h
  have u1 := G1.le
  have p1 := G1.pos
  have e1 : (cnt ⟨a, s⟩).b = l1 := by rw [← E1.out]
  rw [e1] at HZ
  rw [e1] at HE0
  unfold rpe at HE0
  by_cases h1 : n < 1
  · rw [if_pos h1] at HE0
    have e := HE0.out
    subst e
    clear HE0 e1
    go_wp2
    refine bodyPost_ret (v := .tuple #[.agg #[.slice none 0 0, .bool false], .int .i64 1]) (by simp [results, Tryz.results27, go_sem, *]) rfl ?_
    exact ⟨[], false, none, 0, hide (by rw [if_neg (by decide)]; exact ⟨rfl, rfl⟩), rfl, hide ⟨Nat.le_refl _, by simp [maxLen]⟩, hide (fun h => absurd h (by simp)), belo⟩
  · rw [if_neg h1] at HE0
    obtain ⟨k, rfl⟩ : ∃ k : Nat, n = k := ⟨n.toNat, by omega⟩
    rw [Int.toNat_natCast] at HZ
    have hd : (128 : Int).tdiv l1.length = 128 / (l1.length : Int) := Int.tdiv_eq_ediv_of_nonneg (by decide)
    have hd0 : 0 ≤ 128 / (l1.length : Int) := Int.ediv_nonneg (by decide) (by omega)
    have hd1 : 128 / (l1.length : Int) ≤ 128 := Int.ediv_le_self _ (by decide)
    obtain ⟨D, hD⟩ : ∃ D, D = 128 / (l1.length : Int) := ⟨_, rfl⟩
    have HD := hide hD
    rw [← hD] at hd hd0 hd1 HE0
    clear hD e1
    by_cases h2 : D < k
    · rw [if_pos h2] at HE0
      have e := HE0.out
      subst e
      clear HE0
      go_wp2
      refine bodyPost_ret (v := .tuple #[.agg #[.slice none 0 0, .bool false], .int .i64 12]) (by simp [results, Tryz.results27, go_sem, *]) rfl ?_
      exact ⟨[], false, none, 0, hide (by rw [if_neg (by decide)]; exact ⟨rfl, rfl⟩), rfl, hide ⟨Nat.le_refl _, by simp [maxLen]⟩, hide (fun h => absurd h (by simp)), belo⟩
    · rw [if_neg h2] at HE0
      have e := HE0.out
      subst e
      clear HE0
      have hle : l1.length * k ≤ 128 := by
        have h3 : (k : Int) ≤ 128 / (l1.length : Int) := by have := HD.out; omega
        have h4 := (Int.le_ediv_iff_mul_le (by omega : (0 : Int) < l1.length)).1 h3
        have h5 : ((l1.length * k : Nat) : Int) = (k : Int) * l1.length := by rw [Int.natCast_mul, Int.mul_comm]
        omega
      go_wp2_with fail
      refine (repeat_q A1 l1 c1 k (l1.length * k) _ p1 (by omega) rfl (by omega) (by refine RG.rd (B0 := w.heap.size) (B1 := w.heap.size + 2) ?_; (repeat (first | with_reducible exact O1.out | with_reducible refine RG.setc ?_ (by first | (simp; done) | omega | (simp; omega)) (by first | (simp; done) | omega | (simp; omega)) _ | with_reducible refine RG.allc ?_ _ | with_reducible refine RG.drew ?_ | with_reducible refine RG.drewN ?_ _)))).mono ?_
      rintro e w2 ⟨l2, A2, c2, E2, rfl, C2, O2, hb⟩
      replace O1 := hide ((show RG w.heap.size (w.heap.size + 2) _ A1 l1 by (repeat (first | with_reducible exact O1.out | with_reducible refine RG.setc ?_ (by first | (simp; done) | omega | (simp; omega)) (by first | (simp; done) | omega | (simp; omega)) _ | with_reducible refine RG.allc ?_ _ | with_reducible refine RG.drew ?_ | with_reducible refine RG.drewN ?_ _))).kept hb)
      replace O2 := hide (O2.out.base (show w.heap.size + 2 ≤ _ by first | omega | (simp; omega) | (simp; done)))
      have hB2 : Below w.heap.size w w2 := Below.trans belo (hb.mono (by first | omega | (simp; done) | (simp; omega)))
      obtain ⟨kc2, kf2⟩ := bcell hb
      have hz2 := hb.size
      (try simp at hz2)
      have n2_0 : w.heap.size < w2.heap.size := by omega
      have n2_1 : w.heap.size + 1 < w2.heap.size := by omega
      have r2_0 : w2.cell? ⟨w.heap.size + 1, 0, none⟩ = some (.slice none 0 0) := (kc2 _ _ (by first | assumption | (simp; done) | omega | (simp; omega))).trans (by first | assumption | (simp [go_sem]; done) | (simp; done))
      have g2_0 : w2.frozen? ⟨w.heap.size + 1, 0, none⟩ = false := (kf2 _ _ (by first | assumption | (simp; done) | omega | (simp; omega))).trans (by first | assumption | (simp [go_sem]; done) | (simp; done))
      have r2_1 : w2.cell? ⟨w.heap.size + 1, 1, none⟩ = some (.bool false) := (kc2 _ _ (by first | assumption | (simp; done) | omega | (simp; omega))).trans (by first | assumption | (simp [go_sem]; done) | (simp; done))
      have g2_1 : w2.frozen? ⟨w.heap.size + 1, 1, none⟩ = false := (kf2 _ _ (by first | assumption | (simp; done) | omega | (simp; omega))).trans (by first | assumption | (simp [go_sem]; done) | (simp; done))
      clear hb
      go_wp2
      refine bodyPost_ret (v := .tuple #[.agg #[.slice A2 l2.length c2, .bool false], .int .i64 0]) (by simp [results, Tryz.results27, go_sem, *]) rfl ?_
      exact ⟨l2, false, A2, c2, hide (by rw [if_pos rfl]; exact (by rw [HZ.out, E2.out])), rfl, C2, hide (OwQ.base (B := w.heap.size + 2) (by (repeat (first | with_reducible exact O2.out | with_reducible refine OwQ.far ?_ (by first | (simp; done) | omega | (simp; omega)) _ | with_reducible refine OwQ.allc ?_ _ | with_reducible refine OwQ.drew ?_ | with_reducible refine OwQ.drewN ?_ _))) (by omega)), belo⟩
end
section
open Go.RowKit
set_option maxRecDepth 100000
set_option maxHeartbeats 400000 in
theorem rfrom_q (v : Bool) (w : World) :
    Calls Tryz.prog 162 #[.bool v] w fun e w' => e = .returned (.int .u8 (mFrom v)) ∧ w' = w := by
  cases v
  all_goals
    go_enter Tryz.func162, Tryz.ntmps162
    go_wp2
    go_ret
    exact ⟨rfl, rfl⟩
end
section
open Go.RowKit
set_option maxRecDepth 100000
set_option linter.unusedSimpArgs false
set_option linter.unusedVariables false
theorem step_append_q {w : World} {ops : Array Oper} {o : Oper} {a : Act} {K : Act → World → Prop} {Q : Exit → Act → World → Prop} {E : Prop} (hgd : o.guard = none) (s x : Operand)
    (ho : o.op = .call { callee := .builtin .append, args := #[s, x], argTypes := #[22, 22] })
    (B : Nat) (v : Value) (n : Nat) (xs : List Int) (hs : a.eval s = v) (hown : w.ownsRow B 65 1 v n (xs.map (Value.int .u8)))
    (A : Option Addr) (m c : Nat) (news : List Int) (hx : a.eval x = .slice A m c) (hm : m = news.length) (hr : RQ w A news) (hn : xs.length + news.length ≤ 16384) (hB : B ≤ w.heap.size)
    (hK : ∀ v' w', w'.ownsRow B 65 1 v' (n + m) ((xs ++ news).map (Value.int .u8)) → Below B w w' → K (a.put o.dst v') w') : if Region.wanted o (yielded ops a.tmps) = true then Oper.wp Tryz.prog o a w K Q else E := by
  have hw : Region.wanted o (yielded ops a.tmps) = true := by simp [Region.wanted, hgd]
  rw [if_pos hw]
  obtain ⟨i0, hi, hz0, hz1, hz2⟩ := info_parts bit_info
  have hnl : n = xs.length := by have := hown.1; simpa using this.symm
  subst hm
  rcases A with _ | ad
  · have h0 : news = [] := by
      cases news with
      | nil => rfl
      | cons b l => obtain ⟨ad, e, _⟩ := hr (by simp); cases e
    subst h0
    have hrun := run_append_nullq w o.type hown c
    unfold Oper.wp
    simp [execOp, ho, resolve, invoke, builtin, hs, hx, hrun, Result.andThen]
    exact hK v w (by simpa using hown) (Below.refl _ _)
  · refine wp_append_own w s x 22 ho B 65 i0 (.int .u8 0) 1 1 Tryz.underlying22 hi hz0 hz1 hz2 rfl (by omega) v n (xs.map (Value.int .u8)) hs hown ad news.length c (news.map (Value.int .u8)) hx (by simp) ?_ ?_ (by simp only [maxLen]; omega) (by omega) hB ?_
    · intro j u hj
      rw [List.getElem?_map] at hj
      have hlt : j < news.length := by
        rcases Nat.lt_or_ge j news.length with h | h
        · exact h
        · rw [List.getElem?_eq_none h] at hj; cases hj
      obtain ⟨ad', e, _, hc⟩ := hr (by omega)
      injection e with e
      subst e
      rw [List.getElem?_eq_getElem hlt] at hj
      rw [hc j hlt, qt_get hlt]
      exact hj
    · intro u hu
      simp only [List.mem_map] at hu
      obtain ⟨b, _, rfl⟩ := hu
      rfl
    · intro v' w' hown' hgrow _
      exact hK v' w' (by rw [List.map_append]; exact hown') ((Below.refl _ _).grown hgrow hB fun k hk => (hown.lt k hk).1)
theorem bcellW {B : Nat} {W w1 : World} (hb : Below B W w1) : (∀ b o, b < B → w1.cell? ⟨b, o, none⟩ = W.cell? ⟨b, o, none⟩) ∧ (∀ b o, b < B → w1.frozen? ⟨b, o, none⟩ = W.frozen? ⟨b, o, none⟩) :=
  ⟨fun b o h => hb.cell (p := ⟨b, o, none⟩) h, fun b o h => hb.frozen (p := ⟨b, o, none⟩) h⟩
theorem ownsRow_kept {w w' : World} {B : Nat} {v : Value} {n : Nat} {xs : List Value} {T : TypeId} (h : w.ownsRow B T 1 v n xs) (hb : Below w.heap.size w w') : w'.ownsRow B T 1 v n xs := by
  refine ⟨h.1, ?_⟩
  rcases h.2 with h1 | ⟨g, cap, cur, hv, hB, hg, h2⟩
  · exact Or.inl h1
  · exact Or.inr ⟨g, cap, cur, hv, hB, by rw [hb.block g (lt_of_block hg)]; exact hg, h2⟩
end
section
open Go.RowKit
set_option maxRecDepth 100000
set_option linter.unusedSimpArgs false
set_option linter.unusedVariables false
set_option maxHeartbeats 1000000 in
theorem rcheck_any (A : Option Addr) (a : List Int) (c : Nat) (s : Bool) (w : World) (ha : a.length ≤ 4096) (hA : RQ w A a) :
    Calls Tryz.prog 145 #[.agg #[.slice A a.length c, .bool s]] w (Mk (.int .i64 (chk a)) w) := by
  have HA := hide (hA.below ((Below.refl _ _).alloc (Nat.le_refl _) (.cells #[.slice A a.length c, .bool s] 24)))
  clear hA
  obtain ⟨r, hr⟩ : ∃ r, r = chk a := ⟨_, rfl⟩
  rw [← hr]
  have HR := hide hr
  clear hr
  unfold chk at HR
  by_cases h1 : a.length = 0
  · rw [if_pos h1] at HR
    have e := HR.out
    subst e
    clear HR
    go_enter Tryz.func145, Tryz.ntmps145
    go_wp2
    go_ret
    exact ⟨rfl, (Below.refl _ _).alloc (Nat.le_refl _) _⟩
  · rw [if_neg h1] at HR
    by_cases h2 : 128 < a.length
    · rw [if_pos h2] at HR
      have e := HR.out
      subst e
      clear HR
      go_enter Tryz.func145, Tryz.ntmps145
      go_wp2
      go_ret
      exact ⟨rfl, (Below.refl _ _).alloc (Nat.le_refl _) _⟩
    · rw [if_neg h2] at HR
      have HK : Hid (okB a = true ↔ ∀ i, i < a.length → qt a i ≤ 3) := hide (okB_iff a)
      go_enter Tryz.func145, Tryz.ntmps145
      go_wp2_with fail
      go_loop [3] (fun i => ∃ k : Nat, k ≤ a.length ∧ i = .int .i64 k ∧ Hid (∀ j, j < k → qt a j ≤ 3)) (fun i => a.length - (intOf i).toNat)
      case atStart => exact ⟨0, Nat.zero_le _, rfl, hide fun j hj => by omega⟩
      case round =>
        obtain ⟨k, hk, rfl, hno⟩ := hrel
        by_cases hlt : k < a.length
        · obtain ⟨ad, rfl, hlt1, hc⟩ := HA.out.at_ hlt
          by_cases hx : qt a k ≤ 3
          · go_wp2
            go_round
            case rel => exact ⟨k + 1, by omega, by go_num, hide fun j hj => by
              by_cases e : j = k
              · subst e; exact hx
              · exact hno.out j (by omega)⟩
            case measure => simp [intOf]; omega
          · go_wp2
            go_ret
            refine ⟨ret_int ?_, (Below.refl _ _).alloc (Nat.le_refl _) _⟩
            rw [HR.out, if_neg (fun h => by have := HK.out.1 h k hlt; omega)]
        · go_wp2
          go_ret
          refine ⟨ret_int ?_, (Below.refl _ _).alloc (Nat.le_refl _) _⟩
          rw [HR.out, if_pos (HK.out.2 fun i hi => hno.out i (by omega))]
theorem rnorm_any' (A : Option Addr) (a : List Int) (c : Nat) (s : Bool) (w : World) (ha : a.length ≤ 4096) (hca : Hid (a.length ≤ c ∧ c ≤ maxLen)) (hA : RQ w A a) (ya : By a) :
    Calls Tryz.prog 72 #[.agg #[.slice A a.length c, .bool s]] w (RetC (· = cnt ⟨a, s⟩) w) := by
  have HA := hide hA
  have LA := hide ha
  have YA := hide ya
  clear hA ha ya
  obtain ⟨r, hr⟩ : ∃ r, r = chk a := ⟨_, rfl⟩
  have hcall := hide fun W (hW : Below w.heap.size w W) => rcheck_any A a c s W LA.out (HA.out.below hW)
  rw [← hr] at hcall
  by_cases h0 : r = 0
  · have HC := hide (show (⟨a, s⟩ : Vc) = cnt ⟨a, s⟩ by unfold cnt; rw [if_pos (hr.symm.trans h0)])
    subst h0
    clear hr
    go_enter Tryz.func72, Tryz.ntmps72
    go_wp2_with fail
    refine (hcall.out _ belo).mono ?_
    rintro e w1 ⟨rfl, hb⟩
    have hB1 : Below w.heap.size w w1 := Below.trans belo (hb.mono (by first | omega | (simp; done) | (simp; omega)))
    obtain ⟨kc1, kf1⟩ := bcell hb
    have hz1 := hb.size
    (try simp at hz1)
    have n1_0 : w.heap.size < w1.heap.size := by omega
    have n1_1 : w.heap.size + 1 < w1.heap.size := by omega
    have m1_0 : w1.cell? ⟨w.heap.size, 0, none⟩ = some (.slice A a.length c) := (kc1 _ _ (by first | assumption | (simp; done) | omega | (simp; omega))).trans (by first | assumption | (simp [go_sem]; done))
    have v1_0 : w1.frozen? ⟨w.heap.size, 0, none⟩ = false := (kf1 _ _ (by first | assumption | (simp; done) | omega | (simp; omega))).trans (by first | assumption | (simp [go_sem]; done))
    have m1_1 : w1.cell? ⟨w.heap.size, 1, none⟩ = some (.bool s) := (kc1 _ _ (by first | assumption | (simp; done) | omega | (simp; omega))).trans (by first | assumption | (simp [go_sem]; done))
    have v1_1 : w1.frozen? ⟨w.heap.size, 1, none⟩ = false := (kf1 _ _ (by first | assumption | (simp; done) | omega | (simp; omega))).trans (by first | assumption | (simp [go_sem]; done))
    have m1_2 : w1.cell? ⟨w.heap.size + 1, 0, none⟩ = some (.slice none 0 0) := (kc1 _ _ (by first | assumption | (simp; done) | omega | (simp; omega))).trans (by first | assumption | (simp [go_sem]; done))
    have v1_2 : w1.frozen? ⟨w.heap.size + 1, 0, none⟩ = false := (kf1 _ _ (by first | assumption | (simp; done) | omega | (simp; omega))).trans (by first | assumption | (simp [go_sem]; done))
    have m1_3 : w1.cell? ⟨w.heap.size + 1, 1, none⟩ = some (.bool false) := (kc1 _ _ (by first | assumption | (simp; done) | omega | (simp; omega))).trans (by first | assumption | (simp [go_sem]; done))
    have v1_3 : w1.frozen? ⟨w.heap.size + 1, 1, none⟩ = false := (kf1 _ _ (by first | assumption | (simp; done) | omega | (simp; omega))).trans (by first | assumption | (simp [go_sem]; done))
    clear kc1 kf1
    clear hb
    go_wp2_with fail
    refine region_anyT (S := fun wS => Below w1.heap.size w1 wS) (n := 7) (by kernel_rfl) (Below.refl _ _).drew (fun hS inv => ?_)
    refine anyT_take (i := 1) (oi := _) (v := Value.pointer (some ⟨w.heap.size, 0, none⟩)) rfl (by kernel_rfl) (by kernel_rfl) (by kernel_rfl) (by decide) (by decide) (by kernel_rfl) (by kernel_rfl) inv (fun _ _ _ h => h) (Or.inl ⟨by kernel_rfl, ?_⟩) hS (fun inv => ?_)
    · intro wz hSw
      first | kernel_rfl | go_simp
    (try simp only [Act.put, List.getElem_toArray, List.getElem_cons_zero, List.getElem_cons_succ, List.setIfInBounds_toArray, List.set_cons_zero, List.set_cons_succ])
    refine anyT_take (i := 2) (oi := _) (v := Value.slice A a.length c) rfl (by kernel_rfl) (by kernel_rfl) (by kernel_rfl) (by decide) (by decide) (by kernel_rfl) (by kernel_rfl) inv (fun _ _ _ h => h) (Or.inl ⟨by kernel_rfl, ?_⟩) hS (fun inv => ?_)
    · intro wz hSw
      have hk0 := (hSw : Below _ _ _).cell (p := ⟨w.heap.size, 0, none⟩) (by first | assumption | (simp; done) | omega | (simp; omega)); go_simp
    (try simp only [Act.put, List.getElem_toArray, List.getElem_cons_zero, List.getElem_cons_succ, List.setIfInBounds_toArray, List.set_cons_zero, List.set_cons_succ])
    refine anyT_take (i := 4) (oi := _) (v := Value.pointer (some ⟨w.heap.size, 1, none⟩)) rfl (by kernel_rfl) (by kernel_rfl) (by kernel_rfl) (by decide) (by decide) (by kernel_rfl) (by kernel_rfl) inv (fun _ _ _ h => h) (Or.inl ⟨by kernel_rfl, ?_⟩) hS (fun inv => ?_)
    · intro wz hSw
      first | kernel_rfl | go_simp
    (try simp only [Act.put, List.getElem_toArray, List.getElem_cons_zero, List.getElem_cons_succ, List.setIfInBounds_toArray, List.set_cons_zero, List.set_cons_succ])
    refine anyT_take (i := 5) (oi := _) (v := Value.bool s) rfl (by kernel_rfl) (by kernel_rfl) (by kernel_rfl) (by decide) (by decide) (by kernel_rfl) (by kernel_rfl) inv (fun _ _ _ h => h) (Or.inl ⟨by kernel_rfl, ?_⟩) hS (fun inv => ?_)
    · intro wz hSw
      have hk0 := (hSw : Below _ _ _).cell (p := ⟨w.heap.size, 1, none⟩) (by first | assumption | (simp; done) | omega | (simp; omega)); go_simp
    (try simp only [Act.put, List.getElem_toArray, List.getElem_cons_zero, List.getElem_cons_succ, List.setIfInBounds_toArray, List.set_cons_zero, List.set_cons_succ])
    refine anyT_ready (rs := [0]) (by kernel_rfl) (by simp) ?_
    refine ReadyT.head (o := _) rfl (by decide) (by kernel_rfl) inv (fun K hK => ?_) ReadyT.nil
    go_simp
    refine hK.out _ _ ?_ (fun hS inv => ?_)
    · exact (by first | exact (hS : Below w1.heap.size w1 _).alloc (Below.size hS) _ | exact Below.drew (Below.alloc (show Below w1.heap.size w1 w1 from hS) (Below.size hS) _))
    clear hK K
    (try simp only [Act.put, List.getElem_toArray, List.getElem_cons_zero, List.getElem_cons_succ, List.setIfInBounds_toArray, List.set_cons_zero, List.set_cons_succ])
    generalize hw2 : World.alloc w1 _ = w2 at *
    have hb : Below w1.heap.size w1 w2 := by rw [← hw2]; exact (Below.refl _ _).alloc (Nat.le_refl _) _
    have ho := hide (show w2.ownsRow w1.heap.size 65 1 (.slice (some ⟨w1.heap.size, 0, none⟩) 0 0) 0 (([] : List Int).map (Value.int .u8)) by rw [← hw2]; exact owq_empty w1 w1.heap.size (Nat.le_refl _))
    clear hw2
    have hB2 : Below w.heap.size w w2 := Below.trans belo (hb.mono (by first | omega | (simp; done) | (simp; omega)))
    obtain ⟨kc2, kf2⟩ := bcell hb
    have hz2 := hb.size
    (try simp at hz2)
    have n2_0 : w.heap.size < w2.heap.size := by omega
    have n2_1 : w.heap.size + 1 < w2.heap.size := by omega
    have m2_0 : w2.cell? ⟨w.heap.size, 0, none⟩ = some (.slice A a.length c) := (kc2 _ _ (by first | assumption | (simp; done) | omega | (simp; omega))).trans (by first | assumption | (simp [go_sem]; done))
    have v2_0 : w2.frozen? ⟨w.heap.size, 0, none⟩ = false := (kf2 _ _ (by first | assumption | (simp; done) | omega | (simp; omega))).trans (by first | assumption | (simp [go_sem]; done))
    have m2_1 : w2.cell? ⟨w.heap.size, 1, none⟩ = some (.bool s) := (kc2 _ _ (by first | assumption | (simp; done) | omega | (simp; omega))).trans (by first | assumption | (simp [go_sem]; done))
    have v2_1 : w2.frozen? ⟨w.heap.size, 1, none⟩ = false := (kf2 _ _ (by first | assumption | (simp; done) | omega | (simp; omega))).trans (by first | assumption | (simp [go_sem]; done))
    have m2_2 : w2.cell? ⟨w.heap.size + 1, 0, none⟩ = some (.slice none 0 0) := (kc2 _ _ (by first | assumption | (simp; done) | omega | (simp; omega))).trans (by first | assumption | (simp [go_sem]; done))
    have v2_2 : w2.frozen? ⟨w.heap.size + 1, 0, none⟩ = false := (kf2 _ _ (by first | assumption | (simp; done) | omega | (simp; omega))).trans (by first | assumption | (simp [go_sem]; done))
    have m2_3 : w2.cell? ⟨w.heap.size + 1, 1, none⟩ = some (.bool false) := (kc2 _ _ (by first | assumption | (simp; done) | omega | (simp; omega))).trans (by first | assumption | (simp [go_sem]; done))
    have v2_3 : w2.frozen? ⟨w.heap.size + 1, 1, none⟩ = false := (kf2 _ _ (by first | assumption | (simp; done) | omega | (simp; omega))).trans (by first | assumption | (simp [go_sem]; done))
    clear kc2 kf2
    clear hb
    refine anyT_ready (rs := [3]) (by kernel_rfl) (by simp) ?_
    refine ReadyT.head (o := _) rfl (by decide) (by kernel_rfl) inv (fun K hK => ?_) ReadyT.nil
    refine step_append_q (by rfl) _ _ (by rfl) w1.heap.size _ _ [] (by kernel_rfl) ho.out A a.length c a (by kernel_rfl) rfl (HA.out.below belo) (by simp; exact Nat.le_trans LA.out (by decide)) (by first | omega | (simp; omega) | (simp; done)) ?_
    intro v' w3 hown hb
    obtain ⟨A2, c2, e, k1, k2, O2⟩ := owq_open hown
    obtain ⟨l2, E2⟩ : ∃ z, z = [] ++ a := ⟨_, rfl⟩
    rw [← E2] at e k1 O2
    subst e
    have C2 := hide (And.intro k1 k2)
    replace E2 := hide E2
    replace O2 := hide O2
    clear k1 k2 hown
    refine hK.out _ _ ?_ (fun hS inv => ?_)
    · exact (hS : Below w1.heap.size w1 _).trans (hb.mono (by first | omega | (simp; omega) | (simp; done)))
    clear hK K
    (try simp only [Act.put, List.getElem_toArray, List.getElem_cons_zero, List.getElem_cons_succ, List.setIfInBounds_toArray, List.set_cons_zero, List.set_cons_succ])
    replace O2 := hide (O2.out.base (show w.heap.size + 2 ≤ _ by first | omega | (simp; omega) | (simp; done)))
    have hB3 : Below w.heap.size w w3 := Below.trans belo (hb.mono (by first | omega | (simp; done) | (simp; omega)))
    obtain ⟨kc3, kf3⟩ := bcellW hb
    have hz3 := hb.size
    (try simp at hz3)
    have n3_0 : w.heap.size < w3.heap.size := by omega
    have n3_1 : w.heap.size + 1 < w3.heap.size := by omega
    have m3_0 : w3.cell? ⟨w.heap.size, 0, none⟩ = some (.slice A a.length c) := (kc3 _ _ (by first | assumption | (simp; done) | omega | (simp; omega))).trans (by first | assumption | (simp [go_sem]; done))
    have v3_0 : w3.frozen? ⟨w.heap.size, 0, none⟩ = false := (kf3 _ _ (by first | assumption | (simp; done) | omega | (simp; omega))).trans (by first | assumption | (simp [go_sem]; done))
    have m3_1 : w3.cell? ⟨w.heap.size, 1, none⟩ = some (.bool s) := (kc3 _ _ (by first | assumption | (simp; done) | omega | (simp; omega))).trans (by first | assumption | (simp [go_sem]; done))
    have v3_1 : w3.frozen? ⟨w.heap.size, 1, none⟩ = false := (kf3 _ _ (by first | assumption | (simp; done) | omega | (simp; omega))).trans (by first | assumption | (simp [go_sem]; done))
    have m3_2 : w3.cell? ⟨w.heap.size + 1, 0, none⟩ = some (.slice none 0 0) := (kc3 _ _ (by first | assumption | (simp; done) | omega | (simp; omega))).trans (by first | assumption | (simp [go_sem]; done))
    have v3_2 : w3.frozen? ⟨w.heap.size + 1, 0, none⟩ = false := (kf3 _ _ (by first | assumption | (simp; done) | omega | (simp; omega))).trans (by first | assumption | (simp [go_sem]; done))
    have m3_3 : w3.cell? ⟨w.heap.size + 1, 1, none⟩ = some (.bool false) := (kc3 _ _ (by first | assumption | (simp; done) | omega | (simp; omega))).trans (by first | assumption | (simp [go_sem]; done))
    have v3_3 : w3.frozen? ⟨w.heap.size + 1, 1, none⟩ = false := (kf3 _ _ (by first | assumption | (simp; done) | omega | (simp; omega))).trans (by first | assumption | (simp [go_sem]; done))
    clear kc3 kf3
    clear hb
    refine anyT_take (i := 6) (oi := _) (v := Value.agg #[Value.slice A2 l2.length c2, Value.bool s]) rfl (by kernel_rfl) (by kernel_rfl) (by kernel_rfl) (by decide) (by decide) (by kernel_rfl) (by kernel_rfl) inv (fun _ _ _ h => h) (Or.inl ⟨by kernel_rfl, ?_⟩) hS (fun inv => ?_)
    · intro wz hSw
      first | kernel_rfl | go_simp
    (try simp only [Act.put, List.getElem_toArray, List.getElem_cons_zero, List.getElem_cons_succ, List.setIfInBounds_toArray, List.set_cons_zero, List.set_cons_succ])
    refine anyT_ready (rs := [7]) (by kernel_rfl) (by simp) ?_
    refine ReadyT.tail (o := _) rfl (by decide) (fun K hK => ?_)
    go_simp
    refine hK.out _ _ ?_
    clear hK K
    (try simp only [Act.put, List.getElem_toArray, List.getElem_cons_zero, List.getElem_cons_succ, List.setIfInBounds_toArray, List.set_cons_zero, List.set_cons_succ])
    refine anyT_done (by kernel_rfl) ?_ _
    go_wp2
    refine bodyPost_ret (v := .agg #[.slice A2 l2.length c2, .bool s]) (by simp [results, Tryz.results72, go_sem, *]) rfl ?_
    exact ⟨l2, s, A2, c2, hide (by rw [← HC.out, E2.out]; simp), rfl, C2, hide (OwQ.base (B := w.heap.size + 2) (by (repeat (first | with_reducible exact O2.out | with_reducible refine OwQ.far ?_ (by first | (simp; done) | omega | (simp; omega)) _ | with_reducible refine OwQ.allc ?_ _ | with_reducible refine OwQ.drew ?_ | with_reducible refine OwQ.drewN ?_ _))) (by omega)), belo⟩
  · have HC := hide (show sgl 2 = cnt ⟨a, s⟩ by unfold cnt; rw [if_neg (by rw [← hr]; exact h0)]; rfl)
    clear hr
    have h0 : (r != 0) = true := by simpa using h0
    go_enter Tryz.func72, Tryz.ntmps72
    go_wp2_with fail
    refine (hcall.out _ belo).mono ?_
    rintro e w1 ⟨rfl, hb⟩
    have hB1 : Below w.heap.size w w1 := Below.trans belo (hb.mono (by first | omega | (simp; done) | (simp; omega)))
    obtain ⟨kc1, kf1⟩ := bcell hb
    have hz1 := hb.size
    (try simp at hz1)
    have n1_0 : w.heap.size < w1.heap.size := by omega
    have n1_1 : w.heap.size + 1 < w1.heap.size := by omega
    have m1_0 : w1.cell? ⟨w.heap.size, 0, none⟩ = some (.slice A a.length c) := (kc1 _ _ (by first | assumption | (simp; done) | omega | (simp; omega))).trans (by first | assumption | (simp [go_sem]; done))
    have v1_0 : w1.frozen? ⟨w.heap.size, 0, none⟩ = false := (kf1 _ _ (by first | assumption | (simp; done) | omega | (simp; omega))).trans (by first | assumption | (simp [go_sem]; done))
    have m1_1 : w1.cell? ⟨w.heap.size, 1, none⟩ = some (.bool s) := (kc1 _ _ (by first | assumption | (simp; done) | omega | (simp; omega))).trans (by first | assumption | (simp [go_sem]; done))
    have v1_1 : w1.frozen? ⟨w.heap.size, 1, none⟩ = false := (kf1 _ _ (by first | assumption | (simp; done) | omega | (simp; omega))).trans (by first | assumption | (simp [go_sem]; done))
    have m1_2 : w1.cell? ⟨w.heap.size + 1, 0, none⟩ = some (.slice none 0 0) := (kc1 _ _ (by first | assumption | (simp; done) | omega | (simp; omega))).trans (by first | assumption | (simp [go_sem]; done))
    have v1_2 : w1.frozen? ⟨w.heap.size + 1, 0, none⟩ = false := (kf1 _ _ (by first | assumption | (simp; done) | omega | (simp; omega))).trans (by first | assumption | (simp [go_sem]; done))
    have m1_3 : w1.cell? ⟨w.heap.size + 1, 1, none⟩ = some (.bool false) := (kc1 _ _ (by first | assumption | (simp; done) | omega | (simp; omega))).trans (by first | assumption | (simp [go_sem]; done))
    have v1_3 : w1.frozen? ⟨w.heap.size + 1, 1, none⟩ = false := (kf1 _ _ (by first | assumption | (simp; done) | omega | (simp; omega))).trans (by first | assumption | (simp [go_sem]; done))
    clear kc1 kf1
    clear hb
    go_wp2_with fail
    go_wp2
    refine bodyPost_ret (v := .agg #[.slice (some ⟨w1.heap.size, 0, none⟩) 1 1, .bool false]) (by simp [results, Tryz.results72, go_sem, *]) rfl ?_
    exact ⟨[2], false, some ⟨w1.heap.size, 0, none⟩, 1, HC, rfl, hide ⟨Nat.le_refl _, by simp [maxLen]⟩, hide (fun _ => ⟨w1.heap.size, rfl, by omega, ⟨#[.int .u8 2], by simpa using heap_alloc_new ((w1.setCell ⟨w.heap.size + 1, 0, none⟩ (.slice (some ⟨w1.heap.size, 0, none⟩) 1 1)).setCell ⟨w.heap.size + 1, 1, none⟩ (.bool false)) (.cells #[.int .u8 2] 65), fun i hi => by obtain rfl : i = 0 := (by simpa using hi); rfl⟩⟩), belo⟩
/-- Whether two vectors are the same. -/
def sm (a b : Vc) : Bool := a.s == b.s && a.b == b.b
theorem sm_iff (a b : Vc) : sm a b = true ↔ a = b := by
  unfold sm
  rw [Bool.and_eq_true, beq_iff_eq, beq_iff_eq]
  exact ⟨fun h => Vc.ext' h.2 h.1, fun h => by rw [h]; exact ⟨rfl, rfl⟩⟩
set_option maxHeartbeats 2000000 in
theorem rsame_any' (A B : Option Addr) (a b : List Int) (c d : Nat) (s t : Bool) (w : World) (ha : a.length ≤ 4096) (hb : b.length ≤ 4096) (hA : RQ w A a) (hB : RQ w B b) :
    Calls Tryz.prog 11 #[.agg #[.slice A a.length c, .bool s], .agg #[.slice B b.length d, .bool t]] w (Mk (.bool (sm ⟨a, s⟩ ⟨b, t⟩)) w) := by
  have HA := hide hA
  have HBB := hide hB
  clear hA hB
  obtain ⟨R, hR⟩ : ∃ R, R = sm ⟨a, s⟩ ⟨b, t⟩ := ⟨_, rfl⟩
  rw [← hR]
  have HR := hide (show R = true ↔ (⟨a, s⟩ : Vc) = ⟨b, t⟩ by rw [hR]; exact sm_iff _ _)
  clear hR
  by_cases h1 : s = t
  · subst h1
    by_cases h2 : a.length = b.length
    · have HL := hide h2
      rw [← h2]
      have hE := hide (show R = true ↔ ∀ i, i < a.length → qt a i = qt b i from HR.out.trans ⟨fun h i _ => by injection h with h _; rw [h], fun h => Vc.ext' (qlist_ext h2 h) rfl⟩)
      obtain ⟨W, hW⟩ : ∃ W, W = ((w.alloc (.cells #[.slice A a.length c, .bool s] 24)).alloc (.cells #[.slice B a.length d, .bool s] 24)) := ⟨_, rfl⟩
      have RA := hide (HA.out.below (show Below w.heap.size w W by rw [hW]; exact belo))
      have RB := hide (HBB.out.below (show Below w.heap.size w W by rw [hW]; exact belo))
      have hBW : Below w.heap.size w W := by rw [hW]; exact belo
      have q0 : W.cell? ⟨w.heap.size, 0, none⟩ = some (.slice A a.length c) := by rw [hW]; simp [go_sem]
      have q1 : W.cell? ⟨w.heap.size + 1, 0, none⟩ = some (.slice B a.length d) := by rw [hW]; simp [go_sem]
      have HW := hide hW
      clear hW h2 hb
      go_enter Tryz.func11, Tryz.ntmps11
      go_wp2_with fail
      rw [← HW.out]
      clear HW
      go_loopw [5] (fun i wr => ∃ k : Nat, k ≤ a.length ∧ i = .int .i64 k ∧ Hid (∀ j, j < k → qt a j = qt b j) ∧ ∃ n, wr = W.drewN n) (fun i _ => a.length - (intOf i).toNat)
      case atStart => exact ⟨0, Nat.zero_le _, rfl, hide fun j hj => by omega, 0, rfl⟩
      case round =>
        obtain ⟨k, hk, rfl, hno, n, rfl⟩ := hrel
        by_cases hlt : k < a.length
        · obtain ⟨ad, rfl, hb, hc⟩ := RA.out.at_ hlt
          obtain ⟨bd, rfl, hb2, hc2⟩ := RB.out.at_ (i := k) (by have := HL.out; omega)
          by_cases hx : qt a k = qt b k
          · have hx' := hide hx
            rw [hx] at hc
            clear hx
            go_wp2
            go_quiet (fail)
            go_wp2
            go_roundw
            case rel => exact ⟨k + 1, by omega, by go_num, hide fun j hj => by
              by_cases e : j = k
              · subst e; exact hx'.out
              · exact hno.out j (by omega), _, rfl⟩
            case measure => simp [intOf]; omega
          · have hx1 : (qt a k != qt b k) = true := by simpa using hx
            have hx2 := hide hx
            clear hx
            go_wp2
            go_quiet (fail)
            go_wp2
            go_ret
            refine ⟨ret_bool ?_, belo⟩
            cases hr : R
            · rfl
            · exact absurd (hE.out.1 hr k hlt) hx2.out
        · go_wp2
          go_ret
          refine ⟨ret_bool ?_, belo⟩
          exact (hE.out.2 fun i hi => hno.out i (by omega)).symm
    · have hf : R = false := by
        cases hr : R
        · rfl
        · have h := HR.out.1 hr
          injection h with h _
          exact absurd (congrArg List.length h) h2
      rw [hf]
      have hl1 : ¬ (a.length : Int) = b.length := by omega
      clear HR hf
      go_enter Tryz.func11, Tryz.ntmps11
      go_wp2
      go_ret
      exact ⟨rfl, belo⟩
  · have hf : R = false := by
      cases hr : R
      · rfl
      · have h := HR.out.1 hr
        injection h with _ h
        exact absurd h h1
    rw [hf]
    have hs1 : (s != t) = true := by simpa using h1
    clear HR hf
    go_enter Tryz.func11, Tryz.ntmps11
    go_wp2
    go_ret
    exact ⟨rfl, belo⟩
end
section
open Go.RowKit
set_option maxRecDepth 100000
set_option linter.unusedSimpArgs false
set_option linter.unusedVariables false
/-- What a loop has gathered that appends to the bits of a vector of its own, in block O. -/
structure Fil (W : World) (O : Nat) (s : Bool) (l : List Int) (v : Value) (wr : World) : Prop where
  own : wr.ownsRow (O + 1) 65 1 v l.length (l.map (Value.int .u8))
  bel : Below O W wr
  siz : O + 1 ≤ wr.heap.size
  c0 : wr.cell? ⟨O, 0, none⟩ = some v
  c1 : wr.cell? ⟨O, 1, none⟩ = some (.bool s)
  f0 : wr.frozen? ⟨O, 0, none⟩ = false
  f1 : wr.frozen? ⟨O, 1, none⟩ = false
theorem Fil.start {W : World} {O : Nat} {s : Bool} (hO : O + 1 ≤ W.heap.size) (c0 : W.cell? ⟨O, 0, none⟩ = some (.slice none 0 0)) (c1 : W.cell? ⟨O, 1, none⟩ = some (.bool s)) (f0 : W.frozen? ⟨O, 0, none⟩ = false) (f1 : W.frozen? ⟨O, 1, none⟩ = false) : Fil W O s [] (.slice none 0 0) W :=
  ⟨owq_nil W _, Below.refl _ _, hO, c0, c1, f0, f1⟩
theorem Fil.keeps {W wr wa w1 : World} {O : Nat} {s : Bool} {l : List Int} {v : Value} (h : Fil W O s l v wr) (ha : Below wr.heap.size wr wa) (hb : Below (O + 1) wa w1) :
    (w1.cell? ⟨O, 0, none⟩ = some v ∧ w1.frozen? ⟨O, 0, none⟩ = false) ∧ (w1.cell? ⟨O, 1, none⟩ = some (.bool s) ∧ w1.frozen? ⟨O, 1, none⟩ = false) ∧ Below O W w1 ∧ O + 1 ≤ w1.heap.size := by
  have h1 := h.siz
  have h2 := ha.size
  have h3 := hb.size
  obtain ⟨a1, a2⟩ := bcell ha
  refine ⟨⟨?_, ?_⟩, ⟨?_, ?_⟩, ?_, by omega⟩
  · rw [hb.cell (p := ⟨O, 0, none⟩) (by simp), a1 _ _ (by omega)]; exact h.c0
  · rw [hb.frozen (p := ⟨O, 0, none⟩) (by simp), a2 _ _ (by omega)]; exact h.f0
  · rw [hb.cell (p := ⟨O, 1, none⟩) (by simp), a1 _ _ (by omega)]; exact h.c1
  · rw [hb.frozen (p := ⟨O, 1, none⟩) (by simp), a2 _ _ (by omega)]; exact h.f1
  · exact h.bel.trans ((ha.mono (by omega)).trans (hb.mono (by omega)))
theorem Fil.add {W wr wa w1 : World} {O n k : Nat} {s : Bool} {l m : List Int} {v v' : Value} (h : Fil W O s l v wr) (ha : Below wr.heap.size wr wa) (hb : Below (O + 1) wa w1)
    (hown : w1.ownsRow (O + 1) 65 1 v' (n + k) ((l ++ m).map (Value.int .u8))) : Fil W O s (l ++ m) v' (w1.setCell ⟨O, 0, none⟩ v') := by
  obtain ⟨⟨k0, k1⟩, ⟨k2, k3⟩, k4, k5⟩ := h.keeps ha hb
  have hl : n + k = (l ++ m).length := by have := hown.1; simpa using this.symm
  rw [hl] at hown
  exact ⟨ownsRow_setCell_below hown (by simp) _, k4.setCell (Nat.le_refl _) _, by simpa using k5, cset_eq k0, cset_ne (by simp) k2, fset k1, fset k3⟩
/-- What the loop has gathered, as a vector of the call's own. -/
theorem Fil.done {W wr : World} {O : Nat} {s : Bool} {l : List Int} {v : Value} (h : Fil W O s l v wr) : ∃ A c, v = .slice A l.length c ∧ Hid (l.length ≤ c ∧ c ≤ maxLen) ∧ Hid (OwQ (O + 1) wr A l) := by
  obtain ⟨A, c, e, h1, h2, h3⟩ := owq_open h.own
  exact ⟨A, c, e, hide ⟨h1, h2⟩, hide h3⟩
set_option maxHeartbeats 1000000 in
theorem rfill_any (z : Int) (n : Nat) (s : Bool) (w : World) (hn : n ≤ 4096) :
    Calls Tryz.prog 77 #[.int .u8 z, .int .i64 n, .bool s] w (RetC (· = ⟨ql n fun _ => z, s⟩) w) := by
  go_enter Tryz.func77, Tryz.ntmps77
  go_wp2_with fail
  generalize hW : World.alloc (World.alloc w _) _ = W
  have hB : Below w.heap.size w W := by rw [← hW]; exact belo
  have hF : Fil W (w.heap.size + 1) s [] (.slice none 0 0) W := by
    rw [← hW]
    exact Fil.start (by simp) (by simp [go_sem]) (by simp [go_sem]) (by simp [go_sem]) (by simp [go_sem])
  have r0 : W.cell? ⟨w.heap.size, 0, none⟩ = some (.slice none 0 0) := by rw [← hW]; simp [go_sem]
  have r1 : W.cell? ⟨w.heap.size, 1, none⟩ = some (.bool false) := by rw [← hW]; simp [go_sem]
  have g0 : W.frozen? ⟨w.heap.size, 0, none⟩ = false := by rw [← hW]; simp [go_sem]
  have g1 : W.frozen? ⟨w.heap.size, 1, none⟩ = false := by rw [← hW]; simp [go_sem]
  clear hW
  go_loopw [8] (fun i wr => ∃ (k : Nat) (v : Value), k ≤ n ∧ i = .int .i64 k ∧ Fil W (w.heap.size + 1) s (ql k fun _ => z) v wr) (fun i _ => n - (intOf i).toNat)
  case atStart => exact ⟨0, .slice none 0 0, Nat.zero_le _, rfl, hF⟩
  case round =>
    obtain ⟨k, v, hk, rfl, hR⟩ := hrel
    clear hF
    have c0 := hR.c0
    have c1 := hR.c1
    have hRH := hide hR
    clear hR
    by_cases hlt : k < n
    · go_wp2_with (at_builtin; refine wpList_append_q _ rfl _ _ rfl (w.heap.size + 1 + 1) v _ (ql k fun _ => z) rfl (hRH.out.own.alloc _) (some ⟨wr.heap.size, 0, none⟩) 1 1 [z] rfl rfl (one_rq _ _) (by rw [ql_length]; simp; omega) (by have := hRH.out.siz; simp; omega) ?_; intro v' w1 hown' hb'; obtain ⟨A', c', e', -, -, -⟩ := owq_open hown'; subst e'; obtain ⟨⟨k0, k1⟩, -⟩ := hRH.out.keeps ((Below.refl _ _).alloc (Nat.le_refl _) _) hb')
      go_roundw
      case rel => exact ⟨k + 1, _, by omega, by go_num, by rw [ql_snoc]; have h := hRH.out.add ((Below.refl _ _).alloc (Nat.le_refl _) _) hb' hown'; rw [List.length_append] at h; exact h⟩
      case measure => simp [intOf]; omega
    · have e : k = n := by omega
      subst e
      obtain ⟨l, hl⟩ : ∃ l, l = ql k fun _ => z := ⟨_, rfl⟩
      rw [← hl] at hRH
      obtain ⟨A, c, rfl, C1, O1⟩ := hRH.out.done
      obtain ⟨q1, q2⟩ := bcellW hRH.out.bel
      have d0 : wr.cell? ⟨w.heap.size, 0, none⟩ = some (.slice none 0 0) := (q1 _ _ (by omega)).trans r0
      have d1 : wr.cell? ⟨w.heap.size, 1, none⟩ = some (.bool false) := (q1 _ _ (by omega)).trans r1
      have d2 : wr.frozen? ⟨w.heap.size, 0, none⟩ = false := (q2 _ _ (by omega)).trans g0
      have d3 : wr.frozen? ⟨w.heap.size, 1, none⟩ = false := (q2 _ _ (by omega)).trans g1
      have hB2 : Below w.heap.size w wr := hB.trans (hRH.out.bel.mono (by omega))
      have HL := hide hl
      clear hl q1 q2 r0 r1 g0 g1
      go_wp2
      refine bodyPost_ret (v := .agg #[.slice A l.length c, .bool s]) (by simp [results, Tryz.results77, go_sem, *]) rfl ?_
      exact ⟨l, s, A, c, hide (by rw [HL.out]), rfl, C1, hide (OwQ.base (B := w.heap.size + 1 + 1) (by (repeat (first | with_reducible exact O1.out | with_reducible refine OwQ.far ?_ (by first | (simp; done) | omega | (simp; omega)) _ | with_reducible refine OwQ.allc ?_ _ | with_reducible refine OwQ.drew ?_ | with_reducible refine OwQ.drewN ?_ _))) (by omega)), belo⟩
end
section
open Go.RowKit
set_option maxRecDepth 100000
set_option linter.unusedSimpArgs false
set_option linter.unusedVariables false
/-- The bit that a character denotes. -/
def chB (x : Int) : Int := if x = 49 then 1 else if x = 120 then 2 else if x = 122 then 3 else 0
/-- The byte at a place. -/
def byt (s : ByteArray) (i : Nat) : Int := if h : i < s.size then (s[i]'h).toNat else 0
/-- The bits that a text denotes. -/
def ofB (s : ByteArray) : List Int := ql s.size fun i => chB (byt s (s.size - 1 - i))
set_option maxHeartbeats 1000000 in
theorem vof_any (s : ByteArray) (w : World) (hn : s.size ≤ 4096) :
    Calls Tryz.prog 61 #[.string s] w (RetC (· = ⟨ofB s, false⟩) w) := by
  obtain ⟨n, hs⟩ : ∃ n, n = s.size := ⟨_, rfl⟩
  go_enter Tryz.func61, Tryz.ntmps61
  go_wp2_with fail
  generalize hW : World.alloc (World.alloc w _) _ = W
  have hB : Below w.heap.size w W := by rw [← hW]; exact belo
  have hF : Fil W (w.heap.size + 1) false [] (.slice none 0 0) W := by
    rw [← hW]
    exact Fil.start (by simp) (by simp [go_sem]) (by simp [go_sem]) (by simp [go_sem]) (by simp [go_sem])
  have r0 : W.cell? ⟨w.heap.size, 0, none⟩ = some (.slice none 0 0) := by rw [← hW]; simp [go_sem]
  have r1 : W.cell? ⟨w.heap.size, 1, none⟩ = some (.bool false) := by rw [← hW]; simp [go_sem]
  have g0 : W.frozen? ⟨w.heap.size, 0, none⟩ = false := by rw [← hW]; simp [go_sem]
  have g1 : W.frozen? ⟨w.heap.size, 1, none⟩ = false := by rw [← hW]; simp [go_sem]
  clear hW
  have hlast : ((s.size : Int) - 1) ≤ 4096 := by omega
  have HS := hide hn
  obtain ⟨J0, hJ0⟩ : ∃ J0 : Int, J0 = (s.size : Int) - 1 := ⟨_, rfl⟩
  rw [← hJ0] at hlast ⊢
  have HJ0 := hide hJ0
  have hJm : -1 ≤ J0 := by omega
  clear hJ0 hn hs n
  go_loopw [4] (fun i wr => ∃ (k : Nat) (v : Value) (J : Int) (L : List Int), Hid (k ≤ s.size) ∧ Hid (J = (s.size : Int) - 1 - k) ∧ i = .int .i64 J ∧ Hid (L = ql k fun i => chB (byt s (s.size - 1 - i))) ∧ Fil W (w.heap.size + 1) false L v wr) (fun i _ => (intOf i + 1).toNat)
  case atStart => exact ⟨0, .slice none 0 0, J0, [], hide (Nat.zero_le _), hide (by have := HJ0.out; omega), rfl, hide rfl, hF⟩
  case round =>
    obtain ⟨k, v, J, L, HK, HJ, rfl, HL, hR⟩ := hrel
    clear hF hJm hlast HJ0
    have hJ1 : -1 ≤ J := by have := HK.out; have := HJ.out; omega
    have hJ2 : J ≤ 4096 := by have := HS.out; have := HJ.out; omega
    have HLL : Hid (L.length ≤ 4096) := hide (by rw [HL.out, ql_length]; have := HS.out; have := HK.out; omega)
    have c0 := hR.c0
    have c1 := hR.c1
    have hRH := hide hR
    clear hR
    by_cases hlt : 0 ≤ J
    · have hlen : Hid (k < s.size) := hide (by have := HJ.out; omega)
      obtain ⟨x, hx⟩ : ∃ x, x = byt s (s.size - 1 - k) := ⟨_, rfl⟩
      have HX := hide hx
      have ix : ∀ w, (Instr.index 9 (.string s) (.int .i64 J)).run Tryz.prog w = .ok (.int .u8 x) w := fun w => by
        have h1 := HJ.out
        have h2 := hlen.out
        refine Eq.trans (run_index_string w 9 s .i64 J (by kernel_rfl)) ?_
        rw [dif_pos (by omega), hx]
        unfold byt
        rw [dif_pos (by omega)]
        have e : J.toNat = s.size - 1 - k := by omega
        simp only [e]
      have hstep : ∀ z, z = chB x → L ++ [z] = ql (k + 1) fun i => chB (byt s (s.size - 1 - i)) := fun z hz => by
        rw [ql_snoc, HL.out, hz, hx]
      have HST := hide hstep
      clear hstep hx
      by_cases x49 : x = 49
      · subst x49
        go_wp2_with (at_builtin; refine wpList_append_q _ rfl _ _ rfl (w.heap.size + 1 + 1) v _ L rfl (hRH.out.own.alloc _) (some ⟨wr.heap.size, 0, none⟩) 1 1 [1] rfl rfl (one_rq _ _) (by have := HLL.out; simp; omega) (by have := hRH.out.siz; simp; omega) ?_; intro v' w1 hown' hb'; obtain ⟨A', c', e', -, -, -⟩ := owq_open hown'; subst e'; obtain ⟨⟨k0, k1⟩, -⟩ := hRH.out.keeps ((Below.refl _ _).alloc (Nat.le_refl _) _) hb')
        go_roundw
        case rel =>
          have h := hRH.out.add ((Below.refl _ _).alloc (Nat.le_refl _) _) hb' hown'
          rw [List.length_append] at h
          exact ⟨k + 1, _, J - 1, L ++ [1], hide (by have := hlen.out; omega), hide (by have := HJ.out; omega), by first | rfl | go_num, hide (HST.out _ rfl), h⟩
        case measure => simp [intOf]; omega
      · have y49 : (x == 49) = false := by simpa using x49
        by_cases x120 : x = 120
        · subst x120
          go_wp2_with (at_builtin; refine wpList_append_q _ rfl _ _ rfl (w.heap.size + 1 + 1) v _ L rfl (hRH.out.own.alloc _) (some ⟨wr.heap.size, 0, none⟩) 1 1 [2] rfl rfl (one_rq _ _) (by have := HLL.out; simp; omega) (by have := hRH.out.siz; simp; omega) ?_; intro v' w1 hown' hb'; obtain ⟨A', c', e', -, -, -⟩ := owq_open hown'; subst e'; obtain ⟨⟨k0, k1⟩, -⟩ := hRH.out.keeps ((Below.refl _ _).alloc (Nat.le_refl _) _) hb')
          go_roundw
          case rel =>
            have h := hRH.out.add ((Below.refl _ _).alloc (Nat.le_refl _) _) hb' hown'
            rw [List.length_append] at h
            exact ⟨k + 1, _, J - 1, L ++ [2], hide (by have := hlen.out; omega), hide (by have := HJ.out; omega), by first | rfl | go_num, hide (HST.out _ rfl), h⟩
          case measure => simp [intOf]; omega
        · have y120 : (x == 120) = false := by simpa using x120
          by_cases x122 : x = 122
          · subst x122
            go_wp2_with (at_builtin; refine wpList_append_q _ rfl _ _ rfl (w.heap.size + 1 + 1) v _ L rfl (hRH.out.own.alloc _) (some ⟨wr.heap.size, 0, none⟩) 1 1 [3] rfl rfl (one_rq _ _) (by have := HLL.out; simp; omega) (by have := hRH.out.siz; simp; omega) ?_; intro v' w1 hown' hb'; obtain ⟨A', c', e', -, -, -⟩ := owq_open hown'; subst e'; obtain ⟨⟨k0, k1⟩, -⟩ := hRH.out.keeps ((Below.refl _ _).alloc (Nat.le_refl _) _) hb')
            go_roundw
            case rel =>
              have h := hRH.out.add ((Below.refl _ _).alloc (Nat.le_refl _) _) hb' hown'
              rw [List.length_append] at h
              exact ⟨k + 1, _, J - 1, L ++ [3], hide (by have := hlen.out; omega), hide (by have := HJ.out; omega), by first | rfl | go_num, hide (HST.out _ rfl), h⟩
            case measure => simp [intOf]; omega
          · have y122 : (x == 122) = false := by simpa using x122
            have HW := hide (show (0 : Int) = chB x by unfold chB; rw [if_neg x49, if_neg x120, if_neg x122])
            clear x49 x120 x122
            go_wp2_with (at_builtin; refine wpList_append_q _ rfl _ _ rfl (w.heap.size + 1 + 1) v _ L rfl (hRH.out.own.alloc _) (some ⟨wr.heap.size, 0, none⟩) 1 1 [0] rfl rfl (one_rq _ _) (by have := HLL.out; simp; omega) (by have := hRH.out.siz; simp; omega) ?_; intro v' w1 hown' hb'; obtain ⟨A', c', e', -, -, -⟩ := owq_open hown'; subst e'; obtain ⟨⟨k0, k1⟩, -⟩ := hRH.out.keeps ((Below.refl _ _).alloc (Nat.le_refl _) _) hb')
            go_roundw
            case rel =>
              have h := hRH.out.add ((Below.refl _ _).alloc (Nat.le_refl _) _) hb' hown'
              rw [List.length_append] at h
              exact ⟨k + 1, _, J - 1, L ++ [0], hide (by have := hlen.out; omega), hide (by have := HJ.out; omega), by first | rfl | go_num, hide (HST.out _ HW.out), h⟩
            case measure => simp [intOf]; omega
    · have e : J = -1 := by omega
      subst e
      obtain ⟨A, c, rfl, C1, O1⟩ := hRH.out.done
      obtain ⟨q1, q2⟩ := bcellW hRH.out.bel
      have d0 : wr.cell? ⟨w.heap.size, 0, none⟩ = some (.slice none 0 0) := (q1 _ _ (by omega)).trans r0
      have d1 : wr.cell? ⟨w.heap.size, 1, none⟩ = some (.bool false) := (q1 _ _ (by omega)).trans r1
      have d2 : wr.frozen? ⟨w.heap.size, 0, none⟩ = false := (q2 _ _ (by omega)).trans g0
      have d3 : wr.frozen? ⟨w.heap.size, 1, none⟩ = false := (q2 _ _ (by omega)).trans g1
      have hB2 : Below w.heap.size w wr := hB.trans (hRH.out.bel.mono (by omega))
      have HE : Hid (L = ofB s) := hide (by have h1 := HJ.out; rw [HL.out, show k = s.size by omega]; rfl)
      clear q1 q2 r0 r1 g0 g1
      go_wp2
      refine bodyPost_ret (v := .agg #[.slice A L.length c, .bool false]) (by simp [results, Tryz.results61, go_sem, *]) rfl ?_
      exact ⟨L, false, A, c, hide (by rw [HE.out]), rfl, C1, hide (OwQ.base (B := w.heap.size + 1 + 1) (by (repeat (first | with_reducible exact O1.out | with_reducible refine OwQ.far ?_ (by first | (simp; done) | omega | (simp; omega)) _ | with_reducible refine OwQ.allc ?_ _ | with_reducible refine OwQ.drew ?_ | with_reducible refine OwQ.drewN ?_ _))) (by omega)), belo⟩
end
section
set_option maxRecDepth 100000
/-- A vector is refined by another: both are valid, of one width and sign, and each bit is refined. -/
structure Rf (a c : Vc) : Prop where
  ga : Gd a.b
  gc : Gd c.b
  s : a.s = c.s
  n : a.b.length = c.b.length
  le : ∀ i, mLeq (qt a.b i) (qt c.b i) = true
section
variable {a b c d : Vc}
theorem Rf.ca (h : Rf a c) : cnt a = a := cnt_of_gd h.ga
theorem Rf.cc (h : Rf a c) : cnt c = c := cnt_of_gd h.gc
end
end
section
open Go.RowKit
set_option maxRecDepth 100000
set_option linter.unusedSimpArgs false
set_option linter.unusedVariables false
theorem wpList_make_bvo (w : World) {ops : Array Oper} {rest : List Oper} {o : Oper} {a : Act} {Q : Exit → Act → World → Prop} (hg : o.guard = none) (x y : Operand) (hop : o.op = Op.makeSlice 82 x y)
    (L C : Int) (n : Nat) (hl : a.eval x = .int .i64 L) (hc : a.eval y = .int .i64 C) (hL : L = n) (hC : C = n) (hn : n ≤ 4096)
    (hK : ∀ w', w'.ownsRow w.heap.size 4 1 (.slice (some ⟨w.heap.size, 0, none⟩) n n) n ((bl n fun _ => false).map Value.bool) → Below w.heap.size w w' → wpList Tryz.prog ops Q rest (a.put o.dst (.slice (some ⟨w.heap.size, 0, none⟩) n n)) w') :
    wpList Tryz.prog ops Q (o :: rest) a w := by
  obtain ⟨i0, hi, hz0, hz1, hz2⟩ := info_parts bool_info
  refine wpList_make_full w hg x y 82 hop w.heap.size 4 i0 (.bool false) 1 Tryz.underlying82 hi hz0 hz1 .i64 .i64 L C n hl hc hL hC (by rw [hz2]; omega) (by simp only [maxLen]; omega) (Nat.le_refl _) ?_
  intro w' hown hgrow
  have hlen : (madeCells (Value.bool false).cells (n * 1)).toList = (bl n fun _ => false).map Value.bool := by
    rw [Nat.mul_one, show (Value.bool false).cells = #[.bool false] from rfl, toList_madeCells_one]
    unfold bl
    apply List.ext_getElem (by simp)
    intro i h1 h2
    simp
  rw [hlen] at hown
  exact hK w' hown ((Below.refl _ _).grown hgrow (Nat.le_refl _) (fun k hk => by cases hk))
/-- A round of a loop that fills a number which may be appended to. -/
structure FillO (w : World) (n k : Nat) (f : Nat → Bool) (wr : World) : Prop where
  row : wr.ownsRow w.heap.size 4 1 (.slice (some ⟨w.heap.size, 0, none⟩) n n) n ((bl n (Par k f)).map Value.bool)
  bel : Below w.heap.size w wr
theorem FillO.step {w wr : World} {n k : Nat} {f : Nat → Bool} (h : FillO w n k f wr) (hk : k < n) : FillO w n (k + 1) f (wr.setCell ⟨w.heap.size, k, none⟩ (.bool (f k))) where
  row := by
    have h1 := h.row.stored k (.bool (f k))
    have e : (((bl n (Par k f)).map Value.bool).set k (.bool (f k))) = (bl n (Par (k + 1) f)).map Value.bool := by
      apply List.ext_getElem (by simp [bl])
      intro i h1 h2
      have hi : i < n := by simpa [bl] using h2
      rw [List.getElem_set]
      simp only [bl, List.getElem_map, List.getElem_range]
      rw [← Par.step k f i]
      by_cases e : k = i
      · subst e; simp
      · rw [if_neg e, if_neg (fun h => e h.symm)]
    rw [e] at h1
    exact h1.1
  bel := h.bel.setCell (by simp) _
set_option maxHeartbeats 1000000 in
theorem number_o (A : Option Addr) (a : List Int) (c : Nat) (w : World) (ha : a.length ≤ 4096) (hA : RQ w A a) :
    Calls Tryz.prog 117 #[.slice A a.length c] w fun e w' => ∃ g, e = .returned (.slice (some ⟨g, 0, none⟩) a.length a.length) ∧ Hid (w'.ownsRow w.heap.size 4 1 (.slice (some ⟨g, 0, none⟩) a.length a.length) a.length ((nb a).map Value.bool)) ∧ Below w.heap.size w w' := by
  have HA := hide hA
  clear hA
  go_enter Tryz.func117, Tryz.ntmps117
  go_wp2_with (at_make; refine wpList_make_bvo _ rfl _ _ rfl _ _ a.length rfl rfl rfl rfl ha ?_; intro w1 hr1 hb1)
  go_loopw [11] (fun i wr => ∃ k : Nat, k ≤ a.length ∧ i = .int .i64 k ∧ FillO w a.length k (fun i => decide (qt a i = 1)) wr) (fun i _ => a.length - (intOf i).toNat)
  case atStart => exact ⟨0, Nat.zero_le _, rfl, ⟨by rw [show bl a.length (Par 0 fun i => decide (qt a i = 1)) = bl a.length fun _ => false from bl_congr fun i _ => by simp [Par]]; exact hr1, hb1⟩⟩
  case round =>
    obtain ⟨k, hk, rfl, hR⟩ := hrel
    clear hr1 hb1
    by_cases hlt : k < a.length
    · have hRH := hide hR
      have hcg : ∃ v, wr.cell? ⟨w.heap.size, k, none⟩ = some v := by
        rw [hR.row.cellAt k (by omega), List.getElem?_map, List.getElem?_eq_getElem (by rw [bl_length]; exact hlt)]
        exact ⟨_, rfl⟩
      obtain ⟨v, hcg⟩ := hcg
      have hf : wr.frozen? ⟨w.heap.size, k, none⟩ = false := hR.row.frozenAt k
      obtain ⟨ad, rfl, hlt1, hc⟩ := (HA.out.below hR.bel).at_ hlt
      clear hR
      go_wp2
      go_roundw
      case rel => exact ⟨k + 1, by omega, by go_num, hRH.out.step hlt⟩
      case measure => simp [intOf]; omega
    · have hRH := hide hR
      clear hR
      go_wp2
      go_ret
      have e : k = a.length := by omega
      subst e
      refine ⟨w.heap.size, rfl, hide ?_, hRH.out.bel⟩
      have h := hRH.out.row
      rw [show bl a.length (Par a.length fun i => decide (qt a i = 1)) = nb a from bl_congr fun i hi => by simp [Par, hi]] at h
      exact h
/-- The number of a vector: an unsigned one has a 0 in front. -/
def nx (l : List Int) (s : Bool) : List Bool := if s then nb l else nb l ++ [false]
/-- What Int answers. -/
def IntV (a : Vc) (e : Ending) : Prop := if kn (cnt a).b then IntA (nx (cnt a).b (cnt a).s) e else e = .returned (.tuple #[.int .i64 0, .bool false])
set_option maxHeartbeats 1000000 in
theorem vInt_any (A : Option Addr) (a : List Int) (c : Nat) (s : Bool) (w : World) (ha : a.length ≤ 4096) (hca : Hid (a.length ≤ c ∧ c ≤ maxLen)) (hA : RQ w A a) (ya : By a) :
    Calls Tryz.prog 36 #[.agg #[.slice A a.length c, .bool s]] w fun e w' => IntV ⟨a, s⟩ e ∧ Below w.heap.size w w' := by
  have HA := hide hA
  have LA := hide ha
  have YA := hide ya
  clear hA ha ya
  go_enter Tryz.func36, Tryz.ntmps36
  go_wp2_with fail
  refine (counted_any A a c s w _ LA.out hca HA.out belo).mono ?_
  rintro e w1 ⟨l1, s1, A1, c1, E1, rfl, C1, O1, hb⟩
  replace O1 := hide (O1.out.lower (show w.heap.size + 1 ≤ _ by first | omega | (simp; omega) | (simp; done)))
  have hB1 : Below w.heap.size w w1 := Below.trans belo (hb.mono (by first | omega | (simp; done) | (simp; omega)))
  obtain ⟨kc1, kf1⟩ := bcell hb
  have hz1 := hb.size
  (try simp at hz1)
  have n1_0 : w.heap.size < w1.heap.size := by omega
  clear hb
  have m1_0 : w1.cell? ⟨w.heap.size, 0, none⟩ = some (.slice A a.length c) := (kc1 _ _ (by first | assumption | (simp; done) | omega | (simp; omega))).trans (by first | assumption | (simp [go_sem]; done))
  have v1_0 : w1.frozen? ⟨w.heap.size, 0, none⟩ = false := (kf1 _ _ (by first | assumption | (simp; done) | omega | (simp; omega))).trans (by first | assumption | (simp [go_sem]; done))
  have m1_1 : w1.cell? ⟨w.heap.size, 1, none⟩ = some (.bool s) := (kc1 _ _ (by first | assumption | (simp; done) | omega | (simp; omega))).trans (by first | assumption | (simp [go_sem]; done))
  have v1_1 : w1.frozen? ⟨w.heap.size, 1, none⟩ = false := (kf1 _ _ (by first | assumption | (simp; done) | omega | (simp; omega))).trans (by first | assumption | (simp [go_sem]; done))
  have G1 : Gd l1 := by have h := cnt_gd (v := ⟨a, s⟩) YA.out; rw [← E1.out] at h; exact h
  have HG1 := hide G1
  have u1 := G1.le
  have p1 := G1.pos
  clear G1
  go_wp2_with fail
  obtain ⟨V, hV⟩ : ∃ x, x = ((w1.setCell ⟨w.heap.size, 0, none⟩ (.slice A1 l1.length c1)).setCell ⟨w.heap.size, 1, none⟩ (.bool s1)) := ⟨_, rfl⟩
  rw [← hV]
  have hBV : Below w.heap.size w V := by rw [hV]; exact belo
  have qV0_0 : V.cell? ⟨w.heap.size, 0, none⟩ = some (.slice A1 l1.length c1) := by rw [hV]; (repeat (first | with_reducible refine cset_eq' ?_ | with_reducible refine cset_ne (by first | (simp; done) | (simp; omega)) ?_ | with_reducible refine cset_ex ?_ | exact ⟨_, by assumption⟩ | assumption))
  have jV0_0 : V.frozen? ⟨w.heap.size, 0, none⟩ = false := by rw [hV]; (repeat (first | with_reducible refine fset ?_ | assumption))
  have qV0_1 : V.cell? ⟨w.heap.size, 1, none⟩ = some (.bool s1) := by rw [hV]; (repeat (first | with_reducible refine cset_eq' ?_ | with_reducible refine cset_ne (by first | (simp; done) | (simp; omega)) ?_ | with_reducible refine cset_ex ?_ | exact ⟨_, by assumption⟩ | assumption))
  have jV0_1 : V.frozen? ⟨w.heap.size, 1, none⟩ = false := by rw [hV]; (repeat (first | with_reducible refine fset ?_ | assumption))
  have nV_0 : w.heap.size < V.heap.size := by rw [hV]; simp; omega
  replace O1 := hide (show RG w.heap.size (w.heap.size + 1) V A1 l1 by rw [hV]; (repeat (first | with_reducible exact O1.out | with_reducible refine RG.setc ?_ (by first | (simp; done) | omega | (simp; omega)) (by first | (simp; done) | omega | (simp; omega)) _ | with_reducible refine RG.allc ?_ _ | with_reducible refine RG.drew ?_ | with_reducible refine RG.drewN ?_ _)))
  clear hV kc1 kf1
  have k1 := hide fun W (hW : Below V.heap.size V W) => known_any A1 l1 c1 W (by omega) (O1.out.rd.below hW)
  cases hk : kn l1
  · rw [hk] at k1
    have HK := hide hk
    clear hk
    go_wp2_with fail
    refine (k1.out _ belo).mono ?_
    rintro e w' ⟨rfl, rfl⟩
    go_wp2
    go_ret2
    exact ⟨by unfold IntV; rw [← E1.out, if_neg (by rw [HK.out]; decide)]; rfl, belo⟩
  · rw [hk] at k1
    have HK := hide hk
    clear hk
    go_wp2_with fail
    refine (k1.out _ belo).mono ?_
    rintro e w' ⟨rfl, rfl⟩
    go_wp2_with fail
    refine (number_o A1 l1 c1 _ (by omega) (by exact O1.out.rd)).mono ?_
    rintro e w2 ⟨g, rfl, ho, hb⟩
    replace O1 := hide ((show RG w.heap.size (w.heap.size + 1) _ A1 l1 by (repeat (first | with_reducible exact O1.out | with_reducible refine RG.setc ?_ (by first | (simp; done) | omega | (simp; omega)) (by first | (simp; done) | omega | (simp; omega)) _ | with_reducible refine RG.allc ?_ _ | with_reducible refine RG.drew ?_ | with_reducible refine RG.drewN ?_ _))).kept hb)
    have hB2 : Below w.heap.size w w2 := Below.trans belo (hb.mono (by first | omega | (simp; done) | (simp; omega)))
    obtain ⟨kc2, kf2⟩ := bcell hb
    have hz2 := hb.size
    (try simp at hz2)
    have n2_0 : w.heap.size < w2.heap.size := by omega
    have m2_0 : w2.cell? ⟨w.heap.size, 0, none⟩ = some (.slice A1 l1.length c1) := (kc2 _ _ (by first | assumption | (simp; done) | omega | (simp; omega))).trans (by first | assumption | (simp [go_sem]; done))
    have v2_0 : w2.frozen? ⟨w.heap.size, 0, none⟩ = false := (kf2 _ _ (by first | assumption | (simp; done) | omega | (simp; omega))).trans (by first | assumption | (simp [go_sem]; done))
    have m2_1 : w2.cell? ⟨w.heap.size, 1, none⟩ = some (.bool s1) := (kc2 _ _ (by first | assumption | (simp; done) | omega | (simp; omega))).trans (by first | assumption | (simp [go_sem]; done))
    have v2_1 : w2.frozen? ⟨w.heap.size, 1, none⟩ = false := (kf2 _ _ (by first | assumption | (simp; done) | omega | (simp; omega))).trans (by first | assumption | (simp [go_sem]; done))
    clear kc2 kf2
    clear hb
    cases s1
    · go_wp2_with (at_builtin; refine wpList_append_bv _ rfl _ _ rfl V.heap.size _ _ (nb l1) rfl (ho.out.alloc _) (some ⟨w2.heap.size, 0, none⟩) 1 1 [false] rfl rfl (one_rd _ _) (by rw [nb_length]; simp; omega) (by first | omega | (simp; omega)) ?_; intro v' w3 hown hb3; obtain ⟨A', c', e, h1, h2, h3⟩ := own_open hown; obtain ⟨z, hz⟩ : ∃ z, z = nb l1 ++ [false] := ⟨_, rfl⟩; rw [← hz] at e h3; subst e; have H3 := hide h3.rd; have hzl : z.length ≤ 4096 := (by rw [hz]; simp [nb_length]; omega); have HZ := hide hz; have hB3 : Below w.heap.size w w3 := Below.trans belo (hb3.mono (by first | omega | (simp; omega))); clear h1 h2 h3 hown hz hb3)
      refine (int_any A' z c' w3 hzl H3.out).mono ?_
      rintro e w' ⟨he, rfl⟩
      have HE : IntV ⟨a, s⟩ e := by unfold IntV; rw [← E1.out, if_pos HK.out]; unfold nx; rw [if_neg Bool.false_ne_true, ← HZ.out]; exact he
      unfold IntA at he
      rcases he with ⟨_, _, rfl⟩ | ⟨_, rfl⟩
      · go_wp2
        go_ret2
        exact ⟨HE, belo⟩
      · go_wp2
        go_ret2
        exact ⟨HE, belo⟩
    · go_wp2_with fail
      have hl : (nb l1).length = l1.length := nb_length _
      obtain ⟨z, hz⟩ : ∃ z, z = nb l1 := ⟨_, rfl⟩
      rw [← hz] at hl ho
      have HZ := hide hz
      clear hz
      have h3 : Rd w2 (some ⟨g, 0, none⟩) z := by
        have h := own_open (l := z) ho.out
        obtain ⟨A3, c3, e, _, _, h3⟩ := h
        rw [hl] at e
        injection e with e1 _ _
        rw [e1]; exact h3.rd
      have hcall := hide (int_any (some ⟨g, 0, none⟩) z l1.length w2 (by omega) h3)
      rw [hl] at hcall
      clear hl h3 ho
      refine (hcall.out).mono ?_
      rintro e w' ⟨he, rfl⟩
      have HE : IntV ⟨a, s⟩ e := by unfold IntV; rw [← E1.out, if_pos HK.out]; unfold nx; rw [if_pos rfl, ← HZ.out]; exact he
      unfold IntA at he
      rcases he with ⟨_, _, rfl⟩ | ⟨_, rfl⟩
      · go_wp2
        go_ret2
        exact ⟨HE, belo⟩
      · go_wp2
        go_ret2
        exact ⟨HE, belo⟩
end
section
open Go.RowKit
set_option maxRecDepth 100000
set_option linter.unusedSimpArgs false
set_option linter.unusedVariables false
/-- A slice of bools in a row of the call's own, whatever it holds. -/
def Bls (B g : Nat) (w : World) (x : Option Addr × Nat × Nat) : Prop := 0 < x.2.1 → ∃ gi F, x.1 = some ⟨gi, 0, none⟩ ∧ B ≤ gi ∧ gi ≠ g ∧ RowF w gi x.2.1 F
theorem Bls.stored {B g : Nat} {w : World} {x : Option Addr × Nat × Nat} (h : Bls B g w x) (gj k : Nat) (v : Bool) : Bls B g (w.setCell ⟨gj, k, none⟩ (.bool v)) x := fun hn => by
  obtain ⟨gi, F, e, h1, h2, h3⟩ := h hn
  by_cases hg : gi = gj
  · subst hg; exact ⟨gi, _, e, h1, h2, h3.set_ k v⟩
  · exact ⟨gi, F, e, h1, h2, h3.far (by simpa using hg) _⟩
structure SpR (B g : Nat) (vs : List (Option Addr × Nat × Nat)) (w wr : World) : Prop where
  sls : Sls wr g vs
  bls : ∀ i (h : i < vs.length), Bls B g wr vs[i]
  bel : Below B w wr
theorem SpR.stored {B g : Nat} {vs : List (Option Addr × Nat × Nat)} {w wr : World} (h : SpR B g vs w wr) {gj k : Nat} (hB : B ≤ gj) (hg : gj ≠ g) (v : Bool) : SpR B g vs w (wr.setCell ⟨gj, k, none⟩ (.bool v)).drew where
  sls := fun i hi => by
    show (wr.setCell _ _).cell? _ = _
    rw [World.cell?_setCell_other _ _ _ _ (by intro e; injection e; omega)]
    exact h.sls i hi
  bls := fun i hi => (h.bls i hi).stored gj k v
  bel := (h.bel.setCell (by simpa using hB) _).drew
end
section
open Go.RowKit
set_option maxRecDepth 100000
set_option linter.unusedSimpArgs false
set_option linter.unusedVariables false
/-- What the loop of a comparing statement keeps. -/
structure MR (w : World) (A B X Y : Option Addr) (a b x y : List Bool) (wr : World) : Prop where
  ra : Rd wr A a
  rb : Rd wr B b
  rx : Rd wr X x
  ry : Rd wr Y y
  bel : Below w.heap.size w wr
theorem MR.next {w wr w' : World} {A B X Y : Option Addr} {a b x y : List Bool} (h : MR w A B X Y a b x y wr) (hb : Below wr.heap.size wr w') : MR w A B X Y a b x y w' :=
  ⟨h.ra.below hb, h.rb.below hb, h.rx.below hb, h.ry.below hb, h.bel.trans (hb.mono h.bel.size)⟩
end
section
set_option maxRecDepth 100000
set_option linter.unusedSectionVars false
section
variable {a b : Vc}
end
section
variable {a b : Vc} (ha : By a.b) (hb : By b.b)
include ha hb
end
/-- The bits of a concatenation: the last vector gives the lowest ones. -/
def cats (l : List Vc) : List Int := (l.reverse.map fun v => (cnt v).b).flatten
/-- The error of Concat. -/
def cte (l : List Vc) : Int := if l = [] then 4 else if 128 < (cats l).length then 12 else 0
theorem cats_cons (v : Vc) (l : List Vc) : cats (v :: l) = cats l ++ (cnt v).b := by unfold cats; simp
theorem qt_app (l m : List Int) (i : Nat) : qt (l ++ m) i = if i < l.length then qt l i else qt m (i - l.length) := by
  unfold qt
  rw [List.getD_eq_getElem?_getD, List.getElem?_append]
  split <;> rw [List.getD_eq_getElem?_getD]
theorem IntV_val {v : Vc} {e : Ending} {z : Int} (h : IntV v e) (hk : kn (cnt v).b = true) (hz : sv (nx (cnt v).b (cnt v).s) = z) (h1 : -9223372036854775808 ≤ z) (h2 : z ≤ 9223372036854775807) : e = .returned (.tuple #[.int .i64 z, .bool true]) := by
  unfold IntV at h
  rw [if_pos hk] at h
  rcases h with ⟨_, _, rfl⟩ | ⟨h3, rfl⟩
  · rw [hz]
  · rw [hz] at h3; exact absurd ⟨h1, h2⟩ h3
end
section
open Go.RowKit
set_option maxRecDepth 100000
set_option linter.unusedSimpArgs false
set_option linter.unusedVariables false
/-- A vector in memory: where its bits lie, the bits, the capacity, the sign. -/
abbrev Va := Option Addr × List Int × Nat × Bool
def vcs (vs : List Va) : List Vc := vs.map fun x => ⟨x.2.1, x.2.2.2⟩
/-- A row of vectors, each of which reads as bits. -/
structure Vrow (w : World) (g : Nat) (vs : List Va) : Prop where
  c0 : ∀ i (h : i < vs.length), w.cell? ⟨g, i * 2, none⟩ = some (.slice vs[i].1 vs[i].2.1.length vs[i].2.2.1)
  c1 : ∀ i (h : i < vs.length), w.cell? ⟨g, i * 2 + 1, none⟩ = some (.bool vs[i].2.2.2)
  rd : ∀ i (h : i < vs.length), RQ w vs[i].1 vs[i].2.1
  by_ : ∀ i (h : i < vs.length), By vs[i].2.1
  le : ∀ i (h : i < vs.length), vs[i].2.1.length ≤ 4096
  cp : ∀ i (h : i < vs.length), Hid (vs[i].2.1.length ≤ vs[i].2.2.1 ∧ vs[i].2.2.1 ≤ maxLen)
/-- Bits that a loop has gathered in a slice of its own. -/
structure OwnT (W : World) (v : Value) (l : List Int) (wr : World) : Prop where
  own : wr.ownsRow W.heap.size 65 1 v l.length (l.map (Value.int .u8))
  bel : Below W.heap.size W wr
theorem cats_drop {vs : List Va} {m : Nat} (h : m < vs.length) : cats (vcs (vs.drop m)) = cats (vcs (vs.drop (m + 1))) ++ (cnt ⟨vs[m].2.1, vs[m].2.2.2⟩).b := by
  rw [List.drop_eq_getElem_cons h]
  unfold vcs
  rw [List.map_cons, cats_cons]
theorem cats_le (vs : List Va) : ∀ m, (cats (vcs (vs.drop m))).length ≤ (cats (vcs vs)).length
  | 0 => Nat.le_refl _
  | m + 1 => by
    refine Nat.le_trans ?_ (cats_le vs m)
    rcases Nat.lt_or_ge m vs.length with h | h
    · rw [cats_drop h, List.length_append]; omega
    · rw [List.drop_eq_nil_of_le (show vs.length ≤ m + 1 by omega)]; show (cats (vcs ([] : List Va))).length ≤ _; exact Nat.zero_le _
theorem vcs_nil {vs : List Va} : vcs vs = [] ↔ vs = [] := by unfold vcs; simp
set_option maxHeartbeats 1000000 in
theorem vConcat_any (g c : Nat) (vs : List Va) (w : World) (hg : g < w.heap.size) (h0 : 0 < vs.length) (hn : vs.length ≤ 4096) (hv : Vrow w g vs) :
    Calls Tryz.prog 25 #[.slice (some ⟨g, 0, none⟩) vs.length c] w (RetE (cte (vcs vs)) ⟨cats (vcs vs), false⟩ w) := by
  have HV := hide hv
  clear hv
  have HT := hide (cats_le vs)
  have hfld := fld0
  have h0b : ((vs.length : Int) == 0) = false := by rw [beq_eq_false_iff_ne]; omega
  obtain ⟨e0, he0⟩ : ∃ e0, e0 = cte (vcs vs) := ⟨_, rfl⟩
  rw [← he0]
  have HE0 : Hid (e0 = if 128 < (cats (vcs vs)).length then 12 else 0) := hide (by
    rw [he0]; unfold cte
    rw [if_neg fun h => by rw [vcs_nil.1 h] at h0; exact absurd h0 (by simp)])
  clear he0
  go_enter Tryz.func25, Tryz.ntmps25
  go_wp2_with fail
  generalize hW : World.alloc w _ = W
  have hBW : Below w.heap.size w W := by rw [← hW]; exact belo
  have hz : W.heap.size = w.heap.size + 1 := by rw [← hW]; simp
  have r0 : W.cell? ⟨w.heap.size, 0, none⟩ = some (.slice none 0 0) := by rw [← hW]; simp [go_sem]
  have r1 : W.cell? ⟨w.heap.size, 1, none⟩ = some (.bool false) := by rw [← hW]; simp [go_sem]
  have g0 : W.frozen? ⟨w.heap.size, 0, none⟩ = false := by rw [← hW]; simp [go_sem]
  have g1 : W.frozen? ⟨w.heap.size, 1, none⟩ = false := by rw [← hW]; simp [go_sem]
  clear hW
  go_loopw [4, 5] (fun v i wr => ∃ (m : Nat) (L : List Int), m ≤ vs.length ∧ i = .int .i64 ((m : Int) - 1) ∧ Hid (L = cats (vcs (vs.drop m))) ∧ Hid (L.length ≤ 128) ∧ OwnT W v L wr) (fun _ i _ => (intOf i + 1).toNat)
  case atStart => exact ⟨vs.length, [], Nat.le_refl _, rfl, hide (by rw [List.drop_length]; rfl), hide (by simp), ⟨owq_nil _ _, Below.refl _ _⟩⟩
  case round =>
    obtain ⟨m, L, hm, rfl, HL, HL2, hR⟩ := hrel
    have hRH := hide hR
    have hB2 : Below w.heap.size w wr := hBW.trans (hR.bel.mono (by omega))
    obtain ⟨q1, q2⟩ := bcell hR.bel
    have d0 : wr.cell? ⟨w.heap.size, 0, none⟩ = some (.slice none 0 0) := (q1 _ _ (by omega)).trans r0
    have d1 : wr.cell? ⟨w.heap.size, 1, none⟩ = some (.bool false) := (q1 _ _ (by omega)).trans r1
    have d2 : wr.frozen? ⟨w.heap.size, 0, none⟩ = false := (q2 _ _ (by omega)).trans g0
    have d3 : wr.frozen? ⟨w.heap.size, 1, none⟩ = false := (q2 _ _ (by omega)).trans g1
    have hzr : w.heap.size < wr.heap.size := by have := hR.bel.size; omega
    clear hR q1 q2
    rcases m with _ | m
    · rw [show (((0 : Nat) : Int) - 1) = -1 from rfl]
      have HF := hide (show L = cats (vcs vs) from HL.out)
      have hown := hRH.out.own
      obtain ⟨A', c', e', k1, k2, o'⟩ := owq_open hown
      subst e'
      have HC := hide (And.intro k1 k2)
      have HO := hide o'
      have HE := hide (show e0 = 0 by rw [HE0.out, if_neg (by rw [← HF.out]; have := HL2.out; omega)])
      clear hown k1 k2 o' r0 r1 g0 g1
      go_wp2
      refine bodyPost_ret (v := .tuple #[.agg #[.slice A' L.length c', .bool false], .int .i64 0]) (by simp [results, Tryz.results25, go_sem, *]) rfl ?_
      rw [HE.out]
      exact ⟨L, false, A', c', hide (by rw [if_pos rfl, HF.out]), rfl, HC, hide (OwQ.base (B := W.heap.size) (by refine OwQ.far (OwQ.far HO.out (by simp; omega) _) (by simp; omega) _) (by omega)), belo⟩
    · rw [show (((m + 1 : Nat) : Int) - 1) = m by omega]
      have hlt : m < vs.length := by omega
      obtain ⟨⟨A, a, d, s⟩, hx⟩ : ∃ x, x = vs[m] := ⟨_, rfl⟩
      have hc0 := (hB2.cell (p := ⟨g, m * 2, none⟩) hg).trans (HV.out.c0 m hlt)
      have hc1 := (hB2.cell (p := ⟨g, m * 2 + 1, none⟩) hg).trans (HV.out.c1 m hlt)
      have hrq := HV.out.rd m hlt
      have hby := HV.out.by_ m hlt
      have hle := HV.out.le m hlt
      have hcp := HV.out.cp m hlt
      have HD := hide (cats_drop hlt)
      rw [← hx] at hc0 hc1 hrq hby hle hcp HD
      simp only at hc0 hc1 hrq hby hle hcp HD
      have HQ := hide hrq
      have HBY := hide hby
      clear hx hrq hby r0 r1 g0 g1
      go_wp2_with fail
      refine (counted_any A a d s w _ hle hcp HQ.out hB2).mono ?_
      rintro e w1 ⟨l1, s1, A1, c1, E1, rfl, C1, O1, hb⟩
      have hB3 : Below w.heap.size w w1 := hB2.trans (hb.mono (by omega))
      obtain ⟨q1, q2⟩ := bcell hb
      have d10 : w1.cell? ⟨w.heap.size, 0, none⟩ = some (.slice none 0 0) := (q1 _ _ hzr).trans d0
      have d11 : w1.cell? ⟨w.heap.size, 1, none⟩ = some (.bool false) := (q1 _ _ hzr).trans d1
      have d12 : w1.frozen? ⟨w.heap.size, 0, none⟩ = false := (q2 _ _ hzr).trans d2
      have d13 : w1.frozen? ⟨w.heap.size, 1, none⟩ = false := (q2 _ _ hzr).trans d3
      have G1 : Gd l1 := by have h := cnt_gd (v := ⟨a, s⟩) HBY.out; rw [← E1.out] at h; exact h
      have HG1 := hide G1
      have hzb := hb.size
      have hz1 : w.heap.size < w1.heap.size := by omega
      have hown := hide (ownsRow_kept hRH.out.own hb)
      have hbW := hide (hRH.out.bel.trans (hb.mono hRH.out.bel.size))
      have HL3 : Hid (cats (vcs (List.drop m vs)) = L ++ l1) := hide (by rw [HD.out, HL.out, ← E1.out])
      clear hb q1 q2 d0 d1 d2 d3 hB2 hRH HD HL E1 hc0 hc1 hcp G1 hzb hzr HQ HBY hle
      go_wp2_with (at_builtin; go_must (refine wpList_append_q _ rfl _ _ rfl W.heap.size _ _ L rfl hown.out A1 l1.length c1 l1 rfl rfl O1.out.rd (by have := HL2.out; have := HG1.out.le; omega) (hbW.out.size) ?_; intro v' w2 hown' hb'; obtain ⟨l2, hl2⟩ : ∃ z, z = L ++ l1 := ⟨_, rfl⟩; rw [← hl2] at hown'; obtain ⟨A2, c2, e', k1, k2, o2⟩ := owq_open hown'; subst e'; have HO2 := hide (And.intro hown' o2); have C2 := hide (And.intro k1 k2); have HL4 := hide hl2; have HB4 := hide hb'; obtain ⟨q1, q2⟩ := bcellW hb'; have d20 : w2.cell? ⟨w.heap.size, 0, none⟩ = some (.slice none 0 0) := (q1 _ _ (by omega)).trans d10; have d21 : w2.cell? ⟨w.heap.size, 1, none⟩ = some (.bool false) := (q1 _ _ (by omega)).trans d11; have d22 : w2.frozen? ⟨w.heap.size, 0, none⟩ = false := (q2 _ _ (by omega)).trans d12; have d23 : w2.frozen? ⟨w.heap.size, 1, none⟩ = false := (q2 _ _ (by omega)).trans d13; have hB5 : Below w.heap.size w w2 := hB3.trans (hb'.mono (by omega)); have hz2 : w.heap.size < w2.heap.size := Nat.lt_of_lt_of_le hz1 hb'.size; have hm2 : l2.length ≤ 4096 := (by rw [hl2, List.length_append]; have := HL2.out; have := HG1.out.le; omega); clear hown' o2 k1 k2 hl2 hb' q1 q2 d10 d11 d12 d13 hB3 hz1 hown))
      · have hh : 128 < l2.length := by omega
        have HE := hide (show e0 = 12 by
          rw [HE0.out, if_pos]
          have h1 := HT.out m
          rw [HL3.out, ← HL4.out] at h1
          omega)
        refine bodyPost_ret (v := .tuple #[.agg #[.slice none 0 0, .bool false], .int .i64 12]) (by simp [results, Tryz.results25, go_sem, *]) rfl ?_
        rw [HE.out]
        exact ⟨[], false, none, 0, hide (by rw [if_neg (by decide)]; exact ⟨rfl, rfl⟩), rfl, hide ⟨Nat.le_refl _, by simp [maxLen]⟩, hide (fun h => absurd h (by simp)), belo⟩
      · have hh : l2.length ≤ 128 := by omega
        go_roundw
        case rel => exact ⟨m, l2, by omega, rfl, hide (by rw [HL3.out, HL4.out]), hide hh, ⟨by have h := HO2.out.1; have e : L.length + l1.length = l2.length := (by rw [HL4.out, List.length_append]); rw [e] at h; exact h, hbW.out.trans HB4.out⟩⟩
        case measure => simp [intOf] <;> omega
end
section
open Go.RowKit
set_option maxRecDepth 100000
set_option linter.unusedSimpArgs false
set_option linter.unusedVariables false
set_option maxHeartbeats 1000000 in
theorem vsof_any (s : ByteArray) (w : World) (hn : s.size ≤ 4096) :
    Calls Tryz.prog 62 #[.string s] w (RetC (· = ⟨ofB s, true⟩) w) := by
  go_enter Tryz.func62, Tryz.ntmps62
  go_wp2_with fail
  refine (vof_any s _ hn).mono ?_
  rintro e w1 ⟨l1, s1, A1, c1, E1, rfl, C1, O1, hb⟩
  replace O1 := hide (O1.out.base (show w.heap.size + 1 ≤ _ by first | omega | (simp; omega) | (simp; done)))
  have hB1 : Below w.heap.size w w1 := Below.trans belo (hb.mono (by first | omega | (simp; done) | (simp; omega)))
  obtain ⟨kc1, kf1⟩ := bcell hb
  have hz1 := hb.size
  (try simp at hz1)
  have n1_0 : w.heap.size < w1.heap.size := by omega
  have r1_0 : w1.cell? ⟨w.heap.size, 0, none⟩ = some (.slice none 0 0) := (kc1 _ _ (by first | assumption | (simp; done) | omega | (simp; omega))).trans (by first | assumption | (simp [go_sem]; done) | (simp; done))
  have g1_0 : w1.frozen? ⟨w.heap.size, 0, none⟩ = false := (kf1 _ _ (by first | assumption | (simp; done) | omega | (simp; omega))).trans (by first | assumption | (simp [go_sem]; done) | (simp; done))
  have r1_1 : w1.cell? ⟨w.heap.size, 1, none⟩ = some (.bool false) := (kc1 _ _ (by first | assumption | (simp; done) | omega | (simp; omega))).trans (by first | assumption | (simp [go_sem]; done) | (simp; done))
  have g1_1 : w1.frozen? ⟨w.heap.size, 1, none⟩ = false := (kf1 _ _ (by first | assumption | (simp; done) | omega | (simp; omega))).trans (by first | assumption | (simp [go_sem]; done) | (simp; done))
  clear hb
  have e1 : l1 = ofB s := by have h := E1.out; injection h
  have HE := hide e1
  clear e1
  go_wp2
  refine bodyPost_ret (v := .agg #[.slice A1 l1.length c1, .bool true]) (by simp [results, Tryz.results62, go_sem, *]) rfl ?_
  exact ⟨l1, true, A1, c1, hide (by rw [HE.out]), rfl, C1, hide (OwQ.base (B := w.heap.size + 1) (by (repeat (first | with_reducible exact O1.out | with_reducible refine OwQ.far ?_ (by first | (simp; done) | omega | (simp; omega)) _ | with_reducible refine OwQ.allc ?_ _ | with_reducible refine OwQ.drew ?_ | with_reducible refine OwQ.drewN ?_ _))) (by omega)), belo⟩
end
section
open Go.RowKit
set_option maxRecDepth 100000
set_option linter.unusedSimpArgs false
set_option linter.unusedVariables false
/-- A row of vectors: where each lies, its length and capacity, its sign. -/
def Vls (w : World) (g : Nat) (vs : List (Option Addr × Nat × Nat × Bool)) : Prop :=
  ∀ i (h : i < vs.length), w.cell? ⟨g, i * 2, none⟩ = some (.slice vs[i].1 vs[i].2.1 vs[i].2.2.1) ∧ w.cell? ⟨g, i * 2 + 1, none⟩ = some (.bool vs[i].2.2.2)
set_option maxHeartbeats 1000000 in
theorem vlong_no (g c : Nat) (vs : List (Option Addr × Nat × Nat × Bool)) (w : World) (hv : vs.length ≤ 8) (h : Vls w g vs) (hs : ∀ i (h : i < vs.length), vs[i].2.1 ≤ 140) :
    Calls Tryz.prog 7 #[.slice (some ⟨g, 0, none⟩) vs.length c] w fun e w' => e = .returned (.bool false) ∧ w = w' := by
  have H := hide h
  have HS := hide hs
  clear h hs
  go_enter Tryz.func7, Tryz.ntmps7
  go_wp2_with fail
  go_loop [3] (fun i => ∃ k : Nat, k ≤ vs.length ∧ i = .int .i64 k) (fun i => vs.length - (intOf i).toNat)
  case atStart => exact ⟨0, Nat.zero_le _, rfl⟩
  case round =>
    obtain ⟨k, hk, rfl⟩ := hrel
    by_cases hlt : k < vs.length
    · obtain ⟨hc, hd⟩ := H.out k hlt
      have h1 := HS.out k hlt
      obtain ⟨x, hx⟩ : ∃ x, x = vs[k] := ⟨_, rfl⟩
      rw [← hx] at hc hd h1
      clear hx
      go_wp2
      go_round
      case rel => exact ⟨k + 1, by omega, by go_num⟩
      case measure => simp [intOf]; omega
    · go_wp2
      go_ret
      exact ⟨rfl, rfl⟩
set_option maxHeartbeats 1000000 in
theorem vlong_yes (g c : Nat) (vs : List (Option Addr × Nat × Nat × Bool)) (w : World) (hv : vs.length ≤ 8) (h : Vls w g vs) (hs : ∃ i, ∃ h : i < vs.length, 140 < vs[i].2.1) (hm : ∀ i (h : i < vs.length), vs[i].2.1 ≤ maxLen) :
    Calls Tryz.prog 7 #[.slice (some ⟨g, 0, none⟩) vs.length c] w fun e w' => e = .returned (.bool true) ∧ w = w' := by
  have H := hide h
  have HS := hide hs
  have HM := hide hm
  clear h hs hm
  go_enter Tryz.func7, Tryz.ntmps7
  go_wp2_with fail
  go_loop [3] (fun i => ∃ k : Nat, k ≤ vs.length ∧ i = .int .i64 k ∧ Hid (∀ j (h : j < vs.length), j < k → vs[j].2.1 ≤ 140)) (fun i => vs.length - (intOf i).toNat)
  case atStart => exact ⟨0, Nat.zero_le _, rfl, hide fun j h hj => by omega⟩
  case round =>
    obtain ⟨k, hk, rfl, hno⟩ := hrel
    by_cases hlt : k < vs.length
    · obtain ⟨hc, hd⟩ := H.out k hlt
      have h2 := HM.out k hlt
      unfold maxLen at h2
      obtain ⟨x, hx⟩ : ∃ x, x = vs[k] := ⟨_, rfl⟩
      rw [← hx] at hc hd h2
      have hx' := hide hx
      clear hx
      by_cases h1 : x.2.1 ≤ 140
      · go_wp2
        go_round
        case rel => exact ⟨k + 1, by omega, by go_num, hide fun j h hj => by
          by_cases e : j = k
          · subst e; rw [← hx'.out]; exact h1
          · exact hno.out j h (by omega)⟩
        case measure => simp [intOf]; omega
      · go_wp2
        go_ret
        exact ⟨rfl, rfl⟩
    · exfalso
      obtain ⟨i, hi, h1⟩ := HS.out
      have := hno.out i hi (by omega)
      omega
end
section
open Go.RowKit
set_option maxRecDepth 100000
set_option linter.unusedSimpArgs false
set_option linter.unusedVariables false
set_option maxHeartbeats 1000000 in
theorem vown_any (A : Option Addr) (a : List Int) (c : Nat) (s : Bool) (w : World) (ha : a.length ≤ 4096) (hca : Hid (a.length ≤ c ∧ c ≤ maxLen)) (hA : RQ w A a) (ya : By a) :
    Calls Tryz.prog 9 #[.agg #[.slice A a.length c, .bool s]] w (RetC (· = ⟨a, s⟩) w) := by
  have HA := hide hA
  have LA := hide ha
  have YA := hide ya
  clear hA ha ya
  go_enter Tryz.func9, Tryz.ntmps9
  go_wp2_with fail
  obtain ⟨W1, hW1⟩ : ∃ x, x = ((w.alloc (Obj.cells #[Value.slice A a.length c, Value.bool s] 24)).alloc (Obj.cells #[Value.slice none 0 0, Value.bool false] 24)) := ⟨_, rfl⟩
  rw [← hW1]
  have hBW1 : Below w.heap.size w W1 := by rw [hW1]; exact belo
  have qW1_0 : W1.cell? ⟨w.heap.size, 0, none⟩ = some (Value.slice A a.length c) := by rw [hW1]; simp [go_sem]
  have fW1_0 : W1.frozen? ⟨w.heap.size, 0, none⟩ = false := by rw [hW1]; simp [go_sem]
  have qW1_1 : W1.cell? ⟨w.heap.size, 1, none⟩ = some (Value.bool s) := by rw [hW1]; simp [go_sem]
  have fW1_1 : W1.frozen? ⟨w.heap.size, 1, none⟩ = false := by rw [hW1]; simp [go_sem]
  have qW1_2 : W1.cell? ⟨w.heap.size + 1, 0, none⟩ = some (Value.slice none 0 0) := by rw [hW1]; simp [go_sem]
  have fW1_2 : W1.frozen? ⟨w.heap.size + 1, 0, none⟩ = false := by rw [hW1]; simp [go_sem]
  have qW1_3 : W1.cell? ⟨w.heap.size + 1, 1, none⟩ = some (Value.bool false) := by rw [hW1]; simp [go_sem]
  have fW1_3 : W1.frozen? ⟨w.heap.size + 1, 1, none⟩ = false := by rw [hW1]; simp [go_sem]
  have zW1_0 : w.heap.size < W1.heap.size := by rw [hW1]; first | (simp; done) | (simp; omega)
  have zW1_1 : w.heap.size + 1 < W1.heap.size := by rw [hW1]; first | (simp; done) | (simp; omega)
  clear hW1
  refine region_anyT (S := fun wS => Below W1.heap.size W1 wS) (n := 7) (by kernel_rfl) (Below.refl _ _).drew (fun hS inv => ?_)
  refine anyT_take (i := 1) (oi := _) (v := Value.pointer (some ⟨w.heap.size, 0, none⟩)) rfl (by kernel_rfl) (by kernel_rfl) (by kernel_rfl) (by decide) (by decide) (by kernel_rfl) (by kernel_rfl) inv (fun _ _ _ h => h) (Or.inl ⟨by kernel_rfl, ?_⟩) hS (fun inv => ?_)
  · intro wz hSw
    first | kernel_rfl | go_simp
  (try simp only [Act.put, List.getElem_toArray, List.getElem_cons_zero, List.getElem_cons_succ, List.setIfInBounds_toArray, List.set_cons_zero, List.set_cons_succ])
  refine anyT_take (i := 2) (oi := _) (v := Value.slice A a.length c) rfl (by kernel_rfl) (by kernel_rfl) (by kernel_rfl) (by decide) (by decide) (by kernel_rfl) (by kernel_rfl) inv (fun _ _ _ h => h) (Or.inl ⟨by kernel_rfl, ?_⟩) hS (fun inv => ?_)
  · intro wz hSw
    have hk0 := (hSw : Below _ _ _).cell (p := ⟨w.heap.size, 0, none⟩) (by first | assumption | (simp; done) | omega | (simp; omega)); go_simp
  (try simp only [Act.put, List.getElem_toArray, List.getElem_cons_zero, List.getElem_cons_succ, List.setIfInBounds_toArray, List.set_cons_zero, List.set_cons_succ])
  refine anyT_take (i := 4) (oi := _) (v := Value.pointer (some ⟨w.heap.size, 1, none⟩)) rfl (by kernel_rfl) (by kernel_rfl) (by kernel_rfl) (by decide) (by decide) (by kernel_rfl) (by kernel_rfl) inv (fun _ _ _ h => h) (Or.inl ⟨by kernel_rfl, ?_⟩) hS (fun inv => ?_)
  · intro wz hSw
    first | kernel_rfl | go_simp
  (try simp only [Act.put, List.getElem_toArray, List.getElem_cons_zero, List.getElem_cons_succ, List.setIfInBounds_toArray, List.set_cons_zero, List.set_cons_succ])
  refine anyT_take (i := 5) (oi := _) (v := Value.bool s) rfl (by kernel_rfl) (by kernel_rfl) (by kernel_rfl) (by decide) (by decide) (by kernel_rfl) (by kernel_rfl) inv (fun _ _ _ h => h) (Or.inl ⟨by kernel_rfl, ?_⟩) hS (fun inv => ?_)
  · intro wz hSw
    have hk0 := (hSw : Below _ _ _).cell (p := ⟨w.heap.size, 1, none⟩) (by first | assumption | (simp; done) | omega | (simp; omega)); go_simp
  (try simp only [Act.put, List.getElem_toArray, List.getElem_cons_zero, List.getElem_cons_succ, List.setIfInBounds_toArray, List.set_cons_zero, List.set_cons_succ])
  refine anyT_ready (rs := [0]) (by kernel_rfl) (by simp) ?_
  refine ReadyT.head (o := _) rfl (by decide) (by kernel_rfl) inv (fun K hK => ?_) ReadyT.nil
  go_simp
  refine hK.out _ _ ?_ (fun hS inv => ?_)
  · exact (by first | exact (hS : Below W1.heap.size W1 _).alloc (Below.size hS) _ | exact Below.drew (Below.alloc (show Below W1.heap.size W1 W1 from hS) (Below.size hS) _))
  clear hK K
  (try simp only [Act.put, List.getElem_toArray, List.getElem_cons_zero, List.getElem_cons_succ, List.setIfInBounds_toArray, List.set_cons_zero, List.set_cons_succ])
  generalize hw1 : World.alloc W1 _ = w1 at *
  have hb : Below W1.heap.size W1 w1 := by rw [← hw1]; exact (Below.refl _ _).alloc (Nat.le_refl _) _
  have ho := hide (show w1.ownsRow W1.heap.size 65 1 (.slice (some ⟨W1.heap.size, 0, none⟩) 0 0) 0 (([] : List Int).map (Value.int .u8)) by rw [← hw1]; exact owq_empty W1 W1.heap.size (Nat.le_refl _))
  clear hw1
  have hB1 : Below w.heap.size w w1 := Below.trans belo (hb.mono (by first | omega | (simp; done) | (simp; omega)))
  obtain ⟨kc1, kf1⟩ := bcell hb
  have hz1 := hb.size
  (try simp at hz1)
  have n1_0 : w.heap.size < w1.heap.size := by omega
  have n1_1 : w.heap.size + 1 < w1.heap.size := by omega
  have m1_0 : w1.cell? ⟨w.heap.size, 0, none⟩ = some (.slice A a.length c) := (kc1 _ _ (by first | assumption | (simp; done) | omega | (simp; omega))).trans (by first | assumption | (simp [go_sem]; done))
  have v1_0 : w1.frozen? ⟨w.heap.size, 0, none⟩ = false := (kf1 _ _ (by first | assumption | (simp; done) | omega | (simp; omega))).trans (by first | assumption | (simp [go_sem]; done))
  have m1_1 : w1.cell? ⟨w.heap.size, 1, none⟩ = some (.bool s) := (kc1 _ _ (by first | assumption | (simp; done) | omega | (simp; omega))).trans (by first | assumption | (simp [go_sem]; done))
  have v1_1 : w1.frozen? ⟨w.heap.size, 1, none⟩ = false := (kf1 _ _ (by first | assumption | (simp; done) | omega | (simp; omega))).trans (by first | assumption | (simp [go_sem]; done))
  have m1_2 : w1.cell? ⟨w.heap.size + 1, 0, none⟩ = some (.slice none 0 0) := (kc1 _ _ (by first | assumption | (simp; done) | omega | (simp; omega))).trans (by first | assumption | (simp [go_sem]; done))
  have v1_2 : w1.frozen? ⟨w.heap.size + 1, 0, none⟩ = false := (kf1 _ _ (by first | assumption | (simp; done) | omega | (simp; omega))).trans (by first | assumption | (simp [go_sem]; done))
  have m1_3 : w1.cell? ⟨w.heap.size + 1, 1, none⟩ = some (.bool false) := (kc1 _ _ (by first | assumption | (simp; done) | omega | (simp; omega))).trans (by first | assumption | (simp [go_sem]; done))
  have v1_3 : w1.frozen? ⟨w.heap.size + 1, 1, none⟩ = false := (kf1 _ _ (by first | assumption | (simp; done) | omega | (simp; omega))).trans (by first | assumption | (simp [go_sem]; done))
  clear kc1 kf1
  clear hb
  refine anyT_ready (rs := [3]) (by kernel_rfl) (by simp) ?_
  refine ReadyT.head (o := _) rfl (by decide) (by kernel_rfl) inv (fun K hK => ?_) ReadyT.nil
  refine step_append_q (by rfl) _ _ (by rfl) W1.heap.size _ _ [] (by kernel_rfl) ho.out A a.length c a (by kernel_rfl) rfl (HA.out.below belo) (by simp; exact Nat.le_trans LA.out (by decide)) (by first | omega | (simp; omega) | (simp; done)) ?_
  intro v' w2 hown hb
  obtain ⟨A2, c2, e, k1, k2, O2⟩ := owq_open hown
  obtain ⟨l2, E2⟩ : ∃ z, z = [] ++ a := ⟨_, rfl⟩
  rw [← E2] at e k1 O2
  subst e
  have C2 := hide (And.intro k1 k2)
  replace E2 := hide E2
  replace O2 := hide O2
  clear k1 k2 hown
  refine hK.out _ _ ?_ (fun hS inv => ?_)
  · exact (hS : Below W1.heap.size W1 _).trans (hb.mono (by first | omega | (simp; omega) | (simp; done)))
  clear hK K
  (try simp only [Act.put, List.getElem_toArray, List.getElem_cons_zero, List.getElem_cons_succ, List.setIfInBounds_toArray, List.set_cons_zero, List.set_cons_succ])
  replace O2 := hide (O2.out.base (show w.heap.size + 2 ≤ _ by first | omega | (simp; omega) | (simp; done)))
  have hB2 : Below w.heap.size w w2 := Below.trans belo (hb.mono (by first | omega | (simp; done) | (simp; omega)))
  obtain ⟨kc2, kf2⟩ := bcellW hb
  have hz2 := hb.size
  (try simp at hz2)
  have n2_0 : w.heap.size < w2.heap.size := by omega
  have n2_1 : w.heap.size + 1 < w2.heap.size := by omega
  have m2_0 : w2.cell? ⟨w.heap.size, 0, none⟩ = some (.slice A a.length c) := (kc2 _ _ (by first | assumption | (simp; done) | omega | (simp; omega))).trans (by first | assumption | (simp [go_sem]; done))
  have v2_0 : w2.frozen? ⟨w.heap.size, 0, none⟩ = false := (kf2 _ _ (by first | assumption | (simp; done) | omega | (simp; omega))).trans (by first | assumption | (simp [go_sem]; done))
  have m2_1 : w2.cell? ⟨w.heap.size, 1, none⟩ = some (.bool s) := (kc2 _ _ (by first | assumption | (simp; done) | omega | (simp; omega))).trans (by first | assumption | (simp [go_sem]; done))
  have v2_1 : w2.frozen? ⟨w.heap.size, 1, none⟩ = false := (kf2 _ _ (by first | assumption | (simp; done) | omega | (simp; omega))).trans (by first | assumption | (simp [go_sem]; done))
  have m2_2 : w2.cell? ⟨w.heap.size + 1, 0, none⟩ = some (.slice none 0 0) := (kc2 _ _ (by first | assumption | (simp; done) | omega | (simp; omega))).trans (by first | assumption | (simp [go_sem]; done))
  have v2_2 : w2.frozen? ⟨w.heap.size + 1, 0, none⟩ = false := (kf2 _ _ (by first | assumption | (simp; done) | omega | (simp; omega))).trans (by first | assumption | (simp [go_sem]; done))
  have m2_3 : w2.cell? ⟨w.heap.size + 1, 1, none⟩ = some (.bool false) := (kc2 _ _ (by first | assumption | (simp; done) | omega | (simp; omega))).trans (by first | assumption | (simp [go_sem]; done))
  have v2_3 : w2.frozen? ⟨w.heap.size + 1, 1, none⟩ = false := (kf2 _ _ (by first | assumption | (simp; done) | omega | (simp; omega))).trans (by first | assumption | (simp [go_sem]; done))
  clear kc2 kf2
  clear hb
  refine anyT_take (i := 6) (oi := _) (v := Value.agg #[Value.slice A2 l2.length c2, Value.bool s]) rfl (by kernel_rfl) (by kernel_rfl) (by kernel_rfl) (by decide) (by decide) (by kernel_rfl) (by kernel_rfl) inv (fun _ _ _ h => h) (Or.inl ⟨by kernel_rfl, ?_⟩) hS (fun inv => ?_)
  · intro wz hSw
    first | kernel_rfl | go_simp
  (try simp only [Act.put, List.getElem_toArray, List.getElem_cons_zero, List.getElem_cons_succ, List.setIfInBounds_toArray, List.set_cons_zero, List.set_cons_succ])
  refine anyT_ready (rs := [7]) (by kernel_rfl) (by simp) ?_
  refine ReadyT.tail (o := _) rfl (by decide) (fun K hK => ?_)
  go_simp
  refine hK.out _ _ ?_
  clear hK K
  (try simp only [Act.put, List.getElem_toArray, List.getElem_cons_zero, List.getElem_cons_succ, List.setIfInBounds_toArray, List.set_cons_zero, List.set_cons_succ])
  refine anyT_done (by kernel_rfl) ?_ _
  go_wp2
  refine bodyPost_ret (v := .agg #[.slice A2 l2.length c2, .bool s]) (by simp [results, Tryz.results9, go_sem, *]) rfl ?_
  exact ⟨l2, s, A2, c2, hide (by rw [E2.out]; simp), rfl, C2, hide (OwQ.base (B := w.heap.size + 2) (by (repeat (first | with_reducible exact O2.out | with_reducible refine OwQ.far ?_ (by first | (simp; done) | omega | (simp; omega)) _ | with_reducible refine OwQ.allc ?_ _ | with_reducible refine OwQ.drew ?_ | with_reducible refine OwQ.drewN ?_ _))) (by omega)), belo⟩
theorem vfrom_ok (z : Int) (k : Nat) (s : Bool) (w : World) (h1 : -9223372036854775808 ≤ z) (h2 : z ≤ 9223372036854775807) (g1 : 1 ≤ k) (g2 : k ≤ 128) :
    Calls Tryz.prog 19 #[.int .i64 z, .int .i64 k, .bool s] w (RetE 0 ⟨fb (vz k z), s⟩ w) := by
  have h := vFromInt_any z k s w h1 h2
  rw [if_pos (by omega), Int.toNat_natCast] at h
  exact h
set_option maxHeartbeats 1000000 in
theorem vint4_any (z : Int) (s : Bool) (w : World) (h1 : -9223372036854775808 ≤ z) (h2 : z ≤ 9223372036854775807) :
    Calls Tryz.prog 64 #[.int .i64 z, .bool s] w (RetC (· = ⟨fb (vz 4 z), s⟩) w) := by
  have hcall := hide fun W => vfrom_ok z 4 s W h1 h2 (by decide) (by decide)
  go_enter Tryz.func64, Tryz.ntmps64
  go_wp2_with fail
  refine (hcall.out _).mono ?_
  rintro e w1 ⟨l1, s1, A1, c1, E1, rfl, C1, O1, hb⟩
  replace O1 := hide (O1.out.base (show w.heap.size + 1 ≤ _ by first | omega | (simp; omega) | (simp; done)))
  have hB1 : Below w.heap.size w w1 := Below.trans belo (hb.mono (by first | omega | (simp; done) | (simp; omega)))
  obtain ⟨kc1, kf1⟩ := bcell hb
  have hz1 := hb.size
  (try simp at hz1)
  have n1_0 : w.heap.size < w1.heap.size := by omega
  have r1_0 : w1.cell? ⟨w.heap.size, 0, none⟩ = some (.slice none 0 0) := (kc1 _ _ (by first | assumption | (simp; done) | omega | (simp; omega))).trans (by first | assumption | (simp [go_sem]; done) | (simp; done))
  have g1_0 : w1.frozen? ⟨w.heap.size, 0, none⟩ = false := (kf1 _ _ (by first | assumption | (simp; done) | omega | (simp; omega))).trans (by first | assumption | (simp [go_sem]; done) | (simp; done))
  have r1_1 : w1.cell? ⟨w.heap.size, 1, none⟩ = some (.bool false) := (kc1 _ _ (by first | assumption | (simp; done) | omega | (simp; omega))).trans (by first | assumption | (simp [go_sem]; done) | (simp; done))
  have g1_1 : w1.frozen? ⟨w.heap.size, 1, none⟩ = false := (kf1 _ _ (by first | assumption | (simp; done) | omega | (simp; omega))).trans (by first | assumption | (simp [go_sem]; done) | (simp; done))
  clear hb
  have HE := hide (show (⟨l1, s1⟩ : Vc) = ⟨fb (vz 4 z), s⟩ by have h := E1.out; rw [if_pos rfl] at h; exact h)
  go_wp2
  refine bodyPost_ret (v := .agg #[.slice A1 l1.length c1, .bool s1]) (by simp [results, Tryz.results64, go_sem, *]) rfl ?_
  exact ⟨l1, s1, A1, c1, HE, rfl, C1, hide (OwQ.base (B := w.heap.size + 1) (by (repeat (first | with_reducible exact O1.out | with_reducible refine OwQ.far ?_ (by first | (simp; done) | omega | (simp; omega)) _ | with_reducible refine OwQ.allc ?_ _ | with_reducible refine OwQ.drew ?_ | with_reducible refine OwQ.drewN ?_ _))) (by omega)), belo⟩
end
section
open Go.RowKit
set_option maxRecDepth 100000
set_option linter.unusedSimpArgs false
set_option linter.unusedVariables false
/-- A block of the walk's own that holds a vector. -/
structure Box (N : Nat) (A : Option Addr) (n c : Nat) (s : Bool) (w : World) : Prop where
  lt : N < w.heap.size
  c0 : w.cell? ⟨N, 0, none⟩ = some (.slice A n c)
  c1 : w.cell? ⟨N, 1, none⟩ = some (.bool s)
  f0 : w.frozen? ⟨N, 0, none⟩ = false
  f1 : w.frozen? ⟨N, 1, none⟩ = false
theorem Box.kept {N n c : Nat} {A : Option Addr} {s : Bool} {w w' : World} (h : Box N A n c s w) (hb : Below w.heap.size w w') : Box N A n c s w' :=
  ⟨Nat.lt_of_lt_of_le h.lt hb.size, (hb.cell (p := ⟨N, 0, none⟩) h.lt).trans h.c0, (hb.cell (p := ⟨N, 1, none⟩) h.lt).trans h.c1, (hb.frozen (p := ⟨N, 0, none⟩) h.lt).trans h.f0, (hb.frozen (p := ⟨N, 1, none⟩) h.lt).trans h.f1⟩
theorem Box.boxed (w : World) (A : Option Addr) (n c : Nat) (s : Bool) : Box w.heap.size A n c s (w.alloc (.cells #[.slice A n c, .bool s] 24)) :=
  ⟨by simp, by simp [go_sem], by simp [go_sem], by simp [go_sem], by simp [go_sem]⟩
theorem Box.made (w : World) (A : Option Addr) (n c : Nat) (s : Bool) : Box w.heap.size A n c s (((w.alloc (.cells #[.slice none 0 0, .bool false] 24)).setCell ⟨w.heap.size, 0, none⟩ (.slice A n c)).setCell ⟨w.heap.size, 1, none⟩ (.bool s)) := by
  have h := Box.boxed w none 0 0 false
  exact ⟨by simp, cset_ne (by simp) (cset_eq h.c0), cset_eq (cset_ne (by simp) h.c1), fset (fset h.f0), fset (fset h.f1)⟩
/-- A vector's bits, checked by computation. -/
def gdB (l : List Int) : Bool := decide (0 < l.length) && (decide (l.length ≤ 128) && l.all fun x => decide (0 ≤ x) && decide (x ≤ 3))
theorem gd_of {l : List Int} (h : gdB l = true) : Gd l := by
  unfold gdB at h
  rw [Bool.and_eq_true, Bool.and_eq_true, decide_eq_true_eq, decide_eq_true_eq, List.all_eq_true] at h
  refine ⟨h.1, h.2.1, fun i => ?_⟩
  rcases Nat.lt_or_ge i l.length with hi | hi
  · have := h.2.2 _ (List.getElem_mem hi)
    rw [Bool.and_eq_true, decide_eq_true_eq, decide_eq_true_eq] at this
    rw [qt_get hi]; exact this
  · rw [qt_ge hi]; decide
theorem ret_e0 {l : List Int} {s : Bool} {v : Vc} (h : if (0 : Int) = 0 then (⟨l, s⟩ : Vc) = v else l = [] ∧ s = false) : (⟨l, s⟩ : Vc) = v := by rw [if_pos rfl] at h; exact h
theorem rsame_yes (A B : Option Addr) (a b : List Int) (c d : Nat) (s t : Bool) (w : World) (ha : a.length ≤ 4096) (hb : b.length ≤ 4096) (hA : RQ w A a) (hB : RQ w B b) (h : (⟨a, s⟩ : Vc) = ⟨b, t⟩) :
    Calls Tryz.prog 11 #[.agg #[.slice A a.length c, .bool s], .agg #[.slice B b.length d, .bool t]] w (Mk (.bool true) w) := by
  have h1 := rsame_any' A B a b c d s t w ha hb hA hB
  rw [(sm_iff _ _).2 h] at h1
  exact h1
theorem vfrom_q (z : Int) (k : Nat) (s : Bool) (w : World) (h1 : -9223372036854775808 ≤ z) (h2 : z ≤ 9223372036854775807) (g1 : 1 ≤ k) (g2 : k ≤ 128) :
    Calls Tryz.prog 19 #[.int .i64 z, .int .i64 k, .bool s] w (RetE 0 ⟨fb (vz k z), s⟩ w) := vfrom_ok z k s w h1 h2 g1 g2
theorem vint_val (z : Int) (A : Option Addr) (a : List Int) (c : Nat) (s : Bool) (w : World) (ha : a.length ≤ 4096) (hca : Hid (a.length ≤ c ∧ c ≤ maxLen)) (hA : RQ w A a) (ya : By a) (hk : kn (cnt ⟨a, s⟩).b = true) (hz : sv (nx (cnt ⟨a, s⟩).b (cnt ⟨a, s⟩).s) = z) (h1 : -9223372036854775808 ≤ z) (h2 : z ≤ 9223372036854775807) :
    Calls Tryz.prog 36 #[.agg #[.slice A a.length c, .bool s]] w (Mk (.tuple #[.int .i64 z, .bool true]) w) :=
  (vInt_any A a c s w ha hca hA ya).mono fun e w' h => ⟨IntV_val h.1 hk hz h1 h2, h.2⟩
theorem vConcat_e0 (g c : Nat) (vs : List Va) (w : World) (hg : g < w.heap.size) (h0 : 0 < vs.length) (hn : vs.length ≤ 4096) (hv : Vrow w g vs) (he : cte (vcs vs) = 0) :
    Calls Tryz.prog 25 #[.slice (some ⟨g, 0, none⟩) vs.length c] w (RetE 0 ⟨cats (vcs vs), false⟩ w) := by
  have h := vConcat_any g c vs w hg h0 hn hv
  rw [he] at h
  exact h
theorem vSlice_e0 (hi lo : Int) (A : Option Addr) (a : List Int) (c : Nat) (s : Bool) (w : World) (ha : a.length ≤ 4096) (hca : Hid (a.length ≤ c ∧ c ≤ maxLen)) (hA : RQ w A a) (ya : By a) (b1 : -9223372036854775808 ≤ lo) (b2 : hi ≤ 9223372036854775807) (b3 : -9223372036854775808 ≤ hi) (b4 : lo ≤ 9223372036854775807) (he : spn hi lo = 0) :
    Calls Tryz.prog 29 #[.agg #[.slice A a.length c, .bool s], .int .i64 hi, .int .i64 lo] w (RetE 0 ⟨wdw (cnt ⟨a, s⟩).b lo (hi - lo + 1).toNat 2, false⟩ w) := by
  have h := vSlice_any hi lo A a c s w ha hca hA ya b1 b2 b3 b4
  rw [he] at h
  exact h
end
section
open Go Go.RowKit
set_option maxRecDepth 100000
set_option linter.unusedSimpArgs false
set_option linter.unusedVariables false
abbrev vagg (A : Option Addr) (m c : Nat) (s : Bool) : Value := .agg #[.slice A m c, .bool s]
section
variable {Q : Exit → Act → World → Prop} {ops : Array Oper} {ρ : Operand → Value} {o : Oper} {x y : Operand} {w : World} {A : Option Addr} {N m c n d : Nat} {s : Bool}
theorem run_ldvec (ho : o.op = .load 24 x) (hx : ρ x = .pointer (some ⟨N, 0, none⟩)) (B : Box N A m c s w) : (execOp ρ o).run Tryz.prog w = .ok (.value (vagg A m c s)) w := by
  have h0 := B.c0
  have h1 := B.c1
  unfold execOp
  rw [ho]
  simp only [hx]
  simp [go_sem, h0, h1]
theorem run_boxvec (ho : o.op = .box 24 x) (hx : ρ x = vagg A m c s) : (execOp ρ o).run Tryz.prog w = .ok (.value (.pointer (some ⟨w.heap.size, 0, none⟩))) (w.alloc (.cells #[.slice A m c, .bool s] 24)) := by
  unfold execOp
  rw [ho]
  simp only [hx]
  simp [go_sem]
theorem run_alvec (ho : o.op = .alloc 24) : (execOp ρ o).run Tryz.prog w = .ok (.value (.pointer (some ⟨w.heap.size, 0, none⟩))) (w.alloc (.cells #[.slice none 0 0, .bool false] 24)) := by
  unfold execOp
  rw [ho]
  simp [go_sem]
theorem run_stnew (ho : o.op = .store 24 x y) (hx : ρ x = .pointer (some ⟨w.heap.size, 0, none⟩)) (hy : ρ y = vagg A m c s) :
    (execOp ρ o).run Tryz.prog (w.alloc (.cells #[.slice none 0 0, .bool false] 24)) = .ok .skip (w.alloc (.cells #[.slice A m c, .bool s] 24)) := by
  unfold execOp
  rw [ho]
  simp only [hx, hy]
  simp [go_sem]
end
section
variable {Q : Exit → Act → World → Prop} {ops : Array Oper} {o o2 : Oper} {rest : List Oper} {x y : Operand} {w W : World} {A : Option Addr} {N m c n d : Nat} {s : Bool} {E : Env}
theorem wpl_ldvec (B : Box N A m c s w) (hd : o.dst = some d) (hw : wnt ops n E o = true) (ho : o.op = .load 24 x) (hx : evl n E x = .pointer (some ⟨N, 0, none⟩))
    (h : WL Tryz.prog ops Q rest n ((d, vagg A m c s) :: E) w) : WL Tryz.prog ops Q (o :: rest) n E w := wpl_val hd hw (run_ldvec ho hx B) h
theorem wpl_boxvec (hd : o.dst = some d) (hw : wnt ops n E o = true) (ho : o.op = .box 24 x) (hx : evl n E x = vagg A m c s)
    (h : ∀ (V : World) (N : Nat), Box N A m c s V → w.heap.size ≤ N → Below w.heap.size w V → WL Tryz.prog ops Q rest n ((d, .pointer (some ⟨N, 0, none⟩)) :: E) V) : WL Tryz.prog ops Q (o :: rest) n E w :=
  wpl_val hd hw (run_boxvec ho hx) (h _ _ (Box.boxed w A m c s) (Nat.le_refl _) ((Below.refl _ _).alloc (Nat.le_refl _) _))
theorem wpl_made (hd : o.dst = some d) (hg : o.guard = none) (ho : o.op = .alloc 24) (hd2 : o2.dst = none) (hg2 : o2.guard = none) (ho2 : o2.op = .store 24 x y)
    (hx : ∀ v : Value, evl n ((d, v) :: E) x = v) (hy : ∀ v : Value, evl n ((d, v) :: E) y = vagg A m c s)
    (h : ∀ (V : World) (N : Nat), Box N A m c s V → w.heap.size ≤ N → Below w.heap.size w V → WL Tryz.prog ops Q rest n ((d, .pointer (some ⟨N, 0, none⟩)) :: E) V) : WL Tryz.prog ops Q (o :: o2 :: rest) n E w :=
  wpl_val hd (by unfold wnt; rw [hg]) (run_alvec ho) (wpl_none hd2 (by unfold wnt; rw [hg2]) (run_stnew ho2 (hx _) (hy _)) (h _ _ (Box.boxed w A m c s) (Nat.le_refl _) ((Below.refl _ _).alloc (Nat.le_refl _) _)))
theorem anyR_ldvec {fuel k mk i m' q : Nat} (B : Box N A m c s W) (F : Rg ops q) (hQ : ∀ c a d v w, Q (.panic c) (Act.put a (some d) v) w → Q (.panic c) a w) (hi : ops[i]? = some o) (hd : o.dst = some d) (hin : Nat.blt i q = true) (hf : freeB ops ops.size mk i o = true) (hr : rdyB ops ops.size mk i = true)
    (hw : wnt ops k E o = true) (hm : Nat.lor mk (Nat.shiftLeft 1 i) = m') (ho : o.op = .load 24 x) (hx : evl k E x = .pointer (some ⟨N, 0, none⟩))
    (h : anyR Tryz.prog ops Q W q fuel m' k ((d, vagg A m c s) :: E) w) : anyR Tryz.prog ops Q W q (fuel + 1) mk k E w :=
  anyR_val F hQ hi hd hin hf hr hw hm (fun w' hb => run_ldvec ho hx (B.kept hb)) h
theorem wpl_bs1 {A0 : Option Addr} {l0 : List Int} {c0 : Nat} {s0 : Bool} {x0 : Operand} (hd : o.dst = some d) (hw : wnt ops n E o = true) (ho : o.op = .buildSlice 51 1 #[(0, x0)]) (h0 : evl n E x0 = vagg A0 l0.length c0 s0)
    (o0 : RQ w A0 l0) (y0 : By l0) (k0 : l0.length ≤ 4096) (p0 : Hid (l0.length ≤ c0 ∧ c0 ≤ maxLen))
    (h : ∀ (V : World) (N : Nat), Vrow V N [(A0, l0, c0, s0)] → N < V.heap.size → w.heap.size ≤ N → Below w.heap.size w V → WL Tryz.prog ops Q rest n ((d, .slice (some ⟨N, 0, none⟩) 1 1) :: E) V) : WL Tryz.prog ops Q (o :: rest) n E w := by
  have hb : Below w.heap.size w (w.alloc (.cells #[.slice A0 l0.length c0, .bool s0] 24)) := (Below.refl _ _).alloc (Nat.le_refl _) _
  refine wpl_val hd hw (w' := w.alloc (.cells #[.slice A0 l0.length c0, .bool s0] 24)) (v := .slice (some ⟨w.heap.size, 0, none⟩) 1 1) ?_ (h _ _ ?_ (by simp) (Nat.le_refl _) hb)
  · unfold execOp
    rw [ho]
    simp [go_sem, h0]
  · constructor
    · intro i h; rcases i with _ | i <;> first | (simp [go_sem]; done) | exact absurd h (by simp)
    · intro i h; rcases i with _ | i <;> first | (simp [go_sem]; done) | exact absurd h (by simp)
    · intro i h; rcases i with _ | i <;> first | (exact RQ.below (by assumption) hb) | exact absurd h (by simp)
    · intro i h; rcases i with _ | i <;> first | assumption | exact absurd h (by simp)
    · intro i h; rcases i with _ | i <;> first | assumption | exact absurd h (by simp)
    · intro i h; rcases i with _ | i <;> first | assumption | exact absurd h (by simp)
theorem wpl_bs2 {A0 A1 : Option Addr} {l0 l1 : List Int} {c0 c1 : Nat} {s0 s1 : Bool} {x0 x1 : Operand} (hd : o.dst = some d) (hw : wnt ops n E o = true) (ho : o.op = .buildSlice 51 2 #[(0, x0), (1, x1)]) (h0 : evl n E x0 = vagg A0 l0.length c0 s0) (h1 : evl n E x1 = vagg A1 l1.length c1 s1)
    (o0 : RQ w A0 l0) (y0 : By l0) (k0 : l0.length ≤ 4096) (p0 : Hid (l0.length ≤ c0 ∧ c0 ≤ maxLen)) (o1 : RQ w A1 l1) (y1 : By l1) (k1 : l1.length ≤ 4096) (p1 : Hid (l1.length ≤ c1 ∧ c1 ≤ maxLen))
    (h : ∀ (V : World) (N : Nat), Vrow V N [(A0, l0, c0, s0), (A1, l1, c1, s1)] → N < V.heap.size → w.heap.size ≤ N → Below w.heap.size w V → WL Tryz.prog ops Q rest n ((d, .slice (some ⟨N, 0, none⟩) 2 2) :: E) V) : WL Tryz.prog ops Q (o :: rest) n E w := by
  have hb : Below w.heap.size w (w.alloc (.cells #[.slice A0 l0.length c0, .bool s0, .slice A1 l1.length c1, .bool s1] 24)) := (Below.refl _ _).alloc (Nat.le_refl _) _
  refine wpl_val hd hw (w' := w.alloc (.cells #[.slice A0 l0.length c0, .bool s0, .slice A1 l1.length c1, .bool s1] 24)) (v := .slice (some ⟨w.heap.size, 0, none⟩) 2 2) ?_ (h _ _ ?_ (by simp) (Nat.le_refl _) hb)
  · unfold execOp
    rw [ho]
    simp [go_sem, h0, h1]
  · constructor
    · intro i h; rcases i with _ | _ | i <;> first | (simp [go_sem]; done) | exact absurd h (by simp)
    · intro i h; rcases i with _ | _ | i <;> first | (simp [go_sem]; done) | exact absurd h (by simp)
    · intro i h; rcases i with _ | _ | i <;> first | (exact RQ.below (by assumption) hb) | exact absurd h (by simp)
    · intro i h; rcases i with _ | _ | i <;> first | assumption | exact absurd h (by simp)
    · intro i h; rcases i with _ | _ | i <;> first | assumption | exact absurd h (by simp)
    · intro i h; rcases i with _ | _ | i <;> first | assumption | exact absurd h (by simp)
theorem wpl_bs3 {A0 A1 A2 : Option Addr} {l0 l1 l2 : List Int} {c0 c1 c2 : Nat} {s0 s1 s2 : Bool} {x0 x1 x2 : Operand} (hd : o.dst = some d) (hw : wnt ops n E o = true) (ho : o.op = .buildSlice 51 3 #[(0, x0), (1, x1), (2, x2)]) (h0 : evl n E x0 = vagg A0 l0.length c0 s0) (h1 : evl n E x1 = vagg A1 l1.length c1 s1) (h2 : evl n E x2 = vagg A2 l2.length c2 s2)
    (o0 : RQ w A0 l0) (y0 : By l0) (k0 : l0.length ≤ 4096) (p0 : Hid (l0.length ≤ c0 ∧ c0 ≤ maxLen)) (o1 : RQ w A1 l1) (y1 : By l1) (k1 : l1.length ≤ 4096) (p1 : Hid (l1.length ≤ c1 ∧ c1 ≤ maxLen)) (o2 : RQ w A2 l2) (y2 : By l2) (k2 : l2.length ≤ 4096) (p2 : Hid (l2.length ≤ c2 ∧ c2 ≤ maxLen))
    (h : ∀ (V : World) (N : Nat), Vrow V N [(A0, l0, c0, s0), (A1, l1, c1, s1), (A2, l2, c2, s2)] → N < V.heap.size → w.heap.size ≤ N → Below w.heap.size w V → WL Tryz.prog ops Q rest n ((d, .slice (some ⟨N, 0, none⟩) 3 3) :: E) V) : WL Tryz.prog ops Q (o :: rest) n E w := by
  have hb : Below w.heap.size w (w.alloc (.cells #[.slice A0 l0.length c0, .bool s0, .slice A1 l1.length c1, .bool s1, .slice A2 l2.length c2, .bool s2] 24)) := (Below.refl _ _).alloc (Nat.le_refl _) _
  refine wpl_val hd hw (w' := w.alloc (.cells #[.slice A0 l0.length c0, .bool s0, .slice A1 l1.length c1, .bool s1, .slice A2 l2.length c2, .bool s2] 24)) (v := .slice (some ⟨w.heap.size, 0, none⟩) 3 3) ?_ (h _ _ ?_ (by simp) (Nat.le_refl _) hb)
  · unfold execOp
    rw [ho]
    simp [go_sem, h0, h1, h2]
  · constructor
    · intro i h; rcases i with _ | _ | _ | i <;> first | (simp [go_sem]; done) | exact absurd h (by simp)
    · intro i h; rcases i with _ | _ | _ | i <;> first | (simp [go_sem]; done) | exact absurd h (by simp)
    · intro i h; rcases i with _ | _ | _ | i <;> first | (exact RQ.below (by assumption) hb) | exact absurd h (by simp)
    · intro i h; rcases i with _ | _ | _ | i <;> first | assumption | exact absurd h (by simp)
    · intro i h; rcases i with _ | _ | _ | i <;> first | assumption | exact absurd h (by simp)
    · intro i h; rcases i with _ | _ | _ | i <;> first | assumption | exact absurd h (by simp)
end
section
variable {w : World} {N m c m2 c2 : Nat} {A A2 : Option Addr} {s s2 : Bool}
theorem Box.st (B : Box N A m c s w) : Box N A2 m2 c2 s2 ((w.setCell ⟨N, 0, none⟩ (.slice A2 m2 c2)).setCell ⟨N, 1, none⟩ (.bool s2)) :=
  ⟨by simpa using B.lt, cset_ne (by simp) (cset_eq B.c0), cset_eq (cset_ne (by simp) B.c1), fset (fset B.f0), fset (fset B.f1)⟩
theorem Box.st_ne {M mm cc : Nat} {AA : Option Addr} {ss : Bool} {u v : Value} (B : Box M AA mm cc ss w) (h : M ≠ N) : Box M AA mm cc ss ((w.setCell ⟨N, 0, none⟩ u).setCell ⟨N, 1, none⟩ v) :=
  ⟨by simpa using B.lt, cset_ne (by omega) (cset_ne (by omega) B.c0), cset_ne (by omega) (cset_ne (by omega) B.c1), fset (fset B.f0), fset (fset B.f1)⟩
theorem RQ.st {AA : Option Addr} {l : List Int} {u v : Value} (B : Box N A m c s w) (h : RQ w AA l) : RQ ((w.setCell ⟨N, 0, none⟩ u).setCell ⟨N, 1, none⟩ v) AA l := fun hn => by
  obtain ⟨ad, e, hlt, hc⟩ := h hn
  refine ⟨ad, e, by simpa using hlt, fun i hi => ?_⟩
  have h0 := hc i hi
  rw [World.cell?_setCell_other _ _ _ _ (fun k => by rw [← k, B.c1] at h0; cases h0), World.cell?_setCell_other _ _ _ _ (fun k => by rw [← k, B.c0] at h0; cases h0)]
  exact h0
theorem st_below {B0 : Nat} {u v : Value} (h : B0 ≤ N) : Below B0 w ((w.setCell ⟨N, 0, none⟩ u).setCell ⟨N, 1, none⟩ v) := ((Below.refl _ _).setCell h _).setCell h _
theorem run_stbox {ρ : Operand → Value} {o : Oper} {x y : Operand} (ho : o.op = .store 24 x y) (hx : ρ x = .pointer (some ⟨N, 0, none⟩)) (hy : ρ y = vagg A2 m2 c2 s2) (B : Box N A m c s w) :
    (execOp ρ o).run Tryz.prog w = .ok .skip ((w.setCell ⟨N, 0, none⟩ (.slice A2 m2 c2)).setCell ⟨N, 1, none⟩ (.bool s2)) := by
  have h0 := B.c0
  have h1 := B.c1
  have h2 := B.f0
  have h3 := B.f1
  unfold execOp
  rw [ho]
  simp only [hx, hy]
  simp [go_sem, h0, h1, h2, h3]
end
/-- What a store into a block leaves. -/
structure Std (N : Nat) (A : Option Addr) (m c : Nat) (s : Bool) (w V : World) : Prop where
  box : Box N A m c s V
  ne : ∀ {M mm cc : Nat} {AA : Option Addr} {ss : Bool}, Box M AA mm cc ss w → M ≠ N → Box M AA mm cc ss V
  rq : ∀ {AA : Option Addr} {l : List Int}, RQ w AA l → RQ V AA l
  bel : ∀ {B : Nat}, B ≤ N → Below B w V
section
variable {Q : Exit → Act → World → Prop} {ops : Array Oper} {o : Oper} {rest : List Oper} {x y : Operand} {w W : World} {A A2 : Option Addr} {N m c m2 c2 n : Nat} {s s2 : Bool} {E : Env}
theorem anyE_st {fuel k mk i m' q : Nat} (B : Box N A m c s w) (hi : ops[i]? = some o) (hd : o.dst = none) (ho' : onlyB ops ops.size mk i = true) (hw : wnt ops k E o = true) (hm : Nat.lor mk (Nat.shiftLeft 1 i) = m') (hin : Nat.ble q i = true)
    (ho : o.op = .store 24 x y) (hx : evl k E x = .pointer (some ⟨N, 0, none⟩)) (hy : evl k E y = vagg A2 m2 c2 s2)
    (h : ∀ V : World, Std N A2 m2 c2 s2 w V → anyE Tryz.prog ops Q W q fuel m' k E V) : anyE Tryz.prog ops Q W q (fuel + 1) mk k E w :=
  anyE_none hi hd ho' hw hm hin (run_stbox ho hx hy B) (h _ ⟨B.st, fun b hne => b.st_ne hne, fun r => r.st B, fun hb => st_below hb⟩)
theorem stepR_al {fuel k mk i m' q d : Nat} (hi : ops[i]? = some o) (hd : o.dst = some d) (hin : Nat.blt i q = true) (hw : wnt ops k E o = true) (hm : Nat.lor mk (Nat.shiftLeft 1 i) = m') (ho : o.op = .alloc 24)
    (h : ∀ (V : World) (N : Nat), Box N none 0 0 false V → w.heap.size ≤ N → Below w.heap.size w V → anyR Tryz.prog ops Q W q fuel m' k ((d, .pointer (some ⟨N, 0, none⟩)) :: E) V) : StepR Tryz.prog ops Q W q fuel mk k E w i :=
  have hb : Below w.heap.size w (w.alloc (.cells #[.slice none 0 0, .bool false] 24)) := (Below.refl _ _).alloc (Nat.le_refl _) _
  stepR_val hi hd hin hw hm (run_alvec ho) hb (h _ _ (Box.boxed w none 0 0 false) (Nat.le_refl _) hb)
end
section
variable {Q : Exit → Act → World → Prop} {ops : Array Oper} {o : Oper} {rest : List Oper} {w : World} {n d : Nat} {E : Env}
theorem wpl_bsL3 {A0 A1 A2 : Option Addr} {m0 m1 m2 c0 c1 c2 : Nat} {s0 s1 s2 : Bool} {x0 x1 x2 : Operand} (hd : o.dst = some d) (hw : wnt ops n E o = true) (ho : o.op = .buildSlice 51 3 #[(0, x0), (1, x1), (2, x2)]) (h0 : evl n E x0 = vagg A0 m0 c0 s0) (h1 : evl n E x1 = vagg A1 m1 c1 s1) (h2 : evl n E x2 = vagg A2 m2 c2 s2)
    (h : ∀ (V : World) (N : Nat), Vls V N [(A0, m0, c0, s0), (A1, m1, c1, s1), (A2, m2, c2, s2)] → Below w.heap.size w V → WL Tryz.prog ops Q rest n ((d, .slice (some ⟨N, 0, none⟩) 3 3) :: E) V) : WL Tryz.prog ops Q (o :: rest) n E w := by
  have hb : Below w.heap.size w (w.alloc (.cells #[.slice A0 m0 c0, .bool s0, .slice A1 m1 c1, .bool s1, .slice A2 m2 c2, .bool s2] 24)) := (Below.refl _ _).alloc (Nat.le_refl _) _
  refine wpl_val hd hw (w' := w.alloc (.cells #[.slice A0 m0 c0, .bool s0, .slice A1 m1 c1, .bool s1, .slice A2 m2 c2, .bool s2] 24)) (v := .slice (some ⟨w.heap.size, 0, none⟩) 3 3) ?_ (h _ _ ?_ hb)
  · unfold execOp
    rw [ho]
    simp [go_sem, h0, h1, h2]
  · intro i h
    rcases i with _ | _ | _ | i <;> first | (exfalso; simp only [List.length_cons, List.length_nil] at h; omega) | (refine ⟨?_, ?_⟩ <;> simp [go_sem])
end
end
section
open Go Go.RowKit
set_option maxRecDepth 100000
set_option linter.unusedSimpArgs false
set_option linter.unusedVariables false
/-- The table: the operator's number and the function's. -/
def twoT : List (Int × Nat) := [(37, 40), (38, 41), (39, 42), (40, 43), (21, 37), (22, 38), (23, 39), (24, 44), (25, 45), (26, 63), (27, 51), (28, 52), (31, 47), (32, 48), (33, 49), (34, 50), (35, 54), (36, 55), (41, 58), (42, 81), (43, 82), (44, 59), (29, 53), (30, 83)]
/-- A block that holds the table. -/
structure Two (N : Nat) (w : World) : Prop where
  lt : N < w.heap.size
  c0 : ∀ k (h : k < twoT.length), w.cell? ⟨N, k * 2, none⟩ = some (.int .u8 twoT[k].1)
  c1 : ∀ k (h : k < twoT.length), w.cell? ⟨N, k * 2 + 1, none⟩ = some (.func (.func twoT[k].2) #[] #[])
theorem Two.kept {N : Nat} {w w' : World} (h : Two N w) (hb : Below w.heap.size w w') : Two N w' :=
  ⟨Nat.lt_of_lt_of_le h.lt hb.size, fun k hk => (hb.cell (p := ⟨N, k * 2, none⟩) h.lt).trans (h.c0 k hk), fun k hk => (hb.cell (p := ⟨N, k * 2 + 1, none⟩) h.lt).trans (h.c1 k hk)⟩
/-- A block of two cells, whatever they hold. -/
structure Bx2 (N : Nat) (u v : Value) (w : World) : Prop where
  lt : N < w.heap.size
  c0 : w.cell? ⟨N, 0, none⟩ = some u
  c1 : w.cell? ⟨N, 1, none⟩ = some v
theorem Bx2.kept {N : Nat} {u v : Value} {w w' : World} (h : Bx2 N u v w) (hb : Below w.heap.size w w') : Bx2 N u v w' :=
  ⟨Nat.lt_of_lt_of_le h.lt hb.size, (hb.cell (p := ⟨N, 0, none⟩) h.lt).trans h.c0, (hb.cell (p := ⟨N, 1, none⟩) h.lt).trans h.c1⟩
section
variable {Q : Exit → Act → World → Prop} {ops : Array Oper} {o o2 : Oper} {rest : List Oper} {x y : Operand} {w W : World} {N n d k op F : Nat} {E : Env} {z : Int} {A : Option Addr} {m c : Nat} {s : Bool}
theorem run_ldsl {ρ : Operand → Value} (ho : o.op = .load 22 x) (hx : ρ x = .pointer (some ⟨N, 0, none⟩)) (B : Box N A m c s w) : (execOp ρ o).run Tryz.prog w = .ok (.value (.slice A m c)) w := by
  have h0 := B.c0
  unfold execOp
  rw [ho]
  simp only [hx]
  simp [go_sem, h0]
theorem wpl_ldsl (B : Box N A m c s w) (hd : o.dst = some d) (hw : wnt ops n E o = true) (ho : o.op = .load 22 x) (hx : evl n E x = .pointer (some ⟨N, 0, none⟩))
    (h : WL Tryz.prog ops Q rest n ((d, .slice A m c) :: E) w) : WL Tryz.prog ops Q (o :: rest) n E w := wpl_val hd hw (run_ldsl ho hx B) h
end
section
variable {P : Program} {Q : Exit → Act → World → Prop} {c : Code} {n : Nat} {E : Env} {w : World}
theorem loop_r (k : Nat) (h : Code.rounds P c Q k (sl n E) w) : (Code.loop c).wp P Q (sl n E) w := wp_loop_rounds k h
theorem round_s {k : Nat} (h : c.wp P (Exit.then (Code.rounds P c Q k) Q) (sl n E) w) : Code.rounds P c Q (k + 1) (sl n E) w := h
theorem round_keep {k : Nat} (K : Env) (hk : Kp K E) (h : ∀ X : Env, Code.rounds P c Q k (sl n (K ++ X)) w) : Code.rounds P c Q k (sl n E) w := by rw [sl_keep hk]; exact h E
end
end
section
open Go Go.RowKit
set_option maxRecDepth 100000
@[reducible] def pt (N i : Nat) : Value := .pointer (some ⟨N, i, none⟩)
@[reducible] def z_f : Value := .bool false
@[reducible] def z_t : Value := .bool true
@[reducible] def z_R (Na Nb Nx Nz NV : Nat) (b : Value) (k : Int) : Env := [(2, pt Na 0), (3, pt Nb 0), (4, b), (5, pt Nx 0), (6, pt Nz 0), (27, .slice (some ⟨NV, 0, none⟩) 24 24), (28, .int .i64 24), (29, .int .i64 k)]
theorem zGd {l : List Int} {s : Bool} {V : Vc} (E : Hid ((⟨l, s⟩ : Vc) = V)) (h : Gd V.b) : Gd l := by have e := congrArg Vc.b E.out; dsimp only at e; rw [e]; exact h
theorem zLe {l : List Int} (h : Gd l) : Hid (l.length ≤ 4096) := hide (Nat.le_trans h.le (by decide))
theorem zU {n : Nat} {w w1 w2 : World} (h : Below n w w1) (hn : n ≤ w1.heap.size) (hb : Below w1.heap.size w1 w2) : Below n w w2 := h.trans (hb.mono hn)
theorem zQ {w w' : World} {A : Option Addr} {l : List Int} (h : Hid (RQ w A l)) (hb : Below w.heap.size w w') : Hid (RQ w' A l) := hide (RQ.below h.out hb)
theorem zX {N n c : Nat} {A : Option Addr} {s : Bool} {w w' : World} (h : Hid (Box N A n c s w)) (hb : Below w.heap.size w w') : Hid (Box N A n c s w') := hide (Box.kept h.out hb)
section
variable {P : Program} {Q : Exit → Act → World → Prop}
theorem ze {ops : Array Oper} {next : Act → World → Prop} {n : Nat} {E : Env} {w : World} (h : next (sl n E) w) : WL P ops (Exit.then next Q) [] n E w := wpl_end (then_normal h)
theorem zs {id : Nat} {l : List Oper} {c : Code} {n : Nat} {E : Env} {w : World} (h : WL P l.toArray (Exit.then (fun a w => c.wp P Q a w) Q) l n E w) : (Code.seq (Code.region id l.toArray false) c).wp P Q (sl n E) w := wp_seq (reg_lit h)
theorem zif {c : Operand} {x y : Code} {n : Nat} {E : Env} {w : World} (h : y.wp P Q (sl n E) w) (hc : evl n E c = .bool false := by kernel_rfl) : (Code.cond c x y).wp P Q (sl n E) w := wp_iff hc h
theorem zc {ops : Array Oper} {o : Oper} {rest : List Oper} {n d : Nat} {E : Env} {w : World} {f : FuncId} {args : Array Value} (hd : o.dst = some d) (hc : Calls P f args w fun e w' => ∃ v, e = .returned v ∧ WL P ops Q rest n ((d, v) :: E) w') (hw : wnt ops n E o = true := by kernel_rfl) (hr : (execOp (evl n E) o).run P w = .ok (.enter f args) w := by kernel_rfl) : WL P ops Q (o :: rest) n E w := wpl_call hd hw hr hc
theorem z1 {ops : Array Oper} {n : Nat} {o0 : Oper} {rest : List Oper} {E : Env} {w : World} (N : Env) (h : WL P ops Q rest n (N ++ E) w) (hr : runK P ops n 1 (o0 :: rest) E w = some (N ++ E, w) := by kernel_rfl) : WL P ops Q (o0 :: rest) n E w := wpl_r1 N hr h
theorem z2 {ops : Array Oper} {n : Nat} {o0 o1 : Oper} {rest : List Oper} {E : Env} {w : World} (N : Env) (h : WL P ops Q rest n (N ++ E) w) (hr : runK P ops n 2 (o0 :: o1 :: rest) E w = some (N ++ E, w) := by kernel_rfl) : WL P ops Q (o0 :: o1 :: rest) n E w := wpl_r2 N hr h
theorem z3 {ops : Array Oper} {n : Nat} {o0 o1 o2 : Oper} {rest : List Oper} {E : Env} {w : World} (N : Env) (h : WL P ops Q rest n (N ++ E) w) (hr : runK P ops n 3 (o0 :: o1 :: o2 :: rest) E w = some (N ++ E, w) := by kernel_rfl) : WL P ops Q (o0 :: o1 :: o2 :: rest) n E w := wpl_r3 N hr h
theorem z4 {ops : Array Oper} {n : Nat} {o0 o1 o2 o3 : Oper} {rest : List Oper} {E : Env} {w : World} (N : Env) (h : WL P ops Q rest n (N ++ E) w) (hr : runK P ops n 4 (o0 :: o1 :: o2 :: o3 :: rest) E w = some (N ++ E, w) := by kernel_rfl) : WL P ops Q (o0 :: o1 :: o2 :: o3 :: rest) n E w := wpl_r4 N hr h
theorem z5 {ops : Array Oper} {n : Nat} {o0 o1 o2 o3 o4 : Oper} {rest : List Oper} {E : Env} {w : World} (N : Env) (h : WL P ops Q rest n (N ++ E) w) (hr : runK P ops n 5 (o0 :: o1 :: o2 :: o3 :: o4 :: rest) E w = some (N ++ E, w) := by kernel_rfl) : WL P ops Q (o0 :: o1 :: o2 :: o3 :: o4 :: rest) n E w := wpl_r5 N hr h
theorem z6 {ops : Array Oper} {n : Nat} {o0 o1 o2 o3 o4 o5 : Oper} {rest : List Oper} {E : Env} {w : World} (N : Env) (h : WL P ops Q rest n (N ++ E) w) (hr : runK P ops n 6 (o0 :: o1 :: o2 :: o3 :: o4 :: o5 :: rest) E w = some (N ++ E, w) := by kernel_rfl) : WL P ops Q (o0 :: o1 :: o2 :: o3 :: o4 :: o5 :: rest) n E w := wpl_r6 N hr h
theorem z7 {ops : Array Oper} {n : Nat} {o0 o1 o2 o3 o4 o5 o6 : Oper} {rest : List Oper} {E : Env} {w : World} (N : Env) (h : WL P ops Q rest n (N ++ E) w) (hr : runK P ops n 7 (o0 :: o1 :: o2 :: o3 :: o4 :: o5 :: o6 :: rest) E w = some (N ++ E, w) := by kernel_rfl) : WL P ops Q (o0 :: o1 :: o2 :: o3 :: o4 :: o5 :: o6 :: rest) n E w := wpl_r7 N hr h
variable {ops : Array Oper} {W w : World} {n fuel m k : Nat} {E : Env}
theorem zav {i d m' : Nat} {o : Oper} {v : Value} (F : Rg ops n) (hQ : ∀ c a d v w, Q (.panic c) (Act.put a (some d) v) w → Q (.panic c) a w) (hi : ops[i]? = some o) (hd : o.dst = some d) (h : anyR P ops Q W n fuel m' k ((d, v) :: E) w)
    (hin : Nat.blt i n = true := by kernel_rfl) (hf : freeB ops ops.size m i o = true := by kernel_rfl) (hr : rdyB ops ops.size m i = true := by kernel_rfl) (hw : wnt ops k E o = true := by kernel_rfl) (hm : Nat.lor m (Nat.shiftLeft 1 i) = m' := by kernel_rfl)
    (hy : ∀ w', Below W.heap.size W w' → (execOp (evl k E) o).run P w' = .ok (.value v) w' := by intro _ _; kernel_rfl) : anyR P ops Q W n (fuel + 1) m k E w := anyR_val F hQ hi hd hin hf hr hw hm hy h
theorem zac {i d m' : Nat} {o : Oper} {f : FuncId} {args : Array Value} (hi : ops[i]? = some o) (hd : o.dst = some d) (hc : Calls P f args w fun e w' => ∃ v, e = .returned v ∧ Below w.heap.size w w' ∧ anyR P ops Q W n fuel m' k ((d, v) :: E) w')
    (hin : Nat.blt i n = true := by kernel_rfl) (ho : onlyB ops ops.size m i = true := by kernel_rfl) (hw : wnt ops k E o = true := by kernel_rfl) (hm : Nat.lor m (Nat.shiftLeft 1 i) = m' := by kernel_rfl)
    (hr : (execOp (evl k E) o).run P w = .ok (.enter f args) w := by kernel_rfl) : anyR P ops Q W n (fuel + 1) m k E w := anyR_call hi hd hin ho hw hm hr hc
end
section
variable {Q : Exit → Act → World → Prop} {ops : Array Oper} {o o2 : Oper} {rest : List Oper} {x y : Operand} {w W : World} {A : Option Addr} {N m c n d k : Nat} {s : Bool} {E : Env} {z : Int}
theorem zv (B : Box N A m c s w) (hd : o.dst = some d) (ho : o.op = .load 24 x) (h : WL Tryz.prog ops Q rest n ((d, vagg A m c s) :: E) w) (hw : wnt ops n E o = true := by kernel_rfl) (hx : evl n E x = .pointer (some ⟨N, 0, none⟩) := by kernel_rfl) : WL Tryz.prog ops Q (o :: rest) n E w := wpl_ldvec B hd hw ho hx h
theorem zl (B : Box N A m c s w) (hd : o.dst = some d) (ho : o.op = .load 22 x) (h : WL Tryz.prog ops Q rest n ((d, .slice A m c) :: E) w) (hw : wnt ops n E o = true := by kernel_rfl) (hx : evl n E x = .pointer (some ⟨N, 0, none⟩) := by kernel_rfl) : WL Tryz.prog ops Q (o :: rest) n E w := wpl_ldsl B hd hw ho hx h
theorem zm (hd : o.dst = some d) (ho : o.op = .alloc 24) (ho2 : o2.op = .store 24 x y)
    (h : ∀ (V : World) (N : Nat), Box N A m c s V → w.heap.size ≤ N → Below w.heap.size w V → WL Tryz.prog ops Q rest n ((d, .pointer (some ⟨N, 0, none⟩)) :: E) V)
    (hg : o.guard = none := by kernel_rfl) (hd2 : o2.dst = none := by kernel_rfl) (hg2 : o2.guard = none := by kernel_rfl) (hx : ∀ v : Value, evl n ((d, v) :: E) x = v := by intro _; kernel_rfl) (hy : ∀ v : Value, evl n ((d, v) :: E) y = vagg A m c s := by intro _; kernel_rfl) : WL Tryz.prog ops Q (o :: o2 :: rest) n E w := wpl_made hd hg ho hd2 hg2 ho2 hx hy h
end
end
section
open Go.RowKit
set_option maxRecDepth 100000
set_option linter.unusedSimpArgs false
set_option linter.unusedVariables false
theorem step_make_bv {w : World} {ops : Array Oper} {o : Oper} {a : Act} {K : Act → World → Prop} {Q : Exit → Act → World → Prop} {E : Prop} (hg : o.guard = none) (x y : Operand) (hop : o.op = Op.makeSlice 82 x y)
    (L C : Int) (n : Nat) (hl : a.eval x = .int .i64 L) (hc : a.eval y = .int .i64 C) (hL : L = n) (hC : C = n) (hn : n ≤ 4096)
    (hK : ∀ w', RowF w' w.heap.size n (fun _ => false) → Below w.heap.size w w' → K (a.put o.dst (.slice (some ⟨w.heap.size, 0, none⟩) n n)) w') :
    if Region.wanted o (yielded ops a.tmps) = true then Oper.wp Tryz.prog o a w K Q else E := by
  have hw : Region.wanted o (yielded ops a.tmps) = true := by simp [Region.wanted, hg]
  rw [if_pos hw]
  obtain ⟨i0, hi, hz0, hz1, hz2⟩ := info_parts bool_info
  obtain ⟨w', hrun, hown, hgrow⟩ := run_make_full (P := Tryz.prog) w w.heap.size 82 4 i0 (.bool false) 1 Tryz.underlying82 hi hz0 hz1 .i64 .i64 n (by rw [hz2]; omega) (by simp only [maxLen]; omega) (Nat.le_refl _)
  subst hL
  subst hC
  unfold Oper.wp
  simp [execOp, hop, hl, hc, hrun, Result.andThen]
  have hlen : (madeCells (Value.bool false).cells (n * 1)).toList = (List.replicate n false).map Value.bool := by
    rw [Nat.mul_one, show (Value.bool false).cells = #[.bool false] from rfl, toList_madeCells_one, List.map_replicate]
  rw [hlen] at hown
  have hr : RowF w' w.heap.size n (fun _ => false) := by
    have h1 : (List.replicate n false).length = n := by simp
    have h2 := row_of_own (l := List.replicate n false) (by rw [h1]; exact hown)
    rw [h1] at h2
    exact h2.congr fun i hi => by unfold bt; simp [hi]
  exact hK w' hr ((Below.refl _ _).grown hgrow (Nat.le_refl _) (fun k hk => by cases hk))
theorem zr_fb (n : Nat) : fb (bl n fun _ => false) = ql n fun _ => 0 := by
  unfold fb
  rw [bl_length]
  exact ql_congr fun i hi => by rw [bt_bl_lt hi]; rfl
end
end Go.Proofs.YtbcpeagannjgpaaGreatDoor
