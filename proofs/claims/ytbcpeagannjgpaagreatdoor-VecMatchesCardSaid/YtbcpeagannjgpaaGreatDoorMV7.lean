/-
  Texts of MV joined (VecI, VecO, VecQ, VecT).
-/
import Derived.Test.YtbcpeagannjgpaaGreatDoorMV6
set_option linter.unusedVariables false
set_option linter.unusedSimpArgs false
set_option linter.unusedSectionVars false
namespace Go.Proofs.YtbcpeagannjgpaaGreatDoor
section
open Go.RowKit
set_option maxRecDepth 100000
set_option linter.unusedSimpArgs false
set_option linter.unusedVariables false
theorem vLAnd_any (A B : Option Addr) (a b : List Int) (c d : Nat) (s t : Bool) (w : World) (ha : a.length ≤ 4096) (hb : b.length ≤ 4096) (hca : Hid (a.length ≤ c ∧ c ≤ maxLen)) (hcb : Hid (b.length ≤ d ∧ d ≤ maxLen)) (hA : RQ w A a) (hB : RQ w B b) (ya : By a) (yb : By b) (ht : Tabs w) :
    Calls Tryz.prog 54 #[.agg #[.slice A a.length c, .bool s], .agg #[.slice B b.length d, .bool t]] w (RetC (· = sgl (mAnd (tr ⟨a, s⟩) (tr ⟨b, t⟩))) w) := by
  have HA := hide hA
  have HBB := hide hB
  have LA := hide ha
  have LB := hide hb
  have YA := hide ya
  have YB := hide yb
  clear hA hB ha hb ya yb
  have HT := hide ht
  clear ht
  have BA := tr_bd (a := ⟨a, s⟩) YA.out
  have BB := tr_bd (a := ⟨b, t⟩) YB.out
  go_enter Tryz.func54, Tryz.ntmps54
  go_wp2_with fail
  obtain ⟨W1, hW1⟩ : ∃ x, x = (((w.alloc (Obj.cells #[Value.slice A a.length c, Value.bool s] 24)).alloc (Obj.cells #[Value.slice B b.length d, Value.bool t] 24)).alloc (Obj.cells #[Value.slice none 0 0, Value.bool false] 24)) := ⟨_, rfl⟩
  rw [← hW1]
  have hBW1 : Below w.heap.size w W1 := by rw [hW1]; exact belo
  have qW1_0 : W1.cell? ⟨w.heap.size, 0, none⟩ = some (Value.slice A a.length c) := by rw [hW1]; simp [go_sem]
  have fW1_0 : W1.frozen? ⟨w.heap.size, 0, none⟩ = false := by rw [hW1]; simp [go_sem]
  have qW1_1 : W1.cell? ⟨w.heap.size, 1, none⟩ = some (Value.bool s) := by rw [hW1]; simp [go_sem]
  have fW1_1 : W1.frozen? ⟨w.heap.size, 1, none⟩ = false := by rw [hW1]; simp [go_sem]
  have qW1_2 : W1.cell? ⟨w.heap.size + 1, 0, none⟩ = some (Value.slice B b.length d) := by rw [hW1]; simp [go_sem]
  have fW1_2 : W1.frozen? ⟨w.heap.size + 1, 0, none⟩ = false := by rw [hW1]; simp [go_sem]
  have qW1_3 : W1.cell? ⟨w.heap.size + 1, 1, none⟩ = some (Value.bool t) := by rw [hW1]; simp [go_sem]
  have fW1_3 : W1.frozen? ⟨w.heap.size + 1, 1, none⟩ = false := by rw [hW1]; simp [go_sem]
  have qW1_4 : W1.cell? ⟨w.heap.size + 2, 0, none⟩ = some (Value.slice none 0 0) := by rw [hW1]; simp [go_sem]
  have fW1_4 : W1.frozen? ⟨w.heap.size + 2, 0, none⟩ = false := by rw [hW1]; simp [go_sem]
  have qW1_5 : W1.cell? ⟨w.heap.size + 2, 1, none⟩ = some (Value.bool false) := by rw [hW1]; simp [go_sem]
  have fW1_5 : W1.frozen? ⟨w.heap.size + 2, 1, none⟩ = false := by rw [hW1]; simp [go_sem]
  have zW1_0 : w.heap.size < W1.heap.size := by rw [hW1]; first | (simp; done) | (simp; omega)
  have zW1_1 : w.heap.size + 1 < W1.heap.size := by rw [hW1]; first | (simp; done) | (simp; omega)
  have zW1_2 : w.heap.size + 2 < W1.heap.size := by rw [hW1]; first | (simp; done) | (simp; omega)
  clear hW1
  refine region_anyT (S := fun wS => Below W1.heap.size W1 wS) (n := 6) kr (Below.refl _ _).drew (fun hS inv => ?_)
  refine anyT_take (i := 0) (oi := _) (v := Value.agg #[Value.slice A a.length c, Value.bool s]) rfl kr kr kr (by decide) (by decide) kr kr inv (fun _ _ _ h => h) (Or.inl ⟨kr, ?_⟩) hS (fun inv => ?_)
  · intro wz hSw
    have hk0 := (hSw : Below _ _ _).cell (p := ⟨w.heap.size, 0, none⟩) as0; have hk1 := (hSw : Below _ _ _).cell (p := ⟨w.heap.size, 1, none⟩) as0; go_simp
  (try simp only [Act.put, q2, q3, q4, q5, q6, q7])
  refine anyT_take (i := 2) (oi := _) (v := Value.agg #[Value.slice B b.length d, Value.bool t]) rfl kr kr kr (by decide) (by decide) kr kr inv (fun _ _ _ h => h) (Or.inl ⟨kr, ?_⟩) hS (fun inv => ?_)
  · intro wz hSw
    have hk0 := (hSw : Below _ _ _).cell (p := ⟨w.heap.size + 1, 0, none⟩) as0; have hk1 := (hSw : Below _ _ _).cell (p := ⟨w.heap.size + 1, 1, none⟩) as0; go_simp
  (try simp only [Act.put, q2, q3, q4, q5, q6, q7])
  refine anyT_ready (rs := [1]) kr (by simp) ?_
  refine ReadyT.head (o := _) rfl (by decide) kr inv (fun K hK => ?_) ReadyT.nil
  go_simp
  refine (truth_any A a c s _ LA.out hca (HA.out.below belo) YA.out (HT.out.kept belo)).mono ?_
  rintro e w1 ⟨rfl, hb⟩
  go_wp2_with fail
  refine hK.out _ _ ?_ (fun hS inv => ?_)
  · exact (hS : Below W1.heap.size W1 _).trans (hb.mono (Below.size hS))
  clear hK K
  (try simp only [Act.put, q2, q3, q4, q5, q6, q7])
  have hB1 : Below w.heap.size w w1 := Below.trans belo (hb.mono as4)
  obtain ⟨kc1, kf1⟩ := bcell hb
  have hz1 := hb.size
  (try simp at hz1)
  have n1_0 : w.heap.size < w1.heap.size := by omega
  have n1_1 : w.heap.size + 1 < w1.heap.size := by omega
  have n1_2 : w.heap.size + 2 < w1.heap.size := by omega
  have r1_0 : w1.cell? ⟨w.heap.size + 2, 0, none⟩ = some (.slice none 0 0) := (kc1 _ _ as0).trans as2
  have g1_0 : w1.frozen? ⟨w.heap.size + 2, 0, none⟩ = false := (kf1 _ _ as0).trans as2
  have r1_1 : w1.cell? ⟨w.heap.size + 2, 1, none⟩ = some (.bool false) := (kc1 _ _ as0).trans as2
  have g1_1 : w1.frozen? ⟨w.heap.size + 2, 1, none⟩ = false := (kf1 _ _ as0).trans as2
  clear hb
  refine anyT_ready (rs := [3]) kr (by simp) ?_
  refine ReadyT.head (o := _) rfl (by decide) kr inv (fun K hK => ?_) ReadyT.nil
  go_simp
  refine (truth_any B b d t _ LB.out hcb (HBB.out.below belo) YB.out (HT.out.kept belo)).mono ?_
  rintro e w2 ⟨rfl, hb⟩
  go_wp2_with fail
  refine hK.out _ _ ?_ (fun hS inv => ?_)
  · exact (hS : Below W1.heap.size W1 _).trans (hb.mono (Below.size hS))
  clear hK K
  (try simp only [Act.put, q2, q3, q4, q5, q6, q7])
  have hB2 : Below w.heap.size w w2 := Below.trans belo (hb.mono as4)
  obtain ⟨kc2, kf2⟩ := bcell hb
  have hz2 := hb.size
  (try simp at hz2)
  have n2_0 : w.heap.size < w2.heap.size := by omega
  have n2_1 : w.heap.size + 1 < w2.heap.size := by omega
  have n2_2 : w.heap.size + 2 < w2.heap.size := by omega
  have r2_0 : w2.cell? ⟨w.heap.size + 2, 0, none⟩ = some (.slice none 0 0) := (kc2 _ _ as0).trans as2
  have g2_0 : w2.frozen? ⟨w.heap.size + 2, 0, none⟩ = false := (kf2 _ _ as0).trans as2
  have r2_1 : w2.cell? ⟨w.heap.size + 2, 1, none⟩ = some (.bool false) := (kc2 _ _ as0).trans as2
  have g2_1 : w2.frozen? ⟨w.heap.size + 2, 1, none⟩ = false := (kf2 _ _ as0).trans as2
  clear hb
  refine anyT_ready (rs := [4]) kr (by simp) ?_
  refine ReadyT.head (o := _) rfl (by decide) kr inv (fun K hK => ?_) ReadyT.nil
  go_simp
  refine (and_q _ _ _ BA.1 BB.1 (HT.out.kept belo).ta).mono ?_
  rintro e w' ⟨rfl, nd, rfl⟩
  go_wp2_with fail
  refine hK.out _ _ ?_ (fun hS inv => ?_)
  · exact below_drewN hS _
  clear hK K
  (try simp only [Act.put, q2, q3, q4, q5, q6, q7])
  refine anyT_ready (rs := [5]) kr (by simp) ?_
  refine ReadyT.head (o := _) rfl (by decide) kr inv (fun K hK => ?_) ReadyT.nil
  go_simp
  refine (single_any _ _).mono ?_
  rintro e w3 ⟨l1, s1, A1, c1, E1, rfl, C1, O1, hb⟩
  go_wp2_with fail
  refine hK.out _ _ ?_ (fun hS inv => ?_)
  · exact (hS : Below W1.heap.size W1 _).trans (hb.mono (Below.size hS))
  clear hK K
  (try simp only [Act.put, q2, q3, q4, q5, q6, q7])
  replace O1 := hide (O1.out.base (show w.heap.size + 3 ≤ _ by first | omega | (simp; omega) | (simp; done)))
  have hB3 : Below w.heap.size w w3 := Below.trans belo (hb.mono as4)
  obtain ⟨kc3, kf3⟩ := bcell hb
  have hz3 := hb.size
  (try simp at hz3)
  have n3_0 : w.heap.size < w3.heap.size := by omega
  have n3_1 : w.heap.size + 1 < w3.heap.size := by omega
  have n3_2 : w.heap.size + 2 < w3.heap.size := by omega
  have r3_0 : w3.cell? ⟨w.heap.size + 2, 0, none⟩ = some (.slice none 0 0) := (kc3 _ _ as0).trans as2
  have g3_0 : w3.frozen? ⟨w.heap.size + 2, 0, none⟩ = false := (kf3 _ _ as0).trans as2
  have r3_1 : w3.cell? ⟨w.heap.size + 2, 1, none⟩ = some (.bool false) := (kc3 _ _ as0).trans as2
  have g3_1 : w3.frozen? ⟨w.heap.size + 2, 1, none⟩ = false := (kf3 _ _ as0).trans as2
  clear hb
  refine anyT_ready (rs := [6]) kr (by simp) ?_
  refine ReadyT.tail (o := _) rfl (by decide) (fun K hK => ?_)
  go_simp
  refine hK.out _ _ ?_
  clear hK K
  (try simp only [Act.put, q2, q3, q4, q5, q6, q7])
  refine anyT_done kr ?_ _
  go_wp2
  refine bodyPost_ret (v := .agg #[.slice A1 l1.length c1, .bool s1]) (by simp [results, Tryz.results54, go_sem, *]) rfl ?_
  exact ⟨l1, s1, A1, c1, hide (E1.out), rfl, C1, hide (OwQ.base (B := w.heap.size + 3) (owT O1) (by omega)), belo⟩
theorem vLOr_any (A B : Option Addr) (a b : List Int) (c d : Nat) (s t : Bool) (w : World) (ha : a.length ≤ 4096) (hb : b.length ≤ 4096) (hca : Hid (a.length ≤ c ∧ c ≤ maxLen)) (hcb : Hid (b.length ≤ d ∧ d ≤ maxLen)) (hA : RQ w A a) (hB : RQ w B b) (ya : By a) (yb : By b) (ht : Tabs w) :
    Calls Tryz.prog 55 #[.agg #[.slice A a.length c, .bool s], .agg #[.slice B b.length d, .bool t]] w (RetC (· = sgl (mOr (tr ⟨a, s⟩) (tr ⟨b, t⟩))) w) := by
  have HA := hide hA
  have HBB := hide hB
  have LA := hide ha
  have LB := hide hb
  have YA := hide ya
  have YB := hide yb
  clear hA hB ha hb ya yb
  have HT := hide ht
  clear ht
  have BA := tr_bd (a := ⟨a, s⟩) YA.out
  have BB := tr_bd (a := ⟨b, t⟩) YB.out
  go_enter Tryz.func55, Tryz.ntmps55
  go_wp2_with fail
  obtain ⟨W1, hW1⟩ : ∃ x, x = (((w.alloc (Obj.cells #[Value.slice A a.length c, Value.bool s] 24)).alloc (Obj.cells #[Value.slice B b.length d, Value.bool t] 24)).alloc (Obj.cells #[Value.slice none 0 0, Value.bool false] 24)) := ⟨_, rfl⟩
  rw [← hW1]
  have hBW1 : Below w.heap.size w W1 := by rw [hW1]; exact belo
  have qW1_0 : W1.cell? ⟨w.heap.size, 0, none⟩ = some (Value.slice A a.length c) := by rw [hW1]; simp [go_sem]
  have fW1_0 : W1.frozen? ⟨w.heap.size, 0, none⟩ = false := by rw [hW1]; simp [go_sem]
  have qW1_1 : W1.cell? ⟨w.heap.size, 1, none⟩ = some (Value.bool s) := by rw [hW1]; simp [go_sem]
  have fW1_1 : W1.frozen? ⟨w.heap.size, 1, none⟩ = false := by rw [hW1]; simp [go_sem]
  have qW1_2 : W1.cell? ⟨w.heap.size + 1, 0, none⟩ = some (Value.slice B b.length d) := by rw [hW1]; simp [go_sem]
  have fW1_2 : W1.frozen? ⟨w.heap.size + 1, 0, none⟩ = false := by rw [hW1]; simp [go_sem]
  have qW1_3 : W1.cell? ⟨w.heap.size + 1, 1, none⟩ = some (Value.bool t) := by rw [hW1]; simp [go_sem]
  have fW1_3 : W1.frozen? ⟨w.heap.size + 1, 1, none⟩ = false := by rw [hW1]; simp [go_sem]
  have qW1_4 : W1.cell? ⟨w.heap.size + 2, 0, none⟩ = some (Value.slice none 0 0) := by rw [hW1]; simp [go_sem]
  have fW1_4 : W1.frozen? ⟨w.heap.size + 2, 0, none⟩ = false := by rw [hW1]; simp [go_sem]
  have qW1_5 : W1.cell? ⟨w.heap.size + 2, 1, none⟩ = some (Value.bool false) := by rw [hW1]; simp [go_sem]
  have fW1_5 : W1.frozen? ⟨w.heap.size + 2, 1, none⟩ = false := by rw [hW1]; simp [go_sem]
  have zW1_0 : w.heap.size < W1.heap.size := by rw [hW1]; first | (simp; done) | (simp; omega)
  have zW1_1 : w.heap.size + 1 < W1.heap.size := by rw [hW1]; first | (simp; done) | (simp; omega)
  have zW1_2 : w.heap.size + 2 < W1.heap.size := by rw [hW1]; first | (simp; done) | (simp; omega)
  clear hW1
  refine region_anyT (S := fun wS => Below W1.heap.size W1 wS) (n := 6) kr (Below.refl _ _).drew (fun hS inv => ?_)
  refine anyT_take (i := 0) (oi := _) (v := Value.agg #[Value.slice A a.length c, Value.bool s]) rfl kr kr kr (by decide) (by decide) kr kr inv (fun _ _ _ h => h) (Or.inl ⟨kr, ?_⟩) hS (fun inv => ?_)
  · intro wz hSw
    have hk0 := (hSw : Below _ _ _).cell (p := ⟨w.heap.size, 0, none⟩) as0; have hk1 := (hSw : Below _ _ _).cell (p := ⟨w.heap.size, 1, none⟩) as0; go_simp
  (try simp only [Act.put, q2, q3, q4, q5, q6, q7])
  refine anyT_take (i := 2) (oi := _) (v := Value.agg #[Value.slice B b.length d, Value.bool t]) rfl kr kr kr (by decide) (by decide) kr kr inv (fun _ _ _ h => h) (Or.inl ⟨kr, ?_⟩) hS (fun inv => ?_)
  · intro wz hSw
    have hk0 := (hSw : Below _ _ _).cell (p := ⟨w.heap.size + 1, 0, none⟩) as0; have hk1 := (hSw : Below _ _ _).cell (p := ⟨w.heap.size + 1, 1, none⟩) as0; go_simp
  (try simp only [Act.put, q2, q3, q4, q5, q6, q7])
  refine anyT_ready (rs := [1]) kr (by simp) ?_
  refine ReadyT.head (o := _) rfl (by decide) kr inv (fun K hK => ?_) ReadyT.nil
  go_simp
  refine (truth_any A a c s _ LA.out hca (HA.out.below belo) YA.out (HT.out.kept belo)).mono ?_
  rintro e w1 ⟨rfl, hb⟩
  go_wp2_with fail
  refine hK.out _ _ ?_ (fun hS inv => ?_)
  · exact (hS : Below W1.heap.size W1 _).trans (hb.mono (Below.size hS))
  clear hK K
  (try simp only [Act.put, q2, q3, q4, q5, q6, q7])
  have hB1 : Below w.heap.size w w1 := Below.trans belo (hb.mono as4)
  obtain ⟨kc1, kf1⟩ := bcell hb
  have hz1 := hb.size
  (try simp at hz1)
  have n1_0 : w.heap.size < w1.heap.size := by omega
  have n1_1 : w.heap.size + 1 < w1.heap.size := by omega
  have n1_2 : w.heap.size + 2 < w1.heap.size := by omega
  have r1_0 : w1.cell? ⟨w.heap.size + 2, 0, none⟩ = some (.slice none 0 0) := (kc1 _ _ as0).trans as2
  have g1_0 : w1.frozen? ⟨w.heap.size + 2, 0, none⟩ = false := (kf1 _ _ as0).trans as2
  have r1_1 : w1.cell? ⟨w.heap.size + 2, 1, none⟩ = some (.bool false) := (kc1 _ _ as0).trans as2
  have g1_1 : w1.frozen? ⟨w.heap.size + 2, 1, none⟩ = false := (kf1 _ _ as0).trans as2
  clear hb
  refine anyT_ready (rs := [3]) kr (by simp) ?_
  refine ReadyT.head (o := _) rfl (by decide) kr inv (fun K hK => ?_) ReadyT.nil
  go_simp
  refine (truth_any B b d t _ LB.out hcb (HBB.out.below belo) YB.out (HT.out.kept belo)).mono ?_
  rintro e w2 ⟨rfl, hb⟩
  go_wp2_with fail
  refine hK.out _ _ ?_ (fun hS inv => ?_)
  · exact (hS : Below W1.heap.size W1 _).trans (hb.mono (Below.size hS))
  clear hK K
  (try simp only [Act.put, q2, q3, q4, q5, q6, q7])
  have hB2 : Below w.heap.size w w2 := Below.trans belo (hb.mono as4)
  obtain ⟨kc2, kf2⟩ := bcell hb
  have hz2 := hb.size
  (try simp at hz2)
  have n2_0 : w.heap.size < w2.heap.size := by omega
  have n2_1 : w.heap.size + 1 < w2.heap.size := by omega
  have n2_2 : w.heap.size + 2 < w2.heap.size := by omega
  have r2_0 : w2.cell? ⟨w.heap.size + 2, 0, none⟩ = some (.slice none 0 0) := (kc2 _ _ as0).trans as2
  have g2_0 : w2.frozen? ⟨w.heap.size + 2, 0, none⟩ = false := (kf2 _ _ as0).trans as2
  have r2_1 : w2.cell? ⟨w.heap.size + 2, 1, none⟩ = some (.bool false) := (kc2 _ _ as0).trans as2
  have g2_1 : w2.frozen? ⟨w.heap.size + 2, 1, none⟩ = false := (kf2 _ _ as0).trans as2
  clear hb
  refine anyT_ready (rs := [4]) kr (by simp) ?_
  refine ReadyT.head (o := _) rfl (by decide) kr inv (fun K hK => ?_) ReadyT.nil
  go_simp
  refine (or_q _ _ _ BA.1 BB.1 (HT.out.kept belo).tO).mono ?_
  rintro e w' ⟨rfl, nd, rfl⟩
  go_wp2_with fail
  refine hK.out _ _ ?_ (fun hS inv => ?_)
  · exact below_drewN hS _
  clear hK K
  (try simp only [Act.put, q2, q3, q4, q5, q6, q7])
  refine anyT_ready (rs := [5]) kr (by simp) ?_
  refine ReadyT.head (o := _) rfl (by decide) kr inv (fun K hK => ?_) ReadyT.nil
  go_simp
  refine (single_any _ _).mono ?_
  rintro e w3 ⟨l1, s1, A1, c1, E1, rfl, C1, O1, hb⟩
  go_wp2_with fail
  refine hK.out _ _ ?_ (fun hS inv => ?_)
  · exact (hS : Below W1.heap.size W1 _).trans (hb.mono (Below.size hS))
  clear hK K
  (try simp only [Act.put, q2, q3, q4, q5, q6, q7])
  replace O1 := hide (O1.out.base (show w.heap.size + 3 ≤ _ by first | omega | (simp; omega) | (simp; done)))
  have hB3 : Below w.heap.size w w3 := Below.trans belo (hb.mono as4)
  obtain ⟨kc3, kf3⟩ := bcell hb
  have hz3 := hb.size
  (try simp at hz3)
  have n3_0 : w.heap.size < w3.heap.size := by omega
  have n3_1 : w.heap.size + 1 < w3.heap.size := by omega
  have n3_2 : w.heap.size + 2 < w3.heap.size := by omega
  have r3_0 : w3.cell? ⟨w.heap.size + 2, 0, none⟩ = some (.slice none 0 0) := (kc3 _ _ as0).trans as2
  have g3_0 : w3.frozen? ⟨w.heap.size + 2, 0, none⟩ = false := (kf3 _ _ as0).trans as2
  have r3_1 : w3.cell? ⟨w.heap.size + 2, 1, none⟩ = some (.bool false) := (kc3 _ _ as0).trans as2
  have g3_1 : w3.frozen? ⟨w.heap.size + 2, 1, none⟩ = false := (kf3 _ _ as0).trans as2
  clear hb
  refine anyT_ready (rs := [6]) kr (by simp) ?_
  refine ReadyT.tail (o := _) rfl (by decide) (fun K hK => ?_)
  go_simp
  refine hK.out _ _ ?_
  clear hK K
  (try simp only [Act.put, q2, q3, q4, q5, q6, q7])
  refine anyT_done kr ?_ _
  go_wp2
  refine bodyPost_ret (v := .agg #[.slice A1 l1.length c1, .bool s1]) (by simp [results, Tryz.results55, go_sem, *]) rfl ?_
  exact ⟨l1, s1, A1, c1, hide (E1.out), rfl, C1, hide (OwQ.base (B := w.heap.size + 3) (owT O1) (by omega)), belo⟩
end
section
open Go.RowKit
set_option maxRecDepth 100000
set_option linter.unusedSimpArgs false
set_option linter.unusedVariables false
structure Alike (N : Nat) (f : Int → Int → Bool) : Prop where
  cf : Ent N
  ct : ∀ p q w, Calls Tryz.prog N #[.int .u8 p, .int .u8 q] w fun e w' => e = .returned (.bool (f p q)) ∧ w = w'
theorem alike_same : Alike 92 mSame := ⟨Tryz.call92, fun p q w => (same_q p q w).mono fun e w' h => ⟨h.1, h.2.symm⟩⟩
theorem alike_z : Alike 91 alZ := by
  refine ⟨Tryz.call91, fun p q w => ?_⟩
  unfold alZ
  cases h1 : (p == 3) <;> cases h2 : (q == 3)
  all_goals
    go_enter Tryz.func91, Tryz.ntmps91
    go_wp2_with (go_at_call 92; (with_reducible refine (same_q _ _ _).mono ?_); rintro e w' ⟨rfl, rfl⟩)
    go_ret
    exact ⟨by simp, rfl⟩
theorem alike_x : Alike 93 alX := by
  refine ⟨Tryz.call93, fun p q w => ?_⟩
  unfold alX
  have hp := hide fun w => known_q p w
  have hq := hide fun w => known_q q w
  cases h1 : mKnown p <;> cases h2 : mKnown q <;> rw [h1] at hp <;> rw [h2] at hq
  all_goals
    clear h1 h2
    go_enter Tryz.func93, Tryz.ntmps93
    go_wp2_with (first
      | (go_at_call 92; (with_reducible refine (same_q _ _ _).mono ?_); rintro e w' ⟨rfl, rfl⟩)
      | (go_at_call 94; (with_reducible refine (hp.out _).mono ?_); rintro e w' ⟨rfl, rfl⟩)
      | (go_at_call 94; (with_reducible refine (hq.out _).mono ?_); rintro e w' ⟨rfl, rfl⟩))
    go_ret
    exact ⟨by simp, rfl⟩
set_option maxHeartbeats 2000000 in
theorem match_any (N : Nat) (f : Int → Int → Bool) (hop : Alike N f) (A B : Option Addr) (a b : List Int) (c d : Nat) (s t : Bool) (w : World) (ha : a.length ≤ 4096) (hb : b.length ≤ 4096) (hca : Hid (a.length ≤ c ∧ c ≤ maxLen)) (hcb : Hid (b.length ≤ d ∧ d ≤ maxLen)) (hA : RQ w A a) (hB : RQ w B b) (ya : By a) (yb : By b) :
    Calls Tryz.prog 90 #[.agg #[.slice A a.length c, .bool s], .agg #[.slice B b.length d, .bool t], .func (.func N) #[] #[]] w (Mk (.bool (mtc f ⟨a, s⟩ ⟨b, t⟩)) w) := by
  have hcf : ∀ args w, (callFunc N args).run Tryz.prog w = .ok (.enter N args) w := hop.cf
  have HO := hide hop
  have hwd := wd_bd (a := ⟨a, s⟩) (b := ⟨b, t⟩) ya yb
  have HA := hide hA
  have HBB := hide hB
  have LA := hide ha
  have LB := hide hb
  have YA := hide ya
  have YB := hide yb
  clear hA hB ha hb ya yb
  clear hop
  obtain ⟨n, hn⟩ : ∃ n, n = wd ⟨a, s⟩ ⟨b, t⟩ := ⟨_, rfl⟩
  have hcall := hide fun W (hW : Below w.heap.size w W) => balance_any A B a b c d s t W LA.out LB.out hca hcb (HA.out.below hW) (HBB.out.below hW) YA.out YB.out
  unfold RetB at hcall
  obtain ⟨σ, hσ⟩ : ∃ σ, σ = sg ⟨a, s⟩ ⟨b, t⟩ := ⟨_, rfl⟩
  rw [← hσ] at hcall
  obtain ⟨R, hR⟩ : ∃ R, R = mtc f ⟨a, s⟩ ⟨b, t⟩ := ⟨_, rfl⟩
  rw [← hR]
  have hR2 : R = true ↔ ∀ i, i < n → f (qt (blA ⟨a, s⟩ ⟨b, t⟩) i) (qt (blB ⟨a, s⟩ ⟨b, t⟩) i) = true := by rw [hR, hn]; exact mtc_iff _ _ _
  rw [← hn] at hwd
  have HN := hide hn
  have HR := hide hR2
  clear hn hσ hR hR2
  go_enter Tryz.func90, Tryz.ntmps90
  go_wp2_with fail
  refine (hcall.out _ belo).mono ?_
  rintro e w1 ⟨p, P, pc, q, Q, qc, Ep, Eq, rfl, Cp, Cq, Op, Oq, -, hb⟩
  have hB1 : Below w.heap.size w w1 := Below.trans belo (hb.mono as4)
  obtain ⟨kc1, kf1⟩ := bcell hb
  have hz1 := hb.size
  (try simp at hz1)
  have n1_0 : w.heap.size < w1.heap.size := by omega
  have n1_1 : w.heap.size + 1 < w1.heap.size := by omega
  clear hb
  have lp : p.length = n := by rw [Ep.out, blA_length, HN.out]
  have lq : q.length = n := by rw [Eq.out, blB_length, HN.out]
  rw [← Ep.out, ← Eq.out] at HR
  obtain ⟨g, rfl, hg, hgr⟩ := Op.out (by omega)
  obtain ⟨h, rfl, hh, hhr⟩ := Oq.out (by omega)
  have HG := hide hgr
  have HH := hide hhr
  have hgl := hgr.lt
  have hhl := hhr.lt
  rw [lp] at HG ⊢
  rw [lq] at HH ⊢
  clear hgr hhr lp lq Op Oq hg hh
  go_wp2_with fail
  go_loopw [20] (fun i wr => ∃ k : Nat, k ≤ n ∧ i = .int .i64 k ∧ Hid (∀ j, j < k → f (qt p j) (qt q j) = true) ∧ ∃ m, wr = w1.drewN m) (fun i _ => n - (intOf i).toNat)
  case atStart => exact ⟨0, Nat.zero_le _, rfl, hide fun j hj => by omega, 0, rfl⟩
  case round =>
    obtain ⟨k, hk, rfl, hno, m, rfl⟩ := hrel
    by_cases hlt : k < n
    · have hc1 : (w1.drewN m).cell? ⟨g, k, none⟩ = some (.int .u8 (qt p k)) := HG.out.cell hlt
      have hc2 : (w1.drewN m).cell? ⟨h, k, none⟩ = some (.int .u8 (qt q k)) := HH.out.cell hlt
      go_wp2_with fail
      have hcl := hide (HO.out.ct (qt p k) (qt q k) (w1.drewN m).drew)
      cases hx : f (qt p k) (qt q k)
      · rw [hx] at hcl
        have hx2 := hide hx
        clear hx
        refine region_anyT (S := fun wS => Below (w1.drewN m).heap.size (w1.drewN m) wS) (n := 10) kr (Below.refl _ _).drew (fun hS inv => ?_)
        refine anyT_take (i := 0) (oi := _) (v := Value.func (Fn.func N) #[] #[]) rfl kr kr kr (by decide) (by decide) kr kr inv (fun _ _ _ h => h) (Or.inl ⟨kr, ?_⟩) hS (fun inv => ?_)
        · intro wz hSw
          first | kernel_rfl | go_simp
        (try simp only [Act.put, q2, q3, q4, q5, q6, q7])
        refine anyT_take (i := 1) (oi := _) (v := Value.slice (some ⟨g, 0, none⟩) n pc) rfl kr kr kr (by decide) (by decide) kr kr inv (fun _ _ _ h => h) (Or.inl ⟨kr, ?_⟩) hS (fun inv => ?_)
        · intro wz hSw
          first | kernel_rfl | go_simp
        (try simp only [Act.put, q2, q3, q4, q5, q6, q7])
        refine anyT_take (i := 2) (oi := _) (v := Value.int IntKind.i64 ↑k) rfl kr kr kr (by decide) (by decide) kr kr inv (fun _ _ _ h => h) (Or.inl ⟨kr, ?_⟩) hS (fun inv => ?_)
        · intro wz hSw
          first | kernel_rfl | go_simp
        (try simp only [Act.put, q2, q3, q4, q5, q6, q7])
        refine anyT_take (i := 3) (oi := _) (v := Value.pointer (some ⟨g, k, none⟩)) rfl kr kr kr (by decide) (by decide) kr kr inv (fun _ _ _ h => h) (Or.inl ⟨kr, ?_⟩) hS (fun inv => ?_)
        · intro wz hSw
          go_simp
        (try simp only [Act.put, q2, q3, q4, q5, q6, q7])
        refine anyT_take (i := 4) (oi := _) (v := Value.int IntKind.u8 (qt p k)) rfl kr kr kr (by decide) (by decide) kr kr inv (fun _ _ _ h => h) (Or.inl ⟨kr, ?_⟩) hS (fun inv => ?_)
        · intro wz hSw
          have hk0 := (hSw : Below _ _ _).cell (p := ⟨g, k, none⟩) as0; go_simp
        (try simp only [Act.put, q2, q3, q4, q5, q6, q7])
        refine anyT_take (i := 5) (oi := _) (v := Value.slice (some ⟨h, 0, none⟩) n qc) rfl kr kr kr (by decide) (by decide) kr kr inv (fun _ _ _ h => h) (Or.inl ⟨kr, ?_⟩) hS (fun inv => ?_)
        · intro wz hSw
          first | kernel_rfl | go_simp
        (try simp only [Act.put, q2, q3, q4, q5, q6, q7])
        refine anyT_take (i := 6) (oi := _) (v := Value.int IntKind.i64 ↑k) rfl kr kr kr (by decide) (by decide) kr kr inv (fun _ _ _ h => h) (Or.inl ⟨kr, ?_⟩) hS (fun inv => ?_)
        · intro wz hSw
          first | kernel_rfl | go_simp
        (try simp only [Act.put, q2, q3, q4, q5, q6, q7])
        refine anyT_take (i := 7) (oi := _) (v := Value.pointer (some ⟨h, k, none⟩)) rfl kr kr kr (by decide) (by decide) kr kr inv (fun _ _ _ h => h) (Or.inl ⟨kr, ?_⟩) hS (fun inv => ?_)
        · intro wz hSw
          go_simp
        (try simp only [Act.put, q2, q3, q4, q5, q6, q7])
        refine anyT_take (i := 8) (oi := _) (v := Value.int IntKind.u8 (qt q k)) rfl kr kr kr (by decide) (by decide) kr kr inv (fun _ _ _ h => h) (Or.inl ⟨kr, ?_⟩) hS (fun inv => ?_)
        · intro wz hSw
          have hk0 := (hSw : Below _ _ _).cell (p := ⟨h, k, none⟩) as0; go_simp
        (try simp only [Act.put, q2, q3, q4, q5, q6, q7])
        refine anyT_ready (rs := [9]) kr (by simp) ?_
        refine ReadyT.head (o := _) rfl (by decide) kr inv (fun K hK => ?_) ReadyT.nil
        go_simp
        refine (hcl.out).mono ?_
        rintro e w' ⟨rfl, rfl⟩
        go_wp2_with fail
        refine hK.out _ _ ?_ (fun hS inv => ?_)
        · exact hS
        clear hK K
        (try simp only [Act.put, q2, q3, q4, q5, q6, q7])
        refine anyT_ready (rs := [10]) kr (by simp) ?_
        refine ReadyT.tail (o := _) rfl (by decide) (fun K hK => ?_)
        go_simp
        refine hK.out _ _ ?_
        clear hK K
        (try simp only [Act.put, q2, q3, q4, q5, q6, q7])
        refine anyT_done kr ?_ _
        go_wp2
        go_ret
        refine ⟨ret_bool ?_, belo⟩
        cases hr : R
        · rfl
        · have := HR.out.1 hr k hlt
          rw [hx2.out] at this
          cases this
      · rw [hx] at hcl
        have hx2 := hide hx
        clear hx
        refine region_anyT (S := fun wS => Below (w1.drewN m).heap.size (w1.drewN m) wS) (n := 10) kr (Below.refl _ _).drew (fun hS inv => ?_)
        refine anyT_take (i := 0) (oi := _) (v := Value.func (Fn.func N) #[] #[]) rfl kr kr kr (by decide) (by decide) kr kr inv (fun _ _ _ h => h) (Or.inl ⟨kr, ?_⟩) hS (fun inv => ?_)
        · intro wz hSw
          first | kernel_rfl | go_simp
        (try simp only [Act.put, q2, q3, q4, q5, q6, q7])
        refine anyT_take (i := 1) (oi := _) (v := Value.slice (some ⟨g, 0, none⟩) n pc) rfl kr kr kr (by decide) (by decide) kr kr inv (fun _ _ _ h => h) (Or.inl ⟨kr, ?_⟩) hS (fun inv => ?_)
        · intro wz hSw
          first | kernel_rfl | go_simp
        (try simp only [Act.put, q2, q3, q4, q5, q6, q7])
        refine anyT_take (i := 2) (oi := _) (v := Value.int IntKind.i64 ↑k) rfl kr kr kr (by decide) (by decide) kr kr inv (fun _ _ _ h => h) (Or.inl ⟨kr, ?_⟩) hS (fun inv => ?_)
        · intro wz hSw
          first | kernel_rfl | go_simp
        (try simp only [Act.put, q2, q3, q4, q5, q6, q7])
        refine anyT_take (i := 3) (oi := _) (v := Value.pointer (some ⟨g, k, none⟩)) rfl kr kr kr (by decide) (by decide) kr kr inv (fun _ _ _ h => h) (Or.inl ⟨kr, ?_⟩) hS (fun inv => ?_)
        · intro wz hSw
          go_simp
        (try simp only [Act.put, q2, q3, q4, q5, q6, q7])
        refine anyT_take (i := 4) (oi := _) (v := Value.int IntKind.u8 (qt p k)) rfl kr kr kr (by decide) (by decide) kr kr inv (fun _ _ _ h => h) (Or.inl ⟨kr, ?_⟩) hS (fun inv => ?_)
        · intro wz hSw
          have hk0 := (hSw : Below _ _ _).cell (p := ⟨g, k, none⟩) as0; go_simp
        (try simp only [Act.put, q2, q3, q4, q5, q6, q7])
        refine anyT_take (i := 5) (oi := _) (v := Value.slice (some ⟨h, 0, none⟩) n qc) rfl kr kr kr (by decide) (by decide) kr kr inv (fun _ _ _ h => h) (Or.inl ⟨kr, ?_⟩) hS (fun inv => ?_)
        · intro wz hSw
          first | kernel_rfl | go_simp
        (try simp only [Act.put, q2, q3, q4, q5, q6, q7])
        refine anyT_take (i := 6) (oi := _) (v := Value.int IntKind.i64 ↑k) rfl kr kr kr (by decide) (by decide) kr kr inv (fun _ _ _ h => h) (Or.inl ⟨kr, ?_⟩) hS (fun inv => ?_)
        · intro wz hSw
          first | kernel_rfl | go_simp
        (try simp only [Act.put, q2, q3, q4, q5, q6, q7])
        refine anyT_take (i := 7) (oi := _) (v := Value.pointer (some ⟨h, k, none⟩)) rfl kr kr kr (by decide) (by decide) kr kr inv (fun _ _ _ h => h) (Or.inl ⟨kr, ?_⟩) hS (fun inv => ?_)
        · intro wz hSw
          go_simp
        (try simp only [Act.put, q2, q3, q4, q5, q6, q7])
        refine anyT_take (i := 8) (oi := _) (v := Value.int IntKind.u8 (qt q k)) rfl kr kr kr (by decide) (by decide) kr kr inv (fun _ _ _ h => h) (Or.inl ⟨kr, ?_⟩) hS (fun inv => ?_)
        · intro wz hSw
          have hk0 := (hSw : Below _ _ _).cell (p := ⟨h, k, none⟩) as0; go_simp
        (try simp only [Act.put, q2, q3, q4, q5, q6, q7])
        refine anyT_ready (rs := [9]) kr (by simp) ?_
        refine ReadyT.head (o := _) rfl (by decide) kr inv (fun K hK => ?_) ReadyT.nil
        go_simp
        refine (hcl.out).mono ?_
        rintro e w' ⟨rfl, rfl⟩
        go_wp2_with fail
        refine hK.out _ _ ?_ (fun hS inv => ?_)
        · exact hS
        clear hK K
        (try simp only [Act.put, q2, q3, q4, q5, q6, q7])
        refine anyT_ready (rs := [10]) kr (by simp) ?_
        refine ReadyT.tail (o := _) rfl (by decide) (fun K hK => ?_)
        go_simp
        refine hK.out _ _ ?_
        clear hK K
        (try simp only [Act.put, q2, q3, q4, q5, q6, q7])
        refine anyT_done kr ?_ _
        go_wp2
        go_roundw
        case rel => exact ⟨k + 1, by omega, by go_num, hide fun j hj => by
          by_cases e : j = k
          · subst e; exact hx2.out
          · exact hno.out j (by omega), _, rfl⟩
        case measure => simp [intOf]; omega
    · go_wp2
      go_ret
      refine ⟨ret_bool ?_, belo⟩
      exact (HR.out.2 fun i hi => hno.out i (by omega)).symm
theorem vMatchZ_any (A B : Option Addr) (a b : List Int) (c d : Nat) (s t : Bool) (w : World) (ha : a.length ≤ 4096) (hb : b.length ≤ 4096) (hca : Hid (a.length ≤ c ∧ c ≤ maxLen)) (hcb : Hid (b.length ≤ d ∧ d ≤ maxLen)) (hA : RQ w A a) (hB : RQ w B b) (ya : By a) (yb : By b) :
    Calls Tryz.prog 16 #[.agg #[.slice A a.length c, .bool s], .agg #[.slice B b.length d, .bool t]] w (Mk (.bool (mtc alZ ⟨a, s⟩ ⟨b, t⟩)) w) := by
  have HA := hide hA
  have HBB := hide hB
  have LA := hide ha
  have LB := hide hb
  have YA := hide ya
  have YB := hide yb
  clear hA hB ha hb ya yb
  go_enter Tryz.func16, Tryz.ntmps16
  go_wp2_with fail
  refine (match_any _ _ alike_z A B a b c d s t _ LA.out LB.out hca hcb (HA.out.below belo) (HBB.out.below belo) YA.out YB.out).mono ?_
  rintro e w1 ⟨rfl, hb⟩
  have hB1 : Below w.heap.size w w1 := Below.trans belo (hb.mono as4)
  obtain ⟨kc1, kf1⟩ := bcell hb
  have hz1 := hb.size
  (try simp at hz1)
  have n1_0 : w.heap.size < w1.heap.size := by omega
  have n1_1 : w.heap.size + 1 < w1.heap.size := by omega
  clear hb
  go_wp2
  go_ret
  exact ⟨rfl, belo⟩
theorem vMatchX_any (A B : Option Addr) (a b : List Int) (c d : Nat) (s t : Bool) (w : World) (ha : a.length ≤ 4096) (hb : b.length ≤ 4096) (hca : Hid (a.length ≤ c ∧ c ≤ maxLen)) (hcb : Hid (b.length ≤ d ∧ d ≤ maxLen)) (hA : RQ w A a) (hB : RQ w B b) (ya : By a) (yb : By b) :
    Calls Tryz.prog 18 #[.agg #[.slice A a.length c, .bool s], .agg #[.slice B b.length d, .bool t]] w (Mk (.bool (mtc alX ⟨a, s⟩ ⟨b, t⟩)) w) := by
  have HA := hide hA
  have HBB := hide hB
  have LA := hide ha
  have LB := hide hb
  have YA := hide ya
  have YB := hide yb
  clear hA hB ha hb ya yb
  go_enter Tryz.func18, Tryz.ntmps18
  go_wp2_with fail
  refine (match_any _ _ alike_x A B a b c d s t _ LA.out LB.out hca hcb (HA.out.below belo) (HBB.out.below belo) YA.out YB.out).mono ?_
  rintro e w1 ⟨rfl, hb⟩
  have hB1 : Below w.heap.size w w1 := Below.trans belo (hb.mono as4)
  obtain ⟨kc1, kf1⟩ := bcell hb
  have hz1 := hb.size
  (try simp at hz1)
  have n1_0 : w.heap.size < w1.heap.size := by omega
  have n1_1 : w.heap.size + 1 < w1.heap.size := by omega
  clear hb
  go_wp2
  go_ret
  exact ⟨rfl, belo⟩
theorem vCaseEq_any (A B : Option Addr) (a b : List Int) (c d : Nat) (s t : Bool) (w : World) (ha : a.length ≤ 4096) (hb : b.length ≤ 4096) (hca : Hid (a.length ≤ c ∧ c ≤ maxLen)) (hcb : Hid (b.length ≤ d ∧ d ≤ maxLen)) (hA : RQ w A a) (hB : RQ w B b) (ya : By a) (yb : By b) :
    Calls Tryz.prog 53 #[.agg #[.slice A a.length c, .bool s], .agg #[.slice B b.length d, .bool t]] w (RetC (· = vCase ⟨a, s⟩ ⟨b, t⟩) w) := by
  have HA := hide hA
  have HBB := hide hB
  have LA := hide ha
  have LB := hide hb
  have YA := hide ya
  have YB := hide yb
  clear hA hB ha hb ya yb
  go_enter Tryz.func53, Tryz.ntmps53
  go_wp2_with fail
  refine (match_any _ _ alike_same A B a b c d s t _ LA.out LB.out hca hcb (HA.out.below belo) (HBB.out.below belo) YA.out YB.out).mono ?_
  rintro e w1 ⟨rfl, hb⟩
  have hB1 : Below w.heap.size w w1 := Below.trans belo (hb.mono as4)
  obtain ⟨kc1, kf1⟩ := bcell hb
  have hz1 := hb.size
  (try simp at hz1)
  have n1_0 : w.heap.size < w1.heap.size := by omega
  have n1_1 : w.heap.size + 1 < w1.heap.size := by omega
  have n1_2 : w.heap.size + 2 < w1.heap.size := by omega
  have r1_0 : w1.cell? ⟨w.heap.size + 2, 0, none⟩ = some (.slice none 0 0) := (kc1 _ _ as0).trans as2
  have g1_0 : w1.frozen? ⟨w.heap.size + 2, 0, none⟩ = false := (kf1 _ _ as0).trans as2
  have r1_1 : w1.cell? ⟨w.heap.size + 2, 1, none⟩ = some (.bool false) := (kc1 _ _ as0).trans as2
  have g1_1 : w1.frozen? ⟨w.heap.size + 2, 1, none⟩ = false := (kf1 _ _ as0).trans as2
  clear hb
  go_wp2_with fail
  refine (from_q _ _).mono ?_
  rintro e w' ⟨rfl, rfl⟩
  go_wp2_with fail
  refine (single_any _ _).mono ?_
  rintro e w2 ⟨l1, s1, A1, c1, E1, rfl, C1, O1, hb⟩
  replace O1 := hide (O1.out.base (show w.heap.size + 3 ≤ _ by first | omega | (simp; omega) | (simp; done)))
  have hB2 : Below w.heap.size w w2 := Below.trans belo (hb.mono as4)
  obtain ⟨kc2, kf2⟩ := bcell hb
  have hz2 := hb.size
  (try simp at hz2)
  have n2_0 : w.heap.size < w2.heap.size := by omega
  have n2_1 : w.heap.size + 1 < w2.heap.size := by omega
  have n2_2 : w.heap.size + 2 < w2.heap.size := by omega
  have r2_0 : w2.cell? ⟨w.heap.size + 2, 0, none⟩ = some (.slice none 0 0) := (kc2 _ _ as0).trans as2
  have g2_0 : w2.frozen? ⟨w.heap.size + 2, 0, none⟩ = false := (kf2 _ _ as0).trans as2
  have r2_1 : w2.cell? ⟨w.heap.size + 2, 1, none⟩ = some (.bool false) := (kc2 _ _ as0).trans as2
  have g2_1 : w2.frozen? ⟨w.heap.size + 2, 1, none⟩ = false := (kf2 _ _ as0).trans as2
  clear hb
  go_wp2
  refine bodyPost_ret (v := .agg #[.slice A1 l1.length c1, .bool s1]) (by simp [results, Tryz.results53, go_sem, *]) rfl ?_
  exact ⟨l1, s1, A1, c1, hide (E1.out), rfl, C1, hide (OwQ.base (B := w.heap.size + 3) (owT O1) (by omega)), belo⟩
theorem vCaseNe_any (A B : Option Addr) (a b : List Int) (c d : Nat) (s t : Bool) (w : World) (ha : a.length ≤ 4096) (hb : b.length ≤ 4096) (hca : Hid (a.length ≤ c ∧ c ≤ maxLen)) (hcb : Hid (b.length ≤ d ∧ d ≤ maxLen)) (hA : RQ w A a) (hB : RQ w B b) (ya : By a) (yb : By b) (ht : Tabs w) :
    Calls Tryz.prog 83 #[.agg #[.slice A a.length c, .bool s], .agg #[.slice B b.length d, .bool t]] w (RetC (· = sgl (mNot (mFrom (mtc mSame ⟨a, s⟩ ⟨b, t⟩)))) w) := by
  have HA := hide hA
  have HBB := hide hB
  have LA := hide ha
  have LB := hide hb
  have YA := hide ya
  have YB := hide yb
  clear hA hB ha hb ya yb
  have HT := hide ht
  clear ht
  go_enter Tryz.func83, Tryz.ntmps83
  go_wp2_with fail
  refine (vCaseEq_any A B a b c d s t _ LA.out LB.out hca hcb (HA.out.below belo) (HBB.out.below belo) YA.out YB.out).mono ?_
  rintro e w1 ⟨l1, s1, A1, c1, E1, rfl, C1, O1, hb⟩
  replace O1 := hide (O1.out.base (show w.heap.size + 3 ≤ _ by first | omega | (simp; omega) | (simp; done)))
  have hB1 : Below w.heap.size w w1 := Below.trans belo (hb.mono as4)
  obtain ⟨kc1, kf1⟩ := bcell hb
  have hz1 := hb.size
  (try simp at hz1)
  have n1_0 : w.heap.size < w1.heap.size := by omega
  have n1_1 : w.heap.size + 1 < w1.heap.size := by omega
  have n1_2 : w.heap.size + 2 < w1.heap.size := by omega
  have r1_0 : w1.cell? ⟨w.heap.size + 2, 0, none⟩ = some (.slice none 0 0) := (kc1 _ _ as0).trans as2
  have g1_0 : w1.frozen? ⟨w.heap.size + 2, 0, none⟩ = false := (kf1 _ _ as0).trans as2
  have r1_1 : w1.cell? ⟨w.heap.size + 2, 1, none⟩ = some (.bool false) := (kc1 _ _ as0).trans as2
  have g1_1 : w1.frozen? ⟨w.heap.size + 2, 1, none⟩ = false := (kf1 _ _ as0).trans as2
  clear hb
  have B1 := mFrom_bd (mtc mSame ⟨a, s⟩ ⟨b, t⟩)
  have Y1 := by_of_gd E1.out (gd_sgl B1)
  have L1 := len_of_gd E1.out (gd_sgl B1)
  go_wp2_with fail
  refine (vNot_any A1 l1 c1 s1 _ (by omega) C1 (by refine OwQ.rd (B := w.heap.size + 3) ?_; (repeat (first | with_reducible exact O1.out | with_reducible refine OwQ.far ?_ as3 _ | with_reducible refine OwQ.allc ?_ _ | with_reducible refine OwQ.drew ?_ | with_reducible refine OwQ.drewN ?_ _))) Y1 (HT.out.kept belo)).mono ?_
  rintro e w2 ⟨l2, s2, A2, c2, E2, rfl, C2, O2, hb⟩
  replace O1 := hide ((show OwQ (w.heap.size + 3) _ A1 l1 from owT O1).kept hb)
  replace O2 := hide (O2.out.base (show w.heap.size + 3 ≤ _ by first | omega | (simp; omega) | (simp; done)))
  have hB2 : Below w.heap.size w w2 := Below.trans belo (hb.mono as4)
  obtain ⟨kc2, kf2⟩ := bcell hb
  have hz2 := hb.size
  (try simp at hz2)
  have n2_0 : w.heap.size < w2.heap.size := by omega
  have n2_1 : w.heap.size + 1 < w2.heap.size := by omega
  have n2_2 : w.heap.size + 2 < w2.heap.size := by omega
  have r2_0 : w2.cell? ⟨w.heap.size + 2, 0, none⟩ = some (.slice none 0 0) := (kc2 _ _ as0).trans as2
  have g2_0 : w2.frozen? ⟨w.heap.size + 2, 0, none⟩ = false := (kf2 _ _ as0).trans as2
  have r2_1 : w2.cell? ⟨w.heap.size + 2, 1, none⟩ = some (.bool false) := (kc2 _ _ as0).trans as2
  have g2_1 : w2.frozen? ⟨w.heap.size + 2, 1, none⟩ = false := (kf2 _ _ as0).trans as2
  clear hb
  go_wp2
  refine bodyPost_ret (v := .agg #[.slice A2 l2.length c2, .bool s2]) (by simp [results, Tryz.results83, go_sem, *]) rfl ?_
  exact ⟨l2, s2, A2, c2, hide (E2.out.trans (by rw [E1.out]; exact vNot_sgl B1)), rfl, C2, hide (OwQ.base (B := w.heap.size + 3) (owT O2) (by omega)), belo⟩
theorem gd_btw {N : Nat} {f : Int → Int → Int} (hop : OpF N f) {a b : Vc} (ya : By a.b) (yb : By b.b) : Gd (btw f a b).b := gd_ql (wd_bd ya yb).1 (wd_bd ya yb).2 fun i _ => hop.bd _ _ ((gd_blA ya yb).bd i) ((gd_blB ya yb).bd i)
theorem vEq_any (A B : Option Addr) (a b : List Int) (c d : Nat) (s t : Bool) (w : World) (ha : a.length ≤ 4096) (hb : b.length ≤ 4096) (hca : Hid (a.length ≤ c ∧ c ≤ maxLen)) (hcb : Hid (b.length ≤ d ∧ d ≤ maxLen)) (hA : RQ w A a) (hB : RQ w B b) (ya : By a) (yb : By b) (ht : Tabs w) :
    Calls Tryz.prog 51 #[.agg #[.slice A a.length c, .bool s], .agg #[.slice B b.length d, .bool t]] w (RetC (· = vEq ⟨a, s⟩ ⟨b, t⟩) w) := by
  have HA := hide hA
  have HBB := hide hB
  have LA := hide ha
  have LB := hide hb
  have YA := hide ya
  have YB := hide yb
  clear hA hB ha hb ya yb
  have HT := hide ht
  clear ht
  go_enter Tryz.func51, Tryz.ntmps51
  go_wp2_with fail
  refine (vXnor_any A B a b c d s t _ LA.out LB.out hca hcb (HA.out.below belo) (HBB.out.below belo) YA.out YB.out (HT.out.kept belo)).mono ?_
  rintro e w1 ⟨l1, s1, A1, c1, E1, rfl, C1, O1, hb⟩
  replace O1 := hide (O1.out.base (show w.heap.size + 3 ≤ _ by first | omega | (simp; omega) | (simp; done)))
  have hB1 : Below w.heap.size w w1 := Below.trans belo (hb.mono as4)
  obtain ⟨kc1, kf1⟩ := bcell hb
  have hz1 := hb.size
  (try simp at hz1)
  have n1_0 : w.heap.size < w1.heap.size := by omega
  have n1_1 : w.heap.size + 1 < w1.heap.size := by omega
  have n1_2 : w.heap.size + 2 < w1.heap.size := by omega
  have r1_0 : w1.cell? ⟨w.heap.size + 2, 0, none⟩ = some (.slice none 0 0) := (kc1 _ _ as0).trans as2
  have g1_0 : w1.frozen? ⟨w.heap.size + 2, 0, none⟩ = false := (kf1 _ _ as0).trans as2
  have r1_1 : w1.cell? ⟨w.heap.size + 2, 1, none⟩ = some (.bool false) := (kc1 _ _ as0).trans as2
  have g1_1 : w1.frozen? ⟨w.heap.size + 2, 1, none⟩ = false := (kf1 _ _ as0).trans as2
  clear hb
  have G1 := gd_btw opF_eq (a := ⟨a, s⟩) (b := ⟨b, t⟩) YA.out YB.out
  have Y1 := by_of_gd E1.out G1
  have L1 := len_of_gd E1.out G1
  go_wp2_with fail
  refine (vRedAnd_any A1 l1 c1 s1 _ (by omega) C1 (by refine OwQ.rd (B := w.heap.size + 3) ?_; (repeat (first | with_reducible exact O1.out | with_reducible refine OwQ.far ?_ as3 _ | with_reducible refine OwQ.allc ?_ _ | with_reducible refine OwQ.drew ?_ | with_reducible refine OwQ.drewN ?_ _))) Y1 (HT.out.kept belo)).mono ?_
  rintro e w2 ⟨l2, s2, A2, c2, E2, rfl, C2, O2, hb⟩
  replace O1 := hide ((show OwQ (w.heap.size + 3) _ A1 l1 from owT O1).kept hb)
  replace O2 := hide (O2.out.base (show w.heap.size + 3 ≤ _ by first | omega | (simp; omega) | (simp; done)))
  have hB2 : Below w.heap.size w w2 := Below.trans belo (hb.mono as4)
  obtain ⟨kc2, kf2⟩ := bcell hb
  have hz2 := hb.size
  (try simp at hz2)
  have n2_0 : w.heap.size < w2.heap.size := by omega
  have n2_1 : w.heap.size + 1 < w2.heap.size := by omega
  have n2_2 : w.heap.size + 2 < w2.heap.size := by omega
  have r2_0 : w2.cell? ⟨w.heap.size + 2, 0, none⟩ = some (.slice none 0 0) := (kc2 _ _ as0).trans as2
  have g2_0 : w2.frozen? ⟨w.heap.size + 2, 0, none⟩ = false := (kf2 _ _ as0).trans as2
  have r2_1 : w2.cell? ⟨w.heap.size + 2, 1, none⟩ = some (.bool false) := (kc2 _ _ as0).trans as2
  have g2_1 : w2.frozen? ⟨w.heap.size + 2, 1, none⟩ = false := (kf2 _ _ as0).trans as2
  clear hb
  go_wp2
  refine bodyPost_ret (v := .agg #[.slice A2 l2.length c2, .bool s2]) (by simp [results, Tryz.results51, go_sem, *]) rfl ?_
  exact ⟨l2, s2, A2, c2, hide (E2.out.trans (by rw [E1.out]; rfl)), rfl, C2, hide (OwQ.base (B := w.heap.size + 3) (owT O2) (by omega)), belo⟩
theorem vNe_any (A B : Option Addr) (a b : List Int) (c d : Nat) (s t : Bool) (w : World) (ha : a.length ≤ 4096) (hb : b.length ≤ 4096) (hca : Hid (a.length ≤ c ∧ c ≤ maxLen)) (hcb : Hid (b.length ≤ d ∧ d ≤ maxLen)) (hA : RQ w A a) (hB : RQ w B b) (ya : By a) (yb : By b) (ht : Tabs w) :
    Calls Tryz.prog 52 #[.agg #[.slice A a.length c, .bool s], .agg #[.slice B b.length d, .bool t]] w (RetC (· = sgl (mNot (red mAnd (btw mEq ⟨a, s⟩ ⟨b, t⟩)))) w) := by
  have HA := hide hA
  have HBB := hide hB
  have LA := hide ha
  have LB := hide hb
  have YA := hide ya
  have YB := hide yb
  clear hA hB ha hb ya yb
  have HT := hide ht
  clear ht
  go_enter Tryz.func52, Tryz.ntmps52
  go_wp2_with fail
  refine (vEq_any A B a b c d s t _ LA.out LB.out hca hcb (HA.out.below belo) (HBB.out.below belo) YA.out YB.out (HT.out.kept belo)).mono ?_
  rintro e w1 ⟨l1, s1, A1, c1, E1, rfl, C1, O1, hb⟩
  replace O1 := hide (O1.out.base (show w.heap.size + 3 ≤ _ by first | omega | (simp; omega) | (simp; done)))
  have hB1 : Below w.heap.size w w1 := Below.trans belo (hb.mono as4)
  obtain ⟨kc1, kf1⟩ := bcell hb
  have hz1 := hb.size
  (try simp at hz1)
  have n1_0 : w.heap.size < w1.heap.size := by omega
  have n1_1 : w.heap.size + 1 < w1.heap.size := by omega
  have n1_2 : w.heap.size + 2 < w1.heap.size := by omega
  have r1_0 : w1.cell? ⟨w.heap.size + 2, 0, none⟩ = some (.slice none 0 0) := (kc1 _ _ as0).trans as2
  have g1_0 : w1.frozen? ⟨w.heap.size + 2, 0, none⟩ = false := (kf1 _ _ as0).trans as2
  have r1_1 : w1.cell? ⟨w.heap.size + 2, 1, none⟩ = some (.bool false) := (kc1 _ _ as0).trans as2
  have g1_1 : w1.frozen? ⟨w.heap.size + 2, 1, none⟩ = false := (kf1 _ _ as0).trans as2
  clear hb
  have B1 := red_bd opF_and (a := btw mEq ⟨a, s⟩ ⟨b, t⟩) (gd_btw opF_eq YA.out YB.out).by_
  have Y1 := by_of_gd E1.out (gd_sgl B1)
  have L1 := len_of_gd E1.out (gd_sgl B1)
  go_wp2_with fail
  refine (vNot_any A1 l1 c1 s1 _ (by omega) C1 (by refine OwQ.rd (B := w.heap.size + 3) ?_; (repeat (first | with_reducible exact O1.out | with_reducible refine OwQ.far ?_ as3 _ | with_reducible refine OwQ.allc ?_ _ | with_reducible refine OwQ.drew ?_ | with_reducible refine OwQ.drewN ?_ _))) Y1 (HT.out.kept belo)).mono ?_
  rintro e w2 ⟨l2, s2, A2, c2, E2, rfl, C2, O2, hb⟩
  replace O1 := hide ((show OwQ (w.heap.size + 3) _ A1 l1 from owT O1).kept hb)
  replace O2 := hide (O2.out.base (show w.heap.size + 3 ≤ _ by first | omega | (simp; omega) | (simp; done)))
  have hB2 : Below w.heap.size w w2 := Below.trans belo (hb.mono as4)
  obtain ⟨kc2, kf2⟩ := bcell hb
  have hz2 := hb.size
  (try simp at hz2)
  have n2_0 : w.heap.size < w2.heap.size := by omega
  have n2_1 : w.heap.size + 1 < w2.heap.size := by omega
  have n2_2 : w.heap.size + 2 < w2.heap.size := by omega
  have r2_0 : w2.cell? ⟨w.heap.size + 2, 0, none⟩ = some (.slice none 0 0) := (kc2 _ _ as0).trans as2
  have g2_0 : w2.frozen? ⟨w.heap.size + 2, 0, none⟩ = false := (kf2 _ _ as0).trans as2
  have r2_1 : w2.cell? ⟨w.heap.size + 2, 1, none⟩ = some (.bool false) := (kc2 _ _ as0).trans as2
  have g2_1 : w2.frozen? ⟨w.heap.size + 2, 1, none⟩ = false := (kf2 _ _ as0).trans as2
  clear hb
  go_wp2
  refine bodyPost_ret (v := .agg #[.slice A2 l2.length c2, .bool s2]) (by simp [results, Tryz.results52, go_sem, *]) rfl ?_
  exact ⟨l2, s2, A2, c2, hide (E2.out.trans (by rw [E1.out]; exact vNot_sgl B1)), rfl, C2, hide (OwQ.base (B := w.heap.size + 3) (owT O2) (by omega)), belo⟩
end
section
open Go.RowKit
set_option maxRecDepth 100000
set_option linter.unusedSimpArgs false
set_option linter.unusedVariables false
theorem moves_shl : Moves 139 mShl := by
  refine ⟨Tryz.call139, fun A l c s k w G hk hA => ?_⟩
  have HA := hide hA
  have p1 := G.pos
  have u1 := G.le
  clear hA G
  go_enter Tryz.func139, Tryz.ntmps139
  go_wp2_with fail
  go_wp2_with fail
  refine (window_q A l c l.length (-(k : Int)) 0 _ (by omega) (by omega) (by omega) (by omega) (HA.out.below belo)).mono ?_
  rintro e w1 ⟨l1, A1, c1, E1, rfl, C1, O1, hb⟩
  replace O1 := hide (O1.out.base (show w.heap.size + 1 ≤ _ by first | omega | (simp; omega) | (simp; done)))
  have hB1 : Below w.heap.size w w1 := Below.trans belo (hb.mono as4)
  obtain ⟨kc1, kf1⟩ := bcell hb
  have hz1 := hb.size
  (try simp at hz1)
  have n1_0 : w.heap.size < w1.heap.size := by omega
  clear hb
  go_wp2
  go_ret
  exact ⟨l1, A1, c1, E1, rfl, C1, hide (OwQ.base (B := w.heap.size + 1) (owT O1) (by omega)), belo⟩
theorem moves_shr : Moves 147 mShr := by
  refine ⟨Tryz.call147, fun A l c s k w G hk hA => ?_⟩
  have HA := hide hA
  have p1 := G.pos
  have u1 := G.le
  clear hA G
  go_enter Tryz.func147, Tryz.ntmps147
  go_wp2_with fail
  go_wp2_with fail
  refine (window_q A l c l.length (k : Int) 0 _ (by omega) (by omega) (by omega) (by omega) (HA.out.below belo)).mono ?_
  rintro e w1 ⟨l1, A1, c1, E1, rfl, C1, O1, hb⟩
  replace O1 := hide (O1.out.base (show w.heap.size + 1 ≤ _ by first | omega | (simp; omega) | (simp; done)))
  have hB1 : Below w.heap.size w w1 := Below.trans belo (hb.mono as4)
  obtain ⟨kc1, kf1⟩ := bcell hb
  have hz1 := hb.size
  (try simp at hz1)
  have n1_0 : w.heap.size < w1.heap.size := by omega
  clear hb
  go_wp2
  go_ret
  exact ⟨l1, A1, c1, E1, rfl, C1, hide (OwQ.base (B := w.heap.size + 1) (owT O1) (by omega)), belo⟩
theorem moves_ashr : Moves 140 mAShr := by
  refine ⟨Tryz.call140, fun A l c s k w G hk hA => ?_⟩
  have HA := hide hA
  have p1 := G.pos
  have u1 := G.le
  clear hA G
  go_enter Tryz.func140, Tryz.ntmps140
  go_wp2_with fail
  obtain ⟨W1, hW1⟩ : ∃ x, x = (w.alloc (Obj.cells #[Value.slice A l.length c, Value.bool s] 24)) := ⟨_, rfl⟩
  rw [← hW1]
  have hBW1 : Below w.heap.size w W1 := by rw [hW1]; exact belo
  have qW1_0 : W1.cell? ⟨w.heap.size, 0, none⟩ = some (Value.slice A l.length c) := by rw [hW1]; simp [go_sem]
  have fW1_0 : W1.frozen? ⟨w.heap.size, 0, none⟩ = false := by rw [hW1]; simp [go_sem]
  have qW1_1 : W1.cell? ⟨w.heap.size, 1, none⟩ = some (Value.bool s) := by rw [hW1]; simp [go_sem]
  have fW1_1 : W1.frozen? ⟨w.heap.size, 1, none⟩ = false := by rw [hW1]; simp [go_sem]
  have zW1_0 : w.heap.size < W1.heap.size := by rw [hW1]; first | (simp; done) | (simp; omega)
  clear hW1
  refine region_anyT (S := fun wS => Below W1.heap.size W1 wS) (n := 9) kr (Below.refl _ _).drew (fun hS inv => ?_)
  refine anyT_take (i := 0) (oi := _) (v := Value.pointer (some ⟨w.heap.size, 0, none⟩)) rfl kr kr kr (by decide) (by decide) kr kr inv (fun _ _ _ h => h) (Or.inl ⟨kr, ?_⟩) hS (fun inv => ?_)
  · intro wz hSw
    first | kernel_rfl | go_simp
  (try simp only [Act.put, q2, q3, q4, q5, q6, q7])
  refine anyT_take (i := 1) (oi := _) (v := Value.slice A l.length c) rfl kr kr kr (by decide) (by decide) kr kr inv (fun _ _ _ h => h) (Or.inl ⟨kr, ?_⟩) hS (fun inv => ?_)
  · intro wz hSw
    have hk0 := (hSw : Below _ _ _).cell (p := ⟨w.heap.size, 0, none⟩) as0; go_simp
  (try simp only [Act.put, q2, q3, q4, q5, q6, q7])
  refine anyT_take (i := 2) (oi := _) (v := Value.int IntKind.i64 ↑k) rfl kr kr kr (by decide) (by decide) kr kr inv (fun _ _ _ h => h) (Or.inl ⟨kr, ?_⟩) hS (fun inv => ?_)
  · intro wz hSw
    first | kernel_rfl | go_simp
  (try simp only [Act.put, q2, q3, q4, q5, q6, q7])
  refine anyT_take (i := 3) (oi := _) (v := Value.pointer (some ⟨w.heap.size, 0, none⟩)) rfl kr kr kr (by decide) (by decide) kr kr inv (fun _ _ _ h => h) (Or.inl ⟨kr, ?_⟩) hS (fun inv => ?_)
  · intro wz hSw
    first | kernel_rfl | go_simp
  (try simp only [Act.put, q2, q3, q4, q5, q6, q7])
  refine anyT_take (i := 4) (oi := _) (v := Value.slice A l.length c) rfl kr kr kr (by decide) (by decide) kr kr inv (fun _ _ _ h => h) (Or.inl ⟨kr, ?_⟩) hS (fun inv => ?_)
  · intro wz hSw
    have hk0 := (hSw : Below _ _ _).cell (p := ⟨w.heap.size, 0, none⟩) as0; go_simp
  (try simp only [Act.put, q2, q3, q4, q5, q6, q7])
  refine anyT_take (i := 5) (oi := _) (v := Value.int IntKind.i64 (l.length : Nat)) rfl kr kr kr (by decide) (by decide) kr kr inv (fun _ _ _ h => h) (Or.inl ⟨kr, ?_⟩) hS (fun inv => ?_)
  · intro wz hSw
    go_simp
  (try simp only [Act.put, q2, q3, q4, q5, q6, q7])
  refine anyT_take (i := 6) (oi := _) (v := Value.agg #[Value.slice A l.length c, Value.bool s]) rfl kr kr kr (by decide) (by decide) kr kr inv (fun _ _ _ h => h) (Or.inl ⟨kr, ?_⟩) hS (fun inv => ?_)
  · intro wz hSw
    have hk0 := (hSw : Below _ _ _).cell (p := ⟨w.heap.size, 0, none⟩) as0; have hk1 := (hSw : Below _ _ _).cell (p := ⟨w.heap.size, 1, none⟩) as0; go_simp
  (try simp only [Act.put, q2, q3, q4, q5, q6, q7])
  refine anyT_ready (rs := [7]) kr (by simp) ?_
  refine ReadyT.head (o := _) rfl (by decide) kr inv (fun K hK => ?_) ReadyT.nil
  go_simp
  refine (extension_any A l c s w _ p1 (by omega) (HA.out.below belo)).mono ?_
  rintro e w1 ⟨rfl, hb⟩
  go_wp2_with fail
  refine hK.out _ _ ?_ (fun hS inv => ?_)
  · exact (hS : Below W1.heap.size W1 _).trans (hb.mono (Below.size hS))
  clear hK K
  (try simp only [Act.put, q2, q3, q4, q5, q6, q7])
  have hB1 : Below w.heap.size w w1 := Below.trans belo (hb.mono as4)
  obtain ⟨kc1, kf1⟩ := bcell hb
  have hz1 := hb.size
  (try simp at hz1)
  have n1_0 : w.heap.size < w1.heap.size := by omega
  clear hb
  refine anyT_ready (rs := [8]) kr (by simp) ?_
  refine ReadyT.head (o := _) rfl (by decide) kr inv (fun K hK => ?_) ReadyT.nil
  go_simp
  refine (window_q A l c l.length k (xt ⟨l, s⟩) _ (by omega) (by omega) (by omega) (by omega) (HA.out.below belo)).mono ?_
  rintro e w2 ⟨l1, A1, c1, E1, rfl, C1, O1, hb⟩
  go_wp2_with fail
  refine hK.out _ _ ?_ (fun hS inv => ?_)
  · exact (hS : Below W1.heap.size W1 _).trans (hb.mono (Below.size hS))
  clear hK K
  (try simp only [Act.put, q2, q3, q4, q5, q6, q7])
  replace O1 := hide (O1.out.base (show w.heap.size + 1 ≤ _ by first | omega | (simp; omega) | (simp; done)))
  have hB2 : Below w.heap.size w w2 := Below.trans belo (hb.mono as4)
  obtain ⟨kc2, kf2⟩ := bcell hb
  have hz2 := hb.size
  (try simp at hz2)
  have n2_0 : w.heap.size < w2.heap.size := by omega
  clear hb
  refine anyT_ready (rs := [9]) kr (by simp) ?_
  refine ReadyT.tail (o := _) rfl (by decide) (fun K hK => ?_)
  go_simp
  refine hK.out _ _ ?_
  clear hK K
  (try simp only [Act.put, q2, q3, q4, q5, q6, q7])
  refine anyT_done kr ?_ _
  go_wp2
  go_ret
  exact ⟨l1, A1, c1, E1, rfl, C1, hide (OwQ.base (B := w.heap.size + 1) (owT O1) (by omega)), belo⟩
theorem vShl_any (A B : Option Addr) (a b : List Int) (c d : Nat) (s t : Bool) (w : World) (ha : a.length ≤ 4096) (hb : b.length ≤ 4096) (hca : Hid (a.length ≤ c ∧ c ≤ maxLen)) (hcb : Hid (b.length ≤ d ∧ d ≤ maxLen)) (hA : RQ w A a) (hB : RQ w B b) (ya : By a) (yb : By b) :
    Calls Tryz.prog 58 #[.agg #[.slice A a.length c, .bool s], .agg #[.slice B b.length d, .bool t]] w (RetC (· = shf mShl ⟨a, s⟩ ⟨b, t⟩) w) := by
  have HA := hide hA
  have HBB := hide hB
  have LA := hide ha
  have LB := hide hb
  have YA := hide ya
  have YB := hide yb
  clear hA hB ha hb ya yb
  go_enter Tryz.func58, Tryz.ntmps58
  go_wp2_with fail
  refine (shift_any _ _ moves_shl A B a b c d s t _ LA.out LB.out hca hcb (HA.out.below belo) (HBB.out.below belo) YA.out YB.out).mono ?_
  rintro e w1 ⟨l1, s1, A1, c1, E1, rfl, C1, O1, hb⟩
  replace O1 := hide (O1.out.base (show w.heap.size + 3 ≤ _ by first | omega | (simp; omega) | (simp; done)))
  have hB1 : Below w.heap.size w w1 := Below.trans belo (hb.mono as4)
  obtain ⟨kc1, kf1⟩ := bcell hb
  have hz1 := hb.size
  (try simp at hz1)
  have n1_0 : w.heap.size < w1.heap.size := by omega
  have n1_1 : w.heap.size + 1 < w1.heap.size := by omega
  have n1_2 : w.heap.size + 2 < w1.heap.size := by omega
  have r1_0 : w1.cell? ⟨w.heap.size + 2, 0, none⟩ = some (.slice none 0 0) := (kc1 _ _ as0).trans as2
  have g1_0 : w1.frozen? ⟨w.heap.size + 2, 0, none⟩ = false := (kf1 _ _ as0).trans as2
  have r1_1 : w1.cell? ⟨w.heap.size + 2, 1, none⟩ = some (.bool false) := (kc1 _ _ as0).trans as2
  have g1_1 : w1.frozen? ⟨w.heap.size + 2, 1, none⟩ = false := (kf1 _ _ as0).trans as2
  clear hb
  go_wp2
  refine bodyPost_ret (v := .agg #[.slice A1 l1.length c1, .bool s1]) (by simp [results, Tryz.results58, go_sem, *]) rfl ?_
  exact ⟨l1, s1, A1, c1, hide (E1.out), rfl, C1, hide (OwQ.base (B := w.heap.size + 3) (owT O1) (by omega)), belo⟩
theorem vShr_any (A B : Option Addr) (a b : List Int) (c d : Nat) (s t : Bool) (w : World) (ha : a.length ≤ 4096) (hb : b.length ≤ 4096) (hca : Hid (a.length ≤ c ∧ c ≤ maxLen)) (hcb : Hid (b.length ≤ d ∧ d ≤ maxLen)) (hA : RQ w A a) (hB : RQ w B b) (ya : By a) (yb : By b) :
    Calls Tryz.prog 81 #[.agg #[.slice A a.length c, .bool s], .agg #[.slice B b.length d, .bool t]] w (RetC (· = shf mShr ⟨a, s⟩ ⟨b, t⟩) w) := by
  have HA := hide hA
  have HBB := hide hB
  have LA := hide ha
  have LB := hide hb
  have YA := hide ya
  have YB := hide yb
  clear hA hB ha hb ya yb
  go_enter Tryz.func81, Tryz.ntmps81
  go_wp2_with fail
  refine (shift_any _ _ moves_shr A B a b c d s t _ LA.out LB.out hca hcb (HA.out.below belo) (HBB.out.below belo) YA.out YB.out).mono ?_
  rintro e w1 ⟨l1, s1, A1, c1, E1, rfl, C1, O1, hb⟩
  replace O1 := hide (O1.out.base (show w.heap.size + 3 ≤ _ by first | omega | (simp; omega) | (simp; done)))
  have hB1 : Below w.heap.size w w1 := Below.trans belo (hb.mono as4)
  obtain ⟨kc1, kf1⟩ := bcell hb
  have hz1 := hb.size
  (try simp at hz1)
  have n1_0 : w.heap.size < w1.heap.size := by omega
  have n1_1 : w.heap.size + 1 < w1.heap.size := by omega
  have n1_2 : w.heap.size + 2 < w1.heap.size := by omega
  have r1_0 : w1.cell? ⟨w.heap.size + 2, 0, none⟩ = some (.slice none 0 0) := (kc1 _ _ as0).trans as2
  have g1_0 : w1.frozen? ⟨w.heap.size + 2, 0, none⟩ = false := (kf1 _ _ as0).trans as2
  have r1_1 : w1.cell? ⟨w.heap.size + 2, 1, none⟩ = some (.bool false) := (kc1 _ _ as0).trans as2
  have g1_1 : w1.frozen? ⟨w.heap.size + 2, 1, none⟩ = false := (kf1 _ _ as0).trans as2
  clear hb
  go_wp2
  refine bodyPost_ret (v := .agg #[.slice A1 l1.length c1, .bool s1]) (by simp [results, Tryz.results81, go_sem, *]) rfl ?_
  exact ⟨l1, s1, A1, c1, hide (E1.out), rfl, C1, hide (OwQ.base (B := w.heap.size + 3) (owT O1) (by omega)), belo⟩
theorem vAShr_any (A B : Option Addr) (a b : List Int) (c d : Nat) (s t : Bool) (w : World) (ha : a.length ≤ 4096) (hb : b.length ≤ 4096) (hca : Hid (a.length ≤ c ∧ c ≤ maxLen)) (hcb : Hid (b.length ≤ d ∧ d ≤ maxLen)) (hA : RQ w A a) (hB : RQ w B b) (ya : By a) (yb : By b) :
    Calls Tryz.prog 59 #[.agg #[.slice A a.length c, .bool s], .agg #[.slice B b.length d, .bool t]] w (RetC (· = shf mAShr ⟨a, s⟩ ⟨b, t⟩) w) := by
  have HA := hide hA
  have HBB := hide hB
  have LA := hide ha
  have LB := hide hb
  have YA := hide ya
  have YB := hide yb
  clear hA hB ha hb ya yb
  go_enter Tryz.func59, Tryz.ntmps59
  go_wp2_with fail
  refine (shift_any _ _ moves_ashr A B a b c d s t _ LA.out LB.out hca hcb (HA.out.below belo) (HBB.out.below belo) YA.out YB.out).mono ?_
  rintro e w1 ⟨l1, s1, A1, c1, E1, rfl, C1, O1, hb⟩
  replace O1 := hide (O1.out.base (show w.heap.size + 3 ≤ _ by first | omega | (simp; omega) | (simp; done)))
  have hB1 : Below w.heap.size w w1 := Below.trans belo (hb.mono as4)
  obtain ⟨kc1, kf1⟩ := bcell hb
  have hz1 := hb.size
  (try simp at hz1)
  have n1_0 : w.heap.size < w1.heap.size := by omega
  have n1_1 : w.heap.size + 1 < w1.heap.size := by omega
  have n1_2 : w.heap.size + 2 < w1.heap.size := by omega
  have r1_0 : w1.cell? ⟨w.heap.size + 2, 0, none⟩ = some (.slice none 0 0) := (kc1 _ _ as0).trans as2
  have g1_0 : w1.frozen? ⟨w.heap.size + 2, 0, none⟩ = false := (kf1 _ _ as0).trans as2
  have r1_1 : w1.cell? ⟨w.heap.size + 2, 1, none⟩ = some (.bool false) := (kc1 _ _ as0).trans as2
  have g1_1 : w1.frozen? ⟨w.heap.size + 2, 1, none⟩ = false := (kf1 _ _ as0).trans as2
  clear hb
  go_wp2
  refine bodyPost_ret (v := .agg #[.slice A1 l1.length c1, .bool s1]) (by simp [results, Tryz.results59, go_sem, *]) rfl ?_
  exact ⟨l1, s1, A1, c1, hide (E1.out), rfl, C1, hide (OwQ.base (B := w.heap.size + 3) (owT O1) (by omega)), belo⟩
theorem vAShl_any (A B : Option Addr) (a b : List Int) (c d : Nat) (s t : Bool) (w : World) (ha : a.length ≤ 4096) (hb : b.length ≤ 4096) (hca : Hid (a.length ≤ c ∧ c ≤ maxLen)) (hcb : Hid (b.length ≤ d ∧ d ≤ maxLen)) (hA : RQ w A a) (hB : RQ w B b) (ya : By a) (yb : By b) :
    Calls Tryz.prog 82 #[.agg #[.slice A a.length c, .bool s], .agg #[.slice B b.length d, .bool t]] w (RetC (· = shf mShl ⟨a, s⟩ ⟨b, t⟩) w) := by
  have HA := hide hA
  have HBB := hide hB
  have LA := hide ha
  have LB := hide hb
  have YA := hide ya
  have YB := hide yb
  clear hA hB ha hb ya yb
  go_enter Tryz.func82, Tryz.ntmps82
  go_wp2_with fail
  refine (vShl_any A B a b c d s t _ LA.out LB.out hca hcb (HA.out.below belo) (HBB.out.below belo) YA.out YB.out).mono ?_
  rintro e w1 ⟨l1, s1, A1, c1, E1, rfl, C1, O1, hb⟩
  replace O1 := hide (O1.out.base (show w.heap.size + 3 ≤ _ by first | omega | (simp; omega) | (simp; done)))
  have hB1 : Below w.heap.size w w1 := Below.trans belo (hb.mono as4)
  obtain ⟨kc1, kf1⟩ := bcell hb
  have hz1 := hb.size
  (try simp at hz1)
  have n1_0 : w.heap.size < w1.heap.size := by omega
  have n1_1 : w.heap.size + 1 < w1.heap.size := by omega
  have n1_2 : w.heap.size + 2 < w1.heap.size := by omega
  have r1_0 : w1.cell? ⟨w.heap.size + 2, 0, none⟩ = some (.slice none 0 0) := (kc1 _ _ as0).trans as2
  have g1_0 : w1.frozen? ⟨w.heap.size + 2, 0, none⟩ = false := (kf1 _ _ as0).trans as2
  have r1_1 : w1.cell? ⟨w.heap.size + 2, 1, none⟩ = some (.bool false) := (kc1 _ _ as0).trans as2
  have g1_1 : w1.frozen? ⟨w.heap.size + 2, 1, none⟩ = false := (kf1 _ _ as0).trans as2
  clear hb
  go_wp2
  refine bodyPost_ret (v := .agg #[.slice A1 l1.length c1, .bool s1]) (by simp [results, Tryz.results82, go_sem, *]) rfl ?_
  exact ⟨l1, s1, A1, c1, hide (E1.out), rfl, C1, hide (OwQ.base (B := w.heap.size + 3) (owT O1) (by omega)), belo⟩
end
section
open Go.RowKit
set_option maxRecDepth 100000
set_option linter.unusedSimpArgs false
set_option linter.unusedVariables false
theorem step_make_bv {w : World} {ops : Array Oper} {o : Oper} {a : Act} {K : Act → World → Prop} {Q : Exit → Act → World → Prop} {E : Prop} (hg : o.guard = none) (x y : Operand) (hop : o.op = Op.makeSlice 82 x y)
    (L C : Int) (n : Nat) (hl : a.eval x = .int .i64 L) (hc : a.eval y = .int .i64 C) (hL : L = n) (hC : C = n) (hn : n ≤ 4096)
    (hK : ∀ w', RowF w' w.heap.size n (fun _ => false) → Below w.heap.size w w' → K (a.put o.dst (.slice (some ⟨w.heap.size, 0, none⟩) n n)) w') :
    if Region.wanted o (yielded ops a.tmps) = true then Oper.wp Tryz.prog o a w K Q else E := by
  have hw : Region.wanted o (yielded ops a.tmps) = true := by simp [Region.wanted, hg]
  rw [if_pos hw]
  obtain ⟨i0, hi, hz0, hz1, hz2⟩ := info_parts bool_info
  obtain ⟨w', hrun, hown, hgrow⟩ := run_make_full (P := Tryz.prog) w w.heap.size 82 4 i0 (.bool false) 1 Tryz.underlying82 hi hz0 hz1 .i64 .i64 n (by rw [hz2]; omega) (by simp only [maxLen]; omega) (Nat.le_refl _)
  subst hL
  subst hC
  unfold Oper.wp
  simp [execOp, hop, hl, hc, hrun, Result.andThen]
  have hlen : (madeCells (Value.bool false).cells (n * 1)).toList = (List.replicate n false).map Value.bool := by
    rw [Nat.mul_one, show (Value.bool false).cells = #[.bool false] from rfl, toList_madeCells_one, List.map_replicate]
  rw [hlen] at hown
  have hr : RowF w' w.heap.size n (fun _ => false) := by
    have h1 : (List.replicate n false).length = n := by simp
    have h2 := row_of_own (l := List.replicate n false) (by rw [h1]; exact hown)
    rw [h1] at h2
    exact h2.congr fun i hi => by unfold bt; simp [hi]
  exact hK w' hr ((Below.refl _ _).grown hgrow (Nat.le_refl _) (fun k hk => by cases hk))
theorem zr_fb (n : Nat) : fb (bl n fun _ => false) = ql n fun _ => 0 := by
  unfold fb
  rw [bl_length]
  exact ql_congr fun i hi => by rw [bt_bl_lt hi]; rfl
set_option maxHeartbeats 1000000 in
theorem vNeg_any (A : Option Addr) (a : List Int) (c : Nat) (s : Bool) (w : World) (ha : a.length ≤ 4096) (hca : Hid (a.length ≤ c ∧ c ≤ maxLen)) (hA : RQ w A a) (ya : By a) :
    Calls Tryz.prog 60 #[.agg #[.slice A a.length c, .bool s]] w (RetC (· = vNeg ⟨a, s⟩) w) := by
  have HA := hide hA
  have LA := hide ha
  have YA := hide ya
  clear hA ha ya
  go_enter Tryz.func60, Tryz.ntmps60
  go_wp2_with fail
  refine (counted_any A a c s w _ LA.out hca HA.out belo).mono ?_
  rintro e w1 ⟨l1, s1, A1, c1, E1, rfl, C1, O1, hb⟩
  replace O1 := hide (O1.out.lower (show w.heap.size + 2 ≤ _ by first | omega | (simp; omega) | (simp; done)))
  have hB1 : Below w.heap.size w w1 := Below.trans belo (hb.mono as4)
  obtain ⟨kc1, kf1⟩ := bcell hb
  have hz1 := hb.size
  (try simp at hz1)
  have n1_0 : w.heap.size < w1.heap.size := by omega
  have n1_1 : w.heap.size + 1 < w1.heap.size := by omega
  have r1_0 : w1.cell? ⟨w.heap.size + 1, 0, none⟩ = some (.slice none 0 0) := (kc1 _ _ as0).trans as2
  have g1_0 : w1.frozen? ⟨w.heap.size + 1, 0, none⟩ = false := (kf1 _ _ as0).trans as2
  have r1_1 : w1.cell? ⟨w.heap.size + 1, 1, none⟩ = some (.bool false) := (kc1 _ _ as0).trans as2
  have g1_1 : w1.frozen? ⟨w.heap.size + 1, 1, none⟩ = false := (kf1 _ _ as0).trans as2
  clear hb
  have m1_0 : w1.cell? ⟨w.heap.size, 0, none⟩ = some (.slice A a.length c) := (kc1 _ _ as0).trans as1
  have v1_0 : w1.frozen? ⟨w.heap.size, 0, none⟩ = false := (kf1 _ _ as0).trans as1
  have m1_1 : w1.cell? ⟨w.heap.size, 1, none⟩ = some (.bool s) := (kc1 _ _ as0).trans as1
  have v1_1 : w1.frozen? ⟨w.heap.size, 1, none⟩ = false := (kf1 _ _ as0).trans as1
  have G1 : Gd l1 := by have h := cnt_gd (v := ⟨a, s⟩) YA.out; rw [← E1.out] at h; exact h
  have HG1 := hide G1
  have u1 := G1.le
  have p1 := G1.pos
  clear G1
  go_wp2_with fail
  obtain ⟨V, hV⟩ : ∃ x, x = ((w1.setCell ⟨w.heap.size, 0, none⟩ (.slice A1 l1.length c1)).setCell ⟨w.heap.size, 1, none⟩ (.bool s1)) := ⟨_, rfl⟩
  rw [← hV]
  have hBV : Below w.heap.size w V := by rw [hV]; exact belo
  have qV0_0 : V.cell? ⟨w.heap.size, 0, none⟩ = some (.slice A1 l1.length c1) := by rw [hV]; (repeat (first | with_reducible refine cset_eq' ?_ | with_reducible refine cset_ne (by first | (simp; done) | (simp; omega)) ?_ | with_reducible refine cset_ex ?_ | exact ⟨_, by assumption⟩ | assumption))
  have jV0_0 : V.frozen? ⟨w.heap.size, 0, none⟩ = false := by rw [hV]; (repeat (first | with_reducible refine fset ?_ | assumption))
  have qV0_1 : V.cell? ⟨w.heap.size, 1, none⟩ = some (.bool s1) := by rw [hV]; (repeat (first | with_reducible refine cset_eq' ?_ | with_reducible refine cset_ne (by first | (simp; done) | (simp; omega)) ?_ | with_reducible refine cset_ex ?_ | exact ⟨_, by assumption⟩ | assumption))
  have jV0_1 : V.frozen? ⟨w.heap.size, 1, none⟩ = false := by rw [hV]; (repeat (first | with_reducible refine fset ?_ | assumption))
  have qV1_0 : V.cell? ⟨w.heap.size + 1, 0, none⟩ = some (.slice none 0 0) := by rw [hV]; (repeat (first | with_reducible refine cset_eq' ?_ | with_reducible refine cset_ne (by first | (simp; done) | (simp; omega)) ?_ | with_reducible refine cset_ex ?_ | exact ⟨_, by assumption⟩ | assumption))
  have jV1_0 : V.frozen? ⟨w.heap.size + 1, 0, none⟩ = false := by rw [hV]; (repeat (first | with_reducible refine fset ?_ | assumption))
  have qV1_1 : V.cell? ⟨w.heap.size + 1, 1, none⟩ = some (.bool false) := by rw [hV]; (repeat (first | with_reducible refine cset_eq' ?_ | with_reducible refine cset_ne (by first | (simp; done) | (simp; omega)) ?_ | with_reducible refine cset_ex ?_ | exact ⟨_, by assumption⟩ | assumption))
  have jV1_1 : V.frozen? ⟨w.heap.size + 1, 1, none⟩ = false := by rw [hV]; (repeat (first | with_reducible refine fset ?_ | assumption))
  have nV_0 : w.heap.size < V.heap.size := by rw [hV]; simp; omega
  have nV_1 : w.heap.size + 1 < V.heap.size := by rw [hV]; simp; omega
  replace O1 := hide (show RG w.heap.size (w.heap.size + 2) V A1 l1 by rw [hV]; (repeat (first | with_reducible exact O1.out | with_reducible refine RG.setc ?_ as3 as3 _ | with_reducible refine RG.allc ?_ _ | with_reducible refine RG.drew ?_ | with_reducible refine RG.drewN ?_ _)))
  clear hV kc1 kf1
  refine region_anyT (S := fun wS => Below V.heap.size V wS) (n := 9) kr (Below.refl _ _).drew (fun hS inv => ?_)
  refine anyT_take (i := 0) (oi := _) (v := Value.pointer (some ⟨w.heap.size, 0, none⟩)) rfl kr kr kr (by decide) (by decide) kr kr inv (fun _ _ _ h => h) (Or.inl ⟨kr, ?_⟩) hS (fun inv => ?_)
  · intro wz hSw
    first | kernel_rfl | go_simp
  (try simp only [Act.put, q2, q3, q4, q5, q6, q7])
  refine anyT_take (i := 1) (oi := _) (v := Value.slice A1 l1.length c1) rfl kr kr kr (by decide) (by decide) kr kr inv (fun _ _ _ h => h) (Or.inl ⟨kr, ?_⟩) hS (fun inv => ?_)
  · intro wz hSw
    have hk0 := (hSw : Below _ _ _).cell (p := ⟨w.heap.size, 0, none⟩) as0; go_simp
  (try simp only [Act.put, q2, q3, q4, q5, q6, q7])
  refine anyT_take (i := 2) (oi := _) (v := Value.int IntKind.i64 (l1.length : Nat)) rfl kr kr kr (by decide) (by decide) kr kr inv (fun _ _ _ h => h) (Or.inl ⟨kr, ?_⟩) hS (fun inv => ?_)
  · intro wz hSw
    go_simp
  (try simp only [Act.put, q2, q3, q4, q5, q6, q7])
  refine anyT_take (i := 4) (oi := _) (v := Value.pointer (some ⟨w.heap.size, 1, none⟩)) rfl kr kr kr (by decide) (by decide) kr kr inv (fun _ _ _ h => h) (Or.inl ⟨kr, ?_⟩) hS (fun inv => ?_)
  · intro wz hSw
    first | kernel_rfl | go_simp
  (try simp only [Act.put, q2, q3, q4, q5, q6, q7])
  refine anyT_take (i := 5) (oi := _) (v := Value.bool s1) rfl kr kr kr (by decide) (by decide) kr kr inv (fun _ _ _ h => h) (Or.inl ⟨kr, ?_⟩) hS (fun inv => ?_)
  · intro wz hSw
    have hk0 := (hSw : Below _ _ _).cell (p := ⟨w.heap.size, 1, none⟩) as0; go_simp
  (try simp only [Act.put, q2, q3, q4, q5, q6, q7])
  refine anyT_take (i := 7) (oi := _) (v := Value.agg #[Value.slice A1 l1.length c1, Value.bool s1]) rfl kr kr kr (by decide) (by decide) kr kr inv (fun _ _ _ h => h) (Or.inl ⟨kr, ?_⟩) hS (fun inv => ?_)
  · intro wz hSw
    have hk0 := (hSw : Below _ _ _).cell (p := ⟨w.heap.size, 0, none⟩) as0; have hk1 := (hSw : Below _ _ _).cell (p := ⟨w.heap.size, 1, none⟩) as0; go_simp
  (try simp only [Act.put, q2, q3, q4, q5, q6, q7])
  refine anyT_ready (rs := [3]) kr (by simp) ?_
  refine ReadyT.head (o := _) rfl (by decide) kr inv (fun K hK => ?_) ReadyT.nil
  refine step_make_bv (by rfl) _ _ (by rfl) _ _ l1.length kr kr rfl rfl (by omega) ?_
  intro w2 hrm hb
  refine hK.out _ _ ?_ (fun hS inv => ?_)
  · exact (hS : Below V.heap.size V _).trans (hb.mono (Below.size hS))
  clear hK K
  (try simp only [Act.put, q2, q3, q4, q5, q6, q7])
  replace O1 := hide ((show RG w.heap.size (w.heap.size + 2) _ A1 l1 from rgT O1).kept hb)
  have hB2 : Below w.heap.size w w2 := Below.trans belo (hb.mono as4)
  obtain ⟨kc2, kf2⟩ := bcell hb
  have hz2 := hb.size
  (try simp at hz2)
  have n2_0 : w.heap.size < w2.heap.size := by omega
  have n2_1 : w.heap.size + 1 < w2.heap.size := by omega
  have m2_0 : w2.cell? ⟨w.heap.size, 0, none⟩ = some (.slice A1 l1.length c1) := (kc2 _ _ as0).trans as1
  have v2_0 : w2.frozen? ⟨w.heap.size, 0, none⟩ = false := (kf2 _ _ as0).trans as1
  have m2_1 : w2.cell? ⟨w.heap.size, 1, none⟩ = some (.bool s1) := (kc2 _ _ as0).trans as1
  have v2_1 : w2.frozen? ⟨w.heap.size, 1, none⟩ = false := (kf2 _ _ as0).trans as1
  have m2_2 : w2.cell? ⟨w.heap.size + 1, 0, none⟩ = some (.slice none 0 0) := (kc2 _ _ as0).trans as1
  have v2_2 : w2.frozen? ⟨w.heap.size + 1, 0, none⟩ = false := (kf2 _ _ as0).trans as1
  have m2_3 : w2.cell? ⟨w.heap.size + 1, 1, none⟩ = some (.bool false) := (kc2 _ _ as0).trans as1
  have v2_3 : w2.frozen? ⟨w.heap.size + 1, 1, none⟩ = false := (kf2 _ _ as0).trans as1
  clear kc2 kf2
  clear hb
  obtain ⟨z, hz⟩ : ∃ z, z = bl l1.length fun _ => false := ⟨_, rfl⟩
  have zl : z.length = l1.length := by rw [hz, bl_length]
  have HZ := hide hz
  have OM := hide (show Rd w2 (some ⟨V.drew.heap.size, 0, none⟩) z from Own.rd (B := 0) (fun _ => ⟨_, rfl, Nat.zero_le _, by rw [zl]; exact hrm.congr fun i hi => by rw [hz, bt_bl_lt hi]⟩))
  have hcall := hide (vector_any (some ⟨V.drew.heap.size, 0, none⟩) z l1.length s1 w2 (by omega) OM.out)
  rw [zl] at hcall
  clear hz zl hrm OM
  refine anyT_ready (rs := [6]) kr (by simp) ?_
  refine ReadyT.head (o := _) rfl (by decide) kr inv (fun K hK => ?_) ReadyT.nil
  go_simp
  refine (hcall.out).mono ?_
  rintro e w3 ⟨l2, s2, A2, c2, E2, rfl, C2, O2, hb⟩
  go_wp2_with fail
  refine hK.out _ _ ?_ (fun hS inv => ?_)
  · exact (hS : Below V.heap.size V _).trans (hb.mono (Below.size hS))
  clear hK K
  (try simp only [Act.put, q2, q3, q4, q5, q6, q7])
  replace O1 := hide ((show RG w.heap.size (w.heap.size + 2) _ A1 l1 from rgT O1).kept hb)
  replace O2 := hide (O2.out.base (show w.heap.size + 2 ≤ _ by first | omega | (simp; omega) | (simp; done)))
  have hB3 : Below w.heap.size w w3 := Below.trans belo (hb.mono as4)
  obtain ⟨kc3, kf3⟩ := bcell hb
  have hz3 := hb.size
  (try simp at hz3)
  have n3_0 : w.heap.size < w3.heap.size := by omega
  have n3_1 : w.heap.size + 1 < w3.heap.size := by omega
  have m3_0 : w3.cell? ⟨w.heap.size, 0, none⟩ = some (.slice A1 l1.length c1) := (kc3 _ _ as0).trans as1
  have v3_0 : w3.frozen? ⟨w.heap.size, 0, none⟩ = false := (kf3 _ _ as0).trans as1
  have m3_1 : w3.cell? ⟨w.heap.size, 1, none⟩ = some (.bool s1) := (kc3 _ _ as0).trans as1
  have v3_1 : w3.frozen? ⟨w.heap.size, 1, none⟩ = false := (kf3 _ _ as0).trans as1
  have m3_2 : w3.cell? ⟨w.heap.size + 1, 0, none⟩ = some (.slice none 0 0) := (kc3 _ _ as0).trans as1
  have v3_2 : w3.frozen? ⟨w.heap.size + 1, 0, none⟩ = false := (kf3 _ _ as0).trans as1
  have m3_3 : w3.cell? ⟨w.heap.size + 1, 1, none⟩ = some (.bool false) := (kc3 _ _ as0).trans as1
  have v3_3 : w3.frozen? ⟨w.heap.size + 1, 1, none⟩ = false := (kf3 _ _ as0).trans as1
  clear kc3 kf3
  clear hb
  have e2 : l2.length ≤ 4096 ∧ By l2 := by
    have h := E2.out
    injection h with h _
    rw [h, HZ.out, zr_fb]
    exact ⟨by rw [ql_length]; omega, (gd_ql (by omega) (by omega) fun i _ => by decide : Gd _).by_⟩
  refine anyT_ready (rs := [8]) kr (by simp) ?_
  refine ReadyT.head (o := _) rfl (by decide) kr inv (fun K hK => ?_) ReadyT.nil
  go_simp
  refine (vSub_any A2 A1 l2 l1 c2 c1 s2 s1 _ e2.1 (by omega) C2 C1 (by refine OwQ.rd (B := w.heap.size + 2) ?_; (repeat (first | with_reducible exact O2.out | with_reducible refine OwQ.far ?_ as3 _ | with_reducible refine OwQ.allc ?_ _ | with_reducible refine OwQ.drew ?_ | with_reducible refine OwQ.drewN ?_ _))) (by refine RG.rd (B0 := w.heap.size) (B1 := w.heap.size + 2) ?_; (repeat (first | with_reducible exact O1.out | with_reducible refine RG.setc ?_ as3 as3 _ | with_reducible refine RG.allc ?_ _ | with_reducible refine RG.drew ?_ | with_reducible refine RG.drewN ?_ _))) e2.2 HG1.out.by_).mono ?_
  rintro e w4 ⟨l3, s3, A3, c3, E3, rfl, C3, O3, hb⟩
  go_wp2_with fail
  refine hK.out _ _ ?_ (fun hS inv => ?_)
  · exact (hS : Below V.heap.size V _).trans (hb.mono (Below.size hS))
  clear hK K
  (try simp only [Act.put, q2, q3, q4, q5, q6, q7])
  replace O2 := hide ((show OwQ (w.heap.size + 2) _ A2 l2 from owT O2).kept hb)
  replace O1 := hide ((show RG w.heap.size (w.heap.size + 2) _ A1 l1 from rgT O1).kept hb)
  replace O3 := hide (O3.out.base (show w.heap.size + 2 ≤ _ by first | omega | (simp; omega) | (simp; done)))
  have hB4 : Below w.heap.size w w4 := Below.trans belo (hb.mono as4)
  obtain ⟨kc4, kf4⟩ := bcell hb
  have hz4 := hb.size
  (try simp at hz4)
  have n4_0 : w.heap.size < w4.heap.size := by omega
  have n4_1 : w.heap.size + 1 < w4.heap.size := by omega
  have m4_0 : w4.cell? ⟨w.heap.size, 0, none⟩ = some (.slice A1 l1.length c1) := (kc4 _ _ as0).trans as1
  have v4_0 : w4.frozen? ⟨w.heap.size, 0, none⟩ = false := (kf4 _ _ as0).trans as1
  have m4_1 : w4.cell? ⟨w.heap.size, 1, none⟩ = some (.bool s1) := (kc4 _ _ as0).trans as1
  have v4_1 : w4.frozen? ⟨w.heap.size, 1, none⟩ = false := (kf4 _ _ as0).trans as1
  have m4_2 : w4.cell? ⟨w.heap.size + 1, 0, none⟩ = some (.slice none 0 0) := (kc4 _ _ as0).trans as1
  have v4_2 : w4.frozen? ⟨w.heap.size + 1, 0, none⟩ = false := (kf4 _ _ as0).trans as1
  have m4_3 : w4.cell? ⟨w.heap.size + 1, 1, none⟩ = some (.bool false) := (kc4 _ _ as0).trans as1
  have v4_3 : w4.frozen? ⟨w.heap.size + 1, 1, none⟩ = false := (kf4 _ _ as0).trans as1
  clear kc4 kf4
  clear hb
  refine anyT_ready (rs := [9]) kr (by simp) ?_
  refine ReadyT.tail (o := _) rfl (by decide) (fun K hK => ?_)
  go_simp
  refine hK.out _ _ ?_
  clear hK K
  (try simp only [Act.put, q2, q3, q4, q5, q6, q7])
  refine anyT_done kr ?_ _
  go_wp2
  refine bodyPost_ret (v := .agg #[.slice A3 l3.length c3, .bool s3]) (by simp [results, Tryz.results60, go_sem, *]) rfl ?_
  exact ⟨l3, s3, A3, c3, hide (E3.out.trans (by unfold vNeg zr; rw [E2.out, HZ.out, zr_fb, ← E1.out])), rfl, C3, hide (OwQ.base (B := w.heap.size + 2) (owT O3) (by omega)), belo⟩
end
end Go.Proofs.YtbcpeagannjgpaaGreatDoor
