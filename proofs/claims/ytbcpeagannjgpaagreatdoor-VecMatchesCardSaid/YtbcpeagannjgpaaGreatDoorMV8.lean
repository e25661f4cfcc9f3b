/-
  Texts of MV joined (VecX, VecSZ, VecI2).
-/
import Derived.Test.YtbcpeagannjgpaaGreatDoorMV7
set_option linter.unusedVariables false
set_option linter.unusedSimpArgs false
set_option linter.unusedSectionVars false
namespace Go.Proofs.YtbcpeagannjgpaaGreatDoor
section
open Go.RowKit
set_option maxRecDepth 100000
set_option linter.unusedSimpArgs false
set_option linter.unusedVariables false
theorem vl_zero (l : List Int) (s : Bool) : vl l s = 0 ↔ nv (nb l) = 0 := by
  have h := nv_lt (nb l)
  have hc : ((2 ^ (nb l).length : Nat) : Int) = (2 : Int) ^ (nb l).length := by simp
  have hp : (0 : Int) < 2 ^ (nb l).length := Int.pow_pos (by decide)
  unfold vl sv
  rcases Nat.eq_zero_or_pos (nv (nb l)) with e | e
  · cases s
    · simp [e]
    · have h0 : ¬ ng (nb l) = true := by
        rw [ng_iff]
        rintro ⟨_, h2⟩
        have : 0 < 2 ^ ((nb l).length - 1) := Nat.two_pow_pos _
        omega
      simp only [if_true]
      rw [if_neg h0]; simp [e]
  · cases s
    · simp
    · simp only [if_true]
      split <;> omega
theorem rd_or {l : List Int} (g : Gd l) (h : kn l = true) : ∀ n, n < l.length → (rd mOr l n = 0 ↔ ∀ i, i ≤ n → qt l i = 0) ∧ (rd mOr l n = 0 ∨ rd mOr l n = 1)
  | 0, h0 => by
    have h1 := (kn_iff l).1 h 0 h0
    unfold mKnown at h1
    have h2 := of_decide_eq_true h1
    have h4 := (g.bd 0).1
    have h3 : rd mOr l 0 = mBuf (qt l 0) := rfl
    rw [h3]
    rcases (show qt l 0 = 0 ∨ qt l 0 = 1 by omega) with e | e
    · rw [e]; exact ⟨⟨fun _ i hi => by rw [show i = 0 by omega]; exact e, fun _ => rfl⟩, Or.inl rfl⟩
    · rw [e]; exact ⟨⟨fun h => absurd h (by decide), fun h => by have := h 0 (Nat.le_refl _); omega⟩, Or.inr rfl⟩
  | n + 1, h0 => by
    have h1 := (kn_iff l).1 h (n + 1) h0
    unfold mKnown at h1
    have h2 := of_decide_eq_true h1
    have h4 := (g.bd (n + 1)).1
    have h3 : rd mOr l (n + 1) = mOr (rd mOr l n) (qt l (n + 1)) := rfl
    obtain ⟨k1, k2⟩ := rd_or g h n (by omega)
    rw [h3]
    rcases (show qt l (n + 1) = 0 ∨ qt l (n + 1) = 1 by omega) with e | e <;> rcases k2 with k | k <;> rw [e, k]
    · refine ⟨⟨fun _ i hi => ?_, fun _ => rfl⟩, Or.inl rfl⟩
      rcases Nat.lt_or_ge i (n + 1) with q | q
      · exact k1.1 k i (by omega)
      · rw [show i = n + 1 by omega]; exact e
    · exact ⟨⟨fun h => absurd h (by decide), fun h => by have := k1.2 fun i hi => h i (by omega); omega⟩, Or.inr rfl⟩
    · exact ⟨⟨fun h => absurd h (by decide), fun h => by have := h (n + 1) (Nat.le_refl _); omega⟩, Or.inr rfl⟩
    · exact ⟨⟨fun h => absurd h (by decide), fun h => by have := h (n + 1) (Nat.le_refl _); omega⟩, Or.inr rfl⟩
theorem tr_zero {l : List Int} (s : Bool) (g : Gd l) (h : kn l = true) : tr ⟨l, s⟩ = 0 ↔ vl l s = 0 := by
  have e : tr ⟨l, s⟩ = rd mOr l (l.length - 1) := by unfold tr red; rw [cnt_of_gd (v := ⟨l, s⟩) g]
  have hp := g.pos
  rw [vl_zero, e, (rd_or g h _ (by omega)).1]
  constructor
  · intro k
    unfold nv
    exact nf_none fun i hi => by
      rw [nb_length] at hi
      unfold nb
      rw [bt_bl_lt hi, k i (by omega)]; decide
  · intro k i hi
    have hb := (kn_iff l).1 h i (by omega)
    unfold mKnown at hb
    have h2 := of_decide_eq_true hb
    have h4 := (g.bd i).1
    rcases (show qt l i = 0 ∨ qt l i = 1 by omega) with q | q
    · exact q
    · exfalso
      have h5 : nb l = vz (nb l).length 0 := nv_inj (by rw [vz_length]) (by rw [k]; have := nv_vz (nb l).length 0; simp at this; omega)
      have h6 : bt (nb l) i = false := by
        rw [h5]; unfold vz
        by_cases hi2 : i < (nb l).length
        · rw [bt_bl_lt hi2]; unfold zb; simp
        · rw [nb_length] at hi2; omega
      unfold nb at h6
      rw [bt_bl_lt (by omega), q] at h6
      exact absurd h6 (by decide)
theorem sv_nx (l : List Int) (s : Bool) : sv (nx l s) = vl l s := by
  unfold nx vl
  cases s
  · simp only [Bool.false_eq_true, if_false]
    have e : nv (nb l ++ [false]) = nv (nb l) := by rw [nv_snoc]; simp
    have h0 : ¬ ng (nb l ++ [false]) = true := by
      rw [ng_iff]
      rintro ⟨_, h2⟩
      rw [e] at h2
      have := nv_lt (nb l)
      simp at h2
      omega
    unfold sv
    rw [if_neg h0, e]
  · rfl
theorem IntV.known {l : List Int} {s : Bool} {e : Ending} (g : Gd l) (h : kn l = true) (he : IntV ⟨l, s⟩ e) :
    (e = .returned (.tuple #[.int .i64 (vl l s), .bool true]) ∧ -9223372036854775808 ≤ vl l s ∧ vl l s ≤ 9223372036854775807) ∨ (e = .returned (.tuple #[.int .i64 0, .bool false]) ∧ ¬ vl l s = 0 ∧ ¬ vl l s = 1 ∧ ¬ vl l s = -1) := by
  unfold IntV at he
  rw [cnt_of_gd (v := ⟨l, s⟩) g] at he
  rw [if_pos h] at he
  unfold IntA at he
  rw [sv_nx] at he
  dsimp only at he
  rcases he with ⟨h1, h2, h3⟩ | ⟨h1, h2⟩
  · exact Or.inl ⟨h3, h1, h2⟩
  · exact Or.inr ⟨h2, by omega, by omega, by omega⟩
theorem pow_q (A B : Option Addr) (a b : List Bool) (c d : Nat) (w : World) (ha : a.length ≤ 4096) (hb : b.length ≤ 4096) (hA : Rd w A a) (hB : Rd w B b) : Calls Tryz.prog 142 #[.slice A a.length c, .slice B b.length d] w (RetP (fun l => l = vz a.length ((nv a : Int) ^ nv b)) w) :=
  (pow_any A B a b c d w ha hb hA hB).mono fun _ _ h => RetP.of_mkV rfl h
set_option maxHeartbeats 2000000 in
theorem vPow_any (A B : Option Addr) (a b : List Int) (c d : Nat) (s t : Bool) (w : World) (ha : a.length ≤ 4096) (hb : b.length ≤ 4096) (hca : Hid (a.length ≤ c ∧ c ≤ maxLen)) (hcb : Hid (b.length ≤ d ∧ d ≤ maxLen)) (hA : RQ w A a) (hB : RQ w B b) (ya : By a) (yb : By b) (ht : Tabs w) :
    Calls Tryz.prog 63 #[.agg #[.slice A a.length c, .bool s], .agg #[.slice B b.length d, .bool t]] w (RetC (· = vPow ⟨a, s⟩ ⟨b, t⟩) w) := by
  have HT := hide ht
  clear ht
  have HA := hide hA
  have HBB := hide hB
  have LA := hide ha
  have LB := hide hb
  have YA := hide ya
  have YB := hide yb
  clear hA hB ha hb ya yb
  obtain ⟨R, hR⟩ : ∃ R, R = vPow ⟨a, s⟩ ⟨b, t⟩ := ⟨_, rfl⟩
  rw [← hR]
  unfold vPow at hR
  have HR := hide hR
  clear hR
  go_enter Tryz.func63, Tryz.ntmps63
  go_wp2_with fail
  obtain ⟨W1, hW1⟩ : ∃ x, x = (((w.alloc (Obj.cells #[Value.slice A a.length c, Value.bool s] 24)).alloc (Obj.cells #[Value.slice B b.length d, Value.bool t] 24)).alloc (Obj.cells #[Value.slice none 0 0, Value.bool false] 24)) := ⟨_, rfl⟩
  rw [← hW1]
  have hBW1 : Below w.heap.size w W1 := by rw [hW1]; exact belo
  have qW1_0 : W1.cell? ⟨w.heap.size, 0, none⟩ = some (Value.slice A a.length c) := by rw [hW1]; simp [go_sem]
  have fW1_0 : W1.frozen? ⟨w.heap.size, 0, none⟩ = false := by rw [hW1]; simp [go_sem]
  have qW1_1 : W1.cell? ⟨w.heap.size, 1, none⟩ = some (Value.bool s) := by rw [hW1]; simp [go_sem]
  have fW1_1 : W1.frozen? ⟨w.heap.size, 1, none⟩ = false := by rw [hW1]; simp [go_sem]
  have qW1_2 : W1.cell? ⟨w.heap.size + 1, 0, none⟩ = some (Value.slice B b.length d) := by rw [hW1]; simp [go_sem]
  have fW1_2 : W1.frozen? ⟨w.heap.size + 1, 0, none⟩ = false := by rw [hW1]; simp [go_sem]
  have qW1_3 : W1.cell? ⟨w.heap.size + 1, 1, none⟩ = some (Value.bool t) := by rw [hW1]; simp [go_sem]
  have fW1_3 : W1.frozen? ⟨w.heap.size + 1, 1, none⟩ = false := by rw [hW1]; simp [go_sem]
  have qW1_4 : W1.cell? ⟨w.heap.size + 2, 0, none⟩ = some (Value.slice none 0 0) := by rw [hW1]; simp [go_sem]
  have fW1_4 : W1.frozen? ⟨w.heap.size + 2, 0, none⟩ = false := by rw [hW1]; simp [go_sem]
  have qW1_5 : W1.cell? ⟨w.heap.size + 2, 1, none⟩ = some (Value.bool false) := by rw [hW1]; simp [go_sem]
  have fW1_5 : W1.frozen? ⟨w.heap.size + 2, 1, none⟩ = false := by rw [hW1]; simp [go_sem]
  have zW1_0 : w.heap.size < W1.heap.size := by rw [hW1]; first | (simp; done) | (simp; omega)
  have zW1_1 : w.heap.size + 1 < W1.heap.size := by rw [hW1]; first | (simp; done) | (simp; omega)
  have zW1_2 : w.heap.size + 2 < W1.heap.size := by rw [hW1]; first | (simp; done) | (simp; omega)
  clear hW1
  refine region_anyT (S := fun wS => Below W1.heap.size W1 wS) (n := 4) kr (Below.refl _ _).drew (fun hS inv => ?_)
  refine anyT_take (i := 0) (oi := _) (v := Value.agg #[Value.slice A a.length c, Value.bool s]) rfl kr kr kr (by decide) (by decide) kr kr inv (fun _ _ _ h => h) (Or.inl ⟨kr, ?_⟩) hS (fun inv => ?_)
  · intro wz hSw
    have hk0 := (hSw : Below _ _ _).cell (p := ⟨w.heap.size, 0, none⟩) as0; have hk1 := (hSw : Below _ _ _).cell (p := ⟨w.heap.size, 1, none⟩) as0; go_simp
  (try simp only [Act.put, q2, q3, q4, q5, q6, q7])
  refine anyT_take (i := 2) (oi := _) (v := Value.agg #[Value.slice B b.length d, Value.bool t]) rfl kr kr kr (by decide) (by decide) kr kr inv (fun _ _ _ h => h) (Or.inl ⟨kr, ?_⟩) hS (fun inv => ?_)
  · intro wz hSw
    have hk0 := (hSw : Below _ _ _).cell (p := ⟨w.heap.size + 1, 0, none⟩) as0; have hk1 := (hSw : Below _ _ _).cell (p := ⟨w.heap.size + 1, 1, none⟩) as0; go_simp
  (try simp only [Act.put, q2, q3, q4, q5, q6, q7])
  refine anyT_ready (rs := [1]) kr (by simp) ?_
  refine ReadyT.head (o := _) rfl (by decide) kr inv (fun K hK => ?_) ReadyT.nil
  go_simp
  refine (counted_any A a c s w _ LA.out hca HA.out belo).mono ?_
  rintro e w1 ⟨l1, s1, A1, c1, E1, rfl, C1, O1, hb⟩
  go_wp2_with fail
  refine hK.out _ _ ?_ (fun hS inv => ?_)
  · exact (hS : Below W1.heap.size W1 _).trans (hb.mono (Below.size hS))
  clear hK K
  (try simp only [Act.put, q2, q3, q4, q5, q6, q7])
  replace O1 := hide (O1.out.lower (show w.heap.size + 3 ≤ _ by first | omega | (simp; omega) | (simp; done)))
  have hB1 : Below w.heap.size w w1 := Below.trans belo (hb.mono as4)
  obtain ⟨kc1, kf1⟩ := bcell hb
  have hz1 := hb.size
  (try simp at hz1)
  have n1_0 : w.heap.size < w1.heap.size := by omega
  have n1_1 : w.heap.size + 1 < w1.heap.size := by omega
  have n1_2 : w.heap.size + 2 < w1.heap.size := by omega
  have r1_0 : w1.cell? ⟨w.heap.size + 2, 0, none⟩ = some (.slice none 0 0) := (kc1 _ _ as0).trans as2
  have g1_0 : w1.frozen? ⟨w.heap.size + 2, 0, none⟩ = false := (kf1 _ _ as0).trans as2
  have r1_1 : w1.cell? ⟨w.heap.size + 2, 1, none⟩ = some (.bool false) := (kc1 _ _ as0).trans as2
  have g1_1 : w1.frozen? ⟨w.heap.size + 2, 1, none⟩ = false := (kf1 _ _ as0).trans as2
  clear hb
  have m1_0 : w1.cell? ⟨w.heap.size, 0, none⟩ = some (Value.slice A a.length c) := (kc1 _ _ as0).trans as1
  have v1_0 : w1.frozen? ⟨w.heap.size, 0, none⟩ = false := (kf1 _ _ as0).trans as1
  have m1_1 : w1.cell? ⟨w.heap.size, 1, none⟩ = some (Value.bool s) := (kc1 _ _ as0).trans as1
  have v1_1 : w1.frozen? ⟨w.heap.size, 1, none⟩ = false := (kf1 _ _ as0).trans as1
  have m1_2 : w1.cell? ⟨w.heap.size + 1, 0, none⟩ = some (Value.slice B b.length d) := (kc1 _ _ as0).trans as1
  have v1_2 : w1.frozen? ⟨w.heap.size + 1, 0, none⟩ = false := (kf1 _ _ as0).trans as1
  have m1_3 : w1.cell? ⟨w.heap.size + 1, 1, none⟩ = some (Value.bool t) := (kc1 _ _ as0).trans as1
  have v1_3 : w1.frozen? ⟨w.heap.size + 1, 1, none⟩ = false := (kf1 _ _ as0).trans as1
  have m1_4 : w1.cell? ⟨w.heap.size + 2, 0, none⟩ = some (Value.slice none 0 0) := (kc1 _ _ as0).trans as1
  have v1_4 : w1.frozen? ⟨w.heap.size + 2, 0, none⟩ = false := (kf1 _ _ as0).trans as1
  have m1_5 : w1.cell? ⟨w.heap.size + 2, 1, none⟩ = some (Value.bool false) := (kc1 _ _ as0).trans as1
  have v1_5 : w1.frozen? ⟨w.heap.size + 2, 1, none⟩ = false := (kf1 _ _ as0).trans as1
  clear kc1 kf1
  refine anyT_ready (rs := [3]) kr (by simp) ?_
  refine ReadyT.head (o := _) rfl (by decide) kr inv (fun K hK => ?_) ReadyT.nil
  go_simp
  refine (counted_any B b d t w _ LB.out hcb HBB.out belo).mono ?_
  rintro e w2 ⟨l2, s2, A2, c2, E2, rfl, C2, O2, hb⟩
  go_wp2_with fail
  refine hK.out _ _ ?_ (fun hS inv => ?_)
  · exact (hS : Below W1.heap.size W1 _).trans (hb.mono (Below.size hS))
  clear hK K
  (try simp only [Act.put, q2, q3, q4, q5, q6, q7])
  replace O1 := hide ((show RG w.heap.size (w.heap.size + 3) _ A1 l1 from rgT O1).kept hb)
  replace O2 := hide (O2.out.lower (show w.heap.size + 3 ≤ _ by first | omega | (simp; omega) | (simp; done)))
  have hB2 : Below w.heap.size w w2 := Below.trans belo (hb.mono as4)
  obtain ⟨kc2, kf2⟩ := bcell hb
  have hz2 := hb.size
  (try simp at hz2)
  have n2_0 : w.heap.size < w2.heap.size := by omega
  have n2_1 : w.heap.size + 1 < w2.heap.size := by omega
  have n2_2 : w.heap.size + 2 < w2.heap.size := by omega
  have r2_0 : w2.cell? ⟨w.heap.size + 2, 0, none⟩ = some (.slice none 0 0) := (kc2 _ _ as0).trans as2
  have g2_0 : w2.frozen? ⟨w.heap.size + 2, 0, none⟩ = false := (kf2 _ _ as0).trans as2
  have r2_1 : w2.cell? ⟨w.heap.size + 2, 1, none⟩ = some (.bool false) := (kc2 _ _ as0).trans as2
  have g2_1 : w2.frozen? ⟨w.heap.size + 2, 1, none⟩ = false := (kf2 _ _ as0).trans as2
  clear hb
  have m2_0 : w2.cell? ⟨w.heap.size, 0, none⟩ = some (Value.slice A a.length c) := (kc2 _ _ as0).trans as1
  have v2_0 : w2.frozen? ⟨w.heap.size, 0, none⟩ = false := (kf2 _ _ as0).trans as1
  have m2_1 : w2.cell? ⟨w.heap.size, 1, none⟩ = some (Value.bool s) := (kc2 _ _ as0).trans as1
  have v2_1 : w2.frozen? ⟨w.heap.size, 1, none⟩ = false := (kf2 _ _ as0).trans as1
  have m2_2 : w2.cell? ⟨w.heap.size + 1, 0, none⟩ = some (Value.slice B b.length d) := (kc2 _ _ as0).trans as1
  have v2_2 : w2.frozen? ⟨w.heap.size + 1, 0, none⟩ = false := (kf2 _ _ as0).trans as1
  have m2_3 : w2.cell? ⟨w.heap.size + 1, 1, none⟩ = some (Value.bool t) := (kc2 _ _ as0).trans as1
  have v2_3 : w2.frozen? ⟨w.heap.size + 1, 1, none⟩ = false := (kf2 _ _ as0).trans as1
  have m2_4 : w2.cell? ⟨w.heap.size + 2, 0, none⟩ = some (Value.slice none 0 0) := (kc2 _ _ as0).trans as1
  have v2_4 : w2.frozen? ⟨w.heap.size + 2, 0, none⟩ = false := (kf2 _ _ as0).trans as1
  have m2_5 : w2.cell? ⟨w.heap.size + 2, 1, none⟩ = some (Value.bool false) := (kc2 _ _ as0).trans as1
  have v2_5 : w2.frozen? ⟨w.heap.size + 2, 1, none⟩ = false := (kf2 _ _ as0).trans as1
  clear kc2 kf2
  refine anyT_ready (rs := [4]) kr (by simp) ?_
  refine ReadyT.tail (o := _) rfl (by decide) (fun K hK => ?_)
  go_simp
  refine hK.out _ _ ?_
  clear hK K
  (try simp only [Act.put, q2, q3, q4, q5, q6, q7])
  refine anyT_ready (rs := [5]) kr (by simp) ?_
  refine ReadyT.tail (o := _) rfl (by decide) (fun K hK => ?_)
  go_simp
  refine hK.out _ _ ?_
  clear hK K
  (try simp only [Act.put, q2, q3, q4, q5, q6, q7])
  refine anyT_done kr ?_ _
  go_wp2_with fail
  obtain ⟨V, hV⟩ : ∃ x, x = ((((w2.setCell ⟨w.heap.size, 0, none⟩ (.slice A1 l1.length c1)).setCell ⟨w.heap.size, 1, none⟩ (.bool s1)).setCell ⟨w.heap.size + 1, 0, none⟩ (.slice A2 l2.length c2)).setCell ⟨w.heap.size + 1, 1, none⟩ (.bool s2)) := ⟨_, rfl⟩
  rw [← hV]
  have hBV : Below w.heap.size w V := by rw [hV]; exact belo
  have qa0 : V.cell? ⟨w.heap.size, 0, none⟩ = some (.slice A1 l1.length c1) := by rw [hV]; (repeat (first | with_reducible refine cset_eq' ?_ | with_reducible refine cset_ne (by first | (simp; done) | (simp; omega)) ?_ | with_reducible refine cset_ex ?_ | exact ⟨_, by assumption⟩ | assumption))
  have ja0 : V.frozen? ⟨w.heap.size, 0, none⟩ = false := by rw [hV]; (repeat (first | with_reducible refine fset ?_ | assumption))
  have qa1 : V.cell? ⟨w.heap.size, 1, none⟩ = some (.bool s1) := by rw [hV]; (repeat (first | with_reducible refine cset_eq' ?_ | with_reducible refine cset_ne (by first | (simp; done) | (simp; omega)) ?_ | with_reducible refine cset_ex ?_ | exact ⟨_, by assumption⟩ | assumption))
  have ja1 : V.frozen? ⟨w.heap.size, 1, none⟩ = false := by rw [hV]; (repeat (first | with_reducible refine fset ?_ | assumption))
  have qb0 : V.cell? ⟨w.heap.size + 1, 0, none⟩ = some (.slice A2 l2.length c2) := by rw [hV]; (repeat (first | with_reducible refine cset_eq' ?_ | with_reducible refine cset_ne (by first | (simp; done) | (simp; omega)) ?_ | with_reducible refine cset_ex ?_ | exact ⟨_, by assumption⟩ | assumption))
  have jb0 : V.frozen? ⟨w.heap.size + 1, 0, none⟩ = false := by rw [hV]; (repeat (first | with_reducible refine fset ?_ | assumption))
  have qb1 : V.cell? ⟨w.heap.size + 1, 1, none⟩ = some (.bool s2) := by rw [hV]; (repeat (first | with_reducible refine cset_eq' ?_ | with_reducible refine cset_ne (by first | (simp; done) | (simp; omega)) ?_ | with_reducible refine cset_ex ?_ | exact ⟨_, by assumption⟩ | assumption))
  have jb1 : V.frozen? ⟨w.heap.size + 1, 1, none⟩ = false := by rw [hV]; (repeat (first | with_reducible refine fset ?_ | assumption))
  have rV_0 : V.cell? ⟨w.heap.size + 2, 0, none⟩ = some (.slice none 0 0) := by rw [hV]; (repeat (first | with_reducible refine cset_eq' ?_ | with_reducible refine cset_ne (by first | (simp; done) | (simp; omega)) ?_ | with_reducible refine cset_ex ?_ | exact ⟨_, by assumption⟩ | assumption))
  have gV_0 : V.frozen? ⟨w.heap.size + 2, 0, none⟩ = false := by rw [hV]; (repeat (first | with_reducible refine fset ?_ | assumption))
  have rV_1 : V.cell? ⟨w.heap.size + 2, 1, none⟩ = some (.bool false) := by rw [hV]; (repeat (first | with_reducible refine cset_eq' ?_ | with_reducible refine cset_ne (by first | (simp; done) | (simp; omega)) ?_ | with_reducible refine cset_ex ?_ | exact ⟨_, by assumption⟩ | assumption))
  have gV_1 : V.frozen? ⟨w.heap.size + 2, 1, none⟩ = false := by rw [hV]; (repeat (first | with_reducible refine fset ?_ | assumption))
  have nV_0 : w.heap.size < V.heap.size := by rw [hV]; simp; omega
  have nV_1 : w.heap.size + 1 < V.heap.size := by rw [hV]; simp; omega
  have nV_2 : w.heap.size + 2 < V.heap.size := by rw [hV]; simp; omega
  replace O1 := hide (show RG w.heap.size (w.heap.size + 3) V A1 l1 by rw [hV]; (repeat (first | with_reducible exact O1.out | with_reducible refine RG.setc ?_ as3 as3 _ | with_reducible refine RG.allc ?_ _ | with_reducible refine RG.drew ?_ | with_reducible refine RG.drewN ?_ _)))
  replace O2 := hide (show RG w.heap.size (w.heap.size + 3) V A2 l2 by rw [hV]; (repeat (first | with_reducible exact O2.out | with_reducible refine RG.setc ?_ as3 as3 _ | with_reducible refine RG.allc ?_ _ | with_reducible refine RG.drew ?_ | with_reducible refine RG.drewN ?_ _)))
  have G1 : Gd l1 := by have h := cnt_gd (v := ⟨a, s⟩) YA.out; rw [← E1.out] at h; exact h
  have G2 : Gd l2 := by have h := cnt_gd (v := ⟨b, t⟩) YB.out; rw [← E2.out] at h; exact h
  have HG1 := hide G1
  have HG2 := hide G2
  have p1 := G1.pos
  have p2 := G2.pos
  have u1 := G1.le
  have u2 := G2.le
  clear hV G1 G2
  simp only [← E1.out, ← E2.out] at HR
  have k1 := hide fun W (hW : Below V.heap.size V W) => known_any A1 l1 c1 W (by omega) (O1.out.rd.below hW)
  have k2 := hide fun W (hW : Below V.heap.size V W) => known_any A2 l2 c2 W (by omega) (O2.out.rd.below hW)
  cases hk1 : kn l1
  · rw [hk1] at k1 HR
    clear hk1
    go_wp2_with fail
    refine (k1.out _ belo).mono ?_
    rintro e w' ⟨rfl, rfl⟩
    go_wp2_with fail
    refine (unknown_any l1.length s1 _ p1 (by omega)).mono ?_
    rintro e w3 ⟨l3, s3, A3, c3, E3, rfl, C3, O3, hb⟩
    replace O1 := hide ((show RG w.heap.size (w.heap.size + 3) _ A1 l1 from rgT O1).kept hb)
    replace O2 := hide ((show RG w.heap.size (w.heap.size + 3) _ A2 l2 from rgT O2).kept hb)
    replace O3 := hide (O3.out.base (show w.heap.size + 3 ≤ _ by first | omega | (simp; omega) | (simp; done)))
    have hB3 : Below w.heap.size w w3 := Below.trans belo (hb.mono as4)
    obtain ⟨kc3, kf3⟩ := bcell hb
    have hz3 := hb.size
    (try simp at hz3)
    have n3_0 : w.heap.size < w3.heap.size := by omega
    have n3_1 : w.heap.size + 1 < w3.heap.size := by omega
    have n3_2 : w.heap.size + 2 < w3.heap.size := by omega
    have m3_0 : w3.cell? ⟨w.heap.size, 0, none⟩ = some (.slice A1 l1.length c1) := (kc3 _ _ as0).trans as1
    have v3_0 : w3.frozen? ⟨w.heap.size, 0, none⟩ = false := (kf3 _ _ as0).trans as1
    have m3_1 : w3.cell? ⟨w.heap.size, 1, none⟩ = some (.bool s1) := (kc3 _ _ as0).trans as1
    have v3_1 : w3.frozen? ⟨w.heap.size, 1, none⟩ = false := (kf3 _ _ as0).trans as1
    have m3_2 : w3.cell? ⟨w.heap.size + 1, 0, none⟩ = some (.slice A2 l2.length c2) := (kc3 _ _ as0).trans as1
    have v3_2 : w3.frozen? ⟨w.heap.size + 1, 0, none⟩ = false := (kf3 _ _ as0).trans as1
    have m3_3 : w3.cell? ⟨w.heap.size + 1, 1, none⟩ = some (.bool s2) := (kc3 _ _ as0).trans as1
    have v3_3 : w3.frozen? ⟨w.heap.size + 1, 1, none⟩ = false := (kf3 _ _ as0).trans as1
    have m3_4 : w3.cell? ⟨w.heap.size + 2, 0, none⟩ = some (.slice none 0 0) := (kc3 _ _ as0).trans as1
    have v3_4 : w3.frozen? ⟨w.heap.size + 2, 0, none⟩ = false := (kf3 _ _ as0).trans as1
    have m3_5 : w3.cell? ⟨w.heap.size + 2, 1, none⟩ = some (.bool false) := (kc3 _ _ as0).trans as1
    have v3_5 : w3.frozen? ⟨w.heap.size + 2, 1, none⟩ = false := (kf3 _ _ as0).trans as1
    clear kc3 kf3
    clear hb
    go_wp2
    refine bodyPost_ret (v := .agg #[.slice A3 l3.length c3, .bool s3]) (by simp [results, Tryz.results63, go_sem, *]) rfl ?_
    exact ⟨l3, s3, A3, c3, hide (E3.out.trans (by rw [HR.out]; simp)), rfl, C3, hide (OwQ.base (B := w.heap.size + 3) (owT O3) (by omega)), belo⟩
  · cases hk2 : kn l2
    · rw [hk1] at k1 HR
      rw [hk2] at k2 HR
      clear hk1 hk2
      go_wp2_with fail
      refine (k1.out _ belo).mono ?_
      rintro e w' ⟨rfl, rfl⟩
      go_wp2_with fail
      refine (k2.out _ belo).mono ?_
      rintro e w' ⟨rfl, rfl⟩
      go_wp2_with fail
      refine (unknown_any l1.length s1 _ p1 (by omega)).mono ?_
      rintro e w3 ⟨l3, s3, A3, c3, E3, rfl, C3, O3, hb⟩
      replace O1 := hide ((show RG w.heap.size (w.heap.size + 3) _ A1 l1 from rgT O1).kept hb)
      replace O2 := hide ((show RG w.heap.size (w.heap.size + 3) _ A2 l2 from rgT O2).kept hb)
      replace O3 := hide (O3.out.base (show w.heap.size + 3 ≤ _ by first | omega | (simp; omega) | (simp; done)))
      have hB3 : Below w.heap.size w w3 := Below.trans belo (hb.mono as4)
      obtain ⟨kc3, kf3⟩ := bcell hb
      have hz3 := hb.size
      (try simp at hz3)
      have n3_0 : w.heap.size < w3.heap.size := by omega
      have n3_1 : w.heap.size + 1 < w3.heap.size := by omega
      have n3_2 : w.heap.size + 2 < w3.heap.size := by omega
      have m3_0 : w3.cell? ⟨w.heap.size, 0, none⟩ = some (.slice A1 l1.length c1) := (kc3 _ _ as0).trans as1
      have v3_0 : w3.frozen? ⟨w.heap.size, 0, none⟩ = false := (kf3 _ _ as0).trans as1
      have m3_1 : w3.cell? ⟨w.heap.size, 1, none⟩ = some (.bool s1) := (kc3 _ _ as0).trans as1
      have v3_1 : w3.frozen? ⟨w.heap.size, 1, none⟩ = false := (kf3 _ _ as0).trans as1
      have m3_2 : w3.cell? ⟨w.heap.size + 1, 0, none⟩ = some (.slice A2 l2.length c2) := (kc3 _ _ as0).trans as1
      have v3_2 : w3.frozen? ⟨w.heap.size + 1, 0, none⟩ = false := (kf3 _ _ as0).trans as1
      have m3_3 : w3.cell? ⟨w.heap.size + 1, 1, none⟩ = some (.bool s2) := (kc3 _ _ as0).trans as1
      have v3_3 : w3.frozen? ⟨w.heap.size + 1, 1, none⟩ = false := (kf3 _ _ as0).trans as1
      have m3_4 : w3.cell? ⟨w.heap.size + 2, 0, none⟩ = some (.slice none 0 0) := (kc3 _ _ as0).trans as1
      have v3_4 : w3.frozen? ⟨w.heap.size + 2, 0, none⟩ = false := (kf3 _ _ as0).trans as1
      have m3_5 : w3.cell? ⟨w.heap.size + 2, 1, none⟩ = some (.bool false) := (kc3 _ _ as0).trans as1
      have v3_5 : w3.frozen? ⟨w.heap.size + 2, 1, none⟩ = false := (kf3 _ _ as0).trans as1
      clear kc3 kf3
      clear hb
      go_wp2
      refine bodyPost_ret (v := .agg #[.slice A3 l3.length c3, .bool s3]) (by simp [results, Tryz.results63, go_sem, *]) rfl ?_
      exact ⟨l3, s3, A3, c3, hide (E3.out.trans (by rw [HR.out]; simp)), rfl, C3, hide (OwQ.base (B := w.heap.size + 3) (owT O3) (by omega)), belo⟩
    · have HK := hide hk1
      rw [hk1] at k1 HR
      rw [hk2] at k2 HR
      clear hk1 hk2
      go_wp2_with fail
      refine (k1.out _ belo).mono ?_
      rintro e w' ⟨rfl, rfl⟩
      go_wp2_with fail
      refine (k2.out _ belo).mono ?_
      rintro e w' ⟨rfl, rfl⟩
      have hxt := hide fun W (hr : RQ W A2 l2) => extension_any A2 l2 c2 s2 W W p2 (by omega) hr
      obtain ⟨X, hX⟩ : ∃ X, X = xt ⟨l2, s2⟩ := ⟨_, rfl⟩
      rw [← hX] at hxt HR
      by_cases hx : X = 1
      · subst hx
        have hs : s2 = true := by
          cases s2
          · exact absurd hX (by simp [xt])
          · rfl
        have HS := hide hs
        have HTR := hide (tr_zero s1 HG1.out HK.out)
        clear hX hs
        obtain ⟨L, hL⟩ : ∃ L, L = vl l1 s1 := ⟨_, rfl⟩
        obtain ⟨T, hT⟩ : ∃ T, T = tr ⟨l1, s1⟩ := ⟨_, rfl⟩
        have hI := hide fun W (hr : RQ W A1 l1) => (vInt_any A1 l1 c1 s1 W (by omega) C1 hr HG1.out.by_).mono fun e w' (h : IntV ⟨l1, s1⟩ e ∧ Below W.heap.size W w') => And.intro (IntV.known HG1.out HK.out h.1) h.2
        have hTr := hide fun W (hr : RQ W A1 l1) (hW2 : Below w.heap.size w W) => truth_any A1 l1 c1 s1 W (by omega) C1 hr HG1.out.by_ (HT.out.kept hW2)
        rw [← hL] at hI HR HTR
        rw [← hT] at hTr HTR
        rw [HS.out] at HR
        clear hL hT
        go_wp2_with fail
        refine (hxt.out _ (by refine RG.rd (B0 := w.heap.size) (B1 := w.heap.size + 3) ?_; (repeat (first | with_reducible exact O2.out | with_reducible refine RG.setc ?_ as3 as3 _ | with_reducible refine RG.allc ?_ _ | with_reducible refine RG.drew ?_ | with_reducible refine RG.drewN ?_ _)))).mono ?_
        rintro e w3 ⟨rfl, hb⟩
        replace O1 := hide ((show RG w.heap.size (w.heap.size + 3) _ A1 l1 from rgT O1).kept hb)
        replace O2 := hide ((show RG w.heap.size (w.heap.size + 3) _ A2 l2 from rgT O2).kept hb)
        have hB3 : Below w.heap.size w w3 := Below.trans belo (hb.mono as4)
        obtain ⟨kc3, kf3⟩ := bcell hb
        have hz3 := hb.size
        (try simp at hz3)
        have n3_0 : w.heap.size < w3.heap.size := by omega
        have n3_1 : w.heap.size + 1 < w3.heap.size := by omega
        have n3_2 : w.heap.size + 2 < w3.heap.size := by omega
        have m3_0 : w3.cell? ⟨w.heap.size, 0, none⟩ = some (.slice A1 l1.length c1) := (kc3 _ _ as0).trans as1
        have v3_0 : w3.frozen? ⟨w.heap.size, 0, none⟩ = false := (kf3 _ _ as0).trans as1
        have m3_1 : w3.cell? ⟨w.heap.size, 1, none⟩ = some (.bool s1) := (kc3 _ _ as0).trans as1
        have v3_1 : w3.frozen? ⟨w.heap.size, 1, none⟩ = false := (kf3 _ _ as0).trans as1
        have m3_2 : w3.cell? ⟨w.heap.size + 1, 0, none⟩ = some (.slice A2 l2.length c2) := (kc3 _ _ as0).trans as1
        have v3_2 : w3.frozen? ⟨w.heap.size + 1, 0, none⟩ = false := (kf3 _ _ as0).trans as1
        have m3_3 : w3.cell? ⟨w.heap.size + 1, 1, none⟩ = some (.bool s2) := (kc3 _ _ as0).trans as1
        have v3_3 : w3.frozen? ⟨w.heap.size + 1, 1, none⟩ = false := (kf3 _ _ as0).trans as1
        have m3_4 : w3.cell? ⟨w.heap.size + 2, 0, none⟩ = some (.slice none 0 0) := (kc3 _ _ as0).trans as1
        have v3_4 : w3.frozen? ⟨w.heap.size + 2, 0, none⟩ = false := (kf3 _ _ as0).trans as1
        have m3_5 : w3.cell? ⟨w.heap.size + 2, 1, none⟩ = some (.bool false) := (kc3 _ _ as0).trans as1
        have v3_5 : w3.frozen? ⟨w.heap.size + 2, 1, none⟩ = false := (kf3 _ _ as0).trans as1
        clear kc3 kf3
        clear hb
        go_wp2_with fail
        refine (hI.out _ (by refine RG.rd (B0 := w.heap.size) (B1 := w.heap.size + 3) ?_; (repeat (first | with_reducible exact O1.out | with_reducible refine RG.setc ?_ as3 as3 _ | with_reducible refine RG.allc ?_ _ | with_reducible refine RG.drew ?_ | with_reducible refine RG.drewN ?_ _)))).mono ?_
        rintro e w4 ⟨hK, hb⟩
        replace O1 := hide ((show RG w.heap.size (w.heap.size + 3) _ A1 l1 from rgT O1).kept hb)
        replace O2 := hide ((show RG w.heap.size (w.heap.size + 3) _ A2 l2 from rgT O2).kept hb)
        have hB4 : Below w.heap.size w w4 := Below.trans belo (hb.mono as4)
        obtain ⟨kc4, kf4⟩ := bcell hb
        have hz4 := hb.size
        (try simp at hz4)
        have n4_0 : w.heap.size < w4.heap.size := by omega
        have n4_1 : w.heap.size + 1 < w4.heap.size := by omega
        have n4_2 : w.heap.size + 2 < w4.heap.size := by omega
        have m4_0 : w4.cell? ⟨w.heap.size, 0, none⟩ = some (.slice A1 l1.length c1) := (kc4 _ _ as0).trans as1
        have v4_0 : w4.frozen? ⟨w.heap.size, 0, none⟩ = false := (kf4 _ _ as0).trans as1
        have m4_1 : w4.cell? ⟨w.heap.size, 1, none⟩ = some (.bool s1) := (kc4 _ _ as0).trans as1
        have v4_1 : w4.frozen? ⟨w.heap.size, 1, none⟩ = false := (kf4 _ _ as0).trans as1
        have m4_2 : w4.cell? ⟨w.heap.size + 1, 0, none⟩ = some (.slice A2 l2.length c2) := (kc4 _ _ as0).trans as1
        have v4_2 : w4.frozen? ⟨w.heap.size + 1, 0, none⟩ = false := (kf4 _ _ as0).trans as1
        have m4_3 : w4.cell? ⟨w.heap.size + 1, 1, none⟩ = some (.bool s2) := (kc4 _ _ as0).trans as1
        have v4_3 : w4.frozen? ⟨w.heap.size + 1, 1, none⟩ = false := (kf4 _ _ as0).trans as1
        have m4_4 : w4.cell? ⟨w.heap.size + 2, 0, none⟩ = some (.slice none 0 0) := (kc4 _ _ as0).trans as1
        have v4_4 : w4.frozen? ⟨w.heap.size + 2, 0, none⟩ = false := (kf4 _ _ as0).trans as1
        have m4_5 : w4.cell? ⟨w.heap.size + 2, 1, none⟩ = some (.bool false) := (kc4 _ _ as0).trans as1
        have v4_5 : w4.frozen? ⟨w.heap.size + 2, 1, none⟩ = false := (kf4 _ _ as0).trans as1
        clear kc4 kf4
        clear hb
        rcases hK with ⟨rfl, hlo, hhi⟩ | ⟨rfl, h0, h1, hm⟩
        · by_cases h0 : L = 0
          · have t0 : T = 0 := HTR.out.2 h0
            subst t0
            have HL := hide h0
            clear h0 hlo hhi
            go_wp2_with fail
            refine (hTr.out _ (by refine RG.rd (B0 := w.heap.size) (B1 := w.heap.size + 3) ?_; (repeat (first | with_reducible exact O1.out | with_reducible refine RG.setc ?_ as3 as3 _ | with_reducible refine RG.allc ?_ _ | with_reducible refine RG.drew ?_ | with_reducible refine RG.drewN ?_ _))) belo).mono ?_
            rintro e w5 ⟨rfl, hb⟩
            replace O1 := hide ((show RG w.heap.size (w.heap.size + 3) _ A1 l1 from rgT O1).kept hb)
            replace O2 := hide ((show RG w.heap.size (w.heap.size + 3) _ A2 l2 from rgT O2).kept hb)
            have hB5 : Below w.heap.size w w5 := Below.trans belo (hb.mono as4)
            obtain ⟨kc5, kf5⟩ := bcell hb
            have hz5 := hb.size
            (try simp at hz5)
            have n5_0 : w.heap.size < w5.heap.size := by omega
            have n5_1 : w.heap.size + 1 < w5.heap.size := by omega
            have n5_2 : w.heap.size + 2 < w5.heap.size := by omega
            have m5_0 : w5.cell? ⟨w.heap.size, 0, none⟩ = some (.slice A1 l1.length c1) := (kc5 _ _ as0).trans as1
            have v5_0 : w5.frozen? ⟨w.heap.size, 0, none⟩ = false := (kf5 _ _ as0).trans as1
            have m5_1 : w5.cell? ⟨w.heap.size, 1, none⟩ = some (.bool s1) := (kc5 _ _ as0).trans as1
            have v5_1 : w5.frozen? ⟨w.heap.size, 1, none⟩ = false := (kf5 _ _ as0).trans as1
            have m5_2 : w5.cell? ⟨w.heap.size + 1, 0, none⟩ = some (.slice A2 l2.length c2) := (kc5 _ _ as0).trans as1
            have v5_2 : w5.frozen? ⟨w.heap.size + 1, 0, none⟩ = false := (kf5 _ _ as0).trans as1
            have m5_3 : w5.cell? ⟨w.heap.size + 1, 1, none⟩ = some (.bool s2) := (kc5 _ _ as0).trans as1
            have v5_3 : w5.frozen? ⟨w.heap.size + 1, 1, none⟩ = false := (kf5 _ _ as0).trans as1
            have m5_4 : w5.cell? ⟨w.heap.size + 2, 0, none⟩ = some (.slice none 0 0) := (kc5 _ _ as0).trans as1
            have v5_4 : w5.frozen? ⟨w.heap.size + 2, 0, none⟩ = false := (kf5 _ _ as0).trans as1
            have m5_5 : w5.cell? ⟨w.heap.size + 2, 1, none⟩ = some (.bool false) := (kc5 _ _ as0).trans as1
            have v5_5 : w5.frozen? ⟨w.heap.size + 2, 1, none⟩ = false := (kf5 _ _ as0).trans as1
            clear kc5 kf5
            clear hb
            go_wp2_with fail
            refine (unknown_any l1.length s1 _ p1 (by omega)).mono ?_
            rintro e w6 ⟨l3, s3, A3, c3, E3, rfl, C3, O3, hb⟩
            replace O1 := hide ((show RG w.heap.size (w.heap.size + 3) _ A1 l1 from rgT O1).kept hb)
            replace O2 := hide ((show RG w.heap.size (w.heap.size + 3) _ A2 l2 from rgT O2).kept hb)
            replace O3 := hide (O3.out.base (show w.heap.size + 3 ≤ _ by first | omega | (simp; omega) | (simp; done)))
            have hB6 : Below w.heap.size w w6 := Below.trans belo (hb.mono as4)
            obtain ⟨kc6, kf6⟩ := bcell hb
            have hz6 := hb.size
            (try simp at hz6)
            have n6_0 : w.heap.size < w6.heap.size := by omega
            have n6_1 : w.heap.size + 1 < w6.heap.size := by omega
            have n6_2 : w.heap.size + 2 < w6.heap.size := by omega
            have m6_0 : w6.cell? ⟨w.heap.size, 0, none⟩ = some (.slice A1 l1.length c1) := (kc6 _ _ as0).trans as1
            have v6_0 : w6.frozen? ⟨w.heap.size, 0, none⟩ = false := (kf6 _ _ as0).trans as1
            have m6_1 : w6.cell? ⟨w.heap.size, 1, none⟩ = some (.bool s1) := (kc6 _ _ as0).trans as1
            have v6_1 : w6.frozen? ⟨w.heap.size, 1, none⟩ = false := (kf6 _ _ as0).trans as1
            have m6_2 : w6.cell? ⟨w.heap.size + 1, 0, none⟩ = some (.slice A2 l2.length c2) := (kc6 _ _ as0).trans as1
            have v6_2 : w6.frozen? ⟨w.heap.size + 1, 0, none⟩ = false := (kf6 _ _ as0).trans as1
            have m6_3 : w6.cell? ⟨w.heap.size + 1, 1, none⟩ = some (.bool s2) := (kc6 _ _ as0).trans as1
            have v6_3 : w6.frozen? ⟨w.heap.size + 1, 1, none⟩ = false := (kf6 _ _ as0).trans as1
            have m6_4 : w6.cell? ⟨w.heap.size + 2, 0, none⟩ = some (.slice none 0 0) := (kc6 _ _ as0).trans as1
            have v6_4 : w6.frozen? ⟨w.heap.size + 2, 0, none⟩ = false := (kf6 _ _ as0).trans as1
            have m6_5 : w6.cell? ⟨w.heap.size + 2, 1, none⟩ = some (.bool false) := (kc6 _ _ as0).trans as1
            have v6_5 : w6.frozen? ⟨w.heap.size + 2, 1, none⟩ = false := (kf6 _ _ as0).trans as1
            clear kc6 kf6
            clear hb
            go_wp2
            refine bodyPost_ret (v := .agg #[.slice A3 l3.length c3, .bool s3]) (by simp [results, Tryz.results63, go_sem, *]) rfl ?_
            exact ⟨l3, s3, A3, c3, hide (E3.out.trans (by rw [HR.out, HL.out]; simp)), rfl, C3, hide (OwQ.base (B := w.heap.size + 3) (owT O3) (by omega)), belo⟩
          · have t0 : (T == 0) = false := by simpa using fun h => h0 (HTR.out.1 h)
            have H0 := hide h0
            clear h0
            by_cases h1 : L = 1
            · subst h1
              clear hlo hhi
              go_wp2_with fail
              refine (hTr.out _ (by refine RG.rd (B0 := w.heap.size) (B1 := w.heap.size + 3) ?_; (repeat (first | with_reducible exact O1.out | with_reducible refine RG.setc ?_ as3 as3 _ | with_reducible refine RG.allc ?_ _ | with_reducible refine RG.drew ?_ | with_reducible refine RG.drewN ?_ _))) belo).mono ?_
              rintro e w5 ⟨rfl, hb⟩
              replace O1 := hide ((show RG w.heap.size (w.heap.size + 3) _ A1 l1 from rgT O1).kept hb)
              replace O2 := hide ((show RG w.heap.size (w.heap.size + 3) _ A2 l2 from rgT O2).kept hb)
              have hB5 : Below w.heap.size w w5 := Below.trans belo (hb.mono as4)
              obtain ⟨kc5, kf5⟩ := bcell hb
              have hz5 := hb.size
              (try simp at hz5)
              have n5_0 : w.heap.size < w5.heap.size := by omega
              have n5_1 : w.heap.size + 1 < w5.heap.size := by omega
              have n5_2 : w.heap.size + 2 < w5.heap.size := by omega
              have m5_0 : w5.cell? ⟨w.heap.size, 0, none⟩ = some (.slice A1 l1.length c1) := (kc5 _ _ as0).trans as1
              have v5_0 : w5.frozen? ⟨w.heap.size, 0, none⟩ = false := (kf5 _ _ as0).trans as1
              have m5_1 : w5.cell? ⟨w.heap.size, 1, none⟩ = some (.bool s1) := (kc5 _ _ as0).trans as1
              have v5_1 : w5.frozen? ⟨w.heap.size, 1, none⟩ = false := (kf5 _ _ as0).trans as1
              have m5_2 : w5.cell? ⟨w.heap.size + 1, 0, none⟩ = some (.slice A2 l2.length c2) := (kc5 _ _ as0).trans as1
              have v5_2 : w5.frozen? ⟨w.heap.size + 1, 0, none⟩ = false := (kf5 _ _ as0).trans as1
              have m5_3 : w5.cell? ⟨w.heap.size + 1, 1, none⟩ = some (.bool s2) := (kc5 _ _ as0).trans as1
              have v5_3 : w5.frozen? ⟨w.heap.size + 1, 1, none⟩ = false := (kf5 _ _ as0).trans as1
              have m5_4 : w5.cell? ⟨w.heap.size + 2, 0, none⟩ = some (.slice none 0 0) := (kc5 _ _ as0).trans as1
              have v5_4 : w5.frozen? ⟨w.heap.size + 2, 0, none⟩ = false := (kf5 _ _ as0).trans as1
              have m5_5 : w5.cell? ⟨w.heap.size + 2, 1, none⟩ = some (.bool false) := (kc5 _ _ as0).trans as1
              have v5_5 : w5.frozen? ⟨w.heap.size + 2, 1, none⟩ = false := (kf5 _ _ as0).trans as1
              clear kc5 kf5
              clear hb
              go_wp2_with fail
              refine region_anyT (S := fun wS => Below w5.heap.size w5 wS) (n := 10) kr (Below.refl _ _).drew (fun hS inv => ?_)
              refine anyT_take (i := 0) (oi := _) (v := Value.pointer (some ⟨w.heap.size, 0, none⟩)) rfl kr kr kr (by decide) (by decide) kr kr inv (fun _ _ _ h => h) (Or.inl ⟨kr, ?_⟩) hS (fun inv => ?_)
              · intro wz hSw
                first | kernel_rfl | go_simp
              (try simp only [Act.put, q2, q3, q4, q5, q6, q7])
              refine anyT_take (i := 1) (oi := _) (v := Value.slice A1 l1.length c1) rfl kr kr kr (by decide) (by decide) kr kr inv (fun _ _ _ h => h) (Or.inl ⟨kr, ?_⟩) hS (fun inv => ?_)
              · intro wz hSw
                have hk0 := (hSw : Below _ _ _).cell (p := ⟨w.heap.size, 0, none⟩) as0; go_simp
              (try simp only [Act.put, q2, q3, q4, q5, q6, q7])
              refine anyT_take (i := 3) (oi := _) (v := Value.pointer (some ⟨w.heap.size + 1, 0, none⟩)) rfl kr kr kr (by decide) (by decide) kr kr inv (fun _ _ _ h => h) (Or.inl ⟨kr, ?_⟩) hS (fun inv => ?_)
              · intro wz hSw
                first | kernel_rfl | go_simp
              (try simp only [Act.put, q2, q3, q4, q5, q6, q7])
              refine anyT_take (i := 4) (oi := _) (v := Value.slice A2 l2.length c2) rfl kr kr kr (by decide) (by decide) kr kr inv (fun _ _ _ h => h) (Or.inl ⟨kr, ?_⟩) hS (fun inv => ?_)
              · intro wz hSw
                have hk0 := (hSw : Below _ _ _).cell (p := ⟨w.heap.size + 1, 0, none⟩) as0; go_simp
              (try simp only [Act.put, q2, q3, q4, q5, q6, q7])
              refine anyT_take (i := 7) (oi := _) (v := Value.pointer (some ⟨w.heap.size, 1, none⟩)) rfl kr kr kr (by decide) (by decide) kr kr inv (fun _ _ _ h => h) (Or.inl ⟨kr, ?_⟩) hS (fun inv => ?_)
              · intro wz hSw
                first | kernel_rfl | go_simp
              (try simp only [Act.put, q2, q3, q4, q5, q6, q7])
              refine anyT_take (i := 8) (oi := _) (v := Value.bool s1) rfl kr kr kr (by decide) (by decide) kr kr inv (fun _ _ _ h => h) (Or.inl ⟨kr, ?_⟩) hS (fun inv => ?_)
              · intro wz hSw
                have hk0 := (hSw : Below _ _ _).cell (p := ⟨w.heap.size, 1, none⟩) as0; go_simp
              (try simp only [Act.put, q2, q3, q4, q5, q6, q7])
              refine anyT_ready (rs := [2]) kr (by simp) ?_
              refine ReadyT.head (o := _) rfl (by decide) kr inv (fun K hK => ?_) ReadyT.nil
              go_simp
              refine (number_q A1 l1 c1 _ (by omega) (by refine RG.rd (B0 := w.heap.size) (B1 := w.heap.size + 3) ?_; (repeat (first | with_reducible exact O1.out | with_reducible refine RG.setc ?_ as3 as3 _ | with_reducible refine RG.allc ?_ _ | with_reducible refine RG.drew ?_ | with_reducible refine RG.drewN ?_ _)))).mono ?_
              rintro e w6 ⟨lm, Am, cm, Em, rfl, Cm, Om, hb⟩
              go_wp2_with fail
              refine hK.out _ _ ?_ (fun hS inv => ?_)
              · exact (hS : Below w5.heap.size w5 _).trans (hb.mono (Below.size hS))
              clear hK K
              (try simp only [Act.put, q2, q3, q4, q5, q6, q7])
              replace O1 := hide ((show RG w.heap.size (w.heap.size + 3) _ A1 l1 from rgT O1).kept hb)
              replace O2 := hide ((show RG w.heap.size (w.heap.size + 3) _ A2 l2 from rgT O2).kept hb)
              replace Om := hide Om.out.rd
              have hB6 : Below w.heap.size w w6 := Below.trans belo (hb.mono as4)
              obtain ⟨kc6, kf6⟩ := bcell hb
              have hz6 := hb.size
              (try simp at hz6)
              have n6_0 : w.heap.size < w6.heap.size := by omega
              have n6_1 : w.heap.size + 1 < w6.heap.size := by omega
              have n6_2 : w.heap.size + 2 < w6.heap.size := by omega
              have m6_0 : w6.cell? ⟨w.heap.size, 0, none⟩ = some (.slice A1 l1.length c1) := (kc6 _ _ as0).trans as1
              have v6_0 : w6.frozen? ⟨w.heap.size, 0, none⟩ = false := (kf6 _ _ as0).trans as1
              have m6_1 : w6.cell? ⟨w.heap.size, 1, none⟩ = some (.bool s1) := (kc6 _ _ as0).trans as1
              have v6_1 : w6.frozen? ⟨w.heap.size, 1, none⟩ = false := (kf6 _ _ as0).trans as1
              have m6_2 : w6.cell? ⟨w.heap.size + 1, 0, none⟩ = some (.slice A2 l2.length c2) := (kc6 _ _ as0).trans as1
              have v6_2 : w6.frozen? ⟨w.heap.size + 1, 0, none⟩ = false := (kf6 _ _ as0).trans as1
              have m6_3 : w6.cell? ⟨w.heap.size + 1, 1, none⟩ = some (.bool s2) := (kc6 _ _ as0).trans as1
              have v6_3 : w6.frozen? ⟨w.heap.size + 1, 1, none⟩ = false := (kf6 _ _ as0).trans as1
              have m6_4 : w6.cell? ⟨w.heap.size + 2, 0, none⟩ = some (.slice none 0 0) := (kc6 _ _ as0).trans as1
              have v6_4 : w6.frozen? ⟨w.heap.size + 2, 0, none⟩ = false := (kf6 _ _ as0).trans as1
              have m6_5 : w6.cell? ⟨w.heap.size + 2, 1, none⟩ = some (.bool false) := (kc6 _ _ as0).trans as1
              have v6_5 : w6.frozen? ⟨w.heap.size + 2, 1, none⟩ = false := (kf6 _ _ as0).trans as1
              clear kc6 kf6
              clear hb
              have em : lm.length ≤ 4096 := by rw [Em.out, nb_length]; omega
              have em2 := hide (show lm.length = l1.length by rw [Em.out, nb_length])
              refine anyT_ready (rs := [5]) kr (by simp) ?_
              refine ReadyT.head (o := _) rfl (by decide) kr inv (fun K hK => ?_) ReadyT.nil
              go_simp
              refine (number_q A2 l2 c2 _ (by omega) (by refine RG.rd (B0 := w.heap.size) (B1 := w.heap.size + 3) ?_; (repeat (first | with_reducible exact O2.out | with_reducible refine RG.setc ?_ as3 as3 _ | with_reducible refine RG.allc ?_ _ | with_reducible refine RG.drew ?_ | with_reducible refine RG.drewN ?_ _)))).mono ?_
              rintro e w7 ⟨lk, Ak, ck, Ek, rfl, Ck, Ok, hb⟩
              go_wp2_with fail
              refine hK.out _ _ ?_ (fun hS inv => ?_)
              · exact (hS : Below w5.heap.size w5 _).trans (hb.mono (Below.size hS))
              clear hK K
              (try simp only [Act.put, q2, q3, q4, q5, q6, q7])
              replace Om := hide (Rd.below (by exact Om.out) hb)
              replace O1 := hide ((show RG w.heap.size (w.heap.size + 3) _ A1 l1 from rgT O1).kept hb)
              replace O2 := hide ((show RG w.heap.size (w.heap.size + 3) _ A2 l2 from rgT O2).kept hb)
              replace Ok := hide Ok.out.rd
              have hB7 : Below w.heap.size w w7 := Below.trans belo (hb.mono as4)
              obtain ⟨kc7, kf7⟩ := bcell hb
              have hz7 := hb.size
              (try simp at hz7)
              have n7_0 : w.heap.size < w7.heap.size := by omega
              have n7_1 : w.heap.size + 1 < w7.heap.size := by omega
              have n7_2 : w.heap.size + 2 < w7.heap.size := by omega
              have m7_0 : w7.cell? ⟨w.heap.size, 0, none⟩ = some (.slice A1 l1.length c1) := (kc7 _ _ as0).trans as1
              have v7_0 : w7.frozen? ⟨w.heap.size, 0, none⟩ = false := (kf7 _ _ as0).trans as1
              have m7_1 : w7.cell? ⟨w.heap.size, 1, none⟩ = some (.bool s1) := (kc7 _ _ as0).trans as1
              have v7_1 : w7.frozen? ⟨w.heap.size, 1, none⟩ = false := (kf7 _ _ as0).trans as1
              have m7_2 : w7.cell? ⟨w.heap.size + 1, 0, none⟩ = some (.slice A2 l2.length c2) := (kc7 _ _ as0).trans as1
              have v7_2 : w7.frozen? ⟨w.heap.size + 1, 0, none⟩ = false := (kf7 _ _ as0).trans as1
              have m7_3 : w7.cell? ⟨w.heap.size + 1, 1, none⟩ = some (.bool s2) := (kc7 _ _ as0).trans as1
              have v7_3 : w7.frozen? ⟨w.heap.size + 1, 1, none⟩ = false := (kf7 _ _ as0).trans as1
              have m7_4 : w7.cell? ⟨w.heap.size + 2, 0, none⟩ = some (.slice none 0 0) := (kc7 _ _ as0).trans as1
              have v7_4 : w7.frozen? ⟨w.heap.size + 2, 0, none⟩ = false := (kf7 _ _ as0).trans as1
              have m7_5 : w7.cell? ⟨w.heap.size + 2, 1, none⟩ = some (.bool false) := (kc7 _ _ as0).trans as1
              have v7_5 : w7.frozen? ⟨w.heap.size + 2, 1, none⟩ = false := (kf7 _ _ as0).trans as1
              clear kc7 kf7
              clear hb
              have ek : lk.length ≤ 4096 := by rw [Ek.out, nb_length]; omega
              refine anyT_ready (rs := [6]) kr (by simp) ?_
              refine ReadyT.head (o := _) rfl (by decide) kr inv (fun K hK => ?_) ReadyT.nil
              go_simp
              refine (pow_q Am Ak lm lk cm ck _ em ek Om.out Ok.out).mono ?_
              rintro e w8 ⟨lp, Ap, cp, Ep, rfl, Cp, Op, hb⟩
              go_wp2_with fail
              refine hK.out _ _ ?_ (fun hS inv => ?_)
              · exact (hS : Below w5.heap.size w5 _).trans (hb.mono (Below.size hS))
              clear hK K
              (try simp only [Act.put, q2, q3, q4, q5, q6, q7])
              replace Om := hide (Rd.below (by exact Om.out) hb)
              replace Ok := hide (Rd.below (by exact Ok.out) hb)
              replace O1 := hide ((show RG w.heap.size (w.heap.size + 3) _ A1 l1 from rgT O1).kept hb)
              replace O2 := hide ((show RG w.heap.size (w.heap.size + 3) _ A2 l2 from rgT O2).kept hb)
              replace Op := hide Op.out.rd
              have hB8 : Below w.heap.size w w8 := Below.trans belo (hb.mono as4)
              obtain ⟨kc8, kf8⟩ := bcell hb
              have hz8 := hb.size
              (try simp at hz8)
              have n8_0 : w.heap.size < w8.heap.size := by omega
              have n8_1 : w.heap.size + 1 < w8.heap.size := by omega
              have n8_2 : w.heap.size + 2 < w8.heap.size := by omega
              have m8_0 : w8.cell? ⟨w.heap.size, 0, none⟩ = some (.slice A1 l1.length c1) := (kc8 _ _ as0).trans as1
              have v8_0 : w8.frozen? ⟨w.heap.size, 0, none⟩ = false := (kf8 _ _ as0).trans as1
              have m8_1 : w8.cell? ⟨w.heap.size, 1, none⟩ = some (.bool s1) := (kc8 _ _ as0).trans as1
              have v8_1 : w8.frozen? ⟨w.heap.size, 1, none⟩ = false := (kf8 _ _ as0).trans as1
              have m8_2 : w8.cell? ⟨w.heap.size + 1, 0, none⟩ = some (.slice A2 l2.length c2) := (kc8 _ _ as0).trans as1
              have v8_2 : w8.frozen? ⟨w.heap.size + 1, 0, none⟩ = false := (kf8 _ _ as0).trans as1
              have m8_3 : w8.cell? ⟨w.heap.size + 1, 1, none⟩ = some (.bool s2) := (kc8 _ _ as0).trans as1
              have v8_3 : w8.frozen? ⟨w.heap.size + 1, 1, none⟩ = false := (kf8 _ _ as0).trans as1
              have m8_4 : w8.cell? ⟨w.heap.size + 2, 0, none⟩ = some (.slice none 0 0) := (kc8 _ _ as0).trans as1
              have v8_4 : w8.frozen? ⟨w.heap.size + 2, 0, none⟩ = false := (kf8 _ _ as0).trans as1
              have m8_5 : w8.cell? ⟨w.heap.size + 2, 1, none⟩ = some (.bool false) := (kc8 _ _ as0).trans as1
              have v8_5 : w8.frozen? ⟨w.heap.size + 2, 1, none⟩ = false := (kf8 _ _ as0).trans as1
              clear kc8 kf8
              clear hb
              have ep : lp.length ≤ 4096 := by rw [Ep.out, vz_length]; omega
              refine anyT_ready (rs := [9]) kr (by simp) ?_
              refine ReadyT.head (o := _) rfl (by decide) kr inv (fun K hK => ?_) ReadyT.nil
              go_simp
              refine (vector_any Ap lp cp s1 _ ep Op.out).mono ?_
              rintro e w9 ⟨l3, s3, A3, c3, E3, rfl, C3, O3, hb⟩
              go_wp2_with fail
              refine hK.out _ _ ?_ (fun hS inv => ?_)
              · exact (hS : Below w5.heap.size w5 _).trans (hb.mono (Below.size hS))
              clear hK K
              (try simp only [Act.put, q2, q3, q4, q5, q6, q7])
              replace Om := hide (Rd.below (by exact Om.out) hb)
              replace Ok := hide (Rd.below (by exact Ok.out) hb)
              replace Op := hide (Rd.below (by exact Op.out) hb)
              replace O1 := hide ((show RG w.heap.size (w.heap.size + 3) _ A1 l1 from rgT O1).kept hb)
              replace O2 := hide ((show RG w.heap.size (w.heap.size + 3) _ A2 l2 from rgT O2).kept hb)
              replace O3 := hide (O3.out.base (show w.heap.size + 3 ≤ _ by first | omega | (simp; omega) | (simp; done)))
              have hB9 : Below w.heap.size w w9 := Below.trans belo (hb.mono as4)
              obtain ⟨kc9, kf9⟩ := bcell hb
              have hz9 := hb.size
              (try simp at hz9)
              have n9_0 : w.heap.size < w9.heap.size := by omega
              have n9_1 : w.heap.size + 1 < w9.heap.size := by omega
              have n9_2 : w.heap.size + 2 < w9.heap.size := by omega
              have m9_0 : w9.cell? ⟨w.heap.size, 0, none⟩ = some (.slice A1 l1.length c1) := (kc9 _ _ as0).trans as1
              have v9_0 : w9.frozen? ⟨w.heap.size, 0, none⟩ = false := (kf9 _ _ as0).trans as1
              have m9_1 : w9.cell? ⟨w.heap.size, 1, none⟩ = some (.bool s1) := (kc9 _ _ as0).trans as1
              have v9_1 : w9.frozen? ⟨w.heap.size, 1, none⟩ = false := (kf9 _ _ as0).trans as1
              have m9_2 : w9.cell? ⟨w.heap.size + 1, 0, none⟩ = some (.slice A2 l2.length c2) := (kc9 _ _ as0).trans as1
              have v9_2 : w9.frozen? ⟨w.heap.size + 1, 0, none⟩ = false := (kf9 _ _ as0).trans as1
              have m9_3 : w9.cell? ⟨w.heap.size + 1, 1, none⟩ = some (.bool s2) := (kc9 _ _ as0).trans as1
              have v9_3 : w9.frozen? ⟨w.heap.size + 1, 1, none⟩ = false := (kf9 _ _ as0).trans as1
              have m9_4 : w9.cell? ⟨w.heap.size + 2, 0, none⟩ = some (.slice none 0 0) := (kc9 _ _ as0).trans as1
              have v9_4 : w9.frozen? ⟨w.heap.size + 2, 0, none⟩ = false := (kf9 _ _ as0).trans as1
              have m9_5 : w9.cell? ⟨w.heap.size + 2, 1, none⟩ = some (.bool false) := (kc9 _ _ as0).trans as1
              have v9_5 : w9.frozen? ⟨w.heap.size + 2, 1, none⟩ = false := (kf9 _ _ as0).trans as1
              clear kc9 kf9
              clear hb
              refine anyT_ready (rs := [10]) kr (by simp) ?_
              refine ReadyT.tail (o := _) rfl (by decide) (fun K hK => ?_)
              go_simp
              refine hK.out _ _ ?_
              clear hK K
              (try simp only [Act.put, q2, q3, q4, q5, q6, q7])
              refine anyT_done kr ?_ _
              go_wp2
              refine bodyPost_ret (v := .agg #[.slice A3 l3.length c3, .bool s3]) (by simp [results, Tryz.results63, go_sem, *]) rfl ?_
              exact ⟨l3, s3, A3, c3, hide (E3.out.trans (by rw [HR.out, Ep.out, em2.out, Em.out, Ek.out]; simp)), rfl, C3, hide (OwQ.base (B := w.heap.size + 3) (owT O3) (by omega)), belo⟩
            · by_cases hm : L = -1
              · subst hm
                clear hlo hhi h1
                go_wp2_with fail
                refine (hTr.out _ (by refine RG.rd (B0 := w.heap.size) (B1 := w.heap.size + 3) ?_; (repeat (first | with_reducible exact O1.out | with_reducible refine RG.setc ?_ as3 as3 _ | with_reducible refine RG.allc ?_ _ | with_reducible refine RG.drew ?_ | with_reducible refine RG.drewN ?_ _))) belo).mono ?_
                rintro e w5 ⟨rfl, hb⟩
                replace O1 := hide ((show RG w.heap.size (w.heap.size + 3) _ A1 l1 from rgT O1).kept hb)
                replace O2 := hide ((show RG w.heap.size (w.heap.size + 3) _ A2 l2 from rgT O2).kept hb)
                have hB5 : Below w.heap.size w w5 := Below.trans belo (hb.mono as4)
                obtain ⟨kc5, kf5⟩ := bcell hb
                have hz5 := hb.size
                (try simp at hz5)
                have n5_0 : w.heap.size < w5.heap.size := by omega
                have n5_1 : w.heap.size + 1 < w5.heap.size := by omega
                have n5_2 : w.heap.size + 2 < w5.heap.size := by omega
                have m5_0 : w5.cell? ⟨w.heap.size, 0, none⟩ = some (.slice A1 l1.length c1) := (kc5 _ _ as0).trans as1
                have v5_0 : w5.frozen? ⟨w.heap.size, 0, none⟩ = false := (kf5 _ _ as0).trans as1
                have m5_1 : w5.cell? ⟨w.heap.size, 1, none⟩ = some (.bool s1) := (kc5 _ _ as0).trans as1
                have v5_1 : w5.frozen? ⟨w.heap.size, 1, none⟩ = false := (kf5 _ _ as0).trans as1
                have m5_2 : w5.cell? ⟨w.heap.size + 1, 0, none⟩ = some (.slice A2 l2.length c2) := (kc5 _ _ as0).trans as1
                have v5_2 : w5.frozen? ⟨w.heap.size + 1, 0, none⟩ = false := (kf5 _ _ as0).trans as1
                have m5_3 : w5.cell? ⟨w.heap.size + 1, 1, none⟩ = some (.bool s2) := (kc5 _ _ as0).trans as1
                have v5_3 : w5.frozen? ⟨w.heap.size + 1, 1, none⟩ = false := (kf5 _ _ as0).trans as1
                have m5_4 : w5.cell? ⟨w.heap.size + 2, 0, none⟩ = some (.slice none 0 0) := (kc5 _ _ as0).trans as1
                have v5_4 : w5.frozen? ⟨w.heap.size + 2, 0, none⟩ = false := (kf5 _ _ as0).trans as1
                have m5_5 : w5.cell? ⟨w.heap.size + 2, 1, none⟩ = some (.bool false) := (kc5 _ _ as0).trans as1
                have v5_5 : w5.frozen? ⟨w.heap.size + 2, 1, none⟩ = false := (kf5 _ _ as0).trans as1
                clear kc5 kf5
                clear hb
                go_wp2_with fail
                refine region_anyT (S := fun wS => Below w5.heap.size w5 wS) (n := 10) kr (Below.refl _ _).drew (fun hS inv => ?_)
                refine anyT_take (i := 0) (oi := _) (v := Value.pointer (some ⟨w.heap.size, 0, none⟩)) rfl kr kr kr (by decide) (by decide) kr kr inv (fun _ _ _ h => h) (Or.inl ⟨kr, ?_⟩) hS (fun inv => ?_)
                · intro wz hSw
                  first | kernel_rfl | go_simp
                (try simp only [Act.put, q2, q3, q4, q5, q6, q7])
                refine anyT_take (i := 1) (oi := _) (v := Value.slice A1 l1.length c1) rfl kr kr kr (by decide) (by decide) kr kr inv (fun _ _ _ h => h) (Or.inl ⟨kr, ?_⟩) hS (fun inv => ?_)
                · intro wz hSw
                  have hk0 := (hSw : Below _ _ _).cell (p := ⟨w.heap.size, 0, none⟩) as0; go_simp
                (try simp only [Act.put, q2, q3, q4, q5, q6, q7])
                refine anyT_take (i := 3) (oi := _) (v := Value.pointer (some ⟨w.heap.size + 1, 0, none⟩)) rfl kr kr kr (by decide) (by decide) kr kr inv (fun _ _ _ h => h) (Or.inl ⟨kr, ?_⟩) hS (fun inv => ?_)
                · intro wz hSw
                  first | kernel_rfl | go_simp
                (try simp only [Act.put, q2, q3, q4, q5, q6, q7])
                refine anyT_take (i := 4) (oi := _) (v := Value.slice A2 l2.length c2) rfl kr kr kr (by decide) (by decide) kr kr inv (fun _ _ _ h => h) (Or.inl ⟨kr, ?_⟩) hS (fun inv => ?_)
                · intro wz hSw
                  have hk0 := (hSw : Below _ _ _).cell (p := ⟨w.heap.size + 1, 0, none⟩) as0; go_simp
                (try simp only [Act.put, q2, q3, q4, q5, q6, q7])
                refine anyT_take (i := 7) (oi := _) (v := Value.pointer (some ⟨w.heap.size, 1, none⟩)) rfl kr kr kr (by decide) (by decide) kr kr inv (fun _ _ _ h => h) (Or.inl ⟨kr, ?_⟩) hS (fun inv => ?_)
                · intro wz hSw
                  first | kernel_rfl | go_simp
                (try simp only [Act.put, q2, q3, q4, q5, q6, q7])
                refine anyT_take (i := 8) (oi := _) (v := Value.bool s1) rfl kr kr kr (by decide) (by decide) kr kr inv (fun _ _ _ h => h) (Or.inl ⟨kr, ?_⟩) hS (fun inv => ?_)
                · intro wz hSw
                  have hk0 := (hSw : Below _ _ _).cell (p := ⟨w.heap.size, 1, none⟩) as0; go_simp
                (try simp only [Act.put, q2, q3, q4, q5, q6, q7])
                refine anyT_ready (rs := [2]) kr (by simp) ?_
                refine ReadyT.head (o := _) rfl (by decide) kr inv (fun K hK => ?_) ReadyT.nil
                go_simp
                refine (number_q A1 l1 c1 _ (by omega) (by refine RG.rd (B0 := w.heap.size) (B1 := w.heap.size + 3) ?_; (repeat (first | with_reducible exact O1.out | with_reducible refine RG.setc ?_ as3 as3 _ | with_reducible refine RG.allc ?_ _ | with_reducible refine RG.drew ?_ | with_reducible refine RG.drewN ?_ _)))).mono ?_
                rintro e w6 ⟨lm, Am, cm, Em, rfl, Cm, Om, hb⟩
                go_wp2_with fail
                refine hK.out _ _ ?_ (fun hS inv => ?_)
                · exact (hS : Below w5.heap.size w5 _).trans (hb.mono (Below.size hS))
                clear hK K
                (try simp only [Act.put, q2, q3, q4, q5, q6, q7])
                replace O1 := hide ((show RG w.heap.size (w.heap.size + 3) _ A1 l1 from rgT O1).kept hb)
                replace O2 := hide ((show RG w.heap.size (w.heap.size + 3) _ A2 l2 from rgT O2).kept hb)
                replace Om := hide Om.out.rd
                have hB6 : Below w.heap.size w w6 := Below.trans belo (hb.mono as4)
                obtain ⟨kc6, kf6⟩ := bcell hb
                have hz6 := hb.size
                (try simp at hz6)
                have n6_0 : w.heap.size < w6.heap.size := by omega
                have n6_1 : w.heap.size + 1 < w6.heap.size := by omega
                have n6_2 : w.heap.size + 2 < w6.heap.size := by omega
                have m6_0 : w6.cell? ⟨w.heap.size, 0, none⟩ = some (.slice A1 l1.length c1) := (kc6 _ _ as0).trans as1
                have v6_0 : w6.frozen? ⟨w.heap.size, 0, none⟩ = false := (kf6 _ _ as0).trans as1
                have m6_1 : w6.cell? ⟨w.heap.size, 1, none⟩ = some (.bool s1) := (kc6 _ _ as0).trans as1
                have v6_1 : w6.frozen? ⟨w.heap.size, 1, none⟩ = false := (kf6 _ _ as0).trans as1
                have m6_2 : w6.cell? ⟨w.heap.size + 1, 0, none⟩ = some (.slice A2 l2.length c2) := (kc6 _ _ as0).trans as1
                have v6_2 : w6.frozen? ⟨w.heap.size + 1, 0, none⟩ = false := (kf6 _ _ as0).trans as1
                have m6_3 : w6.cell? ⟨w.heap.size + 1, 1, none⟩ = some (.bool s2) := (kc6 _ _ as0).trans as1
                have v6_3 : w6.frozen? ⟨w.heap.size + 1, 1, none⟩ = false := (kf6 _ _ as0).trans as1
                have m6_4 : w6.cell? ⟨w.heap.size + 2, 0, none⟩ = some (.slice none 0 0) := (kc6 _ _ as0).trans as1
                have v6_4 : w6.frozen? ⟨w.heap.size + 2, 0, none⟩ = false := (kf6 _ _ as0).trans as1
                have m6_5 : w6.cell? ⟨w.heap.size + 2, 1, none⟩ = some (.bool false) := (kc6 _ _ as0).trans as1
                have v6_5 : w6.frozen? ⟨w.heap.size + 2, 1, none⟩ = false := (kf6 _ _ as0).trans as1
                clear kc6 kf6
                clear hb
                have em : lm.length ≤ 4096 := by rw [Em.out, nb_length]; omega
                have em2 := hide (show lm.length = l1.length by rw [Em.out, nb_length])
                refine anyT_ready (rs := [5]) kr (by simp) ?_
                refine ReadyT.head (o := _) rfl (by decide) kr inv (fun K hK => ?_) ReadyT.nil
                go_simp
                refine (number_q A2 l2 c2 _ (by omega) (by refine RG.rd (B0 := w.heap.size) (B1 := w.heap.size + 3) ?_; (repeat (first | with_reducible exact O2.out | with_reducible refine RG.setc ?_ as3 as3 _ | with_reducible refine RG.allc ?_ _ | with_reducible refine RG.drew ?_ | with_reducible refine RG.drewN ?_ _)))).mono ?_
                rintro e w7 ⟨lk, Ak, ck, Ek, rfl, Ck, Ok, hb⟩
                go_wp2_with fail
                refine hK.out _ _ ?_ (fun hS inv => ?_)
                · exact (hS : Below w5.heap.size w5 _).trans (hb.mono (Below.size hS))
                clear hK K
                (try simp only [Act.put, q2, q3, q4, q5, q6, q7])
                replace Om := hide (Rd.below (by exact Om.out) hb)
                replace O1 := hide ((show RG w.heap.size (w.heap.size + 3) _ A1 l1 from rgT O1).kept hb)
                replace O2 := hide ((show RG w.heap.size (w.heap.size + 3) _ A2 l2 from rgT O2).kept hb)
                replace Ok := hide Ok.out.rd
                have hB7 : Below w.heap.size w w7 := Below.trans belo (hb.mono as4)
                obtain ⟨kc7, kf7⟩ := bcell hb
                have hz7 := hb.size
                (try simp at hz7)
                have n7_0 : w.heap.size < w7.heap.size := by omega
                have n7_1 : w.heap.size + 1 < w7.heap.size := by omega
                have n7_2 : w.heap.size + 2 < w7.heap.size := by omega
                have m7_0 : w7.cell? ⟨w.heap.size, 0, none⟩ = some (.slice A1 l1.length c1) := (kc7 _ _ as0).trans as1
                have v7_0 : w7.frozen? ⟨w.heap.size, 0, none⟩ = false := (kf7 _ _ as0).trans as1
                have m7_1 : w7.cell? ⟨w.heap.size, 1, none⟩ = some (.bool s1) := (kc7 _ _ as0).trans as1
                have v7_1 : w7.frozen? ⟨w.heap.size, 1, none⟩ = false := (kf7 _ _ as0).trans as1
                have m7_2 : w7.cell? ⟨w.heap.size + 1, 0, none⟩ = some (.slice A2 l2.length c2) := (kc7 _ _ as0).trans as1
                have v7_2 : w7.frozen? ⟨w.heap.size + 1, 0, none⟩ = false := (kf7 _ _ as0).trans as1
                have m7_3 : w7.cell? ⟨w.heap.size + 1, 1, none⟩ = some (.bool s2) := (kc7 _ _ as0).trans as1
                have v7_3 : w7.frozen? ⟨w.heap.size + 1, 1, none⟩ = false := (kf7 _ _ as0).trans as1
                have m7_4 : w7.cell? ⟨w.heap.size + 2, 0, none⟩ = some (.slice none 0 0) := (kc7 _ _ as0).trans as1
                have v7_4 : w7.frozen? ⟨w.heap.size + 2, 0, none⟩ = false := (kf7 _ _ as0).trans as1
                have m7_5 : w7.cell? ⟨w.heap.size + 2, 1, none⟩ = some (.bool false) := (kc7 _ _ as0).trans as1
                have v7_5 : w7.frozen? ⟨w.heap.size + 2, 1, none⟩ = false := (kf7 _ _ as0).trans as1
                clear kc7 kf7
                clear hb
                have ek : lk.length ≤ 4096 := by rw [Ek.out, nb_length]; omega
                refine anyT_ready (rs := [6]) kr (by simp) ?_
                refine ReadyT.head (o := _) rfl (by decide) kr inv (fun K hK => ?_) ReadyT.nil
                go_simp
                refine (pow_q Am Ak lm lk cm ck _ em ek Om.out Ok.out).mono ?_
                rintro e w8 ⟨lp, Ap, cp, Ep, rfl, Cp, Op, hb⟩
                go_wp2_with fail
                refine hK.out _ _ ?_ (fun hS inv => ?_)
                · exact (hS : Below w5.heap.size w5 _).trans (hb.mono (Below.size hS))
                clear hK K
                (try simp only [Act.put, q2, q3, q4, q5, q6, q7])
                replace Om := hide (Rd.below (by exact Om.out) hb)
                replace Ok := hide (Rd.below (by exact Ok.out) hb)
                replace O1 := hide ((show RG w.heap.size (w.heap.size + 3) _ A1 l1 from rgT O1).kept hb)
                replace O2 := hide ((show RG w.heap.size (w.heap.size + 3) _ A2 l2 from rgT O2).kept hb)
                replace Op := hide Op.out.rd
                have hB8 : Below w.heap.size w w8 := Below.trans belo (hb.mono as4)
                obtain ⟨kc8, kf8⟩ := bcell hb
                have hz8 := hb.size
                (try simp at hz8)
                have n8_0 : w.heap.size < w8.heap.size := by omega
                have n8_1 : w.heap.size + 1 < w8.heap.size := by omega
                have n8_2 : w.heap.size + 2 < w8.heap.size := by omega
                have m8_0 : w8.cell? ⟨w.heap.size, 0, none⟩ = some (.slice A1 l1.length c1) := (kc8 _ _ as0).trans as1
                have v8_0 : w8.frozen? ⟨w.heap.size, 0, none⟩ = false := (kf8 _ _ as0).trans as1
                have m8_1 : w8.cell? ⟨w.heap.size, 1, none⟩ = some (.bool s1) := (kc8 _ _ as0).trans as1
                have v8_1 : w8.frozen? ⟨w.heap.size, 1, none⟩ = false := (kf8 _ _ as0).trans as1
                have m8_2 : w8.cell? ⟨w.heap.size + 1, 0, none⟩ = some (.slice A2 l2.length c2) := (kc8 _ _ as0).trans as1
                have v8_2 : w8.frozen? ⟨w.heap.size + 1, 0, none⟩ = false := (kf8 _ _ as0).trans as1
                have m8_3 : w8.cell? ⟨w.heap.size + 1, 1, none⟩ = some (.bool s2) := (kc8 _ _ as0).trans as1
                have v8_3 : w8.frozen? ⟨w.heap.size + 1, 1, none⟩ = false := (kf8 _ _ as0).trans as1
                have m8_4 : w8.cell? ⟨w.heap.size + 2, 0, none⟩ = some (.slice none 0 0) := (kc8 _ _ as0).trans as1
                have v8_4 : w8.frozen? ⟨w.heap.size + 2, 0, none⟩ = false := (kf8 _ _ as0).trans as1
                have m8_5 : w8.cell? ⟨w.heap.size + 2, 1, none⟩ = some (.bool false) := (kc8 _ _ as0).trans as1
                have v8_5 : w8.frozen? ⟨w.heap.size + 2, 1, none⟩ = false := (kf8 _ _ as0).trans as1
                clear kc8 kf8
                clear hb
                have ep : lp.length ≤ 4096 := by rw [Ep.out, vz_length]; omega
                refine anyT_ready (rs := [9]) kr (by simp) ?_
                refine ReadyT.head (o := _) rfl (by decide) kr inv (fun K hK => ?_) ReadyT.nil
                go_simp
                refine (vector_any Ap lp cp s1 _ ep Op.out).mono ?_
                rintro e w9 ⟨l3, s3, A3, c3, E3, rfl, C3, O3, hb⟩
                go_wp2_with fail
                refine hK.out _ _ ?_ (fun hS inv => ?_)
                · exact (hS : Below w5.heap.size w5 _).trans (hb.mono (Below.size hS))
                clear hK K
                (try simp only [Act.put, q2, q3, q4, q5, q6, q7])
                replace Om := hide (Rd.below (by exact Om.out) hb)
                replace Ok := hide (Rd.below (by exact Ok.out) hb)
                replace Op := hide (Rd.below (by exact Op.out) hb)
                replace O1 := hide ((show RG w.heap.size (w.heap.size + 3) _ A1 l1 from rgT O1).kept hb)
                replace O2 := hide ((show RG w.heap.size (w.heap.size + 3) _ A2 l2 from rgT O2).kept hb)
                replace O3 := hide (O3.out.base (show w.heap.size + 3 ≤ _ by first | omega | (simp; omega) | (simp; done)))
                have hB9 : Below w.heap.size w w9 := Below.trans belo (hb.mono as4)
                obtain ⟨kc9, kf9⟩ := bcell hb
                have hz9 := hb.size
                (try simp at hz9)
                have n9_0 : w.heap.size < w9.heap.size := by omega
                have n9_1 : w.heap.size + 1 < w9.heap.size := by omega
                have n9_2 : w.heap.size + 2 < w9.heap.size := by omega
                have m9_0 : w9.cell? ⟨w.heap.size, 0, none⟩ = some (.slice A1 l1.length c1) := (kc9 _ _ as0).trans as1
                have v9_0 : w9.frozen? ⟨w.heap.size, 0, none⟩ = false := (kf9 _ _ as0).trans as1
                have m9_1 : w9.cell? ⟨w.heap.size, 1, none⟩ = some (.bool s1) := (kc9 _ _ as0).trans as1
                have v9_1 : w9.frozen? ⟨w.heap.size, 1, none⟩ = false := (kf9 _ _ as0).trans as1
                have m9_2 : w9.cell? ⟨w.heap.size + 1, 0, none⟩ = some (.slice A2 l2.length c2) := (kc9 _ _ as0).trans as1
                have v9_2 : w9.frozen? ⟨w.heap.size + 1, 0, none⟩ = false := (kf9 _ _ as0).trans as1
                have m9_3 : w9.cell? ⟨w.heap.size + 1, 1, none⟩ = some (.bool s2) := (kc9 _ _ as0).trans as1
                have v9_3 : w9.frozen? ⟨w.heap.size + 1, 1, none⟩ = false := (kf9 _ _ as0).trans as1
                have m9_4 : w9.cell? ⟨w.heap.size + 2, 0, none⟩ = some (.slice none 0 0) := (kc9 _ _ as0).trans as1
                have v9_4 : w9.frozen? ⟨w.heap.size + 2, 0, none⟩ = false := (kf9 _ _ as0).trans as1
                have m9_5 : w9.cell? ⟨w.heap.size + 2, 1, none⟩ = some (.bool false) := (kc9 _ _ as0).trans as1
                have v9_5 : w9.frozen? ⟨w.heap.size + 2, 1, none⟩ = false := (kf9 _ _ as0).trans as1
                clear kc9 kf9
                clear hb
                refine anyT_ready (rs := [10]) kr (by simp) ?_
                refine ReadyT.tail (o := _) rfl (by decide) (fun K hK => ?_)
                go_simp
                refine hK.out _ _ ?_
                clear hK K
                (try simp only [Act.put, q2, q3, q4, q5, q6, q7])
                refine anyT_done kr ?_ _
                go_wp2
                refine bodyPost_ret (v := .agg #[.slice A3 l3.length c3, .bool s3]) (by simp [results, Tryz.results63, go_sem, *]) rfl ?_
                exact ⟨l3, s3, A3, c3, hide (E3.out.trans (by rw [HR.out, Ep.out, em2.out, Em.out, Ek.out]; simp)), rfl, C3, hide (OwQ.base (B := w.heap.size + 3) (owT O3) (by omega)), belo⟩
              · have b1 : (L != 1) = true := by simpa using h1
                have b2 : (L != -1) = true := by simpa using hm
                have H1 := hide h1
                have HM := hide hm
                clear h1 hm hlo hhi
                go_wp2_with fail
                refine (hTr.out _ (by refine RG.rd (B0 := w.heap.size) (B1 := w.heap.size + 3) ?_; (repeat (first | with_reducible exact O1.out | with_reducible refine RG.setc ?_ as3 as3 _ | with_reducible refine RG.allc ?_ _ | with_reducible refine RG.drew ?_ | with_reducible refine RG.drewN ?_ _))) belo).mono ?_
                rintro e w5 ⟨rfl, hb⟩
                replace O1 := hide ((show RG w.heap.size (w.heap.size + 3) _ A1 l1 from rgT O1).kept hb)
                replace O2 := hide ((show RG w.heap.size (w.heap.size + 3) _ A2 l2 from rgT O2).kept hb)
                have hB5 : Below w.heap.size w w5 := Below.trans belo (hb.mono as4)
                obtain ⟨kc5, kf5⟩ := bcell hb
                have hz5 := hb.size
                (try simp at hz5)
                have n5_0 : w.heap.size < w5.heap.size := by omega
                have n5_1 : w.heap.size + 1 < w5.heap.size := by omega
                have n5_2 : w.heap.size + 2 < w5.heap.size := by omega
                have m5_0 : w5.cell? ⟨w.heap.size, 0, none⟩ = some (.slice A1 l1.length c1) := (kc5 _ _ as0).trans as1
                have v5_0 : w5.frozen? ⟨w.heap.size, 0, none⟩ = false := (kf5 _ _ as0).trans as1
                have m5_1 : w5.cell? ⟨w.heap.size, 1, none⟩ = some (.bool s1) := (kc5 _ _ as0).trans as1
                have v5_1 : w5.frozen? ⟨w.heap.size, 1, none⟩ = false := (kf5 _ _ as0).trans as1
                have m5_2 : w5.cell? ⟨w.heap.size + 1, 0, none⟩ = some (.slice A2 l2.length c2) := (kc5 _ _ as0).trans as1
                have v5_2 : w5.frozen? ⟨w.heap.size + 1, 0, none⟩ = false := (kf5 _ _ as0).trans as1
                have m5_3 : w5.cell? ⟨w.heap.size + 1, 1, none⟩ = some (.bool s2) := (kc5 _ _ as0).trans as1
                have v5_3 : w5.frozen? ⟨w.heap.size + 1, 1, none⟩ = false := (kf5 _ _ as0).trans as1
                have m5_4 : w5.cell? ⟨w.heap.size + 2, 0, none⟩ = some (.slice none 0 0) := (kc5 _ _ as0).trans as1
                have v5_4 : w5.frozen? ⟨w.heap.size + 2, 0, none⟩ = false := (kf5 _ _ as0).trans as1
                have m5_5 : w5.cell? ⟨w.heap.size + 2, 1, none⟩ = some (.bool false) := (kc5 _ _ as0).trans as1
                have v5_5 : w5.frozen? ⟨w.heap.size + 2, 1, none⟩ = false := (kf5 _ _ as0).trans as1
                clear kc5 kf5
                clear hb
                go_wp2_with fail
                refine region_anyT (S := fun wS => Below w5.heap.size w5 wS) (n := 7) kr (Below.refl _ _).drew (fun hS inv => ?_)
                refine anyT_take (i := 0) (oi := _) (v := Value.pointer (some ⟨w.heap.size, 0, none⟩)) rfl kr kr kr (by decide) (by decide) kr kr inv (fun _ _ _ h => h) (Or.inl ⟨kr, ?_⟩) hS (fun inv => ?_)
                · intro wz hSw
                  first | kernel_rfl | go_simp
                (try simp only [Act.put, q2, q3, q4, q5, q6, q7])
                refine anyT_take (i := 1) (oi := _) (v := Value.slice A1 l1.length c1) rfl kr kr kr (by decide) (by decide) kr kr inv (fun _ _ _ h => h) (Or.inl ⟨kr, ?_⟩) hS (fun inv => ?_)
                · intro wz hSw
                  have hk0 := (hSw : Below _ _ _).cell (p := ⟨w.heap.size, 0, none⟩) as0; go_simp
                (try simp only [Act.put, q2, q3, q4, q5, q6, q7])
                refine anyT_take (i := 2) (oi := _) (v := Value.int IntKind.i64 (l1.length : Nat)) rfl kr kr kr (by decide) (by decide) kr kr inv (fun _ _ _ h => h) (Or.inl ⟨kr, ?_⟩) hS (fun inv => ?_)
                · intro wz hSw
                  go_simp
                (try simp only [Act.put, q2, q3, q4, q5, q6, q7])
                refine anyT_take (i := 4) (oi := _) (v := Value.pointer (some ⟨w.heap.size, 1, none⟩)) rfl kr kr kr (by decide) (by decide) kr kr inv (fun _ _ _ h => h) (Or.inl ⟨kr, ?_⟩) hS (fun inv => ?_)
                · intro wz hSw
                  first | kernel_rfl | go_simp
                (try simp only [Act.put, q2, q3, q4, q5, q6, q7])
                refine anyT_take (i := 5) (oi := _) (v := Value.bool s1) rfl kr kr kr (by decide) (by decide) kr kr inv (fun _ _ _ h => h) (Or.inl ⟨kr, ?_⟩) hS (fun inv => ?_)
                · intro wz hSw
                  have hk0 := (hSw : Below _ _ _).cell (p := ⟨w.heap.size, 1, none⟩) as0; go_simp
                (try simp only [Act.put, q2, q3, q4, q5, q6, q7])
                refine anyT_ready (rs := [3]) kr (by simp) ?_
                refine ReadyT.head (o := _) rfl (by decide) kr inv (fun K hK => ?_) ReadyT.nil
                refine step_make_bv (by rfl) _ _ (by rfl) _ _ l1.length kr kr rfl rfl (by omega) ?_
                intro w6 hrm hb
                refine hK.out _ _ ?_ (fun hS inv => ?_)
                · exact (hS : Below w5.heap.size w5 _).trans (hb.mono (Below.size hS))
                clear hK K
                (try simp only [Act.put, q2, q3, q4, q5, q6, q7])
                replace O1 := hide ((show RG w.heap.size (w.heap.size + 3) _ A1 l1 from rgT O1).kept hb)
                replace O2 := hide ((show RG w.heap.size (w.heap.size + 3) _ A2 l2 from rgT O2).kept hb)
                have hB6 : Below w.heap.size w w6 := Below.trans belo (hb.mono as4)
                obtain ⟨kc6, kf6⟩ := bcell hb
                have hz6 := hb.size
                (try simp at hz6)
                have n6_0 : w.heap.size < w6.heap.size := by omega
                have n6_1 : w.heap.size + 1 < w6.heap.size := by omega
                have n6_2 : w.heap.size + 2 < w6.heap.size := by omega
                have m6_0 : w6.cell? ⟨w.heap.size, 0, none⟩ = some (.slice A1 l1.length c1) := (kc6 _ _ as0).trans as1
                have v6_0 : w6.frozen? ⟨w.heap.size, 0, none⟩ = false := (kf6 _ _ as0).trans as1
                have m6_1 : w6.cell? ⟨w.heap.size, 1, none⟩ = some (.bool s1) := (kc6 _ _ as0).trans as1
                have v6_1 : w6.frozen? ⟨w.heap.size, 1, none⟩ = false := (kf6 _ _ as0).trans as1
                have m6_2 : w6.cell? ⟨w.heap.size + 1, 0, none⟩ = some (.slice A2 l2.length c2) := (kc6 _ _ as0).trans as1
                have v6_2 : w6.frozen? ⟨w.heap.size + 1, 0, none⟩ = false := (kf6 _ _ as0).trans as1
                have m6_3 : w6.cell? ⟨w.heap.size + 1, 1, none⟩ = some (.bool s2) := (kc6 _ _ as0).trans as1
                have v6_3 : w6.frozen? ⟨w.heap.size + 1, 1, none⟩ = false := (kf6 _ _ as0).trans as1
                have m6_4 : w6.cell? ⟨w.heap.size + 2, 0, none⟩ = some (.slice none 0 0) := (kc6 _ _ as0).trans as1
                have v6_4 : w6.frozen? ⟨w.heap.size + 2, 0, none⟩ = false := (kf6 _ _ as0).trans as1
                have m6_5 : w6.cell? ⟨w.heap.size + 2, 1, none⟩ = some (.bool false) := (kc6 _ _ as0).trans as1
                have v6_5 : w6.frozen? ⟨w.heap.size + 2, 1, none⟩ = false := (kf6 _ _ as0).trans as1
                clear kc6 kf6
                clear hb
                obtain ⟨z, hz⟩ : ∃ z, z = bl l1.length fun _ => false := ⟨_, rfl⟩
                have zl : z.length = l1.length := by rw [hz, bl_length]
                have HZ := hide hz
                have OM := hide (show Rd w6 (some ⟨w5.drew.heap.size, 0, none⟩) z from Own.rd (B := 0) (fun _ => ⟨_, rfl, Nat.zero_le _, by rw [zl]; exact hrm.congr fun i hi => by rw [hz, bt_bl_lt hi]⟩))
                have hcall := hide (vector_any (some ⟨w5.drew.heap.size, 0, none⟩) z l1.length s1 w6 (by omega) OM.out)
                rw [zl] at hcall
                clear hz zl hrm OM
                refine anyT_ready (rs := [6]) kr (by simp) ?_
                refine ReadyT.head (o := _) rfl (by decide) kr inv (fun K hK => ?_) ReadyT.nil
                go_simp
                refine (hcall.out).mono ?_
                rintro e w7 ⟨l3, s3, A3, c3, E3, rfl, C3, O3, hb⟩
                go_wp2_with fail
                refine hK.out _ _ ?_ (fun hS inv => ?_)
                · exact (hS : Below w5.heap.size w5 _).trans (hb.mono (Below.size hS))
                clear hK K
                (try simp only [Act.put, q2, q3, q4, q5, q6, q7])
                replace O1 := hide ((show RG w.heap.size (w.heap.size + 3) _ A1 l1 from rgT O1).kept hb)
                replace O2 := hide ((show RG w.heap.size (w.heap.size + 3) _ A2 l2 from rgT O2).kept hb)
                replace O3 := hide (O3.out.base (show w.heap.size + 3 ≤ _ by first | omega | (simp; omega) | (simp; done)))
                have hB7 : Below w.heap.size w w7 := Below.trans belo (hb.mono as4)
                obtain ⟨kc7, kf7⟩ := bcell hb
                have hz7 := hb.size
                (try simp at hz7)
                have n7_0 : w.heap.size < w7.heap.size := by omega
                have n7_1 : w.heap.size + 1 < w7.heap.size := by omega
                have n7_2 : w.heap.size + 2 < w7.heap.size := by omega
                have m7_0 : w7.cell? ⟨w.heap.size, 0, none⟩ = some (.slice A1 l1.length c1) := (kc7 _ _ as0).trans as1
                have v7_0 : w7.frozen? ⟨w.heap.size, 0, none⟩ = false := (kf7 _ _ as0).trans as1
                have m7_1 : w7.cell? ⟨w.heap.size, 1, none⟩ = some (.bool s1) := (kc7 _ _ as0).trans as1
                have v7_1 : w7.frozen? ⟨w.heap.size, 1, none⟩ = false := (kf7 _ _ as0).trans as1
                have m7_2 : w7.cell? ⟨w.heap.size + 1, 0, none⟩ = some (.slice A2 l2.length c2) := (kc7 _ _ as0).trans as1
                have v7_2 : w7.frozen? ⟨w.heap.size + 1, 0, none⟩ = false := (kf7 _ _ as0).trans as1
                have m7_3 : w7.cell? ⟨w.heap.size + 1, 1, none⟩ = some (.bool s2) := (kc7 _ _ as0).trans as1
                have v7_3 : w7.frozen? ⟨w.heap.size + 1, 1, none⟩ = false := (kf7 _ _ as0).trans as1
                have m7_4 : w7.cell? ⟨w.heap.size + 2, 0, none⟩ = some (.slice none 0 0) := (kc7 _ _ as0).trans as1
                have v7_4 : w7.frozen? ⟨w.heap.size + 2, 0, none⟩ = false := (kf7 _ _ as0).trans as1
                have m7_5 : w7.cell? ⟨w.heap.size + 2, 1, none⟩ = some (.bool false) := (kc7 _ _ as0).trans as1
                have v7_5 : w7.frozen? ⟨w.heap.size + 2, 1, none⟩ = false := (kf7 _ _ as0).trans as1
                clear kc7 kf7
                clear hb
                refine anyT_ready (rs := [7]) kr (by simp) ?_
                refine ReadyT.tail (o := _) rfl (by decide) (fun K hK => ?_)
                go_simp
                refine hK.out _ _ ?_
                clear hK K
                (try simp only [Act.put, q2, q3, q4, q5, q6, q7])
                refine anyT_done kr ?_ _
                go_wp2
                refine bodyPost_ret (v := .agg #[.slice A3 l3.length c3, .bool s3]) (by simp [results, Tryz.results63, go_sem, *]) rfl ?_
                exact ⟨l3, s3, A3, c3, hide (E3.out.trans (by rw [HR.out, HZ.out, zr_fb]; unfold zr; rw [cnt_of_gd (v := ⟨l1, s1⟩) HG1.out]; simp [H0.out, H1.out, HM.out])), rfl, C3, hide (OwQ.base (B := w.heap.size + 3) (owT O3) (by omega)), belo⟩
        · have t0 : (T == 0) = false := by simpa using fun h => h0 (HTR.out.1 h)
          have H0 := hide h0
          have H1 := hide h1
          have HM := hide hm
          clear h0 h1 hm
          go_wp2_with fail
          refine (hTr.out _ (by refine RG.rd (B0 := w.heap.size) (B1 := w.heap.size + 3) ?_; (repeat (first | with_reducible exact O1.out | with_reducible refine RG.setc ?_ as3 as3 _ | with_reducible refine RG.allc ?_ _ | with_reducible refine RG.drew ?_ | with_reducible refine RG.drewN ?_ _))) belo).mono ?_
          rintro e w5 ⟨rfl, hb⟩
          replace O1 := hide ((show RG w.heap.size (w.heap.size + 3) _ A1 l1 from rgT O1).kept hb)
          replace O2 := hide ((show RG w.heap.size (w.heap.size + 3) _ A2 l2 from rgT O2).kept hb)
          have hB5 : Below w.heap.size w w5 := Below.trans belo (hb.mono as4)
          obtain ⟨kc5, kf5⟩ := bcell hb
          have hz5 := hb.size
          (try simp at hz5)
          have n5_0 : w.heap.size < w5.heap.size := by omega
          have n5_1 : w.heap.size + 1 < w5.heap.size := by omega
          have n5_2 : w.heap.size + 2 < w5.heap.size := by omega
          have m5_0 : w5.cell? ⟨w.heap.size, 0, none⟩ = some (.slice A1 l1.length c1) := (kc5 _ _ as0).trans as1
          have v5_0 : w5.frozen? ⟨w.heap.size, 0, none⟩ = false := (kf5 _ _ as0).trans as1
          have m5_1 : w5.cell? ⟨w.heap.size, 1, none⟩ = some (.bool s1) := (kc5 _ _ as0).trans as1
          have v5_1 : w5.frozen? ⟨w.heap.size, 1, none⟩ = false := (kf5 _ _ as0).trans as1
          have m5_2 : w5.cell? ⟨w.heap.size + 1, 0, none⟩ = some (.slice A2 l2.length c2) := (kc5 _ _ as0).trans as1
          have v5_2 : w5.frozen? ⟨w.heap.size + 1, 0, none⟩ = false := (kf5 _ _ as0).trans as1
          have m5_3 : w5.cell? ⟨w.heap.size + 1, 1, none⟩ = some (.bool s2) := (kc5 _ _ as0).trans as1
          have v5_3 : w5.frozen? ⟨w.heap.size + 1, 1, none⟩ = false := (kf5 _ _ as0).trans as1
          have m5_4 : w5.cell? ⟨w.heap.size + 2, 0, none⟩ = some (.slice none 0 0) := (kc5 _ _ as0).trans as1
          have v5_4 : w5.frozen? ⟨w.heap.size + 2, 0, none⟩ = false := (kf5 _ _ as0).trans as1
          have m5_5 : w5.cell? ⟨w.heap.size + 2, 1, none⟩ = some (.bool false) := (kc5 _ _ as0).trans as1
          have v5_5 : w5.frozen? ⟨w.heap.size + 2, 1, none⟩ = false := (kf5 _ _ as0).trans as1
          clear kc5 kf5
          clear hb
          go_wp2_with fail
          refine region_anyT (S := fun wS => Below w5.heap.size w5 wS) (n := 7) kr (Below.refl _ _).drew (fun hS inv => ?_)
          refine anyT_take (i := 0) (oi := _) (v := Value.pointer (some ⟨w.heap.size, 0, none⟩)) rfl kr kr kr (by decide) (by decide) kr kr inv (fun _ _ _ h => h) (Or.inl ⟨kr, ?_⟩) hS (fun inv => ?_)
          · intro wz hSw
            first | kernel_rfl | go_simp
          (try simp only [Act.put, q2, q3, q4, q5, q6, q7])
          refine anyT_take (i := 1) (oi := _) (v := Value.slice A1 l1.length c1) rfl kr kr kr (by decide) (by decide) kr kr inv (fun _ _ _ h => h) (Or.inl ⟨kr, ?_⟩) hS (fun inv => ?_)
          · intro wz hSw
            have hk0 := (hSw : Below _ _ _).cell (p := ⟨w.heap.size, 0, none⟩) as0; go_simp
          (try simp only [Act.put, q2, q3, q4, q5, q6, q7])
          refine anyT_take (i := 2) (oi := _) (v := Value.int IntKind.i64 (l1.length : Nat)) rfl kr kr kr (by decide) (by decide) kr kr inv (fun _ _ _ h => h) (Or.inl ⟨kr, ?_⟩) hS (fun inv => ?_)
          · intro wz hSw
            go_simp
          (try simp only [Act.put, q2, q3, q4, q5, q6, q7])
          refine anyT_take (i := 4) (oi := _) (v := Value.pointer (some ⟨w.heap.size, 1, none⟩)) rfl kr kr kr (by decide) (by decide) kr kr inv (fun _ _ _ h => h) (Or.inl ⟨kr, ?_⟩) hS (fun inv => ?_)
          · intro wz hSw
            first | kernel_rfl | go_simp
          (try simp only [Act.put, q2, q3, q4, q5, q6, q7])
          refine anyT_take (i := 5) (oi := _) (v := Value.bool s1) rfl kr kr kr (by decide) (by decide) kr kr inv (fun _ _ _ h => h) (Or.inl ⟨kr, ?_⟩) hS (fun inv => ?_)
          · intro wz hSw
            have hk0 := (hSw : Below _ _ _).cell (p := ⟨w.heap.size, 1, none⟩) as0; go_simp
          (try simp only [Act.put, q2, q3, q4, q5, q6, q7])
          refine anyT_ready (rs := [3]) kr (by simp) ?_
          refine ReadyT.head (o := _) rfl (by decide) kr inv (fun K hK => ?_) ReadyT.nil
          refine step_make_bv (by rfl) _ _ (by rfl) _ _ l1.length kr kr rfl rfl (by omega) ?_
          intro w6 hrm hb
          refine hK.out _ _ ?_ (fun hS inv => ?_)
          · exact (hS : Below w5.heap.size w5 _).trans (hb.mono (Below.size hS))
          clear hK K
          (try simp only [Act.put, q2, q3, q4, q5, q6, q7])
          replace O1 := hide ((show RG w.heap.size (w.heap.size + 3) _ A1 l1 from rgT O1).kept hb)
          replace O2 := hide ((show RG w.heap.size (w.heap.size + 3) _ A2 l2 from rgT O2).kept hb)
          have hB6 : Below w.heap.size w w6 := Below.trans belo (hb.mono as4)
          obtain ⟨kc6, kf6⟩ := bcell hb
          have hz6 := hb.size
          (try simp at hz6)
          have n6_0 : w.heap.size < w6.heap.size := by omega
          have n6_1 : w.heap.size + 1 < w6.heap.size := by omega
          have n6_2 : w.heap.size + 2 < w6.heap.size := by omega
          have m6_0 : w6.cell? ⟨w.heap.size, 0, none⟩ = some (.slice A1 l1.length c1) := (kc6 _ _ as0).trans as1
          have v6_0 : w6.frozen? ⟨w.heap.size, 0, none⟩ = false := (kf6 _ _ as0).trans as1
          have m6_1 : w6.cell? ⟨w.heap.size, 1, none⟩ = some (.bool s1) := (kc6 _ _ as0).trans as1
          have v6_1 : w6.frozen? ⟨w.heap.size, 1, none⟩ = false := (kf6 _ _ as0).trans as1
          have m6_2 : w6.cell? ⟨w.heap.size + 1, 0, none⟩ = some (.slice A2 l2.length c2) := (kc6 _ _ as0).trans as1
          have v6_2 : w6.frozen? ⟨w.heap.size + 1, 0, none⟩ = false := (kf6 _ _ as0).trans as1
          have m6_3 : w6.cell? ⟨w.heap.size + 1, 1, none⟩ = some (.bool s2) := (kc6 _ _ as0).trans as1
          have v6_3 : w6.frozen? ⟨w.heap.size + 1, 1, none⟩ = false := (kf6 _ _ as0).trans as1
          have m6_4 : w6.cell? ⟨w.heap.size + 2, 0, none⟩ = some (.slice none 0 0) := (kc6 _ _ as0).trans as1
          have v6_4 : w6.frozen? ⟨w.heap.size + 2, 0, none⟩ = false := (kf6 _ _ as0).trans as1
          have m6_5 : w6.cell? ⟨w.heap.size + 2, 1, none⟩ = some (.bool false) := (kc6 _ _ as0).trans as1
          have v6_5 : w6.frozen? ⟨w.heap.size + 2, 1, none⟩ = false := (kf6 _ _ as0).trans as1
          clear kc6 kf6
          clear hb
          obtain ⟨z, hz⟩ : ∃ z, z = bl l1.length fun _ => false := ⟨_, rfl⟩
          have zl : z.length = l1.length := by rw [hz, bl_length]
          have HZ := hide hz
          have OM := hide (show Rd w6 (some ⟨w5.drew.heap.size, 0, none⟩) z from Own.rd (B := 0) (fun _ => ⟨_, rfl, Nat.zero_le _, by rw [zl]; exact hrm.congr fun i hi => by rw [hz, bt_bl_lt hi]⟩))
          have hcall := hide (vector_any (some ⟨w5.drew.heap.size, 0, none⟩) z l1.length s1 w6 (by omega) OM.out)
          rw [zl] at hcall
          clear hz zl hrm OM
          refine anyT_ready (rs := [6]) kr (by simp) ?_
          refine ReadyT.head (o := _) rfl (by decide) kr inv (fun K hK => ?_) ReadyT.nil
          go_simp
          refine (hcall.out).mono ?_
          rintro e w7 ⟨l3, s3, A3, c3, E3, rfl, C3, O3, hb⟩
          go_wp2_with fail
          refine hK.out _ _ ?_ (fun hS inv => ?_)
          · exact (hS : Below w5.heap.size w5 _).trans (hb.mono (Below.size hS))
          clear hK K
          (try simp only [Act.put, q2, q3, q4, q5, q6, q7])
          replace O1 := hide ((show RG w.heap.size (w.heap.size + 3) _ A1 l1 from rgT O1).kept hb)
          replace O2 := hide ((show RG w.heap.size (w.heap.size + 3) _ A2 l2 from rgT O2).kept hb)
          replace O3 := hide (O3.out.base (show w.heap.size + 3 ≤ _ by first | omega | (simp; omega) | (simp; done)))
          have hB7 : Below w.heap.size w w7 := Below.trans belo (hb.mono as4)
          obtain ⟨kc7, kf7⟩ := bcell hb
          have hz7 := hb.size
          (try simp at hz7)
          have n7_0 : w.heap.size < w7.heap.size := by omega
          have n7_1 : w.heap.size + 1 < w7.heap.size := by omega
          have n7_2 : w.heap.size + 2 < w7.heap.size := by omega
          have m7_0 : w7.cell? ⟨w.heap.size, 0, none⟩ = some (.slice A1 l1.length c1) := (kc7 _ _ as0).trans as1
          have v7_0 : w7.frozen? ⟨w.heap.size, 0, none⟩ = false := (kf7 _ _ as0).trans as1
          have m7_1 : w7.cell? ⟨w.heap.size, 1, none⟩ = some (.bool s1) := (kc7 _ _ as0).trans as1
          have v7_1 : w7.frozen? ⟨w.heap.size, 1, none⟩ = false := (kf7 _ _ as0).trans as1
          have m7_2 : w7.cell? ⟨w.heap.size + 1, 0, none⟩ = some (.slice A2 l2.length c2) := (kc7 _ _ as0).trans as1
          have v7_2 : w7.frozen? ⟨w.heap.size + 1, 0, none⟩ = false := (kf7 _ _ as0).trans as1
          have m7_3 : w7.cell? ⟨w.heap.size + 1, 1, none⟩ = some (.bool s2) := (kc7 _ _ as0).trans as1
          have v7_3 : w7.frozen? ⟨w.heap.size + 1, 1, none⟩ = false := (kf7 _ _ as0).trans as1
          have m7_4 : w7.cell? ⟨w.heap.size + 2, 0, none⟩ = some (.slice none 0 0) := (kc7 _ _ as0).trans as1
          have v7_4 : w7.frozen? ⟨w.heap.size + 2, 0, none⟩ = false := (kf7 _ _ as0).trans as1
          have m7_5 : w7.cell? ⟨w.heap.size + 2, 1, none⟩ = some (.bool false) := (kc7 _ _ as0).trans as1
          have v7_5 : w7.frozen? ⟨w.heap.size + 2, 1, none⟩ = false := (kf7 _ _ as0).trans as1
          clear kc7 kf7
          clear hb
          refine anyT_ready (rs := [7]) kr (by simp) ?_
          refine ReadyT.tail (o := _) rfl (by decide) (fun K hK => ?_)
          go_simp
          refine hK.out _ _ ?_
          clear hK K
          (try simp only [Act.put, q2, q3, q4, q5, q6, q7])
          refine anyT_done kr ?_ _
          go_wp2
          refine bodyPost_ret (v := .agg #[.slice A3 l3.length c3, .bool s3]) (by simp [results, Tryz.results63, go_sem, *]) rfl ?_
          exact ⟨l3, s3, A3, c3, hide (E3.out.trans (by rw [HR.out, HZ.out, zr_fb]; unfold zr; rw [cnt_of_gd (v := ⟨l1, s1⟩) HG1.out]; simp [H0.out, H1.out, HM.out])), rfl, C3, hide (OwQ.base (B := w.heap.size + 3) (owT O3) (by omega)), belo⟩
      · go_wp2_with fail
        refine (hxt.out _ (by refine RG.rd (B0 := w.heap.size) (B1 := w.heap.size + 3) ?_; (repeat (first | with_reducible exact O2.out | with_reducible refine RG.setc ?_ as3 as3 _ | with_reducible refine RG.allc ?_ _ | with_reducible refine RG.drew ?_ | with_reducible refine RG.drewN ?_ _)))).mono ?_
        rintro e w3 ⟨rfl, hb⟩
        replace O1 := hide ((show RG w.heap.size (w.heap.size + 3) _ A1 l1 from rgT O1).kept hb)
        replace O2 := hide ((show RG w.heap.size (w.heap.size + 3) _ A2 l2 from rgT O2).kept hb)
        have hB3 : Below w.heap.size w w3 := Below.trans belo (hb.mono as4)
        obtain ⟨kc3, kf3⟩ := bcell hb
        have hz3 := hb.size
        (try simp at hz3)
        have n3_0 : w.heap.size < w3.heap.size := by omega
        have n3_1 : w.heap.size + 1 < w3.heap.size := by omega
        have n3_2 : w.heap.size + 2 < w3.heap.size := by omega
        have m3_0 : w3.cell? ⟨w.heap.size, 0, none⟩ = some (.slice A1 l1.length c1) := (kc3 _ _ as0).trans as1
        have v3_0 : w3.frozen? ⟨w.heap.size, 0, none⟩ = false := (kf3 _ _ as0).trans as1
        have m3_1 : w3.cell? ⟨w.heap.size, 1, none⟩ = some (.bool s1) := (kc3 _ _ as0).trans as1
        have v3_1 : w3.frozen? ⟨w.heap.size, 1, none⟩ = false := (kf3 _ _ as0).trans as1
        have m3_2 : w3.cell? ⟨w.heap.size + 1, 0, none⟩ = some (.slice A2 l2.length c2) := (kc3 _ _ as0).trans as1
        have v3_2 : w3.frozen? ⟨w.heap.size + 1, 0, none⟩ = false := (kf3 _ _ as0).trans as1
        have m3_3 : w3.cell? ⟨w.heap.size + 1, 1, none⟩ = some (.bool s2) := (kc3 _ _ as0).trans as1
        have v3_3 : w3.frozen? ⟨w.heap.size + 1, 1, none⟩ = false := (kf3 _ _ as0).trans as1
        have m3_4 : w3.cell? ⟨w.heap.size + 2, 0, none⟩ = some (.slice none 0 0) := (kc3 _ _ as0).trans as1
        have v3_4 : w3.frozen? ⟨w.heap.size + 2, 0, none⟩ = false := (kf3 _ _ as0).trans as1
        have m3_5 : w3.cell? ⟨w.heap.size + 2, 1, none⟩ = some (.bool false) := (kc3 _ _ as0).trans as1
        have v3_5 : w3.frozen? ⟨w.heap.size + 2, 1, none⟩ = false := (kf3 _ _ as0).trans as1
        clear kc3 kf3
        clear hb
        go_wp2_with fail
        refine region_anyT (S := fun wS => Below w3.heap.size w3 wS) (n := 10) kr (Below.refl _ _).drew (fun hS inv => ?_)
        refine anyT_take (i := 0) (oi := _) (v := Value.pointer (some ⟨w.heap.size, 0, none⟩)) rfl kr kr kr (by decide) (by decide) kr kr inv (fun _ _ _ h => h) (Or.inl ⟨kr, ?_⟩) hS (fun inv => ?_)
        · intro wz hSw
          first | kernel_rfl | go_simp
        (try simp only [Act.put, q2, q3, q4, q5, q6, q7])
        refine anyT_take (i := 1) (oi := _) (v := Value.slice A1 l1.length c1) rfl kr kr kr (by decide) (by decide) kr kr inv (fun _ _ _ h => h) (Or.inl ⟨kr, ?_⟩) hS (fun inv => ?_)
        · intro wz hSw
          have hk0 := (hSw : Below _ _ _).cell (p := ⟨w.heap.size, 0, none⟩) as0; go_simp
        (try simp only [Act.put, q2, q3, q4, q5, q6, q7])
        refine anyT_take (i := 3) (oi := _) (v := Value.pointer (some ⟨w.heap.size + 1, 0, none⟩)) rfl kr kr kr (by decide) (by decide) kr kr inv (fun _ _ _ h => h) (Or.inl ⟨kr, ?_⟩) hS (fun inv => ?_)
        · intro wz hSw
          first | kernel_rfl | go_simp
        (try simp only [Act.put, q2, q3, q4, q5, q6, q7])
        refine anyT_take (i := 4) (oi := _) (v := Value.slice A2 l2.length c2) rfl kr kr kr (by decide) (by decide) kr kr inv (fun _ _ _ h => h) (Or.inl ⟨kr, ?_⟩) hS (fun inv => ?_)
        · intro wz hSw
          have hk0 := (hSw : Below _ _ _).cell (p := ⟨w.heap.size + 1, 0, none⟩) as0; go_simp
        (try simp only [Act.put, q2, q3, q4, q5, q6, q7])
        refine anyT_take (i := 7) (oi := _) (v := Value.pointer (some ⟨w.heap.size, 1, none⟩)) rfl kr kr kr (by decide) (by decide) kr kr inv (fun _ _ _ h => h) (Or.inl ⟨kr, ?_⟩) hS (fun inv => ?_)
        · intro wz hSw
          first | kernel_rfl | go_simp
        (try simp only [Act.put, q2, q3, q4, q5, q6, q7])
        refine anyT_take (i := 8) (oi := _) (v := Value.bool s1) rfl kr kr kr (by decide) (by decide) kr kr inv (fun _ _ _ h => h) (Or.inl ⟨kr, ?_⟩) hS (fun inv => ?_)
        · intro wz hSw
          have hk0 := (hSw : Below _ _ _).cell (p := ⟨w.heap.size, 1, none⟩) as0; go_simp
        (try simp only [Act.put, q2, q3, q4, q5, q6, q7])
        refine anyT_ready (rs := [2]) kr (by simp) ?_
        refine ReadyT.head (o := _) rfl (by decide) kr inv (fun K hK => ?_) ReadyT.nil
        go_simp
        refine (number_q A1 l1 c1 _ (by omega) (by refine RG.rd (B0 := w.heap.size) (B1 := w.heap.size + 3) ?_; (repeat (first | with_reducible exact O1.out | with_reducible refine RG.setc ?_ as3 as3 _ | with_reducible refine RG.allc ?_ _ | with_reducible refine RG.drew ?_ | with_reducible refine RG.drewN ?_ _)))).mono ?_
        rintro e w4 ⟨lm, Am, cm, Em, rfl, Cm, Om, hb⟩
        go_wp2_with fail
        refine hK.out _ _ ?_ (fun hS inv => ?_)
        · exact (hS : Below w3.heap.size w3 _).trans (hb.mono (Below.size hS))
        clear hK K
        (try simp only [Act.put, q2, q3, q4, q5, q6, q7])
        replace O1 := hide ((show RG w.heap.size (w.heap.size + 3) _ A1 l1 from rgT O1).kept hb)
        replace O2 := hide ((show RG w.heap.size (w.heap.size + 3) _ A2 l2 from rgT O2).kept hb)
        replace Om := hide Om.out.rd
        have hB4 : Below w.heap.size w w4 := Below.trans belo (hb.mono as4)
        obtain ⟨kc4, kf4⟩ := bcell hb
        have hz4 := hb.size
        (try simp at hz4)
        have n4_0 : w.heap.size < w4.heap.size := by omega
        have n4_1 : w.heap.size + 1 < w4.heap.size := by omega
        have n4_2 : w.heap.size + 2 < w4.heap.size := by omega
        have m4_0 : w4.cell? ⟨w.heap.size, 0, none⟩ = some (.slice A1 l1.length c1) := (kc4 _ _ as0).trans as1
        have v4_0 : w4.frozen? ⟨w.heap.size, 0, none⟩ = false := (kf4 _ _ as0).trans as1
        have m4_1 : w4.cell? ⟨w.heap.size, 1, none⟩ = some (.bool s1) := (kc4 _ _ as0).trans as1
        have v4_1 : w4.frozen? ⟨w.heap.size, 1, none⟩ = false := (kf4 _ _ as0).trans as1
        have m4_2 : w4.cell? ⟨w.heap.size + 1, 0, none⟩ = some (.slice A2 l2.length c2) := (kc4 _ _ as0).trans as1
        have v4_2 : w4.frozen? ⟨w.heap.size + 1, 0, none⟩ = false := (kf4 _ _ as0).trans as1
        have m4_3 : w4.cell? ⟨w.heap.size + 1, 1, none⟩ = some (.bool s2) := (kc4 _ _ as0).trans as1
        have v4_3 : w4.frozen? ⟨w.heap.size + 1, 1, none⟩ = false := (kf4 _ _ as0).trans as1
        have m4_4 : w4.cell? ⟨w.heap.size + 2, 0, none⟩ = some (.slice none 0 0) := (kc4 _ _ as0).trans as1
        have v4_4 : w4.frozen? ⟨w.heap.size + 2, 0, none⟩ = false := (kf4 _ _ as0).trans as1
        have m4_5 : w4.cell? ⟨w.heap.size + 2, 1, none⟩ = some (.bool false) := (kc4 _ _ as0).trans as1
        have v4_5 : w4.frozen? ⟨w.heap.size + 2, 1, none⟩ = false := (kf4 _ _ as0).trans as1
        clear kc4 kf4
        clear hb
        have em : lm.length ≤ 4096 := by rw [Em.out, nb_length]; omega
        have em2 := hide (show lm.length = l1.length by rw [Em.out, nb_length])
        refine anyT_ready (rs := [5]) kr (by simp) ?_
        refine ReadyT.head (o := _) rfl (by decide) kr inv (fun K hK => ?_) ReadyT.nil
        go_simp
        refine (number_q A2 l2 c2 _ (by omega) (by refine RG.rd (B0 := w.heap.size) (B1 := w.heap.size + 3) ?_; (repeat (first | with_reducible exact O2.out | with_reducible refine RG.setc ?_ as3 as3 _ | with_reducible refine RG.allc ?_ _ | with_reducible refine RG.drew ?_ | with_reducible refine RG.drewN ?_ _)))).mono ?_
        rintro e w5 ⟨lk, Ak, ck, Ek, rfl, Ck, Ok, hb⟩
        go_wp2_with fail
        refine hK.out _ _ ?_ (fun hS inv => ?_)
        · exact (hS : Below w3.heap.size w3 _).trans (hb.mono (Below.size hS))
        clear hK K
        (try simp only [Act.put, q2, q3, q4, q5, q6, q7])
        replace Om := hide (Rd.below (by exact Om.out) hb)
        replace O1 := hide ((show RG w.heap.size (w.heap.size + 3) _ A1 l1 from rgT O1).kept hb)
        replace O2 := hide ((show RG w.heap.size (w.heap.size + 3) _ A2 l2 from rgT O2).kept hb)
        replace Ok := hide Ok.out.rd
        have hB5 : Below w.heap.size w w5 := Below.trans belo (hb.mono as4)
        obtain ⟨kc5, kf5⟩ := bcell hb
        have hz5 := hb.size
        (try simp at hz5)
        have n5_0 : w.heap.size < w5.heap.size := by omega
        have n5_1 : w.heap.size + 1 < w5.heap.size := by omega
        have n5_2 : w.heap.size + 2 < w5.heap.size := by omega
        have m5_0 : w5.cell? ⟨w.heap.size, 0, none⟩ = some (.slice A1 l1.length c1) := (kc5 _ _ as0).trans as1
        have v5_0 : w5.frozen? ⟨w.heap.size, 0, none⟩ = false := (kf5 _ _ as0).trans as1
        have m5_1 : w5.cell? ⟨w.heap.size, 1, none⟩ = some (.bool s1) := (kc5 _ _ as0).trans as1
        have v5_1 : w5.frozen? ⟨w.heap.size, 1, none⟩ = false := (kf5 _ _ as0).trans as1
        have m5_2 : w5.cell? ⟨w.heap.size + 1, 0, none⟩ = some (.slice A2 l2.length c2) := (kc5 _ _ as0).trans as1
        have v5_2 : w5.frozen? ⟨w.heap.size + 1, 0, none⟩ = false := (kf5 _ _ as0).trans as1
        have m5_3 : w5.cell? ⟨w.heap.size + 1, 1, none⟩ = some (.bool s2) := (kc5 _ _ as0).trans as1
        have v5_3 : w5.frozen? ⟨w.heap.size + 1, 1, none⟩ = false := (kf5 _ _ as0).trans as1
        have m5_4 : w5.cell? ⟨w.heap.size + 2, 0, none⟩ = some (.slice none 0 0) := (kc5 _ _ as0).trans as1
        have v5_4 : w5.frozen? ⟨w.heap.size + 2, 0, none⟩ = false := (kf5 _ _ as0).trans as1
        have m5_5 : w5.cell? ⟨w.heap.size + 2, 1, none⟩ = some (.bool false) := (kc5 _ _ as0).trans as1
        have v5_5 : w5.frozen? ⟨w.heap.size + 2, 1, none⟩ = false := (kf5 _ _ as0).trans as1
        clear kc5 kf5
        clear hb
        have ek : lk.length ≤ 4096 := by rw [Ek.out, nb_length]; omega
        refine anyT_ready (rs := [6]) kr (by simp) ?_
        refine ReadyT.head (o := _) rfl (by decide) kr inv (fun K hK => ?_) ReadyT.nil
        go_simp
        refine (pow_q Am Ak lm lk cm ck _ em ek Om.out Ok.out).mono ?_
        rintro e w6 ⟨lp, Ap, cp, Ep, rfl, Cp, Op, hb⟩
        go_wp2_with fail
        refine hK.out _ _ ?_ (fun hS inv => ?_)
        · exact (hS : Below w3.heap.size w3 _).trans (hb.mono (Below.size hS))
        clear hK K
        (try simp only [Act.put, q2, q3, q4, q5, q6, q7])
        replace Om := hide (Rd.below (by exact Om.out) hb)
        replace Ok := hide (Rd.below (by exact Ok.out) hb)
        replace O1 := hide ((show RG w.heap.size (w.heap.size + 3) _ A1 l1 from rgT O1).kept hb)
        replace O2 := hide ((show RG w.heap.size (w.heap.size + 3) _ A2 l2 from rgT O2).kept hb)
        replace Op := hide Op.out.rd
        have hB6 : Below w.heap.size w w6 := Below.trans belo (hb.mono as4)
        obtain ⟨kc6, kf6⟩ := bcell hb
        have hz6 := hb.size
        (try simp at hz6)
        have n6_0 : w.heap.size < w6.heap.size := by omega
        have n6_1 : w.heap.size + 1 < w6.heap.size := by omega
        have n6_2 : w.heap.size + 2 < w6.heap.size := by omega
        have m6_0 : w6.cell? ⟨w.heap.size, 0, none⟩ = some (.slice A1 l1.length c1) := (kc6 _ _ as0).trans as1
        have v6_0 : w6.frozen? ⟨w.heap.size, 0, none⟩ = false := (kf6 _ _ as0).trans as1
        have m6_1 : w6.cell? ⟨w.heap.size, 1, none⟩ = some (.bool s1) := (kc6 _ _ as0).trans as1
        have v6_1 : w6.frozen? ⟨w.heap.size, 1, none⟩ = false := (kf6 _ _ as0).trans as1
        have m6_2 : w6.cell? ⟨w.heap.size + 1, 0, none⟩ = some (.slice A2 l2.length c2) := (kc6 _ _ as0).trans as1
        have v6_2 : w6.frozen? ⟨w.heap.size + 1, 0, none⟩ = false := (kf6 _ _ as0).trans as1
        have m6_3 : w6.cell? ⟨w.heap.size + 1, 1, none⟩ = some (.bool s2) := (kc6 _ _ as0).trans as1
        have v6_3 : w6.frozen? ⟨w.heap.size + 1, 1, none⟩ = false := (kf6 _ _ as0).trans as1
        have m6_4 : w6.cell? ⟨w.heap.size + 2, 0, none⟩ = some (.slice none 0 0) := (kc6 _ _ as0).trans as1
        have v6_4 : w6.frozen? ⟨w.heap.size + 2, 0, none⟩ = false := (kf6 _ _ as0).trans as1
        have m6_5 : w6.cell? ⟨w.heap.size + 2, 1, none⟩ = some (.bool false) := (kc6 _ _ as0).trans as1
        have v6_5 : w6.frozen? ⟨w.heap.size + 2, 1, none⟩ = false := (kf6 _ _ as0).trans as1
        clear kc6 kf6
        clear hb
        have ep : lp.length ≤ 4096 := by rw [Ep.out, vz_length]; omega
        refine anyT_ready (rs := [9]) kr (by simp) ?_
        refine ReadyT.head (o := _) rfl (by decide) kr inv (fun K hK => ?_) ReadyT.nil
        go_simp
        refine (vector_any Ap lp cp s1 _ ep Op.out).mono ?_
        rintro e w7 ⟨l3, s3, A3, c3, E3, rfl, C3, O3, hb⟩
        go_wp2_with fail
        refine hK.out _ _ ?_ (fun hS inv => ?_)
        · exact (hS : Below w3.heap.size w3 _).trans (hb.mono (Below.size hS))
        clear hK K
        (try simp only [Act.put, q2, q3, q4, q5, q6, q7])
        replace Om := hide (Rd.below (by exact Om.out) hb)
        replace Ok := hide (Rd.below (by exact Ok.out) hb)
        replace Op := hide (Rd.below (by exact Op.out) hb)
        replace O1 := hide ((show RG w.heap.size (w.heap.size + 3) _ A1 l1 from rgT O1).kept hb)
        replace O2 := hide ((show RG w.heap.size (w.heap.size + 3) _ A2 l2 from rgT O2).kept hb)
        replace O3 := hide (O3.out.base (show w.heap.size + 3 ≤ _ by first | omega | (simp; omega) | (simp; done)))
        have hB7 : Below w.heap.size w w7 := Below.trans belo (hb.mono as4)
        obtain ⟨kc7, kf7⟩ := bcell hb
        have hz7 := hb.size
        (try simp at hz7)
        have n7_0 : w.heap.size < w7.heap.size := by omega
        have n7_1 : w.heap.size + 1 < w7.heap.size := by omega
        have n7_2 : w.heap.size + 2 < w7.heap.size := by omega
        have m7_0 : w7.cell? ⟨w.heap.size, 0, none⟩ = some (.slice A1 l1.length c1) := (kc7 _ _ as0).trans as1
        have v7_0 : w7.frozen? ⟨w.heap.size, 0, none⟩ = false := (kf7 _ _ as0).trans as1
        have m7_1 : w7.cell? ⟨w.heap.size, 1, none⟩ = some (.bool s1) := (kc7 _ _ as0).trans as1
        have v7_1 : w7.frozen? ⟨w.heap.size, 1, none⟩ = false := (kf7 _ _ as0).trans as1
        have m7_2 : w7.cell? ⟨w.heap.size + 1, 0, none⟩ = some (.slice A2 l2.length c2) := (kc7 _ _ as0).trans as1
        have v7_2 : w7.frozen? ⟨w.heap.size + 1, 0, none⟩ = false := (kf7 _ _ as0).trans as1
        have m7_3 : w7.cell? ⟨w.heap.size + 1, 1, none⟩ = some (.bool s2) := (kc7 _ _ as0).trans as1
        have v7_3 : w7.frozen? ⟨w.heap.size + 1, 1, none⟩ = false := (kf7 _ _ as0).trans as1
        have m7_4 : w7.cell? ⟨w.heap.size + 2, 0, none⟩ = some (.slice none 0 0) := (kc7 _ _ as0).trans as1
        have v7_4 : w7.frozen? ⟨w.heap.size + 2, 0, none⟩ = false := (kf7 _ _ as0).trans as1
        have m7_5 : w7.cell? ⟨w.heap.size + 2, 1, none⟩ = some (.bool false) := (kc7 _ _ as0).trans as1
        have v7_5 : w7.frozen? ⟨w.heap.size + 2, 1, none⟩ = false := (kf7 _ _ as0).trans as1
        clear kc7 kf7
        clear hb
        refine anyT_ready (rs := [10]) kr (by simp) ?_
        refine ReadyT.tail (o := _) rfl (by decide) (fun K hK => ?_)
        go_simp
        refine hK.out _ _ ?_
        clear hK K
        (try simp only [Act.put, q2, q3, q4, q5, q6, q7])
        refine anyT_done kr ?_ _
        go_wp2
        refine bodyPost_ret (v := .agg #[.slice A3 l3.length c3, .bool s3]) (by simp [results, Tryz.results63, go_sem, *]) rfl ?_
        exact ⟨l3, s3, A3, c3, hide (E3.out.trans (by rw [HR.out, Ep.out, em2.out, Em.out, Ek.out]; simp [hx])), rfl, C3, hide (OwQ.base (B := w.heap.size + 3) (owT O3) (by omega)), belo⟩
end
section
open Go Go.RowKit
set_option maxRecDepth 100000
@[reducible] def pt (N i : Nat) : Value := .pointer (some ⟨N, i, none⟩)
@[reducible] def z_f : Value := .bool false
@[reducible] def z_t : Value := .bool true
@[reducible] def z_R (Na Nb Nx Nz NV : Nat) (b : Value) (k : Int) : Env := [(2, pt Na 0), (3, pt Nb 0), (4, b), (5, pt Nx 0), (6, pt Nz 0), (27, .slice (some ⟨NV, 0, none⟩) 24 24), (28, .int .i64 24), (29, .int .i64 k)]
theorem zGd {l : List Int} {s : Bool} {V : Vc} (E : Hid ((⟨l, s⟩ : Vc) = V)) (h : Gd V.b) : Gd l := by have e := congrArg Vc.b E.out; dsimp only at e; rw [e]; exact h
theorem zLe {l : List Int} (h : Gd l) : Hid (l.length ≤ 4096) := hide (Nat.le_trans h.le (by decide))
theorem zU {n : Nat} {w w1 w2 : World} (h : Below n w w1) (hn : n ≤ w1.heap.size) (hb : Below w1.heap.size w1 w2) : Below n w w2 := h.trans (hb.mono hn)
theorem zQ {w w' : World} {A : Option Addr} {l : List Int} (h : Hid (RQ w A l)) (hb : Below w.heap.size w w') : Hid (RQ w' A l) := kQ h hb
theorem zX {N n c : Nat} {A : Option Addr} {s : Bool} {w w' : World} (h : Hid (Box N A n c s w)) (hb : Below w.heap.size w w') : Hid (Box N A n c s w') := kB h hb
section
variable {P : Program} {Q : Exit → Act → World → Prop}
theorem ze {ops : Array Oper} {next : Act → World → Prop} {n : Nat} {E : Env} {w : World} (h : next (sl n E) w) : WL P ops (Exit.then next Q) [] n E w := wpl_end (then_normal h)
theorem zs {id : Nat} {l : List Oper} {c : Code} {n : Nat} {E : Env} {w : World} (h : WL P l.toArray (Exit.then (fun a w => c.wp P Q a w) Q) l n E w) : (Code.seq (Code.region id l.toArray false) c).wp P Q (sl n E) w := wp_seq (reg_lit h)
theorem zif {c : Operand} {x y : Code} {n : Nat} {E : Env} {w : World} (h : y.wp P Q (sl n E) w) (hc : evl n E c = .bool false := by kernel_rfl) : (Code.cond c x y).wp P Q (sl n E) w := wp_iff hc h
theorem zc {ops : Array Oper} {o : Oper} {rest : List Oper} {n d : Nat} {E : Env} {w : World} {f : FuncId} {args : Array Value} (hd : o.dst = some d) (hc : Calls P f args w fun e w' => ∃ v, e = .returned v ∧ WL P ops Q rest n ((d, v) :: E) w') (hw : wnt ops n E o = true := by kernel_rfl) (hr : (execOp (evl n E) o).run P w = .ok (.enter f args) w := by kernel_rfl) : WL P ops Q (o :: rest) n E w := wpl_call hd hw hr hc
theorem z1 {ops : Array Oper} {n : Nat} {o0 : Oper} {rest : List Oper} {E : Env} {w : World} (N : Env) (h : WL P ops Q rest n (N ++ E) w) (hr : runK P ops n 1 (o0 :: rest) E w = some (N ++ E, w) := by kernel_rfl) : WL P ops Q (o0 :: rest) n E w := wpl_r1 N hr h
theorem z3 {ops : Array Oper} {n : Nat} {o0 o1 o2 : Oper} {rest : List Oper} {E : Env} {w : World} (N : Env) (h : WL P ops Q rest n (N ++ E) w) (hr : runK P ops n 3 (o0 :: o1 :: o2 :: rest) E w = some (N ++ E, w) := by kernel_rfl) : WL P ops Q (o0 :: o1 :: o2 :: rest) n E w := wpl_r3 N hr h
theorem z5 {ops : Array Oper} {n : Nat} {o0 o1 o2 o3 o4 : Oper} {rest : List Oper} {E : Env} {w : World} (N : Env) (h : WL P ops Q rest n (N ++ E) w) (hr : runK P ops n 5 (o0 :: o1 :: o2 :: o3 :: o4 :: rest) E w = some (N ++ E, w) := by kernel_rfl) : WL P ops Q (o0 :: o1 :: o2 :: o3 :: o4 :: rest) n E w := wpl_r5 N hr h
theorem z6 {ops : Array Oper} {n : Nat} {o0 o1 o2 o3 o4 o5 : Oper} {rest : List Oper} {E : Env} {w : World} (N : Env) (h : WL P ops Q rest n (N ++ E) w) (hr : runK P ops n 6 (o0 :: o1 :: o2 :: o3 :: o4 :: o5 :: rest) E w = some (N ++ E, w) := by kernel_rfl) : WL P ops Q (o0 :: o1 :: o2 :: o3 :: o4 :: o5 :: rest) n E w := wpl_r6 N hr h
variable {ops : Array Oper} {W w : World} {n fuel m k : Nat} {E : Env}
theorem zav {i d m' : Nat} {o : Oper} {v : Value} (F : Rg ops n) (hQ : ∀ c a d v w, Q (.panic c) (Act.put a (some d) v) w → Q (.panic c) a w) (hi : ops[i]? = some o) (hd : o.dst = some d) (h : anyR P ops Q W n fuel m' k ((d, v) :: E) w)
    (hin : Nat.blt i n = true := by kernel_rfl) (hf : freeB ops ops.size m i o = true := by kernel_rfl) (hr : rdyB ops ops.size m i = true := by kernel_rfl) (hw : wnt ops k E o = true := by kernel_rfl) (hm : Nat.lor m (Nat.shiftLeft 1 i) = m' := by kernel_rfl)
    (hy : ∀ w', Below W.heap.size W w' → (execOp (evl k E) o).run P w' = .ok (.value v) w' := by intro _ _; kernel_rfl) : anyR P ops Q W n (fuel + 1) m k E w := anyR_val F hQ hi hd hin hf hr hw hm hy h
theorem zac {i d m' : Nat} {o : Oper} {f : FuncId} {args : Array Value} (hi : ops[i]? = some o) (hd : o.dst = some d) (hc : Calls P f args w fun e w' => ∃ v, e = .returned v ∧ Below w.heap.size w w' ∧ anyR P ops Q W n fuel m' k ((d, v) :: E) w')
    (hin : Nat.blt i n = true := by kernel_rfl) (ho : onlyB ops ops.size m i = true := by kernel_rfl) (hw : wnt ops k E o = true := by kernel_rfl) (hm : Nat.lor m (Nat.shiftLeft 1 i) = m' := by kernel_rfl)
    (hr : (execOp (evl k E) o).run P w = .ok (.enter f args) w := by kernel_rfl) : anyR P ops Q W n (fuel + 1) m k E w := anyR_call hi hd hin ho hw hm hr hc
end
section
variable {Q : Exit → Act → World → Prop} {ops : Array Oper} {o o2 : Oper} {rest : List Oper} {x y : Operand} {w W : World} {A : Option Addr} {N m c n d k : Nat} {s : Bool} {E : Env} {z : Int}
theorem zv (B : Box N A m c s w) (hd : o.dst = some d) (ho : o.op = .load 24 x) (h : WL Tryz.prog ops Q rest n ((d, vagg A m c s) :: E) w) (hw : wnt ops n E o = true := by kernel_rfl) (hx : evl n E x = .pointer (some ⟨N, 0, none⟩) := by kernel_rfl) : WL Tryz.prog ops Q (o :: rest) n E w := wpl_ldvec B hd hw ho hx h
theorem zl (B : Box N A m c s w) (hd : o.dst = some d) (ho : o.op = .load 22 x) (h : WL Tryz.prog ops Q rest n ((d, .slice A m c) :: E) w) (hw : wnt ops n E o = true := by kernel_rfl) (hx : evl n E x = .pointer (some ⟨N, 0, none⟩) := by kernel_rfl) : WL Tryz.prog ops Q (o :: rest) n E w := wpl_ldsl B hd hw ho hx h
theorem zm (hd : o.dst = some d) (ho : o.op = .alloc 24) (ho2 : o2.op = .store 24 x y)
    (h : ∀ (V : World) (N : Nat), Box N A m c s V → w.heap.size ≤ N → Below w.heap.size w V → WL Tryz.prog ops Q rest n ((d, .pointer (some ⟨N, 0, none⟩)) :: E) V)
    (hg : o.guard = none := by kernel_rfl) (hd2 : o2.dst = none := by kernel_rfl) (hg2 : o2.guard = none := by kernel_rfl) (hx : ∀ v : Value, evl n ((d, v) :: E) x = v := by intro _; kernel_rfl) (hy : ∀ v : Value, evl n ((d, v) :: E) y = vagg A m c s := by intro _; kernel_rfl) : WL Tryz.prog ops Q (o :: o2 :: rest) n E w := wpl_made hd hg ho hd2 hg2 ho2 hx hy h
end
end
section
open Go.RowKit
set_option maxRecDepth 100000
set_option linter.unusedSimpArgs false
set_option linter.unusedVariables false
theorem btw_first (a b : Vc) : btw (fun p _ => p) a b = ⟨blA a b, sg a b⟩ := by
  unfold btw
  refine Vc.ext' ?_ rfl
  rw [← blA_length a b]
  exact ql_qt _
theorem btw_second (a b : Vc) : btw (fun _ q => q) a b = ⟨blB a b, sg a b⟩ := by
  unfold btw
  refine Vc.ext' ?_ rfl
  rw [← blB_length a b]
  exact ql_qt _
theorem vCond_any (C : Option Addr) (z : List Int) (e : Nat) (r : Bool) (A B : Option Addr) (a b : List Int) (c d : Nat) (s t : Bool) (w : World) (ha : a.length ≤ 4096) (hb : b.length ≤ 4096) (hca : Hid (a.length ≤ c ∧ c ≤ maxLen)) (hcb : Hid (b.length ≤ d ∧ d ≤ maxLen)) (hA : RQ w A a) (hB : RQ w B b) (ya : By a) (yb : By b) (hz : z.length ≤ 4096) (hce : Hid (z.length ≤ e ∧ e ≤ maxLen)) (hC : RQ w C z) (yc : By z) (ht : Tabs w) :
    Calls Tryz.prog 33 #[.agg #[.slice C z.length e, .bool r], .agg #[.slice A a.length c, .bool s], .agg #[.slice B b.length d, .bool t]] w (RetC (· = vCond ⟨z, r⟩ ⟨a, s⟩ ⟨b, t⟩) w) := by
  have HA := hide hA
  have HBB := hide hB
  have LA := hide ha
  have LB := hide hb
  have YA := hide ya
  have YB := hide yb
  clear hA hB ha hb ya yb
  have HT := hide ht
  have HC := hide hC
  have LC := hide hz
  have YC := hide yc
  clear ht hC hz yc
  obtain ⟨v, hv⟩ : ∃ v, v = tr ⟨z, r⟩ := ⟨_, rfl⟩
  have hcall := hide fun W (hW : Below w.heap.size w W) => truth_any C z e r W LC.out hce (HC.out.below hW) YC.out (HT.out.kept hW)
  rw [← hv] at hcall
  have HV := hide hv
  clear hv
  by_cases h1 : v = 1
  · subst h1
    have HS := hide (show btw (fun p _ => p) ⟨a, s⟩ ⟨b, t⟩ = vCond ⟨z, r⟩ ⟨a, s⟩ ⟨b, t⟩ by unfold vCond; rw [← HV.out, if_pos rfl, btw_first])
    clear HV
    go_enter Tryz.func33, Tryz.ntmps33
    go_wp2_with fail
    refine (hcall.out _ belo).mono ?_
    rintro e w1 ⟨rfl, hb⟩
    have hB1 : Below w.heap.size w w1 := Below.trans belo (hb.mono as4)
    obtain ⟨kc1, kf1⟩ := bcell hb
    have hz1 := hb.size
    (try simp at hz1)
    have n1_0 : w.heap.size < w1.heap.size := by omega
    have n1_1 : w.heap.size + 1 < w1.heap.size := by omega
    have n1_2 : w.heap.size + 2 < w1.heap.size := by omega
    have n1_3 : w.heap.size + 3 < w1.heap.size := by omega
    have r1_0 : w1.cell? ⟨w.heap.size + 3, 0, none⟩ = some (.slice none 0 0) := (kc1 _ _ as0).trans as2
    have g1_0 : w1.frozen? ⟨w.heap.size + 3, 0, none⟩ = false := (kf1 _ _ as0).trans as2
    have r1_1 : w1.cell? ⟨w.heap.size + 3, 1, none⟩ = some (.bool false) := (kc1 _ _ as0).trans as2
    have g1_1 : w1.frozen? ⟨w.heap.size + 3, 1, none⟩ = false := (kf1 _ _ as0).trans as2
    clear hb
    go_wp2_with fail
    refine (bitwise_any _ _ opF_first A B a b c d s t _ LA.out LB.out hca hcb (HA.out.below belo) (HBB.out.below belo) YA.out YB.out (HT.out.kept belo)).mono ?_
    rintro e w2 ⟨l1, s1, A1, c1, E1, rfl, C1, O1, hb⟩
    replace O1 := hide (O1.out.base (show w.heap.size + 4 ≤ _ by first | omega | (simp; omega) | (simp; done)))
    have hB2 : Below w.heap.size w w2 := Below.trans belo (hb.mono as4)
    obtain ⟨kc2, kf2⟩ := bcell hb
    have hz2 := hb.size
    (try simp at hz2)
    have n2_0 : w.heap.size < w2.heap.size := by omega
    have n2_1 : w.heap.size + 1 < w2.heap.size := by omega
    have n2_2 : w.heap.size + 2 < w2.heap.size := by omega
    have n2_3 : w.heap.size + 3 < w2.heap.size := by omega
    have r2_0 : w2.cell? ⟨w.heap.size + 3, 0, none⟩ = some (.slice none 0 0) := (kc2 _ _ as0).trans as2
    have g2_0 : w2.frozen? ⟨w.heap.size + 3, 0, none⟩ = false := (kf2 _ _ as0).trans as2
    have r2_1 : w2.cell? ⟨w.heap.size + 3, 1, none⟩ = some (.bool false) := (kc2 _ _ as0).trans as2
    have g2_1 : w2.frozen? ⟨w.heap.size + 3, 1, none⟩ = false := (kf2 _ _ as0).trans as2
    clear hb
    go_wp2
    refine bodyPost_ret (v := .agg #[.slice A1 l1.length c1, .bool s1]) (by simp [results, Tryz.results33, go_sem, *]) rfl ?_
    exact ⟨l1, s1, A1, c1, hide (E1.out.trans HS.out), rfl, C1, hide (OwQ.base (B := w.heap.size + 4) (owT O1) (by omega)), belo⟩
  · by_cases h0 : v = 0
    · subst h0
      have HS := hide (show btw (fun _ q => q) ⟨a, s⟩ ⟨b, t⟩ = vCond ⟨z, r⟩ ⟨a, s⟩ ⟨b, t⟩ by unfold vCond; rw [← HV.out, if_neg h1, if_pos rfl, btw_second])
      clear HV h1
      go_enter Tryz.func33, Tryz.ntmps33
      go_wp2_with fail
      refine (hcall.out _ belo).mono ?_
      rintro e w1 ⟨rfl, hb⟩
      have hB1 : Below w.heap.size w w1 := Below.trans belo (hb.mono as4)
      obtain ⟨kc1, kf1⟩ := bcell hb
      have hz1 := hb.size
      (try simp at hz1)
      have n1_0 : w.heap.size < w1.heap.size := by omega
      have n1_1 : w.heap.size + 1 < w1.heap.size := by omega
      have n1_2 : w.heap.size + 2 < w1.heap.size := by omega
      have n1_3 : w.heap.size + 3 < w1.heap.size := by omega
      have r1_0 : w1.cell? ⟨w.heap.size + 3, 0, none⟩ = some (.slice none 0 0) := (kc1 _ _ as0).trans as2
      have g1_0 : w1.frozen? ⟨w.heap.size + 3, 0, none⟩ = false := (kf1 _ _ as0).trans as2
      have r1_1 : w1.cell? ⟨w.heap.size + 3, 1, none⟩ = some (.bool false) := (kc1 _ _ as0).trans as2
      have g1_1 : w1.frozen? ⟨w.heap.size + 3, 1, none⟩ = false := (kf1 _ _ as0).trans as2
      clear hb
      go_wp2_with fail
      refine (bitwise_any _ _ opF_second A B a b c d s t _ LA.out LB.out hca hcb (HA.out.below belo) (HBB.out.below belo) YA.out YB.out (HT.out.kept belo)).mono ?_
      rintro e w2 ⟨l1, s1, A1, c1, E1, rfl, C1, O1, hb⟩
      replace O1 := hide (O1.out.base (show w.heap.size + 4 ≤ _ by first | omega | (simp; omega) | (simp; done)))
      have hB2 : Below w.heap.size w w2 := Below.trans belo (hb.mono as4)
      obtain ⟨kc2, kf2⟩ := bcell hb
      have hz2 := hb.size
      (try simp at hz2)
      have n2_0 : w.heap.size < w2.heap.size := by omega
      have n2_1 : w.heap.size + 1 < w2.heap.size := by omega
      have n2_2 : w.heap.size + 2 < w2.heap.size := by omega
      have n2_3 : w.heap.size + 3 < w2.heap.size := by omega
      have r2_0 : w2.cell? ⟨w.heap.size + 3, 0, none⟩ = some (.slice none 0 0) := (kc2 _ _ as0).trans as2
      have g2_0 : w2.frozen? ⟨w.heap.size + 3, 0, none⟩ = false := (kf2 _ _ as0).trans as2
      have r2_1 : w2.cell? ⟨w.heap.size + 3, 1, none⟩ = some (.bool false) := (kc2 _ _ as0).trans as2
      have g2_1 : w2.frozen? ⟨w.heap.size + 3, 1, none⟩ = false := (kf2 _ _ as0).trans as2
      clear hb
      go_wp2
      refine bodyPost_ret (v := .agg #[.slice A1 l1.length c1, .bool s1]) (by simp [results, Tryz.results33, go_sem, *]) rfl ?_
      exact ⟨l1, s1, A1, c1, hide (E1.out.trans HS.out), rfl, C1, hide (OwQ.base (B := w.heap.size + 4) (owT O1) (by omega)), belo⟩
    · have HS := hide (show btw (mMux 2) ⟨a, s⟩ ⟨b, t⟩ = vCond ⟨z, r⟩ ⟨a, s⟩ ⟨b, t⟩ by unfold vCond; rw [← HV.out, if_neg h1, if_neg h0])
      clear HV
      have e1 : (v == 1) = false := by simpa using h1
      have e0 : (v == 0) = false := by simpa using h0
      go_enter Tryz.func33, Tryz.ntmps33
      go_wp2_with fail
      refine (hcall.out _ belo).mono ?_
      rintro e w1 ⟨rfl, hb⟩
      have hB1 : Below w.heap.size w w1 := Below.trans belo (hb.mono as4)
      obtain ⟨kc1, kf1⟩ := bcell hb
      have hz1 := hb.size
      (try simp at hz1)
      have n1_0 : w.heap.size < w1.heap.size := by omega
      have n1_1 : w.heap.size + 1 < w1.heap.size := by omega
      have n1_2 : w.heap.size + 2 < w1.heap.size := by omega
      have n1_3 : w.heap.size + 3 < w1.heap.size := by omega
      have r1_0 : w1.cell? ⟨w.heap.size + 3, 0, none⟩ = some (.slice none 0 0) := (kc1 _ _ as0).trans as2
      have g1_0 : w1.frozen? ⟨w.heap.size + 3, 0, none⟩ = false := (kf1 _ _ as0).trans as2
      have r1_1 : w1.cell? ⟨w.heap.size + 3, 1, none⟩ = some (.bool false) := (kc1 _ _ as0).trans as2
      have g1_1 : w1.frozen? ⟨w.heap.size + 3, 1, none⟩ = false := (kf1 _ _ as0).trans as2
      clear hb
      go_wp2_with fail
      refine (bitwise_any _ _ opF_mux A B a b c d s t _ LA.out LB.out hca hcb (HA.out.below belo) (HBB.out.below belo) YA.out YB.out (HT.out.kept belo)).mono ?_
      rintro e w2 ⟨l1, s1, A1, c1, E1, rfl, C1, O1, hb⟩
      replace O1 := hide (O1.out.base (show w.heap.size + 4 ≤ _ by first | omega | (simp; omega) | (simp; done)))
      have hB2 : Below w.heap.size w w2 := Below.trans belo (hb.mono as4)
      obtain ⟨kc2, kf2⟩ := bcell hb
      have hz2 := hb.size
      (try simp at hz2)
      have n2_0 : w.heap.size < w2.heap.size := by omega
      have n2_1 : w.heap.size + 1 < w2.heap.size := by omega
      have n2_2 : w.heap.size + 2 < w2.heap.size := by omega
      have n2_3 : w.heap.size + 3 < w2.heap.size := by omega
      have r2_0 : w2.cell? ⟨w.heap.size + 3, 0, none⟩ = some (.slice none 0 0) := (kc2 _ _ as0).trans as2
      have g2_0 : w2.frozen? ⟨w.heap.size + 3, 0, none⟩ = false := (kf2 _ _ as0).trans as2
      have r2_1 : w2.cell? ⟨w.heap.size + 3, 1, none⟩ = some (.bool false) := (kc2 _ _ as0).trans as2
      have g2_1 : w2.frozen? ⟨w.heap.size + 3, 1, none⟩ = false := (kf2 _ _ as0).trans as2
      clear hb
      go_wp2
      refine bodyPost_ret (v := .agg #[.slice A1 l1.length c1, .bool s1]) (by simp [results, Tryz.results33, go_sem, *]) rfl ?_
      exact ⟨l1, s1, A1, c1, hide (E1.out.trans HS.out), rfl, C1, hide (OwQ.base (B := w.heap.size + 4) (owT O1) (by omega)), belo⟩
end
end Go.Proofs.YtbcpeagannjgpaaGreatDoor
