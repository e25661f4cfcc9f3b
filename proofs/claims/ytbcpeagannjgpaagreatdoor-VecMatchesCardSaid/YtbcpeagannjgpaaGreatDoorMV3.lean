/-
  Texts of MV joined (VecH, VecJ, VecK, VecL, VecR, VecP, VecU, QR, VecW, VecRA).
-/
import Derived.Handy
import Derived.Test.YtbcpeagannjgpaaGreatDoorMV2
set_option linter.unusedVariables false
set_option linter.unusedSimpArgs false
set_option linter.unusedSectionVars false
namespace Go.Proofs.YtbcpeagannjgpaaGreatDoor
section
open Go.RowKit
set_option maxRecDepth 100000
set_option linter.unusedSimpArgs false
set_option linter.unusedVariables false
theorem fld0 (A : Option Addr) (n c : Nat) (s : Bool) (w : World) : (Instr.field 24 (.agg #[.slice A n c, .bool s]) 0).run Tryz.prog w = .ok (.slice A n c) w := by kernel_rfl
set_option maxHeartbeats 1000000 in
theorem reduce_any (N : Nat) (f : Int → Int → Int) (hop : OpF N f) (A : Option Addr) (a : List Int) (c : Nat) (s : Bool) (w : World) (ha : a.length ≤ 4096) (hca : Hid (a.length ≤ c ∧ c ≤ maxLen)) (hA : RQ w A a) (ya : By a) (ht : Tabs w) :
    Calls Tryz.prog 144 #[.agg #[.slice A a.length c, .bool s], .func (.func N) #[] #[]] w (Mk (.int .u8 (red f ⟨a, s⟩)) w) := by
  have hcf : ∀ args w, (callFunc N args).run Tryz.prog w = .ok (.enter N args) w := hop.cf
  have HO := hide hop
  have hfld := fld0
  have HT := hide ht
  have HA := hide hA
  have LA := hide ha
  have YA := hide ya
  clear hA ha ya
  clear hop ht
  obtain ⟨R, hR⟩ : ∃ R, R = red f ⟨a, s⟩ := ⟨_, rfl⟩
  rw [← hR]
  have HR := hide hR
  clear hR
  go_enter Tryz.func144, Tryz.ntmps144
  go_wp2_with fail
  refine (counted_any A a c s w _ LA.out hca HA.out belo).mono ?_
  rintro e w1 ⟨l1, s1, A1, c1, E1, rfl, C1, O1, hb⟩
  replace O1 := hide (O1.out.lower (show w.heap.size + 1 ≤ _ by first | omega | (simp; omega) | (simp; done)))
  have hB1 : Below w.heap.size w w1 := Below.trans belo (hb.mono as4)
  obtain ⟨kc1, kf1⟩ := bcell hb
  have hz1 := hb.size
  (try simp at hz1)
  have n1_0 : w.heap.size < w1.heap.size := by omega
  clear hb
  have G1 : Gd l1 := by have h := cnt_gd (v := ⟨a, s⟩) YA.out; rw [← E1.out] at h; exact h
  have p1 := G1.pos
  have p2 := G1.le
  obtain ⟨ad, rfl, hlt, _, hc0⟩ := O1.out G1.pos
  have HC0 := hide hc0
  have h00 := hc0 0 G1.pos
  have e00 : ad.add 0 = ad := by cases ad; simp [Addr.add]
  rw [e00] at h00
  clear hc0
  have HT1 := hide (HT.out.kept hB1)
  go_wp2_with fail
  refine (buf_q _ _ ((G1.bd 0).1) HT1.out.tb).mono ?_
  rintro e w' ⟨rfl, nd, rfl⟩
  obtain ⟨m, hm⟩ : ∃ m, l1.length = m + 1 := ⟨l1.length - 1, by omega⟩
  have HM := hide hm
  rw [hm]
  have hm2 : m ≤ 127 := by omega
  clear hm p1 p2
  have hm1 : m + 1 ≤ c1 := by have := C1.out.1; have := HM.out; omega
  have hr1 : Hid (∀ k, 0 ≤ rd f l1 k ∧ rd f l1 k ≤ 3) := hide fun k => by
    induction k with
    | zero => exact bd_of3 (mBuf_3 _)
    | succ k ih => exact HO.out.bd _ _ ih (G1.bd _)
  have HG1 := hide G1
  have e2 : red f ⟨a, s⟩ = rd f l1 m := by unfold red; rw [← E1.out]; show rd f l1 (l1.length - 1) = _; rw [HM.out]; rfl
  have E2 := hide (HR.out.trans e2)
  clear e2 G1
  go_wp2_with fail
  all_goals
    go_loopw [6, 19] (fun v i wr => ∃ k : Nat, k ≤ m ∧ i = .int .i64 k ∧ v = .int .u8 (rd f l1 k) ∧ ∃ n, wr = w1.drewN n) (fun _ i _ => m - (intOf i).toNat)
    case atStart => exact ⟨0, Nat.zero_le _, rfl, rfl, _, rfl⟩
    case round =>
      obtain ⟨k, hk, rfl, rfl, n, rfl⟩ := hrel
      by_cases hlt : k < m
      · first
          | (exfalso; omega)
          | (have hc := HC0.out (k + 1) (by have := HM.out; omega)
             have ea : ad.add (k + 1) = ⟨ad.block, ad.off + 1 + k, none⟩ := by unfold Addr.add; rw [if_neg (by omega)]; first | (simp; done) | (simp; omega)
             rw [ea] at hc
             clear ea
             have hcall := hide (HO.out.ct (rd f l1 k) (qt l1 (k + 1)) (w1.drewN n) (hr1.out k).1 (HG1.out.bd _).1 (HT1.out.drewN n))
             go_wp2_with ((with_reducible refine (hcall.out).mono ?_); rintro e w' ⟨rfl, n2, rfl⟩)
             go_roundw
             case rel => exact ⟨k + 1, by omega, by go_num, rfl, _, rfl⟩
             case measure => simp [intOf]; omega)
      · have e : k = m := by omega
        subst e
        go_wp2
        go_ret
        exact ⟨by rw [E2.out]; rfl, belo⟩
theorem truth_any (A : Option Addr) (a : List Int) (c : Nat) (s : Bool) (w : World) (ha : a.length ≤ 4096) (hca : Hid (a.length ≤ c ∧ c ≤ maxLen)) (hA : RQ w A a) (ya : By a) (ht : Tabs w) :
    Calls Tryz.prog 111 #[.agg #[.slice A a.length c, .bool s]] w (Mk (.int .u8 (tr ⟨a, s⟩)) w) := by
  have HA := hide hA
  have LA := hide ha
  have YA := hide ya
  clear hA ha ya
  have HT := hide ht
  clear ht
  go_enter Tryz.func111, Tryz.ntmps111
  go_wp2_with fail
  refine (reduce_any _ _ opF_or A a c s _ LA.out hca (HA.out.below belo) YA.out (HT.out.kept belo)).mono ?_
  rintro e w1 ⟨rfl, hb⟩
  have hB1 : Below w.heap.size w w1 := Below.trans belo (hb.mono as4)
  obtain ⟨kc1, kf1⟩ := bcell hb
  have hz1 := hb.size
  (try simp at hz1)
  have n1_0 : w.heap.size < w1.heap.size := by omega
  clear hb
  go_wp2
  go_ret
  exact ⟨rfl, belo⟩
theorem vRedAnd_any (A : Option Addr) (a : List Int) (c : Nat) (s : Bool) (w : World) (ha : a.length ≤ 4096) (hca : Hid (a.length ≤ c ∧ c ≤ maxLen)) (hA : RQ w A a) (ya : By a) (ht : Tabs w) :
    Calls Tryz.prog 66 #[.agg #[.slice A a.length c, .bool s]] w (RetC (· = sgl (red mAnd ⟨a, s⟩)) w) := by
  have HA := hide hA
  have LA := hide ha
  have YA := hide ya
  clear hA ha ya
  have HT := hide ht
  clear ht
  go_enter Tryz.func66, Tryz.ntmps66
  go_wp2_with fail
  refine (reduce_any _ _ opF_and A a c s _ LA.out hca (HA.out.below belo) YA.out (HT.out.kept belo)).mono ?_
  rintro e w1 ⟨rfl, hb⟩
  have hB1 : Below w.heap.size w w1 := Below.trans belo (hb.mono as4)
  obtain ⟨kc1, kf1⟩ := bcell hb
  have hz1 := hb.size
  (try simp at hz1)
  have n1_0 : w.heap.size < w1.heap.size := by omega
  have n1_1 : w.heap.size + 1 < w1.heap.size := by omega
  have r1_0 : w1.cell? ⟨w.heap.size + 1, 0, none⟩ = some (.slice none 0 0) := (kc1 _ _ as0).trans (by first | assumption | (simp; done))
  have g1_0 : w1.frozen? ⟨w.heap.size + 1, 0, none⟩ = false := (kf1 _ _ as0).trans (by first | assumption | (simp; done))
  have r1_1 : w1.cell? ⟨w.heap.size + 1, 1, none⟩ = some (.bool false) := (kc1 _ _ as0).trans (by first | assumption | (simp; done))
  have g1_1 : w1.frozen? ⟨w.heap.size + 1, 1, none⟩ = false := (kf1 _ _ as0).trans (by first | assumption | (simp; done))
  clear hb
  go_wp2_with fail
  refine (single_any _ _).mono ?_
  rintro e w2 ⟨l1, s1, A1, c1, E1, rfl, C1, O1, hb⟩
  replace O1 := hide (O1.out.base (show w.heap.size + 2 ≤ _ by first | omega | (simp; omega) | (simp; done)))
  have hB2 : Below w.heap.size w w2 := Below.trans belo (hb.mono as4)
  obtain ⟨kc2, kf2⟩ := bcell hb
  have hz2 := hb.size
  (try simp at hz2)
  have n2_0 : w.heap.size < w2.heap.size := by omega
  have n2_1 : w.heap.size + 1 < w2.heap.size := by omega
  have r2_0 : w2.cell? ⟨w.heap.size + 1, 0, none⟩ = some (.slice none 0 0) := (kc2 _ _ as0).trans (by first | assumption | (simp; done))
  have g2_0 : w2.frozen? ⟨w.heap.size + 1, 0, none⟩ = false := (kf2 _ _ as0).trans (by first | assumption | (simp; done))
  have r2_1 : w2.cell? ⟨w.heap.size + 1, 1, none⟩ = some (.bool false) := (kc2 _ _ as0).trans (by first | assumption | (simp; done))
  have g2_1 : w2.frozen? ⟨w.heap.size + 1, 1, none⟩ = false := (kf2 _ _ as0).trans (by first | assumption | (simp; done))
  clear hb
  go_wp2
  refine bodyPost_ret (v := .agg #[.slice A1 l1.length c1, .bool s1]) (by simp [results, Tryz.results66, go_sem, *]) rfl ?_
  exact ⟨l1, s1, A1, c1, hide (E1.out), rfl, C1, hide (OwQ.base (B := w.heap.size + 2) (owT O1) (by omega)), belo⟩
theorem vRedOr_any (A : Option Addr) (a : List Int) (c : Nat) (s : Bool) (w : World) (ha : a.length ≤ 4096) (hca : Hid (a.length ≤ c ∧ c ≤ maxLen)) (hA : RQ w A a) (ya : By a) (ht : Tabs w) :
    Calls Tryz.prog 67 #[.agg #[.slice A a.length c, .bool s]] w (RetC (· = sgl (red mOr ⟨a, s⟩)) w) := by
  have HA := hide hA
  have LA := hide ha
  have YA := hide ya
  clear hA ha ya
  have HT := hide ht
  clear ht
  go_enter Tryz.func67, Tryz.ntmps67
  go_wp2_with fail
  refine (reduce_any _ _ opF_or A a c s _ LA.out hca (HA.out.below belo) YA.out (HT.out.kept belo)).mono ?_
  rintro e w1 ⟨rfl, hb⟩
  have hB1 : Below w.heap.size w w1 := Below.trans belo (hb.mono as4)
  obtain ⟨kc1, kf1⟩ := bcell hb
  have hz1 := hb.size
  (try simp at hz1)
  have n1_0 : w.heap.size < w1.heap.size := by omega
  have n1_1 : w.heap.size + 1 < w1.heap.size := by omega
  have r1_0 : w1.cell? ⟨w.heap.size + 1, 0, none⟩ = some (.slice none 0 0) := (kc1 _ _ as0).trans (by first | assumption | (simp; done))
  have g1_0 : w1.frozen? ⟨w.heap.size + 1, 0, none⟩ = false := (kf1 _ _ as0).trans (by first | assumption | (simp; done))
  have r1_1 : w1.cell? ⟨w.heap.size + 1, 1, none⟩ = some (.bool false) := (kc1 _ _ as0).trans (by first | assumption | (simp; done))
  have g1_1 : w1.frozen? ⟨w.heap.size + 1, 1, none⟩ = false := (kf1 _ _ as0).trans (by first | assumption | (simp; done))
  clear hb
  go_wp2_with fail
  refine (single_any _ _).mono ?_
  rintro e w2 ⟨l1, s1, A1, c1, E1, rfl, C1, O1, hb⟩
  replace O1 := hide (O1.out.base (show w.heap.size + 2 ≤ _ by first | omega | (simp; omega) | (simp; done)))
  have hB2 : Below w.heap.size w w2 := Below.trans belo (hb.mono as4)
  obtain ⟨kc2, kf2⟩ := bcell hb
  have hz2 := hb.size
  (try simp at hz2)
  have n2_0 : w.heap.size < w2.heap.size := by omega
  have n2_1 : w.heap.size + 1 < w2.heap.size := by omega
  have r2_0 : w2.cell? ⟨w.heap.size + 1, 0, none⟩ = some (.slice none 0 0) := (kc2 _ _ as0).trans (by first | assumption | (simp; done))
  have g2_0 : w2.frozen? ⟨w.heap.size + 1, 0, none⟩ = false := (kf2 _ _ as0).trans (by first | assumption | (simp; done))
  have r2_1 : w2.cell? ⟨w.heap.size + 1, 1, none⟩ = some (.bool false) := (kc2 _ _ as0).trans (by first | assumption | (simp; done))
  have g2_1 : w2.frozen? ⟨w.heap.size + 1, 1, none⟩ = false := (kf2 _ _ as0).trans (by first | assumption | (simp; done))
  clear hb
  go_wp2
  refine bodyPost_ret (v := .agg #[.slice A1 l1.length c1, .bool s1]) (by simp [results, Tryz.results67, go_sem, *]) rfl ?_
  exact ⟨l1, s1, A1, c1, hide (E1.out), rfl, C1, hide (OwQ.base (B := w.heap.size + 2) (owT O1) (by omega)), belo⟩
theorem vRedXor_any (A : Option Addr) (a : List Int) (c : Nat) (s : Bool) (w : World) (ha : a.length ≤ 4096) (hca : Hid (a.length ≤ c ∧ c ≤ maxLen)) (hA : RQ w A a) (ya : By a) (ht : Tabs w) :
    Calls Tryz.prog 68 #[.agg #[.slice A a.length c, .bool s]] w (RetC (· = sgl (red mXor ⟨a, s⟩)) w) := by
  have HA := hide hA
  have LA := hide ha
  have YA := hide ya
  clear hA ha ya
  have HT := hide ht
  clear ht
  go_enter Tryz.func68, Tryz.ntmps68
  go_wp2_with fail
  refine (reduce_any _ _ opF_xor A a c s _ LA.out hca (HA.out.below belo) YA.out (HT.out.kept belo)).mono ?_
  rintro e w1 ⟨rfl, hb⟩
  have hB1 : Below w.heap.size w w1 := Below.trans belo (hb.mono as4)
  obtain ⟨kc1, kf1⟩ := bcell hb
  have hz1 := hb.size
  (try simp at hz1)
  have n1_0 : w.heap.size < w1.heap.size := by omega
  have n1_1 : w.heap.size + 1 < w1.heap.size := by omega
  have r1_0 : w1.cell? ⟨w.heap.size + 1, 0, none⟩ = some (.slice none 0 0) := (kc1 _ _ as0).trans (by first | assumption | (simp; done))
  have g1_0 : w1.frozen? ⟨w.heap.size + 1, 0, none⟩ = false := (kf1 _ _ as0).trans (by first | assumption | (simp; done))
  have r1_1 : w1.cell? ⟨w.heap.size + 1, 1, none⟩ = some (.bool false) := (kc1 _ _ as0).trans (by first | assumption | (simp; done))
  have g1_1 : w1.frozen? ⟨w.heap.size + 1, 1, none⟩ = false := (kf1 _ _ as0).trans (by first | assumption | (simp; done))
  clear hb
  go_wp2_with fail
  refine (single_any _ _).mono ?_
  rintro e w2 ⟨l1, s1, A1, c1, E1, rfl, C1, O1, hb⟩
  replace O1 := hide (O1.out.base (show w.heap.size + 2 ≤ _ by first | omega | (simp; omega) | (simp; done)))
  have hB2 : Below w.heap.size w w2 := Below.trans belo (hb.mono as4)
  obtain ⟨kc2, kf2⟩ := bcell hb
  have hz2 := hb.size
  (try simp at hz2)
  have n2_0 : w.heap.size < w2.heap.size := by omega
  have n2_1 : w.heap.size + 1 < w2.heap.size := by omega
  have r2_0 : w2.cell? ⟨w.heap.size + 1, 0, none⟩ = some (.slice none 0 0) := (kc2 _ _ as0).trans (by first | assumption | (simp; done))
  have g2_0 : w2.frozen? ⟨w.heap.size + 1, 0, none⟩ = false := (kf2 _ _ as0).trans (by first | assumption | (simp; done))
  have r2_1 : w2.cell? ⟨w.heap.size + 1, 1, none⟩ = some (.bool false) := (kc2 _ _ as0).trans (by first | assumption | (simp; done))
  have g2_1 : w2.frozen? ⟨w.heap.size + 1, 1, none⟩ = false := (kf2 _ _ as0).trans (by first | assumption | (simp; done))
  clear hb
  go_wp2
  refine bodyPost_ret (v := .agg #[.slice A1 l1.length c1, .bool s1]) (by simp [results, Tryz.results68, go_sem, *]) rfl ?_
  exact ⟨l1, s1, A1, c1, hide (E1.out), rfl, C1, hide (OwQ.base (B := w.heap.size + 2) (owT O1) (by omega)), belo⟩
theorem by_of_gd {v : Vc} {l : List Int} {s : Bool} (e : (⟨l, s⟩ : Vc) = v) (h : Gd v.b) : By l := by rw [← e] at h; exact h.by_
theorem len_of_gd {v : Vc} {l : List Int} {s : Bool} (e : (⟨l, s⟩ : Vc) = v) (h : Gd v.b) : 0 < l.length ∧ l.length ≤ 128 := by rw [← e] at h; exact ⟨h.pos, h.le⟩
theorem gd_sgl {x : Int} (h : 0 ≤ x ∧ x ≤ 3) : Gd (sgl x).b := by
  refine ⟨by simp [sgl], by simp [sgl], fun i => ?_⟩
  rcases i with _ | i
  · exact h
  · have e : qt [x] (i + 1) = 0 := qt_ge (by simp)
    show 0 ≤ qt [x] (i + 1) ∧ qt [x] (i + 1) ≤ 3
    omega
theorem rd_bd {f : Int → Int → Int} (hf : ∀ p q, 0 ≤ p ∧ p ≤ 3 → 0 ≤ q ∧ q ≤ 3 → 0 ≤ f p q ∧ f p q ≤ 3) {l : List Int} (hl : Gd l) (n : Nat) : 0 ≤ rd f l n ∧ rd f l n ≤ 3 := by
  induction n with
  | zero => exact bd_of3 (mBuf_3 _)
  | succ n ih => exact hf _ _ ih (hl.bd _)
theorem red_bd {N : Nat} {f : Int → Int → Int} (hop : OpF N f) {a : Vc} (ya : By a.b) : 0 ≤ red f a ∧ red f a ≤ 3 := rd_bd hop.bd (cnt_gd ya) _
theorem tr_bd {a : Vc} (ya : By a.b) : 0 ≤ tr a ∧ tr a ≤ 3 := red_bd opF_or ya
theorem vNot_sgl {x : Int} (h : 0 ≤ x ∧ x ≤ 3) : vNot (sgl x) = sgl (mNot x) := by
  unfold vNot
  rw [cnt_of_gd (gd_sgl h)]
  rfl
theorem vRedNand_any (A : Option Addr) (a : List Int) (c : Nat) (s : Bool) (w : World) (ha : a.length ≤ 4096) (hca : Hid (a.length ≤ c ∧ c ≤ maxLen)) (hA : RQ w A a) (ya : By a) (ht : Tabs w) :
    Calls Tryz.prog 69 #[.agg #[.slice A a.length c, .bool s]] w (RetC (· = sgl (mNot (red mAnd ⟨a, s⟩))) w) := by
  have HA := hide hA
  have LA := hide ha
  have YA := hide ya
  clear hA ha ya
  have HT := hide ht
  clear ht
  go_enter Tryz.func69, Tryz.ntmps69
  go_wp2_with fail
  refine (vRedAnd_any A a c s _ LA.out hca (HA.out.below belo) YA.out (HT.out.kept belo)).mono ?_
  rintro e w1 ⟨l1, s1, A1, c1, E1, rfl, C1, O1, hb⟩
  replace O1 := hide (O1.out.base (show w.heap.size + 2 ≤ _ by first | omega | (simp; omega) | (simp; done)))
  have hB1 : Below w.heap.size w w1 := Below.trans belo (hb.mono as4)
  obtain ⟨kc1, kf1⟩ := bcell hb
  have hz1 := hb.size
  (try simp at hz1)
  have n1_0 : w.heap.size < w1.heap.size := by omega
  have n1_1 : w.heap.size + 1 < w1.heap.size := by omega
  have r1_0 : w1.cell? ⟨w.heap.size + 1, 0, none⟩ = some (.slice none 0 0) := (kc1 _ _ as0).trans (by first | assumption | (simp; done))
  have g1_0 : w1.frozen? ⟨w.heap.size + 1, 0, none⟩ = false := (kf1 _ _ as0).trans (by first | assumption | (simp; done))
  have r1_1 : w1.cell? ⟨w.heap.size + 1, 1, none⟩ = some (.bool false) := (kc1 _ _ as0).trans (by first | assumption | (simp; done))
  have g1_1 : w1.frozen? ⟨w.heap.size + 1, 1, none⟩ = false := (kf1 _ _ as0).trans (by first | assumption | (simp; done))
  clear hb
  have B1 := red_bd opF_and (a := ⟨a, s⟩) YA.out
  have Y1 := by_of_gd E1.out (gd_sgl B1)
  have L1 := len_of_gd E1.out (gd_sgl B1)
  go_wp2_with fail
  refine (vNot_any A1 l1 c1 s1 _ (by omega) C1 (show OwQ (w.heap.size + 2) _ _ _ from owT O1).rd Y1 (HT.out.kept belo)).mono ?_
  rintro e w2 ⟨l2, s2, A2, c2, E2, rfl, C2, O2, hb⟩
  replace O1 := hide ((show OwQ (w.heap.size + 2) _ _ _ from owT O1).kept hb)
  replace O2 := hide (O2.out.base (show w.heap.size + 2 ≤ _ by first | omega | (simp; omega) | (simp; done)))
  have hB2 : Below w.heap.size w w2 := Below.trans belo (hb.mono as4)
  obtain ⟨kc2, kf2⟩ := bcell hb
  have hz2 := hb.size
  (try simp at hz2)
  have n2_0 : w.heap.size < w2.heap.size := by omega
  have n2_1 : w.heap.size + 1 < w2.heap.size := by omega
  have r2_0 : w2.cell? ⟨w.heap.size + 1, 0, none⟩ = some (.slice none 0 0) := (kc2 _ _ as0).trans (by first | assumption | (simp; done))
  have g2_0 : w2.frozen? ⟨w.heap.size + 1, 0, none⟩ = false := (kf2 _ _ as0).trans (by first | assumption | (simp; done))
  have r2_1 : w2.cell? ⟨w.heap.size + 1, 1, none⟩ = some (.bool false) := (kc2 _ _ as0).trans (by first | assumption | (simp; done))
  have g2_1 : w2.frozen? ⟨w.heap.size + 1, 1, none⟩ = false := (kf2 _ _ as0).trans (by first | assumption | (simp; done))
  clear hb
  go_wp2
  refine bodyPost_ret (v := .agg #[.slice A2 l2.length c2, .bool s2]) (by simp [results, Tryz.results69, go_sem, *]) rfl ?_
  exact ⟨l2, s2, A2, c2, hide (E2.out.trans (by rw [E1.out]; exact vNot_sgl B1)), rfl, C2, hide (OwQ.base (B := w.heap.size + 2) (owT O2) (by omega)), belo⟩
theorem vRedNor_any (A : Option Addr) (a : List Int) (c : Nat) (s : Bool) (w : World) (ha : a.length ≤ 4096) (hca : Hid (a.length ≤ c ∧ c ≤ maxLen)) (hA : RQ w A a) (ya : By a) (ht : Tabs w) :
    Calls Tryz.prog 70 #[.agg #[.slice A a.length c, .bool s]] w (RetC (· = sgl (mNot (red mOr ⟨a, s⟩))) w) := by
  have HA := hide hA
  have LA := hide ha
  have YA := hide ya
  clear hA ha ya
  have HT := hide ht
  clear ht
  go_enter Tryz.func70, Tryz.ntmps70
  go_wp2_with fail
  refine (vRedOr_any A a c s _ LA.out hca (HA.out.below belo) YA.out (HT.out.kept belo)).mono ?_
  rintro e w1 ⟨l1, s1, A1, c1, E1, rfl, C1, O1, hb⟩
  replace O1 := hide (O1.out.base (show w.heap.size + 2 ≤ _ by first | omega | (simp; omega) | (simp; done)))
  have hB1 : Below w.heap.size w w1 := Below.trans belo (hb.mono as4)
  obtain ⟨kc1, kf1⟩ := bcell hb
  have hz1 := hb.size
  (try simp at hz1)
  have n1_0 : w.heap.size < w1.heap.size := by omega
  have n1_1 : w.heap.size + 1 < w1.heap.size := by omega
  have r1_0 : w1.cell? ⟨w.heap.size + 1, 0, none⟩ = some (.slice none 0 0) := (kc1 _ _ as0).trans (by first | assumption | (simp; done))
  have g1_0 : w1.frozen? ⟨w.heap.size + 1, 0, none⟩ = false := (kf1 _ _ as0).trans (by first | assumption | (simp; done))
  have r1_1 : w1.cell? ⟨w.heap.size + 1, 1, none⟩ = some (.bool false) := (kc1 _ _ as0).trans (by first | assumption | (simp; done))
  have g1_1 : w1.frozen? ⟨w.heap.size + 1, 1, none⟩ = false := (kf1 _ _ as0).trans (by first | assumption | (simp; done))
  clear hb
  have B1 := red_bd opF_or (a := ⟨a, s⟩) YA.out
  have Y1 := by_of_gd E1.out (gd_sgl B1)
  have L1 := len_of_gd E1.out (gd_sgl B1)
  go_wp2_with fail
  refine (vNot_any A1 l1 c1 s1 _ (by omega) C1 (show OwQ (w.heap.size + 2) _ _ _ from owT O1).rd Y1 (HT.out.kept belo)).mono ?_
  rintro e w2 ⟨l2, s2, A2, c2, E2, rfl, C2, O2, hb⟩
  replace O1 := hide ((show OwQ (w.heap.size + 2) _ _ _ from owT O1).kept hb)
  replace O2 := hide (O2.out.base (show w.heap.size + 2 ≤ _ by first | omega | (simp; omega) | (simp; done)))
  have hB2 : Below w.heap.size w w2 := Below.trans belo (hb.mono as4)
  obtain ⟨kc2, kf2⟩ := bcell hb
  have hz2 := hb.size
  (try simp at hz2)
  have n2_0 : w.heap.size < w2.heap.size := by omega
  have n2_1 : w.heap.size + 1 < w2.heap.size := by omega
  have r2_0 : w2.cell? ⟨w.heap.size + 1, 0, none⟩ = some (.slice none 0 0) := (kc2 _ _ as0).trans (by first | assumption | (simp; done))
  have g2_0 : w2.frozen? ⟨w.heap.size + 1, 0, none⟩ = false := (kf2 _ _ as0).trans (by first | assumption | (simp; done))
  have r2_1 : w2.cell? ⟨w.heap.size + 1, 1, none⟩ = some (.bool false) := (kc2 _ _ as0).trans (by first | assumption | (simp; done))
  have g2_1 : w2.frozen? ⟨w.heap.size + 1, 1, none⟩ = false := (kf2 _ _ as0).trans (by first | assumption | (simp; done))
  clear hb
  go_wp2
  refine bodyPost_ret (v := .agg #[.slice A2 l2.length c2, .bool s2]) (by simp [results, Tryz.results70, go_sem, *]) rfl ?_
  exact ⟨l2, s2, A2, c2, hide (E2.out.trans (by rw [E1.out]; exact vNot_sgl B1)), rfl, C2, hide (OwQ.base (B := w.heap.size + 2) (owT O2) (by omega)), belo⟩
theorem vRedXnor_any (A : Option Addr) (a : List Int) (c : Nat) (s : Bool) (w : World) (ha : a.length ≤ 4096) (hca : Hid (a.length ≤ c ∧ c ≤ maxLen)) (hA : RQ w A a) (ya : By a) (ht : Tabs w) :
    Calls Tryz.prog 71 #[.agg #[.slice A a.length c, .bool s]] w (RetC (· = sgl (mNot (red mXor ⟨a, s⟩))) w) := by
  have HA := hide hA
  have LA := hide ha
  have YA := hide ya
  clear hA ha ya
  have HT := hide ht
  clear ht
  go_enter Tryz.func71, Tryz.ntmps71
  go_wp2_with fail
  refine (vRedXor_any A a c s _ LA.out hca (HA.out.below belo) YA.out (HT.out.kept belo)).mono ?_
  rintro e w1 ⟨l1, s1, A1, c1, E1, rfl, C1, O1, hb⟩
  replace O1 := hide (O1.out.base (show w.heap.size + 2 ≤ _ by first | omega | (simp; omega) | (simp; done)))
  have hB1 : Below w.heap.size w w1 := Below.trans belo (hb.mono as4)
  obtain ⟨kc1, kf1⟩ := bcell hb
  have hz1 := hb.size
  (try simp at hz1)
  have n1_0 : w.heap.size < w1.heap.size := by omega
  have n1_1 : w.heap.size + 1 < w1.heap.size := by omega
  have r1_0 : w1.cell? ⟨w.heap.size + 1, 0, none⟩ = some (.slice none 0 0) := (kc1 _ _ as0).trans (by first | assumption | (simp; done))
  have g1_0 : w1.frozen? ⟨w.heap.size + 1, 0, none⟩ = false := (kf1 _ _ as0).trans (by first | assumption | (simp; done))
  have r1_1 : w1.cell? ⟨w.heap.size + 1, 1, none⟩ = some (.bool false) := (kc1 _ _ as0).trans (by first | assumption | (simp; done))
  have g1_1 : w1.frozen? ⟨w.heap.size + 1, 1, none⟩ = false := (kf1 _ _ as0).trans (by first | assumption | (simp; done))
  clear hb
  have B1 := red_bd opF_xor (a := ⟨a, s⟩) YA.out
  have Y1 := by_of_gd E1.out (gd_sgl B1)
  have L1 := len_of_gd E1.out (gd_sgl B1)
  go_wp2_with fail
  refine (vNot_any A1 l1 c1 s1 _ (by omega) C1 (show OwQ (w.heap.size + 2) _ _ _ from owT O1).rd Y1 (HT.out.kept belo)).mono ?_
  rintro e w2 ⟨l2, s2, A2, c2, E2, rfl, C2, O2, hb⟩
  replace O1 := hide ((show OwQ (w.heap.size + 2) _ _ _ from owT O1).kept hb)
  replace O2 := hide (O2.out.base (show w.heap.size + 2 ≤ _ by first | omega | (simp; omega) | (simp; done)))
  have hB2 : Below w.heap.size w w2 := Below.trans belo (hb.mono as4)
  obtain ⟨kc2, kf2⟩ := bcell hb
  have hz2 := hb.size
  (try simp at hz2)
  have n2_0 : w.heap.size < w2.heap.size := by omega
  have n2_1 : w.heap.size + 1 < w2.heap.size := by omega
  have r2_0 : w2.cell? ⟨w.heap.size + 1, 0, none⟩ = some (.slice none 0 0) := (kc2 _ _ as0).trans (by first | assumption | (simp; done))
  have g2_0 : w2.frozen? ⟨w.heap.size + 1, 0, none⟩ = false := (kf2 _ _ as0).trans (by first | assumption | (simp; done))
  have r2_1 : w2.cell? ⟨w.heap.size + 1, 1, none⟩ = some (.bool false) := (kc2 _ _ as0).trans (by first | assumption | (simp; done))
  have g2_1 : w2.frozen? ⟨w.heap.size + 1, 1, none⟩ = false := (kf2 _ _ as0).trans (by first | assumption | (simp; done))
  clear hb
  go_wp2
  refine bodyPost_ret (v := .agg #[.slice A2 l2.length c2, .bool s2]) (by simp [results, Tryz.results71, go_sem, *]) rfl ?_
  exact ⟨l2, s2, A2, c2, hide (E2.out.trans (by rw [E1.out]; exact vNot_sgl B1)), rfl, C2, hide (OwQ.base (B := w.heap.size + 2) (owT O2) (by omega)), belo⟩
theorem vLNot_any (A : Option Addr) (a : List Int) (c : Nat) (s : Bool) (w : World) (ha : a.length ≤ 4096) (hca : Hid (a.length ≤ c ∧ c ≤ maxLen)) (hA : RQ w A a) (ya : By a) (ht : Tabs w) :
    Calls Tryz.prog 56 #[.agg #[.slice A a.length c, .bool s]] w (RetC (· = sgl (mNot (tr ⟨a, s⟩))) w) := by
  have HA := hide hA
  have LA := hide ha
  have YA := hide ya
  clear hA ha ya
  have HT := hide ht
  clear ht
  go_enter Tryz.func56, Tryz.ntmps56
  go_wp2_with fail
  refine (truth_any A a c s _ LA.out hca (HA.out.below belo) YA.out (HT.out.kept belo)).mono ?_
  rintro e w1 ⟨rfl, hb⟩
  have hB1 : Below w.heap.size w w1 := Below.trans belo (hb.mono as4)
  obtain ⟨kc1, kf1⟩ := bcell hb
  have hz1 := hb.size
  (try simp at hz1)
  have n1_0 : w.heap.size < w1.heap.size := by omega
  have n1_1 : w.heap.size + 1 < w1.heap.size := by omega
  have r1_0 : w1.cell? ⟨w.heap.size + 1, 0, none⟩ = some (.slice none 0 0) := (kc1 _ _ as0).trans (by first | assumption | (simp; done))
  have g1_0 : w1.frozen? ⟨w.heap.size + 1, 0, none⟩ = false := (kf1 _ _ as0).trans (by first | assumption | (simp; done))
  have r1_1 : w1.cell? ⟨w.heap.size + 1, 1, none⟩ = some (.bool false) := (kc1 _ _ as0).trans (by first | assumption | (simp; done))
  have g1_1 : w1.frozen? ⟨w.heap.size + 1, 1, none⟩ = false := (kf1 _ _ as0).trans (by first | assumption | (simp; done))
  clear hb
  have B1 := tr_bd (a := ⟨a, s⟩) YA.out
  have HT1 := hide (HT.out.kept hB1)
  go_wp2_with fail
  refine (not_q _ _ B1.1 HT1.out.tn).mono ?_
  rintro e w' ⟨rfl, nd, rfl⟩
  go_wp2_with fail
  refine (single_any _ _).mono ?_
  rintro e w2 ⟨l1, s1, A1, c1, E1, rfl, C1, O1, hb⟩
  replace O1 := hide (O1.out.base (show w.heap.size + 2 ≤ _ by first | omega | (simp; omega) | (simp; done)))
  have hB2 : Below w.heap.size w w2 := Below.trans belo (hb.mono as4)
  obtain ⟨kc2, kf2⟩ := bcell hb
  have hz2 := hb.size
  (try simp at hz2)
  have n2_0 : w.heap.size < w2.heap.size := by omega
  have n2_1 : w.heap.size + 1 < w2.heap.size := by omega
  have r2_0 : w2.cell? ⟨w.heap.size + 1, 0, none⟩ = some (.slice none 0 0) := (kc2 _ _ as0).trans (by first | assumption | (simp; done))
  have g2_0 : w2.frozen? ⟨w.heap.size + 1, 0, none⟩ = false := (kf2 _ _ as0).trans (by first | assumption | (simp; done))
  have r2_1 : w2.cell? ⟨w.heap.size + 1, 1, none⟩ = some (.bool false) := (kc2 _ _ as0).trans (by first | assumption | (simp; done))
  have g2_1 : w2.frozen? ⟨w.heap.size + 1, 1, none⟩ = false := (kf2 _ _ as0).trans (by first | assumption | (simp; done))
  clear hb
  go_wp2
  refine bodyPost_ret (v := .agg #[.slice A1 l1.length c1, .bool s1]) (by simp [results, Tryz.results56, go_sem, *]) rfl ?_
  exact ⟨l1, s1, A1, c1, hide (E1.out), rfl, C1, hide (OwQ.base (B := w.heap.size + 2) (owT O1) (by omega)), belo⟩
end
section
open Go.RowKit
set_option maxRecDepth 100000
set_option linter.unusedSimpArgs false
set_option linter.unusedVariables false
def Res (r : Option (List Bool)) (E : Int) (l : List Bool) : Prop := match r with | some v => E = 0 ∧ l = v | none => E ≠ 0
def RetO (r : Option (List Bool)) (w : World) (e : Ending) (w' : World) : Prop :=
  ∃ l A c E, e = .returned (.tuple #[.slice A l.length c, .int .i64 E]) ∧ Hid (Res r E l) ∧ Hid (Rd w' A l) ∧ Below w.heap.size w w'
structure OpN (N : Nat) (f : List Bool → List Bool → Bool → Option (List Bool)) (x : Array Value) (w0 : World) : Prop where
  cf : Ent N
  ct : ∀ A B m n c d s w, Below w0.heap.size w0 w → m.length ≤ 4096 → n.length ≤ 4096 → Rd w A m → Rd w B n → Calls Tryz.prog N (#[.slice A m.length c, .slice B n.length d, .bool s] ++ x) w (RetO (f m n s) w)
structure OpB (N : Nat) (f : List Bool → List Bool → List Bool) : Prop where
  cf : Ent N
  ct : ∀ A B m n c d w, m.length ≤ 4096 → n.length ≤ 4096 → Rd w A m → Rd w B n → Calls Tryz.prog N #[.slice A m.length c, .slice B n.length d] w (MkV (f m n) w)
theorem opB_add : OpB 121 (fun m n => vz m.length ((nv m : Int) + nv n)) := ⟨Tryz.call121, fun A B m n c d w h1 h2 h3 h4 => add_any A B m n c d w h1 h2 h3 h4⟩
theorem opB_sub : OpB 122 (fun m n => vz m.length ((nv m : Int) - nv n)) := ⟨Tryz.call122, fun A B m n c d w h1 h2 h3 h4 => sub_any A B m n c d w h1 h2 h3 h4⟩
theorem opB_mul : OpB 123 (fun m n => vz m.length ((nv m : Int) * nv n)) := ⟨Tryz.call123, fun A B m n c d w h1 h2 h3 h4 => mul_any A B m n c d w h1 h2 h3 h4⟩
theorem total_any (N : Nat) (w : World) : Calls Tryz.prog 120 #[.func (.func N) #[] #[]] w fun e w' => e = .returned (.func (.func 173) #[] #[.pointer (some ⟨w.heap.size, 0, none⟩)]) ∧ w' = w.alloc (.cells #[.func (.func N) #[] #[]] 104) := by
  go_enter Tryz.func120, Tryz.ntmps120
  go_wp2
  go_ret
  exact ⟨rfl, rfl⟩
theorem opN_total {N : Nat} {f : List Bool → List Bool → List Bool} (hop : OpB N f) {g : Nat} {w0 : World} (hg : g < w0.heap.size) (hc : w0.cell? ⟨g, 0, none⟩ = some (.func (.func N) #[] #[])) : OpN 173 (fun m n _ => some (f m n)) #[.pointer (some ⟨g, 0, none⟩)] w0 := by
  refine ⟨Tryz.call173, fun A B m n c d s w hB h1 h2 h3 h4 => ?_⟩
  show Calls _ _ #[.slice A m.length c, .slice B n.length d, .bool s, .pointer (some ⟨g, 0, none⟩)] _ _
  have hcf : ∀ args w, (callFunc N args).run Tryz.prog w = .ok (.enter N args) w := hop.cf
  have hc1 : w.cell? ⟨g, 0, none⟩ = some (.func (.func N) #[] #[]) := (hB.cell (p := ⟨g, 0, none⟩) hg).trans hc
  have hcall := hide (hop.ct A B m n c d w h1 h2 h3 h4)
  clear hop hB h3 h4 hc
  go_enter Tryz.func173, Tryz.ntmps173
  go_wp2_with ((with_reducible refine (hcall.out).mono ?_); rintro e w1 ⟨R, rc, rfl, k1, k2, ho, hb⟩; have K1 := hide k1; have K2 := hide k2; clear k1 k2)
  go_ret2
  exact ⟨f m n, R, rc, 0, rfl, hide ⟨rfl, rfl⟩, hide ho.rd, hb⟩
theorem nv_pos_of {n : List Bool} (h : ¬ nv n = 0) : 0 < nv n := by omega
def RetDv (q r : Option (List Bool)) (w : World) (e : Ending) (w' : World) : Prop :=
  ∃ l A c m B d E, e = .returned (.tuple #[.slice A l.length c, .slice B m.length d, .int .i64 E]) ∧ Hid (Res q E l) ∧ Hid (Res r E m) ∧ Hid (Rd w' A l) ∧ Hid (Rd w' B m) ∧ Below w.heap.size w w'
theorem divide_any' (A B : Option Addr) (m n : List Bool) (c d : Nat) (s : Bool) (w : World) (h1 : m.length ≤ 4096) (h2 : n.length ≤ 4096) (h3 : Rd w A m) (h4 : Rd w B n) :
    Calls Tryz.prog 129 #[.slice A m.length c, .slice B n.length d, .bool s] w (RetDv (fDiv m n s) (fMod m n s) w) := by
  have H3 := hide h3
  have H4 := hide h4
  clear h3 h4
  by_cases hz : nv n = 0
  · have e1 : fDiv m n s = none := by unfold fDiv; rw [if_pos hz]
    have e2 : fMod m n s = none := by unfold fMod; rw [if_pos hz]
    rw [e1, e2]
    have HZ := hide hz
    clear hz e1 e2
    cases s
    · go_enter Tryz.func129, Tryz.ntmps129
      go_wp2_with (go_at_call 178; (with_reducible refine (div_zero A B m n c d _ h1 h2 H4.out HZ.out).mono ?_); rintro e w' ⟨rfl, rfl⟩)
      go_ret3
      exact ⟨[], none, 0, [], none, 0, 7, rfl, hide (show (7 : Int) ≠ 0 by decide), hide (show (7 : Int) ≠ 0 by decide), hide (fun h => absurd h (by simp)), hide (fun h => absurd h (by simp)), Below.refl _ _⟩
    · go_enter Tryz.func129, Tryz.ntmps129
      go_wp2_with (go_at_call 177; (with_reducible refine (sdiv_zero A B m n c d _ h1 h2 H3.out H4.out HZ.out).mono ?_); rintro e w' ⟨rfl, hb⟩)
      go_ret3
      exact ⟨[], none, 0, [], none, 0, 7, rfl, hide (show (7 : Int) ≠ 0 by decide), hide (show (7 : Int) ≠ 0 by decide), hide (fun h => absurd h (by simp)), hide (fun h => absurd h (by simp)), hb⟩
  · have e1 : fDiv m n s = some (vz m.length (if s then (sv m).tdiv (sv n) else ((nv m / nv n : Nat) : Int))) := by unfold fDiv; rw [if_neg hz]
    have e2 : fMod m n s = some (vz m.length (if s then (sv m).tmod (sv n) else ((nv m % nv n : Nat) : Int))) := by unfold fMod; rw [if_neg hz]
    rw [e1, e2]
    have HZ := hide (nv_pos_of hz)
    clear hz e1 e2
    cases s
    · have hcall := hide (div_any A B m n c d w h1 h2 H3.out H4.out HZ.out)
      go_enter Tryz.func129, Tryz.ntmps129
      go_wp2_with (go_at_call 178; (with_reducible refine (hcall.out).mono ?_); rintro e w' ⟨Q, qc, R, rc, rfl, k1, k2, k3, k4, oq, or_, hb⟩; have OQ := hide oq; have OR := hide or_; have K1 := hide k1; have K2 := hide k3; clear oq or_ k1 k2 k3 k4)
      go_ret3
      exact ⟨_, Q, qc, _, R, rc, 0, rfl, hide ⟨rfl, by simp⟩, hide ⟨rfl, by simp⟩, hide OQ.out.rd, hide OR.out.rd, hb⟩
    · have hcall := hide (sdiv_any A B m n c d w h1 h2 H3.out H4.out HZ.out)
      go_enter Tryz.func129, Tryz.ntmps129
      go_wp2_with (go_at_call 177; (with_reducible refine (hcall.out).mono ?_); rintro e w' ⟨Q, qc, R, rc, rfl, k1, k2, k3, k4, oq, or_, hb⟩; have OQ := hide oq; have OR := hide or_; have K1 := hide k1; have K2 := hide k3; clear oq or_ k1 k2 k3 k4)
      go_ret3
      exact ⟨_, Q, qc, _, R, rc, 0, rfl, hide ⟨rfl, by simp⟩, hide ⟨rfl, by simp⟩, hide OQ.out.rd, hide OR.out.rd, hb⟩
theorem opN_div (w0 : World) : OpN 128 fDiv #[] w0 := by
  refine ⟨Tryz.call128, fun A B m n c d s w hB h1 h2 h3 h4 => ?_⟩
  show Calls _ _ #[.slice A m.length c, .slice B n.length d, .bool s] _ _
  have hcall := hide (divide_any' A B m n c d s w h1 h2 h3 h4)
  clear hB h3 h4
  go_enter Tryz.func128, Tryz.ntmps128
  go_wp2_with (go_at_call 129; (with_reducible refine (hcall.out).mono ?_); rintro e w1 ⟨l, A2, c2, m2, B2, d2, E, rfl, h5, -, h6, -, hb⟩)
  go_ret2
  exact ⟨l, A2, c2, E, rfl, h5, h6, hb⟩
theorem opN_mod (w0 : World) : OpN 130 fMod #[] w0 := by
  refine ⟨Tryz.call130, fun A B m n c d s w hB h1 h2 h3 h4 => ?_⟩
  show Calls _ _ #[.slice A m.length c, .slice B n.length d, .bool s] _ _
  have hcall := hide (divide_any' A B m n c d s w h1 h2 h3 h4)
  clear hB h3 h4
  go_enter Tryz.func130, Tryz.ntmps130
  go_wp2_with (go_at_call 129; (with_reducible refine (hcall.out).mono ?_); rintro e w1 ⟨m2, B2, d2, l, A2, c2, E, rfl, -, h5, -, h6, hb⟩)
  go_ret2
  exact ⟨l, A2, c2, E, rfl, h5, h6, hb⟩
end
section
open Go.RowKit
set_option maxRecDepth 100000
set_option linter.unusedSimpArgs false
set_option linter.unusedVariables false
theorem number_q (A : Option Addr) (a : List Int) (c : Nat) (w : World) (ha : a.length ≤ 4096) (hA : RQ w A a) :
    Calls Tryz.prog 117 #[.slice A a.length c] w (RetP (· = nb a) w) := (number_any A a c w ha hA).mono fun _ _ h => RetP.of_mkV rfl h
set_option maxHeartbeats 2000000 in
theorem arith0_any (N : Nat) (f : List Bool → List Bool → Bool → Option (List Bool)) (A B : Option Addr) (a b : List Int) (c d : Nat) (s t : Bool) (w : World) (ha : a.length ≤ 4096) (hb : b.length ≤ 4096) (hca : Hid (a.length ≤ c ∧ c ≤ maxLen)) (hcb : Hid (b.length ≤ d ∧ d ≤ maxLen)) (hA : RQ w A a) (hB : RQ w B b) (ya : By a) (yb : By b) (hop : OpN N f #[] w) (hlen : ∀ m n s l, f m n s = some l → l.length = m.length) :
    Calls Tryz.prog 119 #[.agg #[.slice A a.length c, .bool s], .agg #[.slice B b.length d, .bool t], .func (.func N) #[] #[]] w (RetC (· = ar f ⟨a, s⟩ ⟨b, t⟩) w) := by
  have hcf : ∀ args w, (callFunc N args).run Tryz.prog w = .ok (.enter N args) w := hop.cf
  have hct := hide (fun A B m n c d s W hW h1 h2 h3 h4 => (show Calls Tryz.prog N #[.slice A m.length c, .slice B n.length d, .bool s] W (RetO (f m n s) W) from hop.ct A B m n c d s W hW h1 h2 h3 h4))
  have HL := hide hlen
  have hwd := wd_bd (a := ⟨a, s⟩) (b := ⟨b, t⟩) ya yb
  have HA := hide hA
  have HBB := hide hB
  have LA := hide ha
  have LB := hide hb
  have YA := hide ya
  have YB := hide yb
  clear hA hB ha hb ya yb
  clear hop hlen
  obtain ⟨n, hn⟩ : ∃ n, n = wd ⟨a, s⟩ ⟨b, t⟩ := ⟨_, rfl⟩
  have hcall := hide fun W (hW : Below w.heap.size w W) => balance_any A B a b c d s t W LA.out LB.out hca hcb (HA.out.below hW) (HBB.out.below hW) YA.out YB.out
  unfold RetB at hcall
  obtain ⟨σ, hσ⟩ : ∃ σ, σ = sg ⟨a, s⟩ ⟨b, t⟩ := ⟨_, rfl⟩
  rw [← hσ] at hcall
  obtain ⟨R, hR⟩ : ∃ R, R = ar f ⟨a, s⟩ ⟨b, t⟩ := ⟨_, rfl⟩
  rw [← hR]
  unfold ar at hR
  rw [← hn, ← hσ] at hR
  rw [← hn] at hwd
  have HN := hide hn
  have HR := hide hR
  clear hn hσ hR
  go_enter Tryz.func119, Tryz.ntmps119
  go_wp2_with fail
  refine (hcall.out _ belo).mono ?_
  rintro e w1 ⟨p, P, pc, q, Q, qc, Ep, Eq, rfl, Cp, Cq, Op, Oq, -, hb⟩
  replace Op := hide (Op.out.base (show w.heap.size + 3 ≤ _ by first | omega | (simp; omega) | (simp; done)))
  replace Oq := hide (Oq.out.base (show w.heap.size + 3 ≤ _ by first | omega | (simp; omega) | (simp; done)))
  have hB1 : Below w.heap.size w w1 := Below.trans belo (hb.mono as4)
  obtain ⟨kc1, kf1⟩ := bcell hb
  have hz1 := hb.size
  (try simp at hz1)
  have n1_0 : w.heap.size < w1.heap.size := by omega
  have n1_1 : w.heap.size + 1 < w1.heap.size := by omega
  have n1_2 : w.heap.size + 2 < w1.heap.size := by omega
  have r1_0 : w1.cell? ⟨w.heap.size + 2, 0, none⟩ = some (.slice none 0 0) := (kc1 _ _ as0).trans as2
  have g1_0 : w1.frozen? ⟨w.heap.size + 2, 0, none⟩ = false := (kf1 _ _ as0).trans as2
  have r1_1 : w1.cell? ⟨w.heap.size + 2, 1, none⟩ = some (.bool false) := (kc1 _ _ as0).trans as2
  have g1_1 : w1.frozen? ⟨w.heap.size + 2, 1, none⟩ = false := (kf1 _ _ as0).trans as2
  clear hb
  have lp : p.length = n := by rw [Ep.out, blA_length, HN.out]
  have lq : q.length = n := by rw [Eq.out, blB_length, HN.out]
  rw [← Ep.out, ← Eq.out] at HR
  have LP := hide lp
  have LQ := hide lq
  have L1 : p.length ≤ 4096 := by omega
  have L2 : q.length ≤ 4096 := by omega
  have L3 : 0 < p.length := by omega
  clear lp lq
  have k1 := hide (known_any P p pc w1 L1 Op.out.rd)
  have k2 := hide (known_any Q q qc w1 L2 Oq.out.rd)
  cases hk1 : kn p
  · rw [hk1] at k1 HR
    have hk := hk1
    clear hk1
    go_wp2_with fail
    refine (k1.out).mono ?_
    rintro e w' ⟨rfl, rfl⟩
    go_wp2_with fail
    refine (unknown_any p.length σ _ L3 L1).mono ?_
    rintro e w2 ⟨l1, s1, A1, c1, E1, rfl, C1, O1, hb⟩
    replace Op := hide ((show OwQ (w.heap.size + 3) _ _ _ from owT Op).kept hb)
    replace Oq := hide ((show OwQ (w.heap.size + 3) _ _ _ from owT Oq).kept hb)
    replace O1 := hide (O1.out.base (show w.heap.size + 3 ≤ _ by first | omega | (simp; omega) | (simp; done)))
    have hB2 : Below w.heap.size w w2 := Below.trans belo (hb.mono as4)
    obtain ⟨kc2, kf2⟩ := bcell hb
    have hz2 := hb.size
    (try simp at hz2)
    have n2_0 : w.heap.size < w2.heap.size := by omega
    have n2_1 : w.heap.size + 1 < w2.heap.size := by omega
    have n2_2 : w.heap.size + 2 < w2.heap.size := by omega
    have r2_0 : w2.cell? ⟨w.heap.size + 2, 0, none⟩ = some (.slice none 0 0) := (kc2 _ _ as0).trans as2
    have g2_0 : w2.frozen? ⟨w.heap.size + 2, 0, none⟩ = false := (kf2 _ _ as0).trans as2
    have r2_1 : w2.cell? ⟨w.heap.size + 2, 1, none⟩ = some (.bool false) := (kc2 _ _ as0).trans as2
    have g2_1 : w2.frozen? ⟨w.heap.size + 2, 1, none⟩ = false := (kf2 _ _ as0).trans as2
    clear hb
    go_wp2
    refine bodyPost_ret (v := .agg #[.slice A1 l1.length c1, .bool s1]) (by simp [results, Tryz.results119, go_sem, *]) rfl ?_
    exact ⟨l1, s1, A1, c1, hide (E1.out.trans (by rw [HR.out, LP.out]; simp)), rfl, C1, hide (OwQ.base (B := w.heap.size + 3) (owT O1) (by omega)), belo⟩
  · cases hk2 : kn q
    · rw [hk1] at k1 HR
      rw [hk2] at k2 HR
      clear hk1 hk2
      go_wp2_with fail
      refine (k1.out).mono ?_
      rintro e w' ⟨rfl, rfl⟩
      go_wp2_with fail
      refine (k2.out).mono ?_
      rintro e w' ⟨rfl, rfl⟩
      go_wp2_with fail
      refine (unknown_any p.length σ _ L3 L1).mono ?_
      rintro e w2 ⟨l1, s1, A1, c1, E1, rfl, C1, O1, hb⟩
      replace Op := hide ((show OwQ (w.heap.size + 3) _ _ _ from owT Op).kept hb)
      replace Oq := hide ((show OwQ (w.heap.size + 3) _ _ _ from owT Oq).kept hb)
      replace O1 := hide (O1.out.base (show w.heap.size + 3 ≤ _ by first | omega | (simp; omega) | (simp; done)))
      have hB2 : Below w.heap.size w w2 := Below.trans belo (hb.mono as4)
      obtain ⟨kc2, kf2⟩ := bcell hb
      have hz2 := hb.size
      (try simp at hz2)
      have n2_0 : w.heap.size < w2.heap.size := by omega
      have n2_1 : w.heap.size + 1 < w2.heap.size := by omega
      have n2_2 : w.heap.size + 2 < w2.heap.size := by omega
      have r2_0 : w2.cell? ⟨w.heap.size + 2, 0, none⟩ = some (.slice none 0 0) := (kc2 _ _ as0).trans as2
      have g2_0 : w2.frozen? ⟨w.heap.size + 2, 0, none⟩ = false := (kf2 _ _ as0).trans as2
      have r2_1 : w2.cell? ⟨w.heap.size + 2, 1, none⟩ = some (.bool false) := (kc2 _ _ as0).trans as2
      have g2_1 : w2.frozen? ⟨w.heap.size + 2, 1, none⟩ = false := (kf2 _ _ as0).trans as2
      clear hb
      go_wp2
      refine bodyPost_ret (v := .agg #[.slice A1 l1.length c1, .bool s1]) (by simp [results, Tryz.results119, go_sem, *]) rfl ?_
      exact ⟨l1, s1, A1, c1, hide (E1.out.trans (by rw [HR.out, LP.out]; simp)), rfl, C1, hide (OwQ.base (B := w.heap.size + 3) (owT O1) (by omega)), belo⟩
    · rw [hk1] at k1 HR
      rw [hk2] at k2 HR
      clear hk1 hk2
      go_wp2_with fail
      refine (k1.out).mono ?_
      rintro e w' ⟨rfl, rfl⟩
      go_wp2_with fail
      refine (k2.out).mono ?_
      rintro e w' ⟨rfl, rfl⟩
      go_wp2_with fail
      refine (number_q P p pc _ L1 Op.out.rd).mono ?_
      rintro e w2 ⟨lm, Am, cm, Em, rfl, Cm, Om, hb⟩
      replace Op := hide ((show OwQ (w.heap.size + 3) _ _ _ from owT Op).kept hb)
      replace Oq := hide ((show OwQ (w.heap.size + 3) _ _ _ from owT Oq).kept hb)
      replace Om := hide Om.out.rd
      have hB2 : Below w.heap.size w w2 := Below.trans belo (hb.mono as4)
      obtain ⟨kc2, kf2⟩ := bcell hb
      have hz2 := hb.size
      (try simp at hz2)
      have n2_0 : w.heap.size < w2.heap.size := by omega
      have n2_1 : w.heap.size + 1 < w2.heap.size := by omega
      have n2_2 : w.heap.size + 2 < w2.heap.size := by omega
      have r2_0 : w2.cell? ⟨w.heap.size + 2, 0, none⟩ = some (.slice none 0 0) := (kc2 _ _ as0).trans as2
      have g2_0 : w2.frozen? ⟨w.heap.size + 2, 0, none⟩ = false := (kf2 _ _ as0).trans as2
      have r2_1 : w2.cell? ⟨w.heap.size + 2, 1, none⟩ = some (.bool false) := (kc2 _ _ as0).trans as2
      have g2_1 : w2.frozen? ⟨w.heap.size + 2, 1, none⟩ = false := (kf2 _ _ as0).trans as2
      clear hb
      go_wp2_with fail
      refine (number_q Q q qc _ L2 Oq.out.rd).mono ?_
      rintro e w3 ⟨lk, Ak, ck, Ek, rfl, Ck, Ok, hb⟩
      replace Op := hide ((show OwQ (w.heap.size + 3) _ _ _ from owT Op).kept hb)
      replace Oq := hide ((show OwQ (w.heap.size + 3) _ _ _ from owT Oq).kept hb)
      replace Om := hide (Om.out.below hb)
      replace Ok := hide Ok.out.rd
      have hB3 : Below w.heap.size w w3 := Below.trans belo (hb.mono as4)
      obtain ⟨kc3, kf3⟩ := bcell hb
      have hz3 := hb.size
      (try simp at hz3)
      have n3_0 : w.heap.size < w3.heap.size := by omega
      have n3_1 : w.heap.size + 1 < w3.heap.size := by omega
      have n3_2 : w.heap.size + 2 < w3.heap.size := by omega
      have r3_0 : w3.cell? ⟨w.heap.size + 2, 0, none⟩ = some (.slice none 0 0) := (kc3 _ _ as0).trans as2
      have g3_0 : w3.frozen? ⟨w.heap.size + 2, 0, none⟩ = false := (kf3 _ _ as0).trans as2
      have r3_1 : w3.cell? ⟨w.heap.size + 2, 1, none⟩ = some (.bool false) := (kc3 _ _ as0).trans as2
      have g3_1 : w3.frozen? ⟨w.heap.size + 2, 1, none⟩ = false := (kf3 _ _ as0).trans as2
      clear hb
      have em : lm.length = p.length := by rw [Em.out, nb_length]
      have ek : lk.length = q.length := by rw [Ek.out, nb_length]
      rw [← Em.out, ← Ek.out] at HR
      have EM := hide em
      have em2 : lm.length ≤ 4096 := by omega
      have ek2 : lk.length ≤ 4096 := by omega
      clear em ek
      go_wp2_with fail
      refine (hct.out Am Ak lm lk cm ck σ _ belo em2 ek2 Om.out Ok.out).mono ?_
      rintro e w4 ⟨l0, A0, c0, E0, rfl, H0, O0, hb⟩
      replace Op := hide ((show OwQ (w.heap.size + 3) _ _ _ from owT Op).kept hb)
      replace Oq := hide ((show OwQ (w.heap.size + 3) _ _ _ from owT Oq).kept hb)
      replace Om := hide (Om.out.below hb)
      replace Ok := hide (Ok.out.below hb)
      have hB4 : Below w.heap.size w w4 := Below.trans belo (hb.mono as4)
      obtain ⟨kc4, kf4⟩ := bcell hb
      have hz4 := hb.size
      (try simp at hz4)
      have n4_0 : w.heap.size < w4.heap.size := by omega
      have n4_1 : w.heap.size + 1 < w4.heap.size := by omega
      have n4_2 : w.heap.size + 2 < w4.heap.size := by omega
      have r4_0 : w4.cell? ⟨w.heap.size + 2, 0, none⟩ = some (.slice none 0 0) := (kc4 _ _ as0).trans as2
      have g4_0 : w4.frozen? ⟨w.heap.size + 2, 0, none⟩ = false := (kf4 _ _ as0).trans as2
      have r4_1 : w4.cell? ⟨w.heap.size + 2, 1, none⟩ = some (.bool false) := (kc4 _ _ as0).trans as2
      have g4_1 : w4.frozen? ⟨w.heap.size + 2, 1, none⟩ = false := (kf4 _ _ as0).trans as2
      clear hb
      cases hf : f lm lk σ
      · rw [hf] at H0 HR
        have hne : E0 ≠ 0 := H0.out
        have hne2 : (E0 != 0) = true := by simpa using hne
        clear hf hne
        go_wp2_with fail
        refine (unknown_any p.length σ _ L3 L1).mono ?_
        rintro e w5 ⟨l1, s1, A1, c1, E1, rfl, C1, O1, hb⟩
        replace Op := hide ((show OwQ (w.heap.size + 3) _ _ _ from owT Op).kept hb)
        replace Oq := hide ((show OwQ (w.heap.size + 3) _ _ _ from owT Oq).kept hb)
        replace Om := hide (Om.out.below hb)
        replace Ok := hide (Ok.out.below hb)
        replace O1 := hide (O1.out.base (show w.heap.size + 3 ≤ _ by first | omega | (simp; omega) | (simp; done)))
        have hB5 : Below w.heap.size w w5 := Below.trans belo (hb.mono as4)
        obtain ⟨kc5, kf5⟩ := bcell hb
        have hz5 := hb.size
        (try simp at hz5)
        have n5_0 : w.heap.size < w5.heap.size := by omega
        have n5_1 : w.heap.size + 1 < w5.heap.size := by omega
        have n5_2 : w.heap.size + 2 < w5.heap.size := by omega
        have r5_0 : w5.cell? ⟨w.heap.size + 2, 0, none⟩ = some (.slice none 0 0) := (kc5 _ _ as0).trans as2
        have g5_0 : w5.frozen? ⟨w.heap.size + 2, 0, none⟩ = false := (kf5 _ _ as0).trans as2
        have r5_1 : w5.cell? ⟨w.heap.size + 2, 1, none⟩ = some (.bool false) := (kc5 _ _ as0).trans as2
        have g5_1 : w5.frozen? ⟨w.heap.size + 2, 1, none⟩ = false := (kf5 _ _ as0).trans as2
        clear hb
        go_wp2
        refine bodyPost_ret (v := .agg #[.slice A1 l1.length c1, .bool s1]) (by simp [results, Tryz.results119, go_sem, *]) rfl ?_
        exact ⟨l1, s1, A1, c1, hide (E1.out.trans (by rw [HR.out, LP.out]; simp)), rfl, C1, hide (OwQ.base (B := w.heap.size + 3) (owT O1) (by omega)), belo⟩
      · rename_i v
        rw [hf] at H0 HR
        obtain ⟨rfl, rfl⟩ := H0.out
        have el := HL.out _ _ _ _ hf
        have el2 : l0.length ≤ 4096 := by omega
        clear hf el H0
        go_wp2_with fail
        refine (vector_any A0 l0 c0 σ _ el2 O0.out).mono ?_
        rintro e w5 ⟨l1, s1, A1, c1, E1, rfl, C1, O1, hb⟩
        replace Op := hide ((show OwQ (w.heap.size + 3) _ _ _ from owT Op).kept hb)
        replace Oq := hide ((show OwQ (w.heap.size + 3) _ _ _ from owT Oq).kept hb)
        replace Om := hide (Om.out.below hb)
        replace Ok := hide (Ok.out.below hb)
        replace O1 := hide (O1.out.base (show w.heap.size + 3 ≤ _ by first | omega | (simp; omega) | (simp; done)))
        have hB5 : Below w.heap.size w w5 := Below.trans belo (hb.mono as4)
        obtain ⟨kc5, kf5⟩ := bcell hb
        have hz5 := hb.size
        (try simp at hz5)
        have n5_0 : w.heap.size < w5.heap.size := by omega
        have n5_1 : w.heap.size + 1 < w5.heap.size := by omega
        have n5_2 : w.heap.size + 2 < w5.heap.size := by omega
        have r5_0 : w5.cell? ⟨w.heap.size + 2, 0, none⟩ = some (.slice none 0 0) := (kc5 _ _ as0).trans as2
        have g5_0 : w5.frozen? ⟨w.heap.size + 2, 0, none⟩ = false := (kf5 _ _ as0).trans as2
        have r5_1 : w5.cell? ⟨w.heap.size + 2, 1, none⟩ = some (.bool false) := (kc5 _ _ as0).trans as2
        have g5_1 : w5.frozen? ⟨w.heap.size + 2, 1, none⟩ = false := (kf5 _ _ as0).trans as2
        clear hb
        go_wp2
        refine bodyPost_ret (v := .agg #[.slice A1 l1.length c1, .bool s1]) (by simp [results, Tryz.results119, go_sem, *]) rfl ?_
        exact ⟨l1, s1, A1, c1, hide (E1.out.trans (by rw [HR.out]; simp)), rfl, C1, hide (OwQ.base (B := w.heap.size + 3) (owT O1) (by omega)), belo⟩
set_option maxHeartbeats 2000000 in
theorem arith1_any (N : Nat) (f : List Bool → List Bool → Bool → Option (List Bool)) (Y : Value) (A B : Option Addr) (a b : List Int) (c d : Nat) (s t : Bool) (w : World) (ha : a.length ≤ 4096) (hb : b.length ≤ 4096) (hca : Hid (a.length ≤ c ∧ c ≤ maxLen)) (hcb : Hid (b.length ≤ d ∧ d ≤ maxLen)) (hA : RQ w A a) (hB : RQ w B b) (ya : By a) (yb : By b) (hop : OpN N f #[Y] w) (hlen : ∀ m n s l, f m n s = some l → l.length = m.length) :
    Calls Tryz.prog 119 #[.agg #[.slice A a.length c, .bool s], .agg #[.slice B b.length d, .bool t], .func (.func N) #[] #[Y]] w (RetC (· = ar f ⟨a, s⟩ ⟨b, t⟩) w) := by
  have hcf : ∀ args w, (callFunc N args).run Tryz.prog w = .ok (.enter N args) w := hop.cf
  have hct := hide (fun A B m n c d s W hW h1 h2 h3 h4 => (show Calls Tryz.prog N #[.slice A m.length c, .slice B n.length d, .bool s, Y] W (RetO (f m n s) W) from hop.ct A B m n c d s W hW h1 h2 h3 h4))
  have HL := hide hlen
  have hwd := wd_bd (a := ⟨a, s⟩) (b := ⟨b, t⟩) ya yb
  have HA := hide hA
  have HBB := hide hB
  have LA := hide ha
  have LB := hide hb
  have YA := hide ya
  have YB := hide yb
  clear hA hB ha hb ya yb
  clear hop hlen
  obtain ⟨n, hn⟩ : ∃ n, n = wd ⟨a, s⟩ ⟨b, t⟩ := ⟨_, rfl⟩
  have hcall := hide fun W (hW : Below w.heap.size w W) => balance_any A B a b c d s t W LA.out LB.out hca hcb (HA.out.below hW) (HBB.out.below hW) YA.out YB.out
  unfold RetB at hcall
  obtain ⟨σ, hσ⟩ : ∃ σ, σ = sg ⟨a, s⟩ ⟨b, t⟩ := ⟨_, rfl⟩
  rw [← hσ] at hcall
  obtain ⟨R, hR⟩ : ∃ R, R = ar f ⟨a, s⟩ ⟨b, t⟩ := ⟨_, rfl⟩
  rw [← hR]
  unfold ar at hR
  rw [← hn, ← hσ] at hR
  rw [← hn] at hwd
  have HN := hide hn
  have HR := hide hR
  clear hn hσ hR
  go_enter Tryz.func119, Tryz.ntmps119
  go_wp2_with fail
  refine (hcall.out _ belo).mono ?_
  rintro e w1 ⟨p, P, pc, q, Q, qc, Ep, Eq, rfl, Cp, Cq, Op, Oq, -, hb⟩
  replace Op := hide (Op.out.base (show w.heap.size + 3 ≤ _ by first | omega | (simp; omega) | (simp; done)))
  replace Oq := hide (Oq.out.base (show w.heap.size + 3 ≤ _ by first | omega | (simp; omega) | (simp; done)))
  have hB1 : Below w.heap.size w w1 := Below.trans belo (hb.mono as4)
  obtain ⟨kc1, kf1⟩ := bcell hb
  have hz1 := hb.size
  (try simp at hz1)
  have n1_0 : w.heap.size < w1.heap.size := by omega
  have n1_1 : w.heap.size + 1 < w1.heap.size := by omega
  have n1_2 : w.heap.size + 2 < w1.heap.size := by omega
  have r1_0 : w1.cell? ⟨w.heap.size + 2, 0, none⟩ = some (.slice none 0 0) := (kc1 _ _ as0).trans as2
  have g1_0 : w1.frozen? ⟨w.heap.size + 2, 0, none⟩ = false := (kf1 _ _ as0).trans as2
  have r1_1 : w1.cell? ⟨w.heap.size + 2, 1, none⟩ = some (.bool false) := (kc1 _ _ as0).trans as2
  have g1_1 : w1.frozen? ⟨w.heap.size + 2, 1, none⟩ = false := (kf1 _ _ as0).trans as2
  clear hb
  have lp : p.length = n := by rw [Ep.out, blA_length, HN.out]
  have lq : q.length = n := by rw [Eq.out, blB_length, HN.out]
  rw [← Ep.out, ← Eq.out] at HR
  have LP := hide lp
  have LQ := hide lq
  have L1 : p.length ≤ 4096 := by omega
  have L2 : q.length ≤ 4096 := by omega
  have L3 : 0 < p.length := by omega
  clear lp lq
  have k1 := hide (known_any P p pc w1 L1 Op.out.rd)
  have k2 := hide (known_any Q q qc w1 L2 Oq.out.rd)
  cases hk1 : kn p
  · rw [hk1] at k1 HR
    have hk := hk1
    clear hk1
    go_wp2_with fail
    refine (k1.out).mono ?_
    rintro e w' ⟨rfl, rfl⟩
    go_wp2_with fail
    refine (unknown_any p.length σ _ L3 L1).mono ?_
    rintro e w2 ⟨l1, s1, A1, c1, E1, rfl, C1, O1, hb⟩
    replace Op := hide ((show OwQ (w.heap.size + 3) _ _ _ from owT Op).kept hb)
    replace Oq := hide ((show OwQ (w.heap.size + 3) _ _ _ from owT Oq).kept hb)
    replace O1 := hide (O1.out.base (show w.heap.size + 3 ≤ _ by first | omega | (simp; omega) | (simp; done)))
    have hB2 : Below w.heap.size w w2 := Below.trans belo (hb.mono as4)
    obtain ⟨kc2, kf2⟩ := bcell hb
    have hz2 := hb.size
    (try simp at hz2)
    have n2_0 : w.heap.size < w2.heap.size := by omega
    have n2_1 : w.heap.size + 1 < w2.heap.size := by omega
    have n2_2 : w.heap.size + 2 < w2.heap.size := by omega
    have r2_0 : w2.cell? ⟨w.heap.size + 2, 0, none⟩ = some (.slice none 0 0) := (kc2 _ _ as0).trans as2
    have g2_0 : w2.frozen? ⟨w.heap.size + 2, 0, none⟩ = false := (kf2 _ _ as0).trans as2
    have r2_1 : w2.cell? ⟨w.heap.size + 2, 1, none⟩ = some (.bool false) := (kc2 _ _ as0).trans as2
    have g2_1 : w2.frozen? ⟨w.heap.size + 2, 1, none⟩ = false := (kf2 _ _ as0).trans as2
    clear hb
    go_wp2
    refine bodyPost_ret (v := .agg #[.slice A1 l1.length c1, .bool s1]) (by simp [results, Tryz.results119, go_sem, *]) rfl ?_
    exact ⟨l1, s1, A1, c1, hide (E1.out.trans (by rw [HR.out, LP.out]; simp)), rfl, C1, hide (OwQ.base (B := w.heap.size + 3) (owT O1) (by omega)), belo⟩
  · cases hk2 : kn q
    · rw [hk1] at k1 HR
      rw [hk2] at k2 HR
      clear hk1 hk2
      go_wp2_with fail
      refine (k1.out).mono ?_
      rintro e w' ⟨rfl, rfl⟩
      go_wp2_with fail
      refine (k2.out).mono ?_
      rintro e w' ⟨rfl, rfl⟩
      go_wp2_with fail
      refine (unknown_any p.length σ _ L3 L1).mono ?_
      rintro e w2 ⟨l1, s1, A1, c1, E1, rfl, C1, O1, hb⟩
      replace Op := hide ((show OwQ (w.heap.size + 3) _ _ _ from owT Op).kept hb)
      replace Oq := hide ((show OwQ (w.heap.size + 3) _ _ _ from owT Oq).kept hb)
      replace O1 := hide (O1.out.base (show w.heap.size + 3 ≤ _ by first | omega | (simp; omega) | (simp; done)))
      have hB2 : Below w.heap.size w w2 := Below.trans belo (hb.mono as4)
      obtain ⟨kc2, kf2⟩ := bcell hb
      have hz2 := hb.size
      (try simp at hz2)
      have n2_0 : w.heap.size < w2.heap.size := by omega
      have n2_1 : w.heap.size + 1 < w2.heap.size := by omega
      have n2_2 : w.heap.size + 2 < w2.heap.size := by omega
      have r2_0 : w2.cell? ⟨w.heap.size + 2, 0, none⟩ = some (.slice none 0 0) := (kc2 _ _ as0).trans as2
      have g2_0 : w2.frozen? ⟨w.heap.size + 2, 0, none⟩ = false := (kf2 _ _ as0).trans as2
      have r2_1 : w2.cell? ⟨w.heap.size + 2, 1, none⟩ = some (.bool false) := (kc2 _ _ as0).trans as2
      have g2_1 : w2.frozen? ⟨w.heap.size + 2, 1, none⟩ = false := (kf2 _ _ as0).trans as2
      clear hb
      go_wp2
      refine bodyPost_ret (v := .agg #[.slice A1 l1.length c1, .bool s1]) (by simp [results, Tryz.results119, go_sem, *]) rfl ?_
      exact ⟨l1, s1, A1, c1, hide (E1.out.trans (by rw [HR.out, LP.out]; simp)), rfl, C1, hide (OwQ.base (B := w.heap.size + 3) (owT O1) (by omega)), belo⟩
    · rw [hk1] at k1 HR
      rw [hk2] at k2 HR
      clear hk1 hk2
      go_wp2_with fail
      refine (k1.out).mono ?_
      rintro e w' ⟨rfl, rfl⟩
      go_wp2_with fail
      refine (k2.out).mono ?_
      rintro e w' ⟨rfl, rfl⟩
      go_wp2_with fail
      refine (number_q P p pc _ L1 Op.out.rd).mono ?_
      rintro e w2 ⟨lm, Am, cm, Em, rfl, Cm, Om, hb⟩
      replace Op := hide ((show OwQ (w.heap.size + 3) _ _ _ from owT Op).kept hb)
      replace Oq := hide ((show OwQ (w.heap.size + 3) _ _ _ from owT Oq).kept hb)
      replace Om := hide Om.out.rd
      have hB2 : Below w.heap.size w w2 := Below.trans belo (hb.mono as4)
      obtain ⟨kc2, kf2⟩ := bcell hb
      have hz2 := hb.size
      (try simp at hz2)
      have n2_0 : w.heap.size < w2.heap.size := by omega
      have n2_1 : w.heap.size + 1 < w2.heap.size := by omega
      have n2_2 : w.heap.size + 2 < w2.heap.size := by omega
      have r2_0 : w2.cell? ⟨w.heap.size + 2, 0, none⟩ = some (.slice none 0 0) := (kc2 _ _ as0).trans as2
      have g2_0 : w2.frozen? ⟨w.heap.size + 2, 0, none⟩ = false := (kf2 _ _ as0).trans as2
      have r2_1 : w2.cell? ⟨w.heap.size + 2, 1, none⟩ = some (.bool false) := (kc2 _ _ as0).trans as2
      have g2_1 : w2.frozen? ⟨w.heap.size + 2, 1, none⟩ = false := (kf2 _ _ as0).trans as2
      clear hb
      go_wp2_with fail
      refine (number_q Q q qc _ L2 Oq.out.rd).mono ?_
      rintro e w3 ⟨lk, Ak, ck, Ek, rfl, Ck, Ok, hb⟩
      replace Op := hide ((show OwQ (w.heap.size + 3) _ _ _ from owT Op).kept hb)
      replace Oq := hide ((show OwQ (w.heap.size + 3) _ _ _ from owT Oq).kept hb)
      replace Om := hide (Om.out.below hb)
      replace Ok := hide Ok.out.rd
      have hB3 : Below w.heap.size w w3 := Below.trans belo (hb.mono as4)
      obtain ⟨kc3, kf3⟩ := bcell hb
      have hz3 := hb.size
      (try simp at hz3)
      have n3_0 : w.heap.size < w3.heap.size := by omega
      have n3_1 : w.heap.size + 1 < w3.heap.size := by omega
      have n3_2 : w.heap.size + 2 < w3.heap.size := by omega
      have r3_0 : w3.cell? ⟨w.heap.size + 2, 0, none⟩ = some (.slice none 0 0) := (kc3 _ _ as0).trans as2
      have g3_0 : w3.frozen? ⟨w.heap.size + 2, 0, none⟩ = false := (kf3 _ _ as0).trans as2
      have r3_1 : w3.cell? ⟨w.heap.size + 2, 1, none⟩ = some (.bool false) := (kc3 _ _ as0).trans as2
      have g3_1 : w3.frozen? ⟨w.heap.size + 2, 1, none⟩ = false := (kf3 _ _ as0).trans as2
      clear hb
      have em : lm.length = p.length := by rw [Em.out, nb_length]
      have ek : lk.length = q.length := by rw [Ek.out, nb_length]
      rw [← Em.out, ← Ek.out] at HR
      have EM := hide em
      have em2 : lm.length ≤ 4096 := by omega
      have ek2 : lk.length ≤ 4096 := by omega
      clear em ek
      go_wp2_with fail
      refine (hct.out Am Ak lm lk cm ck σ _ belo em2 ek2 Om.out Ok.out).mono ?_
      rintro e w4 ⟨l0, A0, c0, E0, rfl, H0, O0, hb⟩
      replace Op := hide ((show OwQ (w.heap.size + 3) _ _ _ from owT Op).kept hb)
      replace Oq := hide ((show OwQ (w.heap.size + 3) _ _ _ from owT Oq).kept hb)
      replace Om := hide (Om.out.below hb)
      replace Ok := hide (Ok.out.below hb)
      have hB4 : Below w.heap.size w w4 := Below.trans belo (hb.mono as4)
      obtain ⟨kc4, kf4⟩ := bcell hb
      have hz4 := hb.size
      (try simp at hz4)
      have n4_0 : w.heap.size < w4.heap.size := by omega
      have n4_1 : w.heap.size + 1 < w4.heap.size := by omega
      have n4_2 : w.heap.size + 2 < w4.heap.size := by omega
      have r4_0 : w4.cell? ⟨w.heap.size + 2, 0, none⟩ = some (.slice none 0 0) := (kc4 _ _ as0).trans as2
      have g4_0 : w4.frozen? ⟨w.heap.size + 2, 0, none⟩ = false := (kf4 _ _ as0).trans as2
      have r4_1 : w4.cell? ⟨w.heap.size + 2, 1, none⟩ = some (.bool false) := (kc4 _ _ as0).trans as2
      have g4_1 : w4.frozen? ⟨w.heap.size + 2, 1, none⟩ = false := (kf4 _ _ as0).trans as2
      clear hb
      cases hf : f lm lk σ
      · rw [hf] at H0 HR
        have hne : E0 ≠ 0 := H0.out
        have hne2 : (E0 != 0) = true := by simpa using hne
        clear hf hne
        go_wp2_with fail
        refine (unknown_any p.length σ _ L3 L1).mono ?_
        rintro e w5 ⟨l1, s1, A1, c1, E1, rfl, C1, O1, hb⟩
        replace Op := hide ((show OwQ (w.heap.size + 3) _ _ _ from owT Op).kept hb)
        replace Oq := hide ((show OwQ (w.heap.size + 3) _ _ _ from owT Oq).kept hb)
        replace Om := hide (Om.out.below hb)
        replace Ok := hide (Ok.out.below hb)
        replace O1 := hide (O1.out.base (show w.heap.size + 3 ≤ _ by first | omega | (simp; omega) | (simp; done)))
        have hB5 : Below w.heap.size w w5 := Below.trans belo (hb.mono as4)
        obtain ⟨kc5, kf5⟩ := bcell hb
        have hz5 := hb.size
        (try simp at hz5)
        have n5_0 : w.heap.size < w5.heap.size := by omega
        have n5_1 : w.heap.size + 1 < w5.heap.size := by omega
        have n5_2 : w.heap.size + 2 < w5.heap.size := by omega
        have r5_0 : w5.cell? ⟨w.heap.size + 2, 0, none⟩ = some (.slice none 0 0) := (kc5 _ _ as0).trans as2
        have g5_0 : w5.frozen? ⟨w.heap.size + 2, 0, none⟩ = false := (kf5 _ _ as0).trans as2
        have r5_1 : w5.cell? ⟨w.heap.size + 2, 1, none⟩ = some (.bool false) := (kc5 _ _ as0).trans as2
        have g5_1 : w5.frozen? ⟨w.heap.size + 2, 1, none⟩ = false := (kf5 _ _ as0).trans as2
        clear hb
        go_wp2
        refine bodyPost_ret (v := .agg #[.slice A1 l1.length c1, .bool s1]) (by simp [results, Tryz.results119, go_sem, *]) rfl ?_
        exact ⟨l1, s1, A1, c1, hide (E1.out.trans (by rw [HR.out, LP.out]; simp)), rfl, C1, hide (OwQ.base (B := w.heap.size + 3) (owT O1) (by omega)), belo⟩
      · rename_i v
        rw [hf] at H0 HR
        obtain ⟨rfl, rfl⟩ := H0.out
        have el := HL.out _ _ _ _ hf
        have el2 : l0.length ≤ 4096 := by omega
        clear hf el H0
        go_wp2_with fail
        refine (vector_any A0 l0 c0 σ _ el2 O0.out).mono ?_
        rintro e w5 ⟨l1, s1, A1, c1, E1, rfl, C1, O1, hb⟩
        replace Op := hide ((show OwQ (w.heap.size + 3) _ _ _ from owT Op).kept hb)
        replace Oq := hide ((show OwQ (w.heap.size + 3) _ _ _ from owT Oq).kept hb)
        replace Om := hide (Om.out.below hb)
        replace Ok := hide (Ok.out.below hb)
        replace O1 := hide (O1.out.base (show w.heap.size + 3 ≤ _ by first | omega | (simp; omega) | (simp; done)))
        have hB5 : Below w.heap.size w w5 := Below.trans belo (hb.mono as4)
        obtain ⟨kc5, kf5⟩ := bcell hb
        have hz5 := hb.size
        (try simp at hz5)
        have n5_0 : w.heap.size < w5.heap.size := by omega
        have n5_1 : w.heap.size + 1 < w5.heap.size := by omega
        have n5_2 : w.heap.size + 2 < w5.heap.size := by omega
        have r5_0 : w5.cell? ⟨w.heap.size + 2, 0, none⟩ = some (.slice none 0 0) := (kc5 _ _ as0).trans as2
        have g5_0 : w5.frozen? ⟨w.heap.size + 2, 0, none⟩ = false := (kf5 _ _ as0).trans as2
        have r5_1 : w5.cell? ⟨w.heap.size + 2, 1, none⟩ = some (.bool false) := (kc5 _ _ as0).trans as2
        have g5_1 : w5.frozen? ⟨w.heap.size + 2, 1, none⟩ = false := (kf5 _ _ as0).trans as2
        clear hb
        go_wp2
        refine bodyPost_ret (v := .agg #[.slice A1 l1.length c1, .bool s1]) (by simp [results, Tryz.results119, go_sem, *]) rfl ?_
        exact ⟨l1, s1, A1, c1, hide (E1.out.trans (by rw [HR.out]; simp)), rfl, C1, hide (OwQ.base (B := w.heap.size + 3) (owT O1) (by omega)), belo⟩
end
section
open Go.RowKit
set_option maxRecDepth 100000
set_option linter.unusedSimpArgs false
set_option linter.unusedVariables false
theorem total_t (N : Nat) (w : World) : Calls Tryz.prog 120 #[.func (.func N) #[] #[]] w fun e w' => ∃ g, e = .returned (.func (.func 173) #[] #[.pointer (some ⟨g, 0, none⟩)]) ∧ g < w'.heap.size ∧ w'.cell? ⟨g, 0, none⟩ = some (.func (.func N) #[] #[]) ∧ Below w.heap.size w w' :=
  (total_any N w).mono fun e w' h => by
    obtain ⟨rfl, rfl⟩ := h
    refine ⟨w.heap.size, rfl, by simp, ?_, (Below.refl _ _).alloc (Nat.le_refl _) _⟩
    rw [cell_of_row _ _ _ _ _ _ (heap_alloc_new w _)]
    rfl
theorem len_add : ∀ (m n : List Bool) (s : Bool) (l : List Bool), fAdd m n s = some l → l.length = m.length := fun m n s l h => by unfold fAdd at h; injection h with h; rw [← h, vz_length]
theorem len_sub : ∀ (m n : List Bool) (s : Bool) (l : List Bool), fSub m n s = some l → l.length = m.length := fun m n s l h => by unfold fSub at h; injection h with h; rw [← h, vz_length]
theorem len_mul : ∀ (m n : List Bool) (s : Bool) (l : List Bool), fMul m n s = some l → l.length = m.length := fun m n s l h => by unfold fMul at h; injection h with h; rw [← h, vz_length]
theorem len_div : ∀ (m n : List Bool) (s : Bool) (l : List Bool), fDiv m n s = some l → l.length = m.length := fun m n s l h => by unfold fDiv at h; split at h; cases h; injection h with h; rw [← h, vz_length]
theorem len_mod : ∀ (m n : List Bool) (s : Bool) (l : List Bool), fMod m n s = some l → l.length = m.length := fun m n s l h => by unfold fMod at h; split at h; cases h; injection h with h; rw [← h, vz_length]
theorem vAdd_any (A B : Option Addr) (a b : List Int) (c d : Nat) (s t : Bool) (w : World) (ha : a.length ≤ 4096) (hb : b.length ≤ 4096) (hca : Hid (a.length ≤ c ∧ c ≤ maxLen)) (hcb : Hid (b.length ≤ d ∧ d ≤ maxLen)) (hA : RQ w A a) (hB : RQ w B b) (ya : By a) (yb : By b) :
    Calls Tryz.prog 37 #[.agg #[.slice A a.length c, .bool s], .agg #[.slice B b.length d, .bool t]] w (RetC (· = vAdd ⟨a, s⟩ ⟨b, t⟩) w) := by
  have HA := hide hA
  have HBB := hide hB
  have LA := hide ha
  have LB := hide hb
  have YA := hide ya
  have YB := hide yb
  clear hA hB ha hb ya yb
  go_enter Tryz.func37, Tryz.ntmps37
  go_wp2_with fail
  obtain ⟨W1, hW1⟩ : ∃ x, x = (((w.alloc (Obj.cells #[Value.slice A a.length c, Value.bool s] 24)).alloc (Obj.cells #[Value.slice B b.length d, Value.bool t] 24)).alloc (Obj.cells #[Value.slice none 0 0, Value.bool false] 24)) := ⟨_, rfl⟩
  rw [← hW1]
  have hBW1 : Below w.heap.size w W1 := by rw [hW1]; exact belo
  have qW1_0 : W1.cell? ⟨w.heap.size, 0, none⟩ = some (Value.slice A a.length c) := by rw [hW1]; simp [go_sem]
  have fW1_0 : W1.frozen? ⟨w.heap.size, 0, none⟩ = false := by rw [hW1]; simp [go_sem]
  have qW1_1 : W1.cell? ⟨w.heap.size, 1, none⟩ = some (Value.bool s) := by rw [hW1]; simp [go_sem]
  have fW1_1 : W1.frozen? ⟨w.heap.size, 1, none⟩ = false := by rw [hW1]; simp [go_sem]
  have qW1_2 : W1.cell? ⟨w.heap.size + 1, 0, none⟩ = some (Value.slice B b.length d) := by rw [hW1]; simp [go_sem]
  have fW1_2 : W1.frozen? ⟨w.heap.size + 1, 0, none⟩ = false := by rw [hW1]; simp [go_sem]
  have qW1_3 : W1.cell? ⟨w.heap.size + 1, 1, none⟩ = some (Value.bool t) := by rw [hW1]; simp [go_sem]
  have fW1_3 : W1.frozen? ⟨w.heap.size + 1, 1, none⟩ = false := by rw [hW1]; simp [go_sem]
  have qW1_4 : W1.cell? ⟨w.heap.size + 2, 0, none⟩ = some (Value.slice none 0 0) := by rw [hW1]; simp [go_sem]
  have fW1_4 : W1.frozen? ⟨w.heap.size + 2, 0, none⟩ = false := by rw [hW1]; simp [go_sem]
  have qW1_5 : W1.cell? ⟨w.heap.size + 2, 1, none⟩ = some (Value.bool false) := by rw [hW1]; simp [go_sem]
  have fW1_5 : W1.frozen? ⟨w.heap.size + 2, 1, none⟩ = false := by rw [hW1]; simp [go_sem]
  have zW1_0 : w.heap.size < W1.heap.size := by rw [hW1]; first | (simp; done) | (simp; omega)
  have zW1_1 : w.heap.size + 1 < W1.heap.size := by rw [hW1]; first | (simp; done) | (simp; omega)
  have zW1_2 : w.heap.size + 2 < W1.heap.size := by rw [hW1]; first | (simp; done) | (simp; omega)
  clear hW1
  refine region_anyT (S := fun wS => Below W1.heap.size W1 wS) (n := 4) kr (Below.refl _ _).drew (fun hS inv => ?_)
  refine anyT_take (i := 0) (oi := _) (v := Value.agg #[Value.slice A a.length c, Value.bool s]) rfl kr kr kr (by decide) (by decide) kr kr inv (fun _ _ _ h => h) (Or.inl ⟨kr, ?_⟩) hS (fun inv => ?_)
  · intro wz hSw
    have hk0 := (hSw : Below _ _ _).cell (p := ⟨w.heap.size, 0, none⟩) as0; have hk1 := (hSw : Below _ _ _).cell (p := ⟨w.heap.size, 1, none⟩) as0; go_simp
  (try simp only [Act.put, q2, q3, q4, q5, q6, q7])
  refine anyT_take (i := 1) (oi := _) (v := Value.agg #[Value.slice B b.length d, Value.bool t]) rfl kr kr kr (by decide) (by decide) kr kr inv (fun _ _ _ h => h) (Or.inl ⟨kr, ?_⟩) hS (fun inv => ?_)
  · intro wz hSw
    have hk0 := (hSw : Below _ _ _).cell (p := ⟨w.heap.size + 1, 0, none⟩) as0; have hk1 := (hSw : Below _ _ _).cell (p := ⟨w.heap.size + 1, 1, none⟩) as0; go_simp
  (try simp only [Act.put, q2, q3, q4, q5, q6, q7])
  refine anyT_ready (rs := [2]) kr (by simp) ?_
  refine ReadyT.head (o := _) rfl (by decide) kr inv (fun K hK => ?_) ReadyT.nil
  go_simp
  refine (total_t _ _).mono ?_
  rintro e w1 ⟨g1, rfl, hg1, hc1, hb⟩
  go_wp2_with fail
  refine hK.out _ _ ?_ (fun hS inv => ?_)
  · exact (hS : Below W1.heap.size W1 _).trans (hb.mono (Below.size hS))
  clear hK K
  (try simp only [Act.put, q2, q3, q4, q5, q6, q7])
  have hB1 : Below w.heap.size w w1 := Below.trans belo (hb.mono as4)
  obtain ⟨kc1, kf1⟩ := bcell hb
  have hz1 := hb.size
  (try simp at hz1)
  have n1_0 : w.heap.size < w1.heap.size := by omega
  have n1_1 : w.heap.size + 1 < w1.heap.size := by omega
  have n1_2 : w.heap.size + 2 < w1.heap.size := by omega
  have r1_0 : w1.cell? ⟨w.heap.size + 2, 0, none⟩ = some (.slice none 0 0) := (kc1 _ _ as0).trans as2
  have g1_0 : w1.frozen? ⟨w.heap.size + 2, 0, none⟩ = false := (kf1 _ _ as0).trans as2
  have r1_1 : w1.cell? ⟨w.heap.size + 2, 1, none⟩ = some (.bool false) := (kc1 _ _ as0).trans as2
  have g1_1 : w1.frozen? ⟨w.heap.size + 2, 1, none⟩ = false := (kf1 _ _ as0).trans as2
  clear hb
  refine anyT_ready (rs := [3]) kr (by simp) ?_
  refine ReadyT.head (o := _) rfl (by decide) kr inv (fun K hK => ?_) ReadyT.nil
  go_simp
  refine (arith1_any _ fAdd (.pointer (some ⟨g1, 0, none⟩)) A B a b c d s t _ LA.out LB.out hca hcb (HA.out.below belo) (HBB.out.below belo) YA.out YB.out (opN_total opB_add hg1 hc1) len_add).mono ?_
  rintro e w2 ⟨l1, s1, A1, c1, E1, rfl, C1, O1, hb⟩
  go_wp2_with fail
  refine hK.out _ _ ?_ (fun hS inv => ?_)
  · exact (hS : Below W1.heap.size W1 _).trans (hb.mono (Below.size hS))
  clear hK K
  (try simp only [Act.put, q2, q3, q4, q5, q6, q7])
  replace O1 := hide (O1.out.base (show w.heap.size + 3 ≤ _ by first | omega | (simp; omega) | (simp; done)))
  have hB2 : Below w.heap.size w w2 := Below.trans belo (hb.mono as4)
  obtain ⟨kc2, kf2⟩ := bcell hb
  have hz2 := hb.size
  (try simp at hz2)
  have n2_0 : w.heap.size < w2.heap.size := by omega
  have n2_1 : w.heap.size + 1 < w2.heap.size := by omega
  have n2_2 : w.heap.size + 2 < w2.heap.size := by omega
  have r2_0 : w2.cell? ⟨w.heap.size + 2, 0, none⟩ = some (.slice none 0 0) := (kc2 _ _ as0).trans as2
  have g2_0 : w2.frozen? ⟨w.heap.size + 2, 0, none⟩ = false := (kf2 _ _ as0).trans as2
  have r2_1 : w2.cell? ⟨w.heap.size + 2, 1, none⟩ = some (.bool false) := (kc2 _ _ as0).trans as2
  have g2_1 : w2.frozen? ⟨w.heap.size + 2, 1, none⟩ = false := (kf2 _ _ as0).trans as2
  clear hb
  refine anyT_ready (rs := [4]) kr (by simp) ?_
  refine ReadyT.tail (o := _) rfl (by decide) (fun K hK => ?_)
  go_simp
  refine hK.out _ _ ?_
  clear hK K
  (try simp only [Act.put, q2, q3, q4, q5, q6, q7])
  refine anyT_done kr ?_ _
  go_wp2
  refine bodyPost_ret (v := .agg #[.slice A1 l1.length c1, .bool s1]) (by simp [results, Tryz.results37, go_sem, *]) rfl ?_
  exact ⟨l1, s1, A1, c1, hide (E1.out), rfl, C1, hide (OwQ.base (B := w.heap.size + 3) (owT O1) (by omega)), belo⟩
theorem vSub_any (A B : Option Addr) (a b : List Int) (c d : Nat) (s t : Bool) (w : World) (ha : a.length ≤ 4096) (hb : b.length ≤ 4096) (hca : Hid (a.length ≤ c ∧ c ≤ maxLen)) (hcb : Hid (b.length ≤ d ∧ d ≤ maxLen)) (hA : RQ w A a) (hB : RQ w B b) (ya : By a) (yb : By b) :
    Calls Tryz.prog 38 #[.agg #[.slice A a.length c, .bool s], .agg #[.slice B b.length d, .bool t]] w (RetC (· = vSub ⟨a, s⟩ ⟨b, t⟩) w) := by
  have HA := hide hA
  have HBB := hide hB
  have LA := hide ha
  have LB := hide hb
  have YA := hide ya
  have YB := hide yb
  clear hA hB ha hb ya yb
  go_enter Tryz.func38, Tryz.ntmps38
  go_wp2_with fail
  obtain ⟨W1, hW1⟩ : ∃ x, x = (((w.alloc (Obj.cells #[Value.slice A a.length c, Value.bool s] 24)).alloc (Obj.cells #[Value.slice B b.length d, Value.bool t] 24)).alloc (Obj.cells #[Value.slice none 0 0, Value.bool false] 24)) := ⟨_, rfl⟩
  rw [← hW1]
  have hBW1 : Below w.heap.size w W1 := by rw [hW1]; exact belo
  have qW1_0 : W1.cell? ⟨w.heap.size, 0, none⟩ = some (Value.slice A a.length c) := by rw [hW1]; simp [go_sem]
  have fW1_0 : W1.frozen? ⟨w.heap.size, 0, none⟩ = false := by rw [hW1]; simp [go_sem]
  have qW1_1 : W1.cell? ⟨w.heap.size, 1, none⟩ = some (Value.bool s) := by rw [hW1]; simp [go_sem]
  have fW1_1 : W1.frozen? ⟨w.heap.size, 1, none⟩ = false := by rw [hW1]; simp [go_sem]
  have qW1_2 : W1.cell? ⟨w.heap.size + 1, 0, none⟩ = some (Value.slice B b.length d) := by rw [hW1]; simp [go_sem]
  have fW1_2 : W1.frozen? ⟨w.heap.size + 1, 0, none⟩ = false := by rw [hW1]; simp [go_sem]
  have qW1_3 : W1.cell? ⟨w.heap.size + 1, 1, none⟩ = some (Value.bool t) := by rw [hW1]; simp [go_sem]
  have fW1_3 : W1.frozen? ⟨w.heap.size + 1, 1, none⟩ = false := by rw [hW1]; simp [go_sem]
  have qW1_4 : W1.cell? ⟨w.heap.size + 2, 0, none⟩ = some (Value.slice none 0 0) := by rw [hW1]; simp [go_sem]
  have fW1_4 : W1.frozen? ⟨w.heap.size + 2, 0, none⟩ = false := by rw [hW1]; simp [go_sem]
  have qW1_5 : W1.cell? ⟨w.heap.size + 2, 1, none⟩ = some (Value.bool false) := by rw [hW1]; simp [go_sem]
  have fW1_5 : W1.frozen? ⟨w.heap.size + 2, 1, none⟩ = false := by rw [hW1]; simp [go_sem]
  have zW1_0 : w.heap.size < W1.heap.size := by rw [hW1]; first | (simp; done) | (simp; omega)
  have zW1_1 : w.heap.size + 1 < W1.heap.size := by rw [hW1]; first | (simp; done) | (simp; omega)
  have zW1_2 : w.heap.size + 2 < W1.heap.size := by rw [hW1]; first | (simp; done) | (simp; omega)
  clear hW1
  refine region_anyT (S := fun wS => Below W1.heap.size W1 wS) (n := 4) kr (Below.refl _ _).drew (fun hS inv => ?_)
  refine anyT_take (i := 0) (oi := _) (v := Value.agg #[Value.slice A a.length c, Value.bool s]) rfl kr kr kr (by decide) (by decide) kr kr inv (fun _ _ _ h => h) (Or.inl ⟨kr, ?_⟩) hS (fun inv => ?_)
  · intro wz hSw
    have hk0 := (hSw : Below _ _ _).cell (p := ⟨w.heap.size, 0, none⟩) as0; have hk1 := (hSw : Below _ _ _).cell (p := ⟨w.heap.size, 1, none⟩) as0; go_simp
  (try simp only [Act.put, q2, q3, q4, q5, q6, q7])
  refine anyT_take (i := 1) (oi := _) (v := Value.agg #[Value.slice B b.length d, Value.bool t]) rfl kr kr kr (by decide) (by decide) kr kr inv (fun _ _ _ h => h) (Or.inl ⟨kr, ?_⟩) hS (fun inv => ?_)
  · intro wz hSw
    have hk0 := (hSw : Below _ _ _).cell (p := ⟨w.heap.size + 1, 0, none⟩) as0; have hk1 := (hSw : Below _ _ _).cell (p := ⟨w.heap.size + 1, 1, none⟩) as0; go_simp
  (try simp only [Act.put, q2, q3, q4, q5, q6, q7])
  refine anyT_ready (rs := [2]) kr (by simp) ?_
  refine ReadyT.head (o := _) rfl (by decide) kr inv (fun K hK => ?_) ReadyT.nil
  go_simp
  refine (total_t _ _).mono ?_
  rintro e w1 ⟨g1, rfl, hg1, hc1, hb⟩
  go_wp2_with fail
  refine hK.out _ _ ?_ (fun hS inv => ?_)
  · exact (hS : Below W1.heap.size W1 _).trans (hb.mono (Below.size hS))
  clear hK K
  (try simp only [Act.put, q2, q3, q4, q5, q6, q7])
  have hB1 : Below w.heap.size w w1 := Below.trans belo (hb.mono as4)
  obtain ⟨kc1, kf1⟩ := bcell hb
  have hz1 := hb.size
  (try simp at hz1)
  have n1_0 : w.heap.size < w1.heap.size := by omega
  have n1_1 : w.heap.size + 1 < w1.heap.size := by omega
  have n1_2 : w.heap.size + 2 < w1.heap.size := by omega
  have r1_0 : w1.cell? ⟨w.heap.size + 2, 0, none⟩ = some (.slice none 0 0) := (kc1 _ _ as0).trans as2
  have g1_0 : w1.frozen? ⟨w.heap.size + 2, 0, none⟩ = false := (kf1 _ _ as0).trans as2
  have r1_1 : w1.cell? ⟨w.heap.size + 2, 1, none⟩ = some (.bool false) := (kc1 _ _ as0).trans as2
  have g1_1 : w1.frozen? ⟨w.heap.size + 2, 1, none⟩ = false := (kf1 _ _ as0).trans as2
  clear hb
  refine anyT_ready (rs := [3]) kr (by simp) ?_
  refine ReadyT.head (o := _) rfl (by decide) kr inv (fun K hK => ?_) ReadyT.nil
  go_simp
  refine (arith1_any _ fSub (.pointer (some ⟨g1, 0, none⟩)) A B a b c d s t _ LA.out LB.out hca hcb (HA.out.below belo) (HBB.out.below belo) YA.out YB.out (opN_total opB_sub hg1 hc1) len_sub).mono ?_
  rintro e w2 ⟨l1, s1, A1, c1, E1, rfl, C1, O1, hb⟩
  go_wp2_with fail
  refine hK.out _ _ ?_ (fun hS inv => ?_)
  · exact (hS : Below W1.heap.size W1 _).trans (hb.mono (Below.size hS))
  clear hK K
  (try simp only [Act.put, q2, q3, q4, q5, q6, q7])
  replace O1 := hide (O1.out.base (show w.heap.size + 3 ≤ _ by first | omega | (simp; omega) | (simp; done)))
  have hB2 : Below w.heap.size w w2 := Below.trans belo (hb.mono as4)
  obtain ⟨kc2, kf2⟩ := bcell hb
  have hz2 := hb.size
  (try simp at hz2)
  have n2_0 : w.heap.size < w2.heap.size := by omega
  have n2_1 : w.heap.size + 1 < w2.heap.size := by omega
  have n2_2 : w.heap.size + 2 < w2.heap.size := by omega
  have r2_0 : w2.cell? ⟨w.heap.size + 2, 0, none⟩ = some (.slice none 0 0) := (kc2 _ _ as0).trans as2
  have g2_0 : w2.frozen? ⟨w.heap.size + 2, 0, none⟩ = false := (kf2 _ _ as0).trans as2
  have r2_1 : w2.cell? ⟨w.heap.size + 2, 1, none⟩ = some (.bool false) := (kc2 _ _ as0).trans as2
  have g2_1 : w2.frozen? ⟨w.heap.size + 2, 1, none⟩ = false := (kf2 _ _ as0).trans as2
  clear hb
  refine anyT_ready (rs := [4]) kr (by simp) ?_
  refine ReadyT.tail (o := _) rfl (by decide) (fun K hK => ?_)
  go_simp
  refine hK.out _ _ ?_
  clear hK K
  (try simp only [Act.put, q2, q3, q4, q5, q6, q7])
  refine anyT_done kr ?_ _
  go_wp2
  refine bodyPost_ret (v := .agg #[.slice A1 l1.length c1, .bool s1]) (by simp [results, Tryz.results38, go_sem, *]) rfl ?_
  exact ⟨l1, s1, A1, c1, hide (E1.out), rfl, C1, hide (OwQ.base (B := w.heap.size + 3) (owT O1) (by omega)), belo⟩
theorem vMul_any (A B : Option Addr) (a b : List Int) (c d : Nat) (s t : Bool) (w : World) (ha : a.length ≤ 4096) (hb : b.length ≤ 4096) (hca : Hid (a.length ≤ c ∧ c ≤ maxLen)) (hcb : Hid (b.length ≤ d ∧ d ≤ maxLen)) (hA : RQ w A a) (hB : RQ w B b) (ya : By a) (yb : By b) :
    Calls Tryz.prog 39 #[.agg #[.slice A a.length c, .bool s], .agg #[.slice B b.length d, .bool t]] w (RetC (· = vMul ⟨a, s⟩ ⟨b, t⟩) w) := by
  have HA := hide hA
  have HBB := hide hB
  have LA := hide ha
  have LB := hide hb
  have YA := hide ya
  have YB := hide yb
  clear hA hB ha hb ya yb
  go_enter Tryz.func39, Tryz.ntmps39
  go_wp2_with fail
  obtain ⟨W1, hW1⟩ : ∃ x, x = (((w.alloc (Obj.cells #[Value.slice A a.length c, Value.bool s] 24)).alloc (Obj.cells #[Value.slice B b.length d, Value.bool t] 24)).alloc (Obj.cells #[Value.slice none 0 0, Value.bool false] 24)) := ⟨_, rfl⟩
  rw [← hW1]
  have hBW1 : Below w.heap.size w W1 := by rw [hW1]; exact belo
  have qW1_0 : W1.cell? ⟨w.heap.size, 0, none⟩ = some (Value.slice A a.length c) := by rw [hW1]; simp [go_sem]
  have fW1_0 : W1.frozen? ⟨w.heap.size, 0, none⟩ = false := by rw [hW1]; simp [go_sem]
  have qW1_1 : W1.cell? ⟨w.heap.size, 1, none⟩ = some (Value.bool s) := by rw [hW1]; simp [go_sem]
  have fW1_1 : W1.frozen? ⟨w.heap.size, 1, none⟩ = false := by rw [hW1]; simp [go_sem]
  have qW1_2 : W1.cell? ⟨w.heap.size + 1, 0, none⟩ = some (Value.slice B b.length d) := by rw [hW1]; simp [go_sem]
  have fW1_2 : W1.frozen? ⟨w.heap.size + 1, 0, none⟩ = false := by rw [hW1]; simp [go_sem]
  have qW1_3 : W1.cell? ⟨w.heap.size + 1, 1, none⟩ = some (Value.bool t) := by rw [hW1]; simp [go_sem]
  have fW1_3 : W1.frozen? ⟨w.heap.size + 1, 1, none⟩ = false := by rw [hW1]; simp [go_sem]
  have qW1_4 : W1.cell? ⟨w.heap.size + 2, 0, none⟩ = some (Value.slice none 0 0) := by rw [hW1]; simp [go_sem]
  have fW1_4 : W1.frozen? ⟨w.heap.size + 2, 0, none⟩ = false := by rw [hW1]; simp [go_sem]
  have qW1_5 : W1.cell? ⟨w.heap.size + 2, 1, none⟩ = some (Value.bool false) := by rw [hW1]; simp [go_sem]
  have fW1_5 : W1.frozen? ⟨w.heap.size + 2, 1, none⟩ = false := by rw [hW1]; simp [go_sem]
  have zW1_0 : w.heap.size < W1.heap.size := by rw [hW1]; first | (simp; done) | (simp; omega)
  have zW1_1 : w.heap.size + 1 < W1.heap.size := by rw [hW1]; first | (simp; done) | (simp; omega)
  have zW1_2 : w.heap.size + 2 < W1.heap.size := by rw [hW1]; first | (simp; done) | (simp; omega)
  clear hW1
  refine region_anyT (S := fun wS => Below W1.heap.size W1 wS) (n := 4) kr (Below.refl _ _).drew (fun hS inv => ?_)
  refine anyT_take (i := 0) (oi := _) (v := Value.agg #[Value.slice A a.length c, Value.bool s]) rfl kr kr kr (by decide) (by decide) kr kr inv (fun _ _ _ h => h) (Or.inl ⟨kr, ?_⟩) hS (fun inv => ?_)
  · intro wz hSw
    have hk0 := (hSw : Below _ _ _).cell (p := ⟨w.heap.size, 0, none⟩) as0; have hk1 := (hSw : Below _ _ _).cell (p := ⟨w.heap.size, 1, none⟩) as0; go_simp
  (try simp only [Act.put, q2, q3, q4, q5, q6, q7])
  refine anyT_take (i := 1) (oi := _) (v := Value.agg #[Value.slice B b.length d, Value.bool t]) rfl kr kr kr (by decide) (by decide) kr kr inv (fun _ _ _ h => h) (Or.inl ⟨kr, ?_⟩) hS (fun inv => ?_)
  · intro wz hSw
    have hk0 := (hSw : Below _ _ _).cell (p := ⟨w.heap.size + 1, 0, none⟩) as0; have hk1 := (hSw : Below _ _ _).cell (p := ⟨w.heap.size + 1, 1, none⟩) as0; go_simp
  (try simp only [Act.put, q2, q3, q4, q5, q6, q7])
  refine anyT_ready (rs := [2]) kr (by simp) ?_
  refine ReadyT.head (o := _) rfl (by decide) kr inv (fun K hK => ?_) ReadyT.nil
  go_simp
  refine (total_t _ _).mono ?_
  rintro e w1 ⟨g1, rfl, hg1, hc1, hb⟩
  go_wp2_with fail
  refine hK.out _ _ ?_ (fun hS inv => ?_)
  · exact (hS : Below W1.heap.size W1 _).trans (hb.mono (Below.size hS))
  clear hK K
  (try simp only [Act.put, q2, q3, q4, q5, q6, q7])
  have hB1 : Below w.heap.size w w1 := Below.trans belo (hb.mono as4)
  obtain ⟨kc1, kf1⟩ := bcell hb
  have hz1 := hb.size
  (try simp at hz1)
  have n1_0 : w.heap.size < w1.heap.size := by omega
  have n1_1 : w.heap.size + 1 < w1.heap.size := by omega
  have n1_2 : w.heap.size + 2 < w1.heap.size := by omega
  have r1_0 : w1.cell? ⟨w.heap.size + 2, 0, none⟩ = some (.slice none 0 0) := (kc1 _ _ as0).trans as2
  have g1_0 : w1.frozen? ⟨w.heap.size + 2, 0, none⟩ = false := (kf1 _ _ as0).trans as2
  have r1_1 : w1.cell? ⟨w.heap.size + 2, 1, none⟩ = some (.bool false) := (kc1 _ _ as0).trans as2
  have g1_1 : w1.frozen? ⟨w.heap.size + 2, 1, none⟩ = false := (kf1 _ _ as0).trans as2
  clear hb
  refine anyT_ready (rs := [3]) kr (by simp) ?_
  refine ReadyT.head (o := _) rfl (by decide) kr inv (fun K hK => ?_) ReadyT.nil
  go_simp
  refine (arith1_any _ fMul (.pointer (some ⟨g1, 0, none⟩)) A B a b c d s t _ LA.out LB.out hca hcb (HA.out.below belo) (HBB.out.below belo) YA.out YB.out (opN_total opB_mul hg1 hc1) len_mul).mono ?_
  rintro e w2 ⟨l1, s1, A1, c1, E1, rfl, C1, O1, hb⟩
  go_wp2_with fail
  refine hK.out _ _ ?_ (fun hS inv => ?_)
  · exact (hS : Below W1.heap.size W1 _).trans (hb.mono (Below.size hS))
  clear hK K
  (try simp only [Act.put, q2, q3, q4, q5, q6, q7])
  replace O1 := hide (O1.out.base (show w.heap.size + 3 ≤ _ by first | omega | (simp; omega) | (simp; done)))
  have hB2 : Below w.heap.size w w2 := Below.trans belo (hb.mono as4)
  obtain ⟨kc2, kf2⟩ := bcell hb
  have hz2 := hb.size
  (try simp at hz2)
  have n2_0 : w.heap.size < w2.heap.size := by omega
  have n2_1 : w.heap.size + 1 < w2.heap.size := by omega
  have n2_2 : w.heap.size + 2 < w2.heap.size := by omega
  have r2_0 : w2.cell? ⟨w.heap.size + 2, 0, none⟩ = some (.slice none 0 0) := (kc2 _ _ as0).trans as2
  have g2_0 : w2.frozen? ⟨w.heap.size + 2, 0, none⟩ = false := (kf2 _ _ as0).trans as2
  have r2_1 : w2.cell? ⟨w.heap.size + 2, 1, none⟩ = some (.bool false) := (kc2 _ _ as0).trans as2
  have g2_1 : w2.frozen? ⟨w.heap.size + 2, 1, none⟩ = false := (kf2 _ _ as0).trans as2
  clear hb
  refine anyT_ready (rs := [4]) kr (by simp) ?_
  refine ReadyT.tail (o := _) rfl (by decide) (fun K hK => ?_)
  go_simp
  refine hK.out _ _ ?_
  clear hK K
  (try simp only [Act.put, q2, q3, q4, q5, q6, q7])
  refine anyT_done kr ?_ _
  go_wp2
  refine bodyPost_ret (v := .agg #[.slice A1 l1.length c1, .bool s1]) (by simp [results, Tryz.results39, go_sem, *]) rfl ?_
  exact ⟨l1, s1, A1, c1, hide (E1.out), rfl, C1, hide (OwQ.base (B := w.heap.size + 3) (owT O1) (by omega)), belo⟩
theorem vDiv_any (A B : Option Addr) (a b : List Int) (c d : Nat) (s t : Bool) (w : World) (ha : a.length ≤ 4096) (hb : b.length ≤ 4096) (hca : Hid (a.length ≤ c ∧ c ≤ maxLen)) (hcb : Hid (b.length ≤ d ∧ d ≤ maxLen)) (hA : RQ w A a) (hB : RQ w B b) (ya : By a) (yb : By b) :
    Calls Tryz.prog 44 #[.agg #[.slice A a.length c, .bool s], .agg #[.slice B b.length d, .bool t]] w (RetC (· = vDiv ⟨a, s⟩ ⟨b, t⟩) w) := by
  have HA := hide hA
  have HBB := hide hB
  have LA := hide ha
  have LB := hide hb
  have YA := hide ya
  have YB := hide yb
  clear hA hB ha hb ya yb
  go_enter Tryz.func44, Tryz.ntmps44
  go_wp2_with fail
  refine (arith0_any _ fDiv A B a b c d s t _ LA.out LB.out hca hcb (HA.out.below belo) (HBB.out.below belo) YA.out YB.out (opN_div _) len_div).mono ?_
  rintro e w1 ⟨l1, s1, A1, c1, E1, rfl, C1, O1, hb⟩
  replace O1 := hide (O1.out.base (show w.heap.size + 3 ≤ _ by first | omega | (simp; omega) | (simp; done)))
  have hB1 : Below w.heap.size w w1 := Below.trans belo (hb.mono as4)
  obtain ⟨kc1, kf1⟩ := bcell hb
  have hz1 := hb.size
  (try simp at hz1)
  have n1_0 : w.heap.size < w1.heap.size := by omega
  have n1_1 : w.heap.size + 1 < w1.heap.size := by omega
  have n1_2 : w.heap.size + 2 < w1.heap.size := by omega
  have r1_0 : w1.cell? ⟨w.heap.size + 2, 0, none⟩ = some (.slice none 0 0) := (kc1 _ _ as0).trans as2
  have g1_0 : w1.frozen? ⟨w.heap.size + 2, 0, none⟩ = false := (kf1 _ _ as0).trans as2
  have r1_1 : w1.cell? ⟨w.heap.size + 2, 1, none⟩ = some (.bool false) := (kc1 _ _ as0).trans as2
  have g1_1 : w1.frozen? ⟨w.heap.size + 2, 1, none⟩ = false := (kf1 _ _ as0).trans as2
  clear hb
  go_wp2
  refine bodyPost_ret (v := .agg #[.slice A1 l1.length c1, .bool s1]) (by simp [results, Tryz.results44, go_sem, *]) rfl ?_
  exact ⟨l1, s1, A1, c1, hide (E1.out), rfl, C1, hide (OwQ.base (B := w.heap.size + 3) (owT O1) (by omega)), belo⟩
theorem vMod_any (A B : Option Addr) (a b : List Int) (c d : Nat) (s t : Bool) (w : World) (ha : a.length ≤ 4096) (hb : b.length ≤ 4096) (hca : Hid (a.length ≤ c ∧ c ≤ maxLen)) (hcb : Hid (b.length ≤ d ∧ d ≤ maxLen)) (hA : RQ w A a) (hB : RQ w B b) (ya : By a) (yb : By b) :
    Calls Tryz.prog 45 #[.agg #[.slice A a.length c, .bool s], .agg #[.slice B b.length d, .bool t]] w (RetC (· = vMod ⟨a, s⟩ ⟨b, t⟩) w) := by
  have HA := hide hA
  have HBB := hide hB
  have LA := hide ha
  have LB := hide hb
  have YA := hide ya
  have YB := hide yb
  clear hA hB ha hb ya yb
  go_enter Tryz.func45, Tryz.ntmps45
  go_wp2_with fail
  refine (arith0_any _ fMod A B a b c d s t _ LA.out LB.out hca hcb (HA.out.below belo) (HBB.out.below belo) YA.out YB.out (opN_mod _) len_mod).mono ?_
  rintro e w1 ⟨l1, s1, A1, c1, E1, rfl, C1, O1, hb⟩
  replace O1 := hide (O1.out.base (show w.heap.size + 3 ≤ _ by first | omega | (simp; omega) | (simp; done)))
  have hB1 : Below w.heap.size w w1 := Below.trans belo (hb.mono as4)
  obtain ⟨kc1, kf1⟩ := bcell hb
  have hz1 := hb.size
  (try simp at hz1)
  have n1_0 : w.heap.size < w1.heap.size := by omega
  have n1_1 : w.heap.size + 1 < w1.heap.size := by omega
  have n1_2 : w.heap.size + 2 < w1.heap.size := by omega
  have r1_0 : w1.cell? ⟨w.heap.size + 2, 0, none⟩ = some (.slice none 0 0) := (kc1 _ _ as0).trans as2
  have g1_0 : w1.frozen? ⟨w.heap.size + 2, 0, none⟩ = false := (kf1 _ _ as0).trans as2
  have r1_1 : w1.cell? ⟨w.heap.size + 2, 1, none⟩ = some (.bool false) := (kc1 _ _ as0).trans as2
  have g1_1 : w1.frozen? ⟨w.heap.size + 2, 1, none⟩ = false := (kf1 _ _ as0).trans as2
  clear hb
  go_wp2
  refine bodyPost_ret (v := .agg #[.slice A1 l1.length c1, .bool s1]) (by simp [results, Tryz.results45, go_sem, *]) rfl ?_
  exact ⟨l1, s1, A1, c1, hide (E1.out), rfl, C1, hide (OwQ.base (B := w.heap.size + 3) (owT O1) (by omega)), belo⟩
end
section
open Go.RowKit
set_option maxRecDepth 100000
set_option linter.unusedSimpArgs false
set_option linter.unusedVariables false
def RetE (e0 : Int) (v0 : Vc) (w : World) (e : Ending) (w' : World) : Prop :=
  ∃ l s A c, Hid (if e0 = 0 then (⟨l, s⟩ : Vc) = v0 else l = [] ∧ s = false) ∧ e = .returned (.tuple #[.agg #[.slice A l.length c, .bool s], .int .i64 e0]) ∧ Hid (l.length ≤ c ∧ c ≤ maxLen) ∧ Hid (OwQ w.heap.size w' A l) ∧ Below w.heap.size w w'
theorem vFromInt_any (z n : Int) (s : Bool) (w : World) (h1 : -9223372036854775808 ≤ z) (h2 : z ≤ 9223372036854775807) :
    Calls Tryz.prog 19 #[.int .i64 z, .int .i64 n, .bool s] w (RetE (if 1 ≤ n ∧ n ≤ 128 then 0 else 12) ⟨fb (vz n.toNat z), s⟩ w) := by
  by_cases hn : 1 ≤ n ∧ n ≤ 128
  · rw [if_pos hn]
    obtain ⟨k, rfl⟩ : ∃ k : Nat, n = k := ⟨n.toNat, by omega⟩
    obtain ⟨g1, g2⟩ := hn
    have hk0 : ¬ k = 0 := by omega
    go_enter Tryz.func19, Tryz.ntmps19
    go_wp2_with fail
    refine (from_any z k _ (by omega) h1 h2).mono ?_
    rintro e w1 ⟨A1, c1, rfl, k1, k2, ho, hb⟩
    have hl : (vz k z).length = k := vz_length _ _
    obtain ⟨v, hv⟩ : ∃ v, v = vz k z := ⟨_, rfl⟩
    rw [← hv] at hl ho
    have HV := hide hv
    clear hv k1 k2
    have hv4 : v.length ≤ 4096 := by omega
    have hcall := hide fun W (hW : Below w1.heap.size w1 W) => vector_any A1 v c1 s W hv4 (ho.rd.below hW)
    rw [hl] at hcall
    clear ho hl
    have hB1 : Below w.heap.size w w1 := Below.trans belo (hb.mono as4)
    obtain ⟨kc1, kf1⟩ := bcell hb
    have hz1 := hb.size
    (try simp at hz1)
    have n1_0 : w.heap.size < w1.heap.size := by omega
    have r1_0 : w1.cell? ⟨w.heap.size, 0, none⟩ = some (.slice none 0 0) := (kc1 _ _ as0).trans as2
    have g1_0 : w1.frozen? ⟨w.heap.size, 0, none⟩ = false := (kf1 _ _ as0).trans as2
    have r1_1 : w1.cell? ⟨w.heap.size, 1, none⟩ = some (.bool false) := (kc1 _ _ as0).trans as2
    have g1_1 : w1.frozen? ⟨w.heap.size, 1, none⟩ = false := (kf1 _ _ as0).trans as2
    clear hb
    go_wp2_with fail
    refine (hcall.out _ (Below.refl _ _)).mono ?_
    rintro e w2 ⟨l2, s2, A2, c2, E2, rfl, C2, O2, hb⟩
    replace O2 := hide (O2.out.base (show w.heap.size + 1 ≤ _ by first | omega | (simp; omega) | (simp; done)))
    have hB2 : Below w.heap.size w w2 := Below.trans belo (hb.mono as4)
    obtain ⟨kc2, kf2⟩ := bcell hb
    have hz2 := hb.size
    (try simp at hz2)
    have n2_0 : w.heap.size < w2.heap.size := by omega
    have r2_0 : w2.cell? ⟨w.heap.size, 0, none⟩ = some (.slice none 0 0) := (kc2 _ _ as0).trans as2
    have g2_0 : w2.frozen? ⟨w.heap.size, 0, none⟩ = false := (kf2 _ _ as0).trans as2
    have r2_1 : w2.cell? ⟨w.heap.size, 1, none⟩ = some (.bool false) := (kc2 _ _ as0).trans as2
    have g2_1 : w2.frozen? ⟨w.heap.size, 1, none⟩ = false := (kf2 _ _ as0).trans as2
    clear hb
    go_wp2
    refine bodyPost_ret (v := .tuple #[.agg #[.slice A2 l2.length c2, .bool s2], .int .i64 0]) (by simp [results, Tryz.results19, go_sem, *]) rfl ?_
    exact ⟨l2, s2, A2, c2, hide (by rw [if_pos rfl]; exact E2.out.trans (by rw [HV.out]; rfl)), rfl, C2, hide (OwQ.base (B := w.heap.size + 1) (owT O2) (by omega)), belo⟩
  · rw [if_neg hn]
    by_cases hz : n = 0
    · subst hz
      go_enter Tryz.func19, Tryz.ntmps19
      go_wp2_with fail
      refine (from_any z 0 _ (by omega) h1 h2).mono ?_
      rintro e w1 ⟨A1, c1, rfl, k1, k2, ho, hb⟩
      clear ho k1 k2
      have hB1 : Below w.heap.size w w1 := Below.trans belo (hb.mono as4)
      obtain ⟨kc1, kf1⟩ := bcell hb
      have hz1 := hb.size
      (try simp at hz1)
      have n1_0 : w.heap.size < w1.heap.size := by omega
      clear hb
      go_wp2
      refine bodyPost_ret (v := .tuple #[.agg #[.slice none 0 0, .bool false], .int .i64 12]) (by simp [results, Tryz.results19, go_sem, *]) rfl ?_
      exact ⟨[], false, none, 0, hide (by rw [if_neg (by decide)]; exact ⟨rfl, rfl⟩), rfl, hide ⟨Nat.le_refl _, by simp [maxLen]⟩, hide (fun h => absurd h (by simp)), belo⟩
    · have hcall := hide fun w => from_err z n w (by omega)
      go_enter Tryz.func19, Tryz.ntmps19
      go_wp2_with fail
      refine (hcall.out _).mono ?_
      rintro e w' ⟨rfl, rfl⟩
      go_wp2
      refine bodyPost_ret (v := .tuple #[.agg #[.slice none 0 0, .bool false], .int .i64 12]) (by simp [results, Tryz.results19, go_sem, *]) rfl ?_
      exact ⟨[], false, none, 0, hide (by rw [if_neg (by decide)]; exact ⟨rfl, rfl⟩), rfl, hide ⟨Nat.le_refl _, by simp [maxLen]⟩, hide (fun h => absurd h (by simp)), belo⟩
end
section
open Go.RowKit
set_option maxRecDepth 100000
set_option linter.unusedSimpArgs false
set_option linter.unusedVariables false
theorem window_q (A : Option Addr) (a : List Int) (c n : Nat) (lo f : Int) (w : World) (ha : a.length ≤ 4096) (hn : n ≤ 4096) (h1 : -9223372036854775808 ≤ lo) (h2 : lo + n ≤ 9223372036854775808) (hA : RQ w A a) :
    Calls Tryz.prog 106 #[.slice A a.length c, .int .i64 lo, .int .i64 n, .int .u8 f] w (RetQP (· = wdw a lo n f) w) := (window_any A a c n lo f w ha hn h1 h2 hA).mono fun _ _ h => RetQP.of_mkV rfl h
structure Moves (N : Nat) (m : Vc → Nat → List Int) : Prop where
  cf : Ent N
  ct : ∀ A l c s k w, Gd l → k ≤ l.length → RQ w A l → Calls Tryz.prog N #[.agg #[.slice A l.length c, .bool s], .int .i64 (k : Nat)] w (RetQP (· = m ⟨l, s⟩ k) w)
set_option maxHeartbeats 2000000 in
theorem shift_any (N : Nat) (m : Vc → Nat → List Int) (hop : Moves N m) (A B : Option Addr) (a b : List Int) (c d : Nat) (s t : Bool) (w : World) (ha : a.length ≤ 4096) (hb : b.length ≤ 4096) (hca : Hid (a.length ≤ c ∧ c ≤ maxLen)) (hcb : Hid (b.length ≤ d ∧ d ≤ maxLen)) (hA : RQ w A a) (hB : RQ w B b) (ya : By a) (yb : By b) :
    Calls Tryz.prog 138 #[.agg #[.slice A a.length c, .bool s], .agg #[.slice B b.length d, .bool t], .func (.func N) #[] #[]] w (RetC (· = shf m ⟨a, s⟩ ⟨b, t⟩) w) := by
  have hcf : ∀ args w, (callFunc N args).run Tryz.prog w = .ok (.enter N args) w := hop.cf
  have HO := hide hop
  have HA := hide hA
  have HBB := hide hB
  have LA := hide ha
  have LB := hide hb
  have YA := hide ya
  have YB := hide yb
  clear hA hB ha hb ya yb
  clear hop
  obtain ⟨R, hR⟩ : ∃ R, R = shf m ⟨a, s⟩ ⟨b, t⟩ := ⟨_, rfl⟩
  rw [← hR]
  unfold shf dst at hR
  have HR := hide hR
  clear hR
  go_enter Tryz.func138, Tryz.ntmps138
  go_wp2_with fail
  obtain ⟨W1, hW1⟩ : ∃ x, x = (((w.alloc (Obj.cells #[Value.slice A a.length c, Value.bool s] 24)).alloc (Obj.cells #[Value.slice B b.length d, Value.bool t] 24)).alloc (Obj.cells #[Value.slice none 0 0, Value.bool false] 24)) := ⟨_, rfl⟩
  rw [← hW1]
  have hBW1 : Below w.heap.size w W1 := by rw [hW1]; exact belo
  have qW1_0 : W1.cell? ⟨w.heap.size, 0, none⟩ = some (Value.slice A a.length c) := by rw [hW1]; simp [go_sem]
  have fW1_0 : W1.frozen? ⟨w.heap.size, 0, none⟩ = false := by rw [hW1]; simp [go_sem]
  have qW1_1 : W1.cell? ⟨w.heap.size, 1, none⟩ = some (Value.bool s) := by rw [hW1]; simp [go_sem]
  have fW1_1 : W1.frozen? ⟨w.heap.size, 1, none⟩ = false := by rw [hW1]; simp [go_sem]
  have qW1_2 : W1.cell? ⟨w.heap.size + 1, 0, none⟩ = some (Value.slice B b.length d) := by rw [hW1]; simp [go_sem]
  have fW1_2 : W1.frozen? ⟨w.heap.size + 1, 0, none⟩ = false := by rw [hW1]; simp [go_sem]
  have qW1_3 : W1.cell? ⟨w.heap.size + 1, 1, none⟩ = some (Value.bool t) := by rw [hW1]; simp [go_sem]
  have fW1_3 : W1.frozen? ⟨w.heap.size + 1, 1, none⟩ = false := by rw [hW1]; simp [go_sem]
  have qW1_4 : W1.cell? ⟨w.heap.size + 2, 0, none⟩ = some (Value.slice none 0 0) := by rw [hW1]; simp [go_sem]
  have fW1_4 : W1.frozen? ⟨w.heap.size + 2, 0, none⟩ = false := by rw [hW1]; simp [go_sem]
  have qW1_5 : W1.cell? ⟨w.heap.size + 2, 1, none⟩ = some (Value.bool false) := by rw [hW1]; simp [go_sem]
  have fW1_5 : W1.frozen? ⟨w.heap.size + 2, 1, none⟩ = false := by rw [hW1]; simp [go_sem]
  have zW1_0 : w.heap.size < W1.heap.size := by rw [hW1]; first | (simp; done) | (simp; omega)
  have zW1_1 : w.heap.size + 1 < W1.heap.size := by rw [hW1]; first | (simp; done) | (simp; omega)
  have zW1_2 : w.heap.size + 2 < W1.heap.size := by rw [hW1]; first | (simp; done) | (simp; omega)
  clear hW1
  refine region_anyT (S := fun wS => Below W1.heap.size W1 wS) (n := 4) kr (Below.refl _ _).drew (fun hS inv => ?_)
  refine anyT_take (i := 0) (oi := _) (v := Value.agg #[Value.slice A a.length c, Value.bool s]) rfl kr kr kr (by decide) (by decide) kr kr inv (fun _ _ _ h => h) (Or.inl ⟨kr, ?_⟩) hS (fun inv => ?_)
  · intro wz hSw
    have hk0 := (hSw : Below _ _ _).cell (p := ⟨w.heap.size, 0, none⟩) as0; have hk1 := (hSw : Below _ _ _).cell (p := ⟨w.heap.size, 1, none⟩) as0; go_simp
  (try simp only [Act.put, q2, q3, q4, q5, q6, q7])
  refine anyT_take (i := 2) (oi := _) (v := Value.agg #[Value.slice B b.length d, Value.bool t]) rfl kr kr kr (by decide) (by decide) kr kr inv (fun _ _ _ h => h) (Or.inl ⟨kr, ?_⟩) hS (fun inv => ?_)
  · intro wz hSw
    have hk0 := (hSw : Below _ _ _).cell (p := ⟨w.heap.size + 1, 0, none⟩) as0; have hk1 := (hSw : Below _ _ _).cell (p := ⟨w.heap.size + 1, 1, none⟩) as0; go_simp
  (try simp only [Act.put, q2, q3, q4, q5, q6, q7])
  refine anyT_ready (rs := [1]) kr (by simp) ?_
  refine ReadyT.head (o := _) rfl (by decide) kr inv (fun K hK => ?_) ReadyT.nil
  go_simp
  refine (counted_any A a c s w _ LA.out hca HA.out belo).mono ?_
  rintro e w1 ⟨l1, s1, A1, c1, E1, rfl, C1, O1, hb⟩
  go_wp2_with fail
  refine hK.out _ _ ?_ (fun hS inv => ?_)
  · exact (hS : Below W1.heap.size W1 _).trans (hb.mono (Below.size hS))
  clear hK K
  (try simp only [Act.put, q2, q3, q4, q5, q6, q7])
  replace O1 := hide (O1.out.lower (show w.heap.size + 3 ≤ _ by first | omega | (simp; omega) | (simp; done)))
  have hB1 : Below w.heap.size w w1 := Below.trans belo (hb.mono as4)
  obtain ⟨kc1, kf1⟩ := bcell hb
  have hz1 := hb.size
  (try simp at hz1)
  have n1_0 : w.heap.size < w1.heap.size := by omega
  have n1_1 : w.heap.size + 1 < w1.heap.size := by omega
  have n1_2 : w.heap.size + 2 < w1.heap.size := by omega
  have r1_0 : w1.cell? ⟨w.heap.size + 2, 0, none⟩ = some (.slice none 0 0) := (kc1 _ _ as0).trans as2
  have g1_0 : w1.frozen? ⟨w.heap.size + 2, 0, none⟩ = false := (kf1 _ _ as0).trans as2
  have r1_1 : w1.cell? ⟨w.heap.size + 2, 1, none⟩ = some (.bool false) := (kc1 _ _ as0).trans as2
  have g1_1 : w1.frozen? ⟨w.heap.size + 2, 1, none⟩ = false := (kf1 _ _ as0).trans as2
  clear hb
  have m1_0 : w1.cell? ⟨w.heap.size, 0, none⟩ = some (Value.slice A a.length c) := (kc1 _ _ as0).trans as1
  have v1_0 : w1.frozen? ⟨w.heap.size, 0, none⟩ = false := (kf1 _ _ as0).trans as1
  have m1_1 : w1.cell? ⟨w.heap.size, 1, none⟩ = some (Value.bool s) := (kc1 _ _ as0).trans as1
  have v1_1 : w1.frozen? ⟨w.heap.size, 1, none⟩ = false := (kf1 _ _ as0).trans as1
  have m1_2 : w1.cell? ⟨w.heap.size + 1, 0, none⟩ = some (Value.slice B b.length d) := (kc1 _ _ as0).trans as1
  have v1_2 : w1.frozen? ⟨w.heap.size + 1, 0, none⟩ = false := (kf1 _ _ as0).trans as1
  have m1_3 : w1.cell? ⟨w.heap.size + 1, 1, none⟩ = some (Value.bool t) := (kc1 _ _ as0).trans as1
  have v1_3 : w1.frozen? ⟨w.heap.size + 1, 1, none⟩ = false := (kf1 _ _ as0).trans as1
  have m1_4 : w1.cell? ⟨w.heap.size + 2, 0, none⟩ = some (Value.slice none 0 0) := (kc1 _ _ as0).trans as1
  have v1_4 : w1.frozen? ⟨w.heap.size + 2, 0, none⟩ = false := (kf1 _ _ as0).trans as1
  have m1_5 : w1.cell? ⟨w.heap.size + 2, 1, none⟩ = some (Value.bool false) := (kc1 _ _ as0).trans as1
  have v1_5 : w1.frozen? ⟨w.heap.size + 2, 1, none⟩ = false := (kf1 _ _ as0).trans as1
  clear kc1 kf1
  refine anyT_ready (rs := [3]) kr (by simp) ?_
  refine ReadyT.head (o := _) rfl (by decide) kr inv (fun K hK => ?_) ReadyT.nil
  go_simp
  refine (counted_any B b d t w _ LB.out hcb HBB.out belo).mono ?_
  rintro e w2 ⟨l2, s2, A2, c2, E2, rfl, C2, O2, hb⟩
  go_wp2_with fail
  refine hK.out _ _ ?_ (fun hS inv => ?_)
  · exact (hS : Below W1.heap.size W1 _).trans (hb.mono (Below.size hS))
  clear hK K
  (try simp only [Act.put, q2, q3, q4, q5, q6, q7])
  replace O1 := hide ((show RG w.heap.size (w.heap.size + 3) _ A1 l1 from rgT O1).kept hb)
  replace O2 := hide (O2.out.lower (show w.heap.size + 3 ≤ _ by first | omega | (simp; omega) | (simp; done)))
  have hB2 : Below w.heap.size w w2 := Below.trans belo (hb.mono as4)
  obtain ⟨kc2, kf2⟩ := bcell hb
  have hz2 := hb.size
  (try simp at hz2)
  have n2_0 : w.heap.size < w2.heap.size := by omega
  have n2_1 : w.heap.size + 1 < w2.heap.size := by omega
  have n2_2 : w.heap.size + 2 < w2.heap.size := by omega
  have r2_0 : w2.cell? ⟨w.heap.size + 2, 0, none⟩ = some (.slice none 0 0) := (kc2 _ _ as0).trans as2
  have g2_0 : w2.frozen? ⟨w.heap.size + 2, 0, none⟩ = false := (kf2 _ _ as0).trans as2
  have r2_1 : w2.cell? ⟨w.heap.size + 2, 1, none⟩ = some (.bool false) := (kc2 _ _ as0).trans as2
  have g2_1 : w2.frozen? ⟨w.heap.size + 2, 1, none⟩ = false := (kf2 _ _ as0).trans as2
  clear hb
  have m2_0 : w2.cell? ⟨w.heap.size, 0, none⟩ = some (Value.slice A a.length c) := (kc2 _ _ as0).trans as1
  have v2_0 : w2.frozen? ⟨w.heap.size, 0, none⟩ = false := (kf2 _ _ as0).trans as1
  have m2_1 : w2.cell? ⟨w.heap.size, 1, none⟩ = some (Value.bool s) := (kc2 _ _ as0).trans as1
  have v2_1 : w2.frozen? ⟨w.heap.size, 1, none⟩ = false := (kf2 _ _ as0).trans as1
  have m2_2 : w2.cell? ⟨w.heap.size + 1, 0, none⟩ = some (Value.slice B b.length d) := (kc2 _ _ as0).trans as1
  have v2_2 : w2.frozen? ⟨w.heap.size + 1, 0, none⟩ = false := (kf2 _ _ as0).trans as1
  have m2_3 : w2.cell? ⟨w.heap.size + 1, 1, none⟩ = some (Value.bool t) := (kc2 _ _ as0).trans as1
  have v2_3 : w2.frozen? ⟨w.heap.size + 1, 1, none⟩ = false := (kf2 _ _ as0).trans as1
  have m2_4 : w2.cell? ⟨w.heap.size + 2, 0, none⟩ = some (Value.slice none 0 0) := (kc2 _ _ as0).trans as1
  have v2_4 : w2.frozen? ⟨w.heap.size + 2, 0, none⟩ = false := (kf2 _ _ as0).trans as1
  have m2_5 : w2.cell? ⟨w.heap.size + 2, 1, none⟩ = some (Value.bool false) := (kc2 _ _ as0).trans as1
  have v2_5 : w2.frozen? ⟨w.heap.size + 2, 1, none⟩ = false := (kf2 _ _ as0).trans as1
  clear kc2 kf2
  refine anyT_ready (rs := [4]) kr (by simp) ?_
  refine ReadyT.tail (o := _) rfl (by decide) (fun K hK => ?_)
  go_simp
  refine hK.out _ _ ?_
  clear hK K
  (try simp only [Act.put, q2, q3, q4, q5, q6, q7])
  refine anyT_ready (rs := [5]) kr (by simp) ?_
  refine ReadyT.tail (o := _) rfl (by decide) (fun K hK => ?_)
  go_simp
  refine hK.out _ _ ?_
  clear hK K
  (try simp only [Act.put, q2, q3, q4, q5, q6, q7])
  refine anyT_done kr ?_ _
  go_wp2_with fail
  obtain ⟨V, hV⟩ : ∃ x, x = ((((w2.setCell ⟨w.heap.size, 0, none⟩ (.slice A1 l1.length c1)).setCell ⟨w.heap.size, 1, none⟩ (.bool s1)).setCell ⟨w.heap.size + 1, 0, none⟩ (.slice A2 l2.length c2)).setCell ⟨w.heap.size + 1, 1, none⟩ (.bool s2)) := ⟨_, rfl⟩
  rw [← hV]
  have hBV : Below w.heap.size w V := by rw [hV]; exact belo
  have qa0 : V.cell? ⟨w.heap.size, 0, none⟩ = some (.slice A1 l1.length c1) := by rw [hV]; (repeat (first | with_reducible refine cset_eq' ?_ | with_reducible refine cset_ne (by first | (simp; done) | (simp; omega)) ?_ | with_reducible refine cset_ex ?_ | exact ⟨_, by assumption⟩ | assumption))
  have ja0 : V.frozen? ⟨w.heap.size, 0, none⟩ = false := by rw [hV]; (repeat (first | with_reducible refine fset ?_ | assumption))
  have qa1 : V.cell? ⟨w.heap.size, 1, none⟩ = some (.bool s1) := by rw [hV]; (repeat (first | with_reducible refine cset_eq' ?_ | with_reducible refine cset_ne (by first | (simp; done) | (simp; omega)) ?_ | with_reducible refine cset_ex ?_ | exact ⟨_, by assumption⟩ | assumption))
  have ja1 : V.frozen? ⟨w.heap.size, 1, none⟩ = false := by rw [hV]; (repeat (first | with_reducible refine fset ?_ | assumption))
  have qb0 : V.cell? ⟨w.heap.size + 1, 0, none⟩ = some (.slice A2 l2.length c2) := by rw [hV]; (repeat (first | with_reducible refine cset_eq' ?_ | with_reducible refine cset_ne (by first | (simp; done) | (simp; omega)) ?_ | with_reducible refine cset_ex ?_ | exact ⟨_, by assumption⟩ | assumption))
  have jb0 : V.frozen? ⟨w.heap.size + 1, 0, none⟩ = false := by rw [hV]; (repeat (first | with_reducible refine fset ?_ | assumption))
  have qb1 : V.cell? ⟨w.heap.size + 1, 1, none⟩ = some (.bool s2) := by rw [hV]; (repeat (first | with_reducible refine cset_eq' ?_ | with_reducible refine cset_ne (by first | (simp; done) | (simp; omega)) ?_ | with_reducible refine cset_ex ?_ | exact ⟨_, by assumption⟩ | assumption))
  have jb1 : V.frozen? ⟨w.heap.size + 1, 1, none⟩ = false := by rw [hV]; (repeat (first | with_reducible refine fset ?_ | assumption))
  have rV_0 : V.cell? ⟨w.heap.size + 2, 0, none⟩ = some (.slice none 0 0) := by rw [hV]; (repeat (first | with_reducible refine cset_eq' ?_ | with_reducible refine cset_ne (by first | (simp; done) | (simp; omega)) ?_ | with_reducible refine cset_ex ?_ | exact ⟨_, by assumption⟩ | assumption))
  have gV_0 : V.frozen? ⟨w.heap.size + 2, 0, none⟩ = false := by rw [hV]; (repeat (first | with_reducible refine fset ?_ | assumption))
  have rV_1 : V.cell? ⟨w.heap.size + 2, 1, none⟩ = some (.bool false) := by rw [hV]; (repeat (first | with_reducible refine cset_eq' ?_ | with_reducible refine cset_ne (by first | (simp; done) | (simp; omega)) ?_ | with_reducible refine cset_ex ?_ | exact ⟨_, by assumption⟩ | assumption))
  have gV_1 : V.frozen? ⟨w.heap.size + 2, 1, none⟩ = false := by rw [hV]; (repeat (first | with_reducible refine fset ?_ | assumption))
  have nV_0 : w.heap.size < V.heap.size := by rw [hV]; simp; omega
  have nV_1 : w.heap.size + 1 < V.heap.size := by rw [hV]; simp; omega
  have nV_2 : w.heap.size + 2 < V.heap.size := by rw [hV]; simp; omega
  replace O1 := hide (show RG w.heap.size (w.heap.size + 3) V A1 l1 by rw [hV]; (repeat (first | with_reducible exact O1.out | with_reducible refine RG.setc ?_ as3 as3 _ | with_reducible refine RG.allc ?_ _ | with_reducible refine RG.drew ?_ | with_reducible refine RG.drewN ?_ _)))
  replace O2 := hide (show RG w.heap.size (w.heap.size + 3) V A2 l2 by rw [hV]; (repeat (first | with_reducible exact O2.out | with_reducible refine RG.setc ?_ as3 as3 _ | with_reducible refine RG.allc ?_ _ | with_reducible refine RG.drew ?_ | with_reducible refine RG.drewN ?_ _)))
  have G1 : Gd l1 := by have h := cnt_gd (v := ⟨a, s⟩) YA.out; rw [← E1.out] at h; exact h
  have G2 : Gd l2 := by have h := cnt_gd (v := ⟨b, t⟩) YB.out; rw [← E2.out] at h; exact h
  have HG1 := hide G1
  have HG2 := hide G2
  have p1 := G1.pos
  have p2 := G2.pos
  have u1 := G1.le
  have u2 := G2.le
  clear hV G1 G2
  rw [← E1.out, ← E2.out] at HR
  have k2 := hide fun W (hW : Below V.heap.size V W) => known_any A2 l2 c2 W (by omega) (O2.out.rd.below hW)
  cases hk : kn l2
  · rw [hk] at k2 HR
    clear hk
    go_wp2_with fail
    refine (k2.out _ belo).mono ?_
    rintro e w' ⟨rfl, rfl⟩
    go_wp2_with fail
    refine (unknown_any l1.length s1 _ p1 (by omega)).mono ?_
    rintro e w3 ⟨l3, s3, A3, c3, E3, rfl, C3, O3, hb⟩
    replace O1 := hide ((show RG w.heap.size (w.heap.size + 3) _ A1 l1 from rgT O1).kept hb)
    replace O2 := hide ((show RG w.heap.size (w.heap.size + 3) _ A2 l2 from rgT O2).kept hb)
    replace O3 := hide (O3.out.base (show w.heap.size + 3 ≤ _ by first | omega | (simp; omega) | (simp; done)))
    have hB3 : Below w.heap.size w w3 := Below.trans belo (hb.mono as4)
    obtain ⟨kc3, kf3⟩ := bcell hb
    have hz3 := hb.size
    (try simp at hz3)
    have n3_0 : w.heap.size < w3.heap.size := by omega
    have n3_1 : w.heap.size + 1 < w3.heap.size := by omega
    have n3_2 : w.heap.size + 2 < w3.heap.size := by omega
    have m3_0 : w3.cell? ⟨w.heap.size, 0, none⟩ = some (.slice A1 l1.length c1) := (kc3 _ _ as0).trans as1
    have v3_0 : w3.frozen? ⟨w.heap.size, 0, none⟩ = false := (kf3 _ _ as0).trans as1
    have m3_1 : w3.cell? ⟨w.heap.size, 1, none⟩ = some (.bool s1) := (kc3 _ _ as0).trans as1
    have v3_1 : w3.frozen? ⟨w.heap.size, 1, none⟩ = false := (kf3 _ _ as0).trans as1
    have m3_2 : w3.cell? ⟨w.heap.size + 1, 0, none⟩ = some (.slice A2 l2.length c2) := (kc3 _ _ as0).trans as1
    have v3_2 : w3.frozen? ⟨w.heap.size + 1, 0, none⟩ = false := (kf3 _ _ as0).trans as1
    have m3_3 : w3.cell? ⟨w.heap.size + 1, 1, none⟩ = some (.bool s2) := (kc3 _ _ as0).trans as1
    have v3_3 : w3.frozen? ⟨w.heap.size + 1, 1, none⟩ = false := (kf3 _ _ as0).trans as1
    have m3_4 : w3.cell? ⟨w.heap.size + 2, 0, none⟩ = some (.slice none 0 0) := (kc3 _ _ as0).trans as1
    have v3_4 : w3.frozen? ⟨w.heap.size + 2, 0, none⟩ = false := (kf3 _ _ as0).trans as1
    have m3_5 : w3.cell? ⟨w.heap.size + 2, 1, none⟩ = some (.bool false) := (kc3 _ _ as0).trans as1
    have v3_5 : w3.frozen? ⟨w.heap.size + 2, 1, none⟩ = false := (kf3 _ _ as0).trans as1
    clear kc3 kf3
    clear hb
    go_wp2
    refine bodyPost_ret (v := .agg #[.slice A3 l3.length c3, .bool s3]) (by simp [results, Tryz.results138, go_sem, *]) rfl ?_
    exact ⟨l3, s3, A3, c3, hide (E3.out.trans (by rw [HR.out]; simp)), rfl, C3, hide (OwQ.base (B := w.heap.size + 3) (owT O3) (by omega)), belo⟩
  · rw [hk] at k2 HR
    clear hk
    go_wp2_with fail
    refine (k2.out _ belo).mono ?_
    rintro e w' ⟨rfl, rfl⟩
    go_wp2_with fail
    refine (number_q A2 l2 c2 _ (by omega) O2.out.rd).mono ?_
    rintro e w3 ⟨lm, Am, cm, Em, rfl, Cm, Om, hb⟩
    replace O1 := hide ((show RG w.heap.size (w.heap.size + 3) _ A1 l1 from rgT O1).kept hb)
    replace O2 := hide ((show RG w.heap.size (w.heap.size + 3) _ A2 l2 from rgT O2).kept hb)
    replace Om := hide Om.out.rd
    have hB3 : Below w.heap.size w w3 := Below.trans belo (hb.mono as4)
    obtain ⟨kc3, kf3⟩ := bcell hb
    have hz3 := hb.size
    (try simp at hz3)
    have n3_0 : w.heap.size < w3.heap.size := by omega
    have n3_1 : w.heap.size + 1 < w3.heap.size := by omega
    have n3_2 : w.heap.size + 2 < w3.heap.size := by omega
    have m3_0 : w3.cell? ⟨w.heap.size, 0, none⟩ = some (.slice A1 l1.length c1) := (kc3 _ _ as0).trans as1
    have v3_0 : w3.frozen? ⟨w.heap.size, 0, none⟩ = false := (kf3 _ _ as0).trans as1
    have m3_1 : w3.cell? ⟨w.heap.size, 1, none⟩ = some (.bool s1) := (kc3 _ _ as0).trans as1
    have v3_1 : w3.frozen? ⟨w.heap.size, 1, none⟩ = false := (kf3 _ _ as0).trans as1
    have m3_2 : w3.cell? ⟨w.heap.size + 1, 0, none⟩ = some (.slice A2 l2.length c2) := (kc3 _ _ as0).trans as1
    have v3_2 : w3.frozen? ⟨w.heap.size + 1, 0, none⟩ = false := (kf3 _ _ as0).trans as1
    have m3_3 : w3.cell? ⟨w.heap.size + 1, 1, none⟩ = some (.bool s2) := (kc3 _ _ as0).trans as1
    have v3_3 : w3.frozen? ⟨w.heap.size + 1, 1, none⟩ = false := (kf3 _ _ as0).trans as1
    have m3_4 : w3.cell? ⟨w.heap.size + 2, 0, none⟩ = some (.slice none 0 0) := (kc3 _ _ as0).trans as1
    have v3_4 : w3.frozen? ⟨w.heap.size + 2, 0, none⟩ = false := (kf3 _ _ as0).trans as1
    have m3_5 : w3.cell? ⟨w.heap.size + 2, 1, none⟩ = some (.bool false) := (kc3 _ _ as0).trans as1
    have v3_5 : w3.frozen? ⟨w.heap.size + 2, 1, none⟩ = false := (kf3 _ _ as0).trans as1
    clear kc3 kf3
    clear hb
    have em : lm.length ≤ 4096 := by rw [Em.out, nb_length]; omega
    rw [← Em.out] at HR
    have hu := uint_any Am lm cm w3 em Om.out
    have HU := hide hu
    clear hu
    go_wp2_with fail
    refine (HU.out).mono ?_
    rintro e w' ⟨hu | hu, rfl⟩
    · obtain ⟨hu, rfl⟩ := hu
      by_cases hlt : nv lm < l1.length
      · have HD := hide (show min (nv lm) l1.length = nv lm by omega)
        go_wp2_with fail
        refine region_anyT (S := fun wS => Below w3.heap.size w3 wS) (n := 7) kr (Below.refl _ _).drew (fun hS inv => ?_)
        refine anyT_take (i := 0) (oi := _) (v := Value.func (Fn.func N) #[] #[]) rfl kr kr kr (by decide) (by decide) kr kr inv (fun _ _ _ h => h) (Or.inl ⟨kr, ?_⟩) hS (fun inv => ?_)
        · intro wz hSw
          first | kernel_rfl | go_simp
        (try simp only [Act.put, q2, q3, q4, q5, q6, q7])
        refine anyT_take (i := 1) (oi := _) (v := Value.agg #[Value.slice A1 l1.length c1, Value.bool s1]) rfl kr kr kr (by decide) (by decide) kr kr inv (fun _ _ _ h => h) (Or.inl ⟨kr, ?_⟩) hS (fun inv => ?_)
        · intro wz hSw
          have hk0 := (hSw : Below _ _ _).cell (p := ⟨w.heap.size, 0, none⟩) as0; have hk1 := (hSw : Below _ _ _).cell (p := ⟨w.heap.size, 1, none⟩) as0; go_simp
        (try simp only [Act.put, q2, q3, q4, q5, q6, q7])
        refine anyT_take (i := 2) (oi := _) (v := Value.int IntKind.i64 ↑(nv lm)) rfl kr kr kr (by decide) (by decide) kr kr inv (fun _ _ _ h => h) (Or.inl ⟨kr, ?_⟩) hS (fun inv => ?_)
        · intro wz hSw
          first | kernel_rfl | go_simp
        (try simp only [Act.put, q2, q3, q4, q5, q6, q7])
        refine anyT_take (i := 4) (oi := _) (v := Value.pointer (some ⟨w.heap.size, 1, none⟩)) rfl kr kr kr (by decide) (by decide) kr kr inv (fun _ _ _ h => h) (Or.inl ⟨kr, ?_⟩) hS (fun inv => ?_)
        · intro wz hSw
          first | kernel_rfl | go_simp
        (try simp only [Act.put, q2, q3, q4, q5, q6, q7])
        refine anyT_take (i := 5) (oi := _) (v := Value.bool s1) rfl kr kr kr (by decide) (by decide) kr kr inv (fun _ _ _ h => h) (Or.inl ⟨kr, ?_⟩) hS (fun inv => ?_)
        · intro wz hSw
          have hk0 := (hSw : Below _ _ _).cell (p := ⟨w.heap.size, 1, none⟩) as0; go_simp
        (try simp only [Act.put, q2, q3, q4, q5, q6, q7])
        refine anyT_ready (rs := [3]) kr (by simp) ?_
        refine ReadyT.head (o := _) rfl (by decide) kr inv (fun K hK => ?_) ReadyT.nil
        go_simp
        refine (HO.out.ct A1 l1 c1 s1 (nv lm) _ HG1.out (by omega) (by refine RG.rd (B0 := w.heap.size) (B1 := w.heap.size + 3) ?_; (repeat (first | with_reducible exact O1.out | with_reducible refine RG.setc ?_ as3 as3 _ | with_reducible refine RG.allc ?_ _ | with_reducible refine RG.drew ?_ | with_reducible refine RG.drewN ?_ _)))).mono ?_
        rintro e w4 ⟨ln, An, cn, En, rfl, Cn, On, hb⟩
        go_wp2_with fail
        refine hK.out _ _ ?_ (fun hS inv => ?_)
        · exact (hS : Below w3.heap.size w3 _).trans (hb.mono (Below.size hS))
        clear hK K
        (try simp only [Act.put, q2, q3, q4, q5, q6, q7])
        replace Om := hide (Rd.below (by exact Om.out) hb)
        replace O1 := hide ((show RG w.heap.size (w.heap.size + 3) _ A1 l1 from rgT O1).kept hb)
        replace O2 := hide ((show RG w.heap.size (w.heap.size + 3) _ A2 l2 from rgT O2).kept hb)
        replace On := hide (On.out.base (show w.heap.size + 3 ≤ _ by first | omega | (simp; omega) | (simp; done)))
        have hB4 : Below w.heap.size w w4 := Below.trans belo (hb.mono as4)
        obtain ⟨kc4, kf4⟩ := bcell hb
        have hz4 := hb.size
        (try simp at hz4)
        have n4_0 : w.heap.size < w4.heap.size := by omega
        have n4_1 : w.heap.size + 1 < w4.heap.size := by omega
        have n4_2 : w.heap.size + 2 < w4.heap.size := by omega
        have m4_0 : w4.cell? ⟨w.heap.size, 0, none⟩ = some (.slice A1 l1.length c1) := (kc4 _ _ as0).trans as1
        have v4_0 : w4.frozen? ⟨w.heap.size, 0, none⟩ = false := (kf4 _ _ as0).trans as1
        have m4_1 : w4.cell? ⟨w.heap.size, 1, none⟩ = some (.bool s1) := (kc4 _ _ as0).trans as1
        have v4_1 : w4.frozen? ⟨w.heap.size, 1, none⟩ = false := (kf4 _ _ as0).trans as1
        have m4_2 : w4.cell? ⟨w.heap.size + 1, 0, none⟩ = some (.slice A2 l2.length c2) := (kc4 _ _ as0).trans as1
        have v4_2 : w4.frozen? ⟨w.heap.size + 1, 0, none⟩ = false := (kf4 _ _ as0).trans as1
        have m4_3 : w4.cell? ⟨w.heap.size + 1, 1, none⟩ = some (.bool s2) := (kc4 _ _ as0).trans as1
        have v4_3 : w4.frozen? ⟨w.heap.size + 1, 1, none⟩ = false := (kf4 _ _ as0).trans as1
        have m4_4 : w4.cell? ⟨w.heap.size + 2, 0, none⟩ = some (.slice none 0 0) := (kc4 _ _ as0).trans as1
        have v4_4 : w4.frozen? ⟨w.heap.size + 2, 0, none⟩ = false := (kf4 _ _ as0).trans as1
        have m4_5 : w4.cell? ⟨w.heap.size + 2, 1, none⟩ = some (.bool false) := (kc4 _ _ as0).trans as1
        have v4_5 : w4.frozen? ⟨w.heap.size + 2, 1, none⟩ = false := (kf4 _ _ as0).trans as1
        clear kc4 kf4
        clear hb
        refine anyT_take (i := 6) (oi := _) (v := Value.agg #[Value.slice An ln.length cn, Value.bool s1]) rfl kr kr kr (by decide) (by decide) kr kr inv (fun _ _ _ h => h) (Or.inl ⟨kr, ?_⟩) hS (fun inv => ?_)
        · intro wz hSw
          first | kernel_rfl | go_simp
        (try simp only [Act.put, q2, q3, q4, q5, q6, q7])
        refine anyT_ready (rs := [7]) kr (by simp) ?_
        refine ReadyT.tail (o := _) rfl (by decide) (fun K hK => ?_)
        go_simp
        refine hK.out _ _ ?_
        clear hK K
        (try simp only [Act.put, q2, q3, q4, q5, q6, q7])
        refine anyT_done kr ?_ _
        go_wp2
        refine bodyPost_ret (v := .agg #[.slice An ln.length cn, .bool s1]) (by simp [results, Tryz.results138, go_sem, *]) rfl ?_
        exact ⟨ln, s1, An, cn, hide (by rw [HR.out, En.out]; simp [HD.out]), rfl, Cn, hide (OwQ.base (B := w.heap.size + 3) (owT On) (by omega)), belo⟩
      · have HD := hide (show min (nv lm) l1.length = l1.length by omega)
        go_wp2_with fail
        refine region_anyT (S := fun wS => Below w3.heap.size w3 wS) (n := 7) kr (Below.refl _ _).drew (fun hS inv => ?_)
        refine anyT_take (i := 0) (oi := _) (v := Value.func (Fn.func N) #[] #[]) rfl kr kr kr (by decide) (by decide) kr kr inv (fun _ _ _ h => h) (Or.inl ⟨kr, ?_⟩) hS (fun inv => ?_)
        · intro wz hSw
          first | kernel_rfl | go_simp
        (try simp only [Act.put, q2, q3, q4, q5, q6, q7])
        refine anyT_take (i := 1) (oi := _) (v := Value.agg #[Value.slice A1 l1.length c1, Value.bool s1]) rfl kr kr kr (by decide) (by decide) kr kr inv (fun _ _ _ h => h) (Or.inl ⟨kr, ?_⟩) hS (fun inv => ?_)
        · intro wz hSw
          have hk0 := (hSw : Below _ _ _).cell (p := ⟨w.heap.size, 0, none⟩) as0; have hk1 := (hSw : Below _ _ _).cell (p := ⟨w.heap.size, 1, none⟩) as0; go_simp
        (try simp only [Act.put, q2, q3, q4, q5, q6, q7])
        refine anyT_take (i := 2) (oi := _) (v := Value.int IntKind.i64 ↑l1.length) rfl kr kr kr (by decide) (by decide) kr kr inv (fun _ _ _ h => h) (Or.inl ⟨kr, ?_⟩) hS (fun inv => ?_)
        · intro wz hSw
          first | kernel_rfl | go_simp
        (try simp only [Act.put, q2, q3, q4, q5, q6, q7])
        refine anyT_take (i := 4) (oi := _) (v := Value.pointer (some ⟨w.heap.size, 1, none⟩)) rfl kr kr kr (by decide) (by decide) kr kr inv (fun _ _ _ h => h) (Or.inl ⟨kr, ?_⟩) hS (fun inv => ?_)
        · intro wz hSw
          first | kernel_rfl | go_simp
        (try simp only [Act.put, q2, q3, q4, q5, q6, q7])
        refine anyT_take (i := 5) (oi := _) (v := Value.bool s1) rfl kr kr kr (by decide) (by decide) kr kr inv (fun _ _ _ h => h) (Or.inl ⟨kr, ?_⟩) hS (fun inv => ?_)
        · intro wz hSw
          have hk0 := (hSw : Below _ _ _).cell (p := ⟨w.heap.size, 1, none⟩) as0; go_simp
        (try simp only [Act.put, q2, q3, q4, q5, q6, q7])
        refine anyT_ready (rs := [3]) kr (by simp) ?_
        refine ReadyT.head (o := _) rfl (by decide) kr inv (fun K hK => ?_) ReadyT.nil
        go_simp
        refine (HO.out.ct A1 l1 c1 s1 l1.length _ HG1.out (by omega) (by refine RG.rd (B0 := w.heap.size) (B1 := w.heap.size + 3) ?_; (repeat (first | with_reducible exact O1.out | with_reducible refine RG.setc ?_ as3 as3 _ | with_reducible refine RG.allc ?_ _ | with_reducible refine RG.drew ?_ | with_reducible refine RG.drewN ?_ _)))).mono ?_
        rintro e w4 ⟨ln, An, cn, En, rfl, Cn, On, hb⟩
        go_wp2_with fail
        refine hK.out _ _ ?_ (fun hS inv => ?_)
        · exact (hS : Below w3.heap.size w3 _).trans (hb.mono (Below.size hS))
        clear hK K
        (try simp only [Act.put, q2, q3, q4, q5, q6, q7])
        replace Om := hide (Rd.below (by exact Om.out) hb)
        replace O1 := hide ((show RG w.heap.size (w.heap.size + 3) _ A1 l1 from rgT O1).kept hb)
        replace O2 := hide ((show RG w.heap.size (w.heap.size + 3) _ A2 l2 from rgT O2).kept hb)
        replace On := hide (On.out.base (show w.heap.size + 3 ≤ _ by first | omega | (simp; omega) | (simp; done)))
        have hB4 : Below w.heap.size w w4 := Below.trans belo (hb.mono as4)
        obtain ⟨kc4, kf4⟩ := bcell hb
        have hz4 := hb.size
        (try simp at hz4)
        have n4_0 : w.heap.size < w4.heap.size := by omega
        have n4_1 : w.heap.size + 1 < w4.heap.size := by omega
        have n4_2 : w.heap.size + 2 < w4.heap.size := by omega
        have m4_0 : w4.cell? ⟨w.heap.size, 0, none⟩ = some (.slice A1 l1.length c1) := (kc4 _ _ as0).trans as1
        have v4_0 : w4.frozen? ⟨w.heap.size, 0, none⟩ = false := (kf4 _ _ as0).trans as1
        have m4_1 : w4.cell? ⟨w.heap.size, 1, none⟩ = some (.bool s1) := (kc4 _ _ as0).trans as1
        have v4_1 : w4.frozen? ⟨w.heap.size, 1, none⟩ = false := (kf4 _ _ as0).trans as1
        have m4_2 : w4.cell? ⟨w.heap.size + 1, 0, none⟩ = some (.slice A2 l2.length c2) := (kc4 _ _ as0).trans as1
        have v4_2 : w4.frozen? ⟨w.heap.size + 1, 0, none⟩ = false := (kf4 _ _ as0).trans as1
        have m4_3 : w4.cell? ⟨w.heap.size + 1, 1, none⟩ = some (.bool s2) := (kc4 _ _ as0).trans as1
        have v4_3 : w4.frozen? ⟨w.heap.size + 1, 1, none⟩ = false := (kf4 _ _ as0).trans as1
        have m4_4 : w4.cell? ⟨w.heap.size + 2, 0, none⟩ = some (.slice none 0 0) := (kc4 _ _ as0).trans as1
        have v4_4 : w4.frozen? ⟨w.heap.size + 2, 0, none⟩ = false := (kf4 _ _ as0).trans as1
        have m4_5 : w4.cell? ⟨w.heap.size + 2, 1, none⟩ = some (.bool false) := (kc4 _ _ as0).trans as1
        have v4_5 : w4.frozen? ⟨w.heap.size + 2, 1, none⟩ = false := (kf4 _ _ as0).trans as1
        clear kc4 kf4
        clear hb
        refine anyT_take (i := 6) (oi := _) (v := Value.agg #[Value.slice An ln.length cn, Value.bool s1]) rfl kr kr kr (by decide) (by decide) kr kr inv (fun _ _ _ h => h) (Or.inl ⟨kr, ?_⟩) hS (fun inv => ?_)
        · intro wz hSw
          first | kernel_rfl | go_simp
        (try simp only [Act.put, q2, q3, q4, q5, q6, q7])
        refine anyT_ready (rs := [7]) kr (by simp) ?_
        refine ReadyT.tail (o := _) rfl (by decide) (fun K hK => ?_)
        go_simp
        refine hK.out _ _ ?_
        clear hK K
        (try simp only [Act.put, q2, q3, q4, q5, q6, q7])
        refine anyT_done kr ?_ _
        go_wp2
        refine bodyPost_ret (v := .agg #[.slice An ln.length cn, .bool s1]) (by simp [results, Tryz.results138, go_sem, *]) rfl ?_
        exact ⟨ln, s1, An, cn, hide (by rw [HR.out, En.out]; simp [HD.out]), rfl, Cn, hide (OwQ.base (B := w.heap.size + 3) (owT On) (by omega)), belo⟩
    · obtain ⟨hu, rfl⟩ := hu
      have HD := hide (show min (nv lm) l1.length = l1.length by omega)
      go_wp2_with fail
      refine region_anyT (S := fun wS => Below w3.heap.size w3 wS) (n := 7) kr (Below.refl _ _).drew (fun hS inv => ?_)
      refine anyT_take (i := 0) (oi := _) (v := Value.func (Fn.func N) #[] #[]) rfl kr kr kr (by decide) (by decide) kr kr inv (fun _ _ _ h => h) (Or.inl ⟨kr, ?_⟩) hS (fun inv => ?_)
      · intro wz hSw
        first | kernel_rfl | go_simp
      (try simp only [Act.put, q2, q3, q4, q5, q6, q7])
      refine anyT_take (i := 1) (oi := _) (v := Value.agg #[Value.slice A1 l1.length c1, Value.bool s1]) rfl kr kr kr (by decide) (by decide) kr kr inv (fun _ _ _ h => h) (Or.inl ⟨kr, ?_⟩) hS (fun inv => ?_)
      · intro wz hSw
        have hk0 := (hSw : Below _ _ _).cell (p := ⟨w.heap.size, 0, none⟩) as0; have hk1 := (hSw : Below _ _ _).cell (p := ⟨w.heap.size, 1, none⟩) as0; go_simp
      (try simp only [Act.put, q2, q3, q4, q5, q6, q7])
      refine anyT_take (i := 2) (oi := _) (v := Value.int IntKind.i64 ↑l1.length) rfl kr kr kr (by decide) (by decide) kr kr inv (fun _ _ _ h => h) (Or.inl ⟨kr, ?_⟩) hS (fun inv => ?_)
      · intro wz hSw
        first | kernel_rfl | go_simp
      (try simp only [Act.put, q2, q3, q4, q5, q6, q7])
      refine anyT_take (i := 4) (oi := _) (v := Value.pointer (some ⟨w.heap.size, 1, none⟩)) rfl kr kr kr (by decide) (by decide) kr kr inv (fun _ _ _ h => h) (Or.inl ⟨kr, ?_⟩) hS (fun inv => ?_)
      · intro wz hSw
        first | kernel_rfl | go_simp
      (try simp only [Act.put, q2, q3, q4, q5, q6, q7])
      refine anyT_take (i := 5) (oi := _) (v := Value.bool s1) rfl kr kr kr (by decide) (by decide) kr kr inv (fun _ _ _ h => h) (Or.inl ⟨kr, ?_⟩) hS (fun inv => ?_)
      · intro wz hSw
        have hk0 := (hSw : Below _ _ _).cell (p := ⟨w.heap.size, 1, none⟩) as0; go_simp
      (try simp only [Act.put, q2, q3, q4, q5, q6, q7])
      refine anyT_ready (rs := [3]) kr (by simp) ?_
      refine ReadyT.head (o := _) rfl (by decide) kr inv (fun K hK => ?_) ReadyT.nil
      go_simp
      refine (HO.out.ct A1 l1 c1 s1 l1.length _ HG1.out (by omega) (by refine RG.rd (B0 := w.heap.size) (B1 := w.heap.size + 3) ?_; (repeat (first | with_reducible exact O1.out | with_reducible refine RG.setc ?_ as3 as3 _ | with_reducible refine RG.allc ?_ _ | with_reducible refine RG.drew ?_ | with_reducible refine RG.drewN ?_ _)))).mono ?_
      rintro e w4 ⟨ln, An, cn, En, rfl, Cn, On, hb⟩
      go_wp2_with fail
      refine hK.out _ _ ?_ (fun hS inv => ?_)
      · exact (hS : Below w3.heap.size w3 _).trans (hb.mono (Below.size hS))
      clear hK K
      (try simp only [Act.put, q2, q3, q4, q5, q6, q7])
      replace Om := hide (Rd.below (by exact Om.out) hb)
      replace O1 := hide ((show RG w.heap.size (w.heap.size + 3) _ A1 l1 from rgT O1).kept hb)
      replace O2 := hide ((show RG w.heap.size (w.heap.size + 3) _ A2 l2 from rgT O2).kept hb)
      replace On := hide (On.out.base (show w.heap.size + 3 ≤ _ by first | omega | (simp; omega) | (simp; done)))
      have hB4 : Below w.heap.size w w4 := Below.trans belo (hb.mono as4)
      obtain ⟨kc4, kf4⟩ := bcell hb
      have hz4 := hb.size
      (try simp at hz4)
      have n4_0 : w.heap.size < w4.heap.size := by omega
      have n4_1 : w.heap.size + 1 < w4.heap.size := by omega
      have n4_2 : w.heap.size + 2 < w4.heap.size := by omega
      have m4_0 : w4.cell? ⟨w.heap.size, 0, none⟩ = some (.slice A1 l1.length c1) := (kc4 _ _ as0).trans as1
      have v4_0 : w4.frozen? ⟨w.heap.size, 0, none⟩ = false := (kf4 _ _ as0).trans as1
      have m4_1 : w4.cell? ⟨w.heap.size, 1, none⟩ = some (.bool s1) := (kc4 _ _ as0).trans as1
      have v4_1 : w4.frozen? ⟨w.heap.size, 1, none⟩ = false := (kf4 _ _ as0).trans as1
      have m4_2 : w4.cell? ⟨w.heap.size + 1, 0, none⟩ = some (.slice A2 l2.length c2) := (kc4 _ _ as0).trans as1
      have v4_2 : w4.frozen? ⟨w.heap.size + 1, 0, none⟩ = false := (kf4 _ _ as0).trans as1
      have m4_3 : w4.cell? ⟨w.heap.size + 1, 1, none⟩ = some (.bool s2) := (kc4 _ _ as0).trans as1
      have v4_3 : w4.frozen? ⟨w.heap.size + 1, 1, none⟩ = false := (kf4 _ _ as0).trans as1
      have m4_4 : w4.cell? ⟨w.heap.size + 2, 0, none⟩ = some (.slice none 0 0) := (kc4 _ _ as0).trans as1
      have v4_4 : w4.frozen? ⟨w.heap.size + 2, 0, none⟩ = false := (kf4 _ _ as0).trans as1
      have m4_5 : w4.cell? ⟨w.heap.size + 2, 1, none⟩ = some (.bool false) := (kc4 _ _ as0).trans as1
      have v4_5 : w4.frozen? ⟨w.heap.size + 2, 1, none⟩ = false := (kf4 _ _ as0).trans as1
      clear kc4 kf4
      clear hb
      refine anyT_take (i := 6) (oi := _) (v := Value.agg #[Value.slice An ln.length cn, Value.bool s1]) rfl kr kr kr (by decide) (by decide) kr kr inv (fun _ _ _ h => h) (Or.inl ⟨kr, ?_⟩) hS (fun inv => ?_)
      · intro wz hSw
        first | kernel_rfl | go_simp
      (try simp only [Act.put, q2, q3, q4, q5, q6, q7])
      refine anyT_ready (rs := [7]) kr (by simp) ?_
      refine ReadyT.tail (o := _) rfl (by decide) (fun K hK => ?_)
      go_simp
      refine hK.out _ _ ?_
      clear hK K
      (try simp only [Act.put, q2, q3, q4, q5, q6, q7])
      refine anyT_done kr ?_ _
      go_wp2
      refine bodyPost_ret (v := .agg #[.slice An ln.length cn, .bool s1]) (by simp [results, Tryz.results138, go_sem, *]) rfl ?_
      exact ⟨ln, s1, An, cn, hide (by rw [HR.out, En.out]; simp [HD.out]), rfl, Cn, hide (OwQ.base (B := w.heap.size + 3) (owT On) (by omega)), belo⟩
end
section
open Go.RowKit
set_option maxRecDepth 100000
set_option linter.unusedSimpArgs false
set_option linter.unusedVariables false
def spn (hi lo : Int) : Int := if hi < lo then 1 else if 128 ≤ hi - lo then 12 else 0
theorem u64_sub {hi lo : Int} (h1 : -9223372036854775808 ≤ lo) (h2 : hi ≤ 9223372036854775807) (h : lo ≤ hi) : IntKind.u64.wrap (IntKind.u64.wrap hi - IntKind.u64.wrap lo) = hi - lo := by
  rw [IntKind.wrap_u64, IntKind.wrap_u64, IntKind.wrap_u64]
  omega
theorem span_any (hi lo : Int) (w : World) (h1 : -9223372036854775808 ≤ lo) (h2 : hi ≤ 9223372036854775807) (h3 : -9223372036854775808 ≤ hi) (h4 : lo ≤ 9223372036854775807) :
    Calls Tryz.prog 105 #[.int .i64 hi, .int .i64 lo] w fun e w' => e = .returned (.tuple #[.int .i64 (if spn hi lo = 0 then hi - lo + 1 else 0), .int .i64 (spn hi lo)]) ∧ w = w' := by
  obtain ⟨r, hr⟩ : ∃ r, r = spn hi lo := ⟨_, rfl⟩
  rw [← hr]
  unfold spn at hr
  by_cases c1 : hi < lo
  · rw [if_pos c1] at hr
    subst hr
    go_enter Tryz.func105, Tryz.ntmps105
    go_wp2
    go_ret2
    exact ⟨rfl, rfl⟩
  · rw [if_neg c1] at hr
    have e1 := u64_sub h1 h2 (Int.not_lt.1 c1)
    obtain ⟨d, hd⟩ : ∃ d, d = hi - lo := ⟨_, rfl⟩
    by_cases c2 : 128 ≤ hi - lo
    · rw [if_pos c2] at hr
      subst hr
      rw [← hd] at e1 c2
      clear hd
      go_enter Tryz.func105, Tryz.ntmps105
      go_wp2
      go_ret2
      exact ⟨rfl, rfl⟩
    · rw [if_neg c2] at hr
      subst hr
      have e2 : (128 ≤ IntKind.u64.wrap (IntKind.u64.wrap hi - IntKind.u64.wrap lo)) = False := by rw [e1]; exact eq_false c2
      clear e1 hd
      go_enter Tryz.func105, Tryz.ntmps105
      go_wp2
      go_ret2
      exact ⟨rfl, rfl⟩
theorem spn_0 {hi lo : Int} : spn hi lo = 0 ↔ lo ≤ hi ∧ hi - lo < 128 := by unfold spn; (repeat' split) <;> omega
theorem vSlice_any (hi lo : Int) (A : Option Addr) (a : List Int) (c : Nat) (s : Bool) (w : World) (ha : a.length ≤ 4096) (hca : Hid (a.length ≤ c ∧ c ≤ maxLen)) (hA : RQ w A a) (ya : By a) (b1 : -9223372036854775808 ≤ lo) (b2 : hi ≤ 9223372036854775807) (b3 : -9223372036854775808 ≤ hi) (b4 : lo ≤ 9223372036854775807) :
    Calls Tryz.prog 29 #[.agg #[.slice A a.length c, .bool s], .int .i64 hi, .int .i64 lo] w (RetE (spn hi lo) ⟨wdw (cnt ⟨a, s⟩).b lo (hi - lo + 1).toNat 2, false⟩ w) := by
  have HA := hide hA
  have LA := hide ha
  have YA := hide ya
  clear hA ha ya
  have hcall := hide fun w => span_any hi lo w b1 b2 b3 b4
  obtain ⟨r, hr⟩ : ∃ r, r = spn hi lo := ⟨_, rfl⟩
  rw [← hr] at hcall ⊢
  have hfld := fld0
  by_cases h0 : r = 0
  · obtain ⟨g1, g2⟩ := spn_0.1 (hr.symm.trans h0)
    subst h0
    clear hr
    rw [if_pos rfl] at hcall
    obtain ⟨k, hk⟩ : ∃ k : Nat, hi - lo + 1 = k := ⟨(hi - lo + 1).toNat, by omega⟩
    rw [hk, Int.toNat_natCast]
    rw [hk] at hcall
    have hk1 : lo + k ≤ 9223372036854775808 := by omega
    have hk2 : k ≤ 128 := by omega
    clear hk g1 g2 b2 b3 b4
    go_enter Tryz.func29, Tryz.ntmps29
    go_wp2_with fail
    refine (hcall.out _).mono ?_
    rintro e w' ⟨rfl, rfl⟩
    go_wp2_with fail
    refine (counted_any A a c s w _ LA.out hca HA.out belo).mono ?_
    rintro e w1 ⟨l1, s1, A1, c1, E1, rfl, C1, O1, hb⟩
    replace O1 := hide (O1.out.lower (show w.heap.size + 2 ≤ _ by first | omega | (simp; omega) | (simp; done)))
    have hB1 : Below w.heap.size w w1 := Below.trans belo (hb.mono as4)
    obtain ⟨kc1, kf1⟩ := bcell hb
    have hz1 := hb.size
    (try simp at hz1)
    have n1_0 : w.heap.size < w1.heap.size := by omega
    have n1_1 : w.heap.size + 1 < w1.heap.size := by omega
    have r1_0 : w1.cell? ⟨w.heap.size + 1, 0, none⟩ = some (.slice none 0 0) := (kc1 _ _ as0).trans as2
    have g1_0 : w1.frozen? ⟨w.heap.size + 1, 0, none⟩ = false := (kf1 _ _ as0).trans as2
    have r1_1 : w1.cell? ⟨w.heap.size + 1, 1, none⟩ = some (.bool false) := (kc1 _ _ as0).trans as2
    have g1_1 : w1.frozen? ⟨w.heap.size + 1, 1, none⟩ = false := (kf1 _ _ as0).trans as2
    clear hb
    have G1 : Gd l1 := by have h := cnt_gd (v := ⟨a, s⟩) YA.out; rw [← E1.out] at h; exact h
    have u1 := G1.le
    go_wp2_with fail
    refine (window_q A1 l1 c1 k lo 2 _ (by omega) (by omega) b1 hk1 (by refine RG.rd (B0 := w.heap.size) (B1 := w.heap.size + 2) ?_; (repeat (first | with_reducible exact O1.out | with_reducible refine RG.setc ?_ as3 as3 _ | with_reducible refine RG.allc ?_ _ | with_reducible refine RG.drew ?_ | with_reducible refine RG.drewN ?_ _)))).mono ?_
    rintro e w2 ⟨l2, A2, c2, E2, rfl, C2, O2, hb⟩
    replace O1 := hide ((show RG w.heap.size (w.heap.size + 2) _ A1 l1 from rgT O1).kept hb)
    replace O2 := hide (O2.out.base (show w.heap.size + 2 ≤ _ by first | omega | (simp; omega) | (simp; done)))
    have hB2 : Below w.heap.size w w2 := Below.trans belo (hb.mono as4)
    obtain ⟨kc2, kf2⟩ := bcell hb
    have hz2 := hb.size
    (try simp at hz2)
    have n2_0 : w.heap.size < w2.heap.size := by omega
    have n2_1 : w.heap.size + 1 < w2.heap.size := by omega
    have r2_0 : w2.cell? ⟨w.heap.size + 1, 0, none⟩ = some (.slice none 0 0) := (kc2 _ _ as0).trans as2
    have g2_0 : w2.frozen? ⟨w.heap.size + 1, 0, none⟩ = false := (kf2 _ _ as0).trans as2
    have r2_1 : w2.cell? ⟨w.heap.size + 1, 1, none⟩ = some (.bool false) := (kc2 _ _ as0).trans as2
    have g2_1 : w2.frozen? ⟨w.heap.size + 1, 1, none⟩ = false := (kf2 _ _ as0).trans as2
    clear hb
    go_wp2
    refine bodyPost_ret (v := .tuple #[.agg #[.slice A2 l2.length c2, .bool false], .int .i64 0]) (by simp [results, Tryz.results29, go_sem, *]) rfl ?_
    exact ⟨l2, false, A2, c2, hide (by rw [if_pos rfl]; exact (by rw [E2.out, ← E1.out])), rfl, C2, hide (OwQ.base (B := w.heap.size + 2) (owT O2) (by omega)), belo⟩
  · rw [if_neg h0] at hcall
    go_enter Tryz.func29, Tryz.ntmps29
    go_wp2_with fail
    refine (hcall.out _).mono ?_
    rintro e w' ⟨rfl, rfl⟩
    go_wp2
    refine bodyPost_ret (v := .tuple #[.agg #[.slice none 0 0, .bool false], .int .i64 r]) (by simp [results, Tryz.results29, go_sem, *]) rfl ?_
    exact ⟨[], false, none, 0, hide (by rw [if_neg h0]; exact ⟨rfl, rfl⟩), rfl, hide ⟨Nat.le_refl _, by simp [maxLen]⟩, hide (fun h => absurd h (by simp)), belo⟩
end
section
open Go.RowKit
set_option maxRecDepth 100000
theorem mKnown_2 {a : Int} (h0 : 0 ≤ a) (h : a ≠ 0 ∧ a ≠ 1) : mKnown a = false := by unfold mKnown; exact decide_eq_false (by omega)
theorem mBuf_2 {a : Int} (h : a ≠ 0 ∧ a ≠ 1) : mBuf a = 2 := by obtain ⟨x, y⟩ := h; simp [mBuf, *]
theorem mNot_2 {a : Int} (h : a ≠ 0 ∧ a ≠ 1) : mNot a = 2 := by obtain ⟨x, y⟩ := h; simp [mNot, *]
set_option maxHeartbeats 400000 in
theorem rknown_q (a : Int) (w : World) (h0 : 0 ≤ a) :
    Calls Tryz.prog 146 #[.int .u8 a] w fun e w' => e = .returned (.bool (mKnown a)) ∧ w' = w := by
  rcases bcases a with rfl | rfl | h
  case inr.inr =>
    rw [mKnown_2 h0 h]
    have h1 := beq_f h.1
    have h2 := beq_f h.2
    clear h h0
    go_enter Tryz.func146, Tryz.ntmps146
    go_wp2
    go_ret
    exact ⟨rfl, rfl⟩
  all_goals
    clear h0
    go_enter Tryz.func146, Tryz.ntmps146
    go_wp2
    go_ret
    exact ⟨rfl, rfl⟩
set_option maxHeartbeats 400000 in
theorem rbuf_q (a : Int) (w : World) (h0 : 0 ≤ a) :
    Calls Tryz.prog 73 #[.int .u8 a] w fun e w' => e = .returned (.int .u8 (mBuf a)) ∧ w' = w := by
  rcases bcases a with rfl | rfl | h
  case inr.inr =>
    rw [mBuf_2 h]
    have E := Lib.hid (mKnown_2 h0 h)
    clear h
    go_enter Tryz.func73, Tryz.ntmps73
    go_wp2_with (go_at_call 146; refine (rknown_q _ _ h0).mono ?_; rw [E.out]; rintro e w' ⟨rfl, rfl⟩)
    go_ret
    exact ⟨rfl, rfl⟩
  all_goals
    go_enter Tryz.func73, Tryz.ntmps73
    go_wp2_with (go_at_call 146; refine (rknown_q _ _ h0).mono ?_; rintro e w' ⟨rfl, rfl⟩)
    go_ret
    exact ⟨rfl, rfl⟩
set_option maxHeartbeats 400000 in
theorem rnot_q (a : Int) (w : World) :
    Calls Tryz.prog 79 #[.int .u8 a] w fun e w' => e = .returned (.int .u8 (mNot a)) ∧ w' = w := by
  rcases bcases a with rfl | rfl | h
  case inr.inr =>
    rw [mNot_2 h]
    have h1 := beq_f h.1
    have h2 := beq_f h.2
    clear h
    go_enter Tryz.func79, Tryz.ntmps79
    go_wp2
    go_ret
    exact ⟨rfl, rfl⟩
  all_goals
    go_enter Tryz.func79, Tryz.ntmps79
    go_wp2
    go_ret
    exact ⟨rfl, rfl⟩
set_option maxHeartbeats 400000 in
theorem rand_q (a b : Int) (w : World) :
    Calls Tryz.prog 74 #[.int .u8 a, .int .u8 b] w fun e w' => e = .returned (.int .u8 (mAnd a b)) ∧ w' = w := by
  obtain ⟨r, hr⟩ : ∃ r, r = mAnd a b := ⟨_, rfl⟩
  rw [← hr]
  rcases bcases a with rfl | rfl | ⟨a0, a1⟩ <;> rcases bcases b with rfl | rfl | ⟨b0, b1⟩
  all_goals
    simp [mAnd, *] at hr
    subst hr
    try have a0' := beq_f a0
    try have a1' := beq_f a1
    try have b0' := beq_f b0
    try have b1' := beq_f b1
    try clear a0 a1
    try clear b0 b1
    go_enter Tryz.func74, Tryz.ntmps74
    go_wp2
    go_ret
    exact ⟨rfl, rfl⟩
set_option maxHeartbeats 400000 in
theorem ror_q (a b : Int) (w : World) :
    Calls Tryz.prog 75 #[.int .u8 a, .int .u8 b] w fun e w' => e = .returned (.int .u8 (mOr a b)) ∧ w' = w := by
  obtain ⟨r, hr⟩ : ∃ r, r = mOr a b := ⟨_, rfl⟩
  rw [← hr]
  rcases bcases a with rfl | rfl | ⟨a0, a1⟩ <;> rcases bcases b with rfl | rfl | ⟨b0, b1⟩
  all_goals
    simp [mOr, *] at hr
    subst hr
    try have a0' := beq_f a0
    try have a1' := beq_f a1
    try have b0' := beq_f b0
    try have b1' := beq_f b1
    try clear a0 a1
    try clear b0 b1
    go_enter Tryz.func75, Tryz.ntmps75
    go_wp2
    go_ret
    exact ⟨rfl, rfl⟩
theorem mXor_k {a b : Int} (h : mKnown a = false ∨ mKnown b = false) : mXor a b = 2 := by
  unfold mKnown at h; exact mXor_x (by rcases h with h | h <;> have := of_decide_eq_false h <;> omega)
theorem mXor_01 {a b : Int} (h0 : mKnown a = true) (h1 : mKnown b = true) : mXor a b = if a = b then 0 else 1 := by
  unfold mKnown at h0 h1; have := of_decide_eq_true h0; have := of_decide_eq_true h1
  unfold mXor; rw [if_neg (by omega)]
set_option maxHeartbeats 400000 in
theorem rxor_q (a b : Int) (w : World) (h0 : 0 ≤ a) (h1 : 0 ≤ b) :
    Calls Tryz.prog 76 #[.int .u8 a, .int .u8 b] w fun e w' => e = .returned (.int .u8 (mXor a b)) ∧ w' = w := by
  by_cases ka : mKnown a = true
  · by_cases kb : mKnown b = true
    · rw [mXor_01 ka kb]
      have Ka := Lib.hid ka
      have Kb := Lib.hid kb
      clear ka kb
      by_cases e : a = b
      · subst e
        rw [if_pos rfl]
        go_enter Tryz.func76, Tryz.ntmps76
        go_wp2_with (go_at_call 146; refine (rknown_q _ _ (by assumption)).mono ?_; rw [Ka.out]; rintro e w' ⟨rfl, rfl⟩)
        go_ret
        exact ⟨rfl, rfl⟩
      · rw [if_neg e]
        have e' := beq_f e
        clear e
        go_enter Tryz.func76, Tryz.ntmps76
        go_wp2_with (go_at_call 146; refine (rknown_q _ _ (by assumption)).mono ?_; (first | rw [Ka.out] | rw [Kb.out]); rintro e w' ⟨rfl, rfl⟩)
        go_ret
        exact ⟨rfl, rfl⟩
    · rw [mXor_k (.inr (by simpa using kb))]
      have Ka := Lib.hid ka
      have Kb := Lib.hid (show mKnown b = false by simpa using kb)
      clear ka kb
      go_enter Tryz.func76, Tryz.ntmps76
      go_wp2_with (first | (go_at_call 146; (with_reducible refine (rknown_q a _ h0).mono ?_); rw [Ka.out]; rintro e w' ⟨rfl, rfl⟩) | (go_at_call 146; (with_reducible refine (rknown_q b _ h1).mono ?_); rw [Kb.out]; rintro e w' ⟨rfl, rfl⟩))
      go_ret
      exact ⟨rfl, rfl⟩
  · rw [mXor_k (.inl (by simpa using ka))]
    have Ka := Lib.hid (show mKnown a = false by simpa using ka)
    clear ka
    go_enter Tryz.func76, Tryz.ntmps76
    go_wp2_with (go_at_call 146; (with_reducible refine (rknown_q a _ h0).mono ?_); rw [Ka.out]; rintro e w' ⟨rfl, rfl⟩)
    go_ret
    exact ⟨rfl, rfl⟩
set_option maxHeartbeats 400000 in
theorem req_q (a b : Int) (w : World) (h0 : 0 ≤ a) (h1 : 0 ≤ b) :
    Calls Tryz.prog 156 #[.int .u8 a, .int .u8 b] w fun e w' => e = .returned (.int .u8 (mEq a b)) ∧ w' = w := by
  go_enter Tryz.func156, Tryz.ntmps156
  go_wp2_with (first
    | (go_at_call 76; refine (rxor_q _ _ _ h0 h1).mono ?_; rintro e w' ⟨rfl, rfl⟩)
    | (go_at_call 79; refine (rnot_q _ _).mono ?_; rintro e w' ⟨rfl, rfl⟩))
  go_ret
  exact ⟨rfl, rfl⟩
set_option maxHeartbeats 400000 in
theorem rfrom_q (v : Bool) (w : World) :
    Calls Tryz.prog 162 #[.bool v] w fun e w' => e = .returned (.int .u8 (mFrom v)) ∧ w' = w := by
  cases v
  all_goals
    go_enter Tryz.func162, Tryz.ntmps162
    go_wp2
    go_ret
    exact ⟨rfl, rfl⟩
end
section
open Go.RowKit
set_option maxRecDepth 100000
set_option linter.unusedSimpArgs false
set_option linter.unusedVariables false
theorem step_append_q {w : World} {ops : Array Oper} {o : Oper} {a : Act} {K : Act → World → Prop} {Q : Exit → Act → World → Prop} {E : Prop} (hgd : o.guard = none) (s x : Operand)
    (ho : o.op = .call { callee := .builtin .append, args := #[s, x], argTypes := #[22, 22] })
    (B : Nat) (v : Value) (n : Nat) (xs : List Int) (hs : a.eval s = v) (hown : w.ownsRow B 65 1 v n (xs.map (Value.int .u8)))
    (A : Option Addr) (m c : Nat) (news : List Int) (hx : a.eval x = .slice A m c) (hm : m = news.length) (hr : RQ w A news) (hn : xs.length + news.length ≤ 16384) (hB : B ≤ w.heap.size)
    (hK : ∀ v' w', w'.ownsRow B 65 1 v' (n + m) ((xs ++ news).map (Value.int .u8)) → Below B w w' → K (a.put o.dst v') w') : if Region.wanted o (yielded ops a.tmps) = true then Oper.wp Tryz.prog o a w K Q else E := by
  have hw : Region.wanted o (yielded ops a.tmps) = true := by simp [Region.wanted, hgd]
  rw [if_pos hw]
  obtain ⟨i0, hi, hz0, hz1, hz2⟩ := info_parts bit_info
  have hnl : n = xs.length := by have := hown.1; simpa using this.symm
  subst hm
  rcases A with _ | ad
  · have h0 : news = [] := by
      cases news with
      | nil => rfl
      | cons b l => obtain ⟨ad, e, _⟩ := hr (by simp); cases e
    subst h0
    have hrun := run_append_nullq w o.type hown c
    unfold Oper.wp
    simp [execOp, ho, resolve, invoke, builtin, hs, hx, hrun, Result.andThen]
    exact hK v w (by simpa using hown) (Below.refl _ _)
  · refine wp_append_own w s x 22 ho B 65 i0 (.int .u8 0) 1 1 Tryz.underlying22 hi hz0 hz1 hz2 rfl (by omega) v n (xs.map (Value.int .u8)) hs hown ad news.length c (news.map (Value.int .u8)) hx (by simp) ?_ ?_ (by simp only [maxLen]; omega) (by omega) hB ?_
    · intro j u hj
      rw [List.getElem?_map] at hj
      have hlt : j < news.length := by
        rcases Nat.lt_or_ge j news.length with h | h
        · exact h
        · rw [List.getElem?_eq_none h] at hj; cases hj
      obtain ⟨ad', e, _, hc⟩ := hr (by omega)
      injection e with e
      subst e
      rw [List.getElem?_eq_getElem hlt] at hj
      rw [hc j hlt, qt_get hlt]
      exact hj
    · intro u hu
      simp only [List.mem_map] at hu
      obtain ⟨b, _, rfl⟩ := hu
      rfl
    · intro v' w' hown' hgrow _
      exact hK v' w' (by rw [List.map_append]; exact hown') ((Below.refl _ _).grown hgrow hB fun k hk => (hown.lt k hk).1)
theorem bcellW {B : Nat} {W w1 : World} (hb : Below B W w1) : (∀ b o, b < B → w1.cell? ⟨b, o, none⟩ = W.cell? ⟨b, o, none⟩) ∧ (∀ b o, b < B → w1.frozen? ⟨b, o, none⟩ = W.frozen? ⟨b, o, none⟩) :=
  ⟨fun b o h => hb.cell (p := ⟨b, o, none⟩) h, fun b o h => hb.frozen (p := ⟨b, o, none⟩) h⟩
theorem ownsRow_kept {w w' : World} {B : Nat} {v : Value} {n : Nat} {xs : List Value} {T : TypeId} (h : w.ownsRow B T 1 v n xs) (hb : Below w.heap.size w w') : w'.ownsRow B T 1 v n xs := by
  refine ⟨h.1, ?_⟩
  rcases h.2 with h1 | ⟨g, cap, cur, hv, hB, hg, h2⟩
  · exact Or.inl h1
  · exact Or.inr ⟨g, cap, cur, hv, hB, by rw [hb.block g (lt_of_block hg)]; exact hg, h2⟩
end
section
open Go.RowKit
set_option maxRecDepth 100000
set_option linter.unusedSimpArgs false
set_option linter.unusedVariables false
set_option maxHeartbeats 1000000 in
theorem rcheck_any (A : Option Addr) (a : List Int) (c : Nat) (s : Bool) (w : World) (ha : a.length ≤ 4096) (hA : RQ w A a) :
    Calls Tryz.prog 145 #[.agg #[.slice A a.length c, .bool s]] w (Mk (.int .i64 (chk a)) w) := by
  have HA := hide (hA.below ((Below.refl _ _).alloc (Nat.le_refl _) (.cells #[.slice A a.length c, .bool s] 24)))
  clear hA
  obtain ⟨r, hr⟩ : ∃ r, r = chk a := ⟨_, rfl⟩
  rw [← hr]
  have HR := hide hr
  clear hr
  unfold chk at HR
  by_cases h1 : a.length = 0
  · rw [if_pos h1] at HR
    have e := HR.out
    subst e
    clear HR
    go_enter Tryz.func145, Tryz.ntmps145
    go_wp2
    go_ret
    exact ⟨rfl, (Below.refl _ _).alloc (Nat.le_refl _) _⟩
  · rw [if_neg h1] at HR
    by_cases h2 : 128 < a.length
    · rw [if_pos h2] at HR
      have e := HR.out
      subst e
      clear HR
      go_enter Tryz.func145, Tryz.ntmps145
      go_wp2
      go_ret
      exact ⟨rfl, (Below.refl _ _).alloc (Nat.le_refl _) _⟩
    · rw [if_neg h2] at HR
      have HK : Hid (okB a = true ↔ ∀ i, i < a.length → qt a i ≤ 3) := hide (okB_iff a)
      go_enter Tryz.func145, Tryz.ntmps145
      go_wp2_with fail
      go_loop [3] (fun i => ∃ k : Nat, k ≤ a.length ∧ i = .int .i64 k ∧ Hid (∀ j, j < k → qt a j ≤ 3)) (fun i => a.length - (intOf i).toNat)
      case atStart => exact ⟨0, Nat.zero_le _, rfl, hide fun j hj => by omega⟩
      case round =>
        obtain ⟨k, hk, rfl, hno⟩ := hrel
        by_cases hlt : k < a.length
        · obtain ⟨ad, rfl, hlt1, hc⟩ := HA.out.at_ hlt
          by_cases hx : qt a k ≤ 3
          · go_wp2
            go_round
            case rel => exact ⟨k + 1, by omega, by go_num, hide fun j hj => by
              by_cases e : j = k
              · subst e; exact hx
              · exact hno.out j (by omega)⟩
            case measure => simp [intOf]; omega
          · go_wp2
            go_ret
            refine ⟨ret_int ?_, (Below.refl _ _).alloc (Nat.le_refl _) _⟩
            rw [HR.out, if_neg (fun h => by have := HK.out.1 h k hlt; omega)]
        · go_wp2
          go_ret
          refine ⟨ret_int ?_, (Below.refl _ _).alloc (Nat.le_refl _) _⟩
          rw [HR.out, if_pos (HK.out.2 fun i hi => hno.out i (by omega))]
theorem rsingle_any (z : Int) (w : World) :
    Calls Tryz.prog 78 #[.int .u8 z] w (RetC (· = sgl z) w) := by
  go_enter Tryz.func78, Tryz.ntmps78
  go_wp2
  refine bodyPost_ret (v := .agg #[.slice (some ⟨w.heap.size + 1, 0, none⟩) 1 1, .bool false]) (by simp [results, Tryz.results78, go_sem]) rfl ?_
  refine ⟨[z], false, _, 1, hide rfl, rfl, hide ⟨Nat.le_refl _, by simp [maxLen]⟩, hide fun _ => ⟨_, rfl, by omega, ⟨#[.int .u8 z], by simpa using heap_alloc_new (w.alloc _) _, fun i hi => ?_⟩⟩, belo⟩
  obtain rfl : i = 0 := by simpa using hi
  rfl
theorem rnorm_any' (A : Option Addr) (a : List Int) (c : Nat) (s : Bool) (w : World) (ha : a.length ≤ 4096) (hca : Hid (a.length ≤ c ∧ c ≤ maxLen)) (hA : RQ w A a) (ya : By a) :
    Calls Tryz.prog 72 #[.agg #[.slice A a.length c, .bool s]] w (RetC (· = cnt ⟨a, s⟩) w) := by
  have HA := hide hA
  have LA := hide ha
  have YA := hide ya
  clear hA ha ya
  obtain ⟨r, hr⟩ : ∃ r, r = chk a := ⟨_, rfl⟩
  have hcall := hide fun W (hW : Below w.heap.size w W) => rcheck_any A a c s W LA.out (HA.out.below hW)
  rw [← hr] at hcall
  by_cases h0 : r = 0
  · have HC := hide (show (⟨a, s⟩ : Vc) = cnt ⟨a, s⟩ by unfold cnt; rw [if_pos (hr.symm.trans h0)])
    subst h0
    clear hr
    go_enter Tryz.func72, Tryz.ntmps72
    go_wp2_with fail
    refine (hcall.out _ belo).mono ?_
    rintro e w1 ⟨rfl, hb⟩
    have hB1 : Below w.heap.size w w1 := Below.trans belo (hb.mono as4)
    obtain ⟨kc1, kf1⟩ := bcell hb
    have hz1 := hb.size
    (try simp at hz1)
    have n1_0 : w.heap.size < w1.heap.size := by omega
    have n1_1 : w.heap.size + 1 < w1.heap.size := by omega
    have m1_0 : w1.cell? ⟨w.heap.size, 0, none⟩ = some (.slice A a.length c) := (kc1 _ _ as0).trans as1
    have v1_0 : w1.frozen? ⟨w.heap.size, 0, none⟩ = false := (kf1 _ _ as0).trans as1
    have m1_1 : w1.cell? ⟨w.heap.size, 1, none⟩ = some (.bool s) := (kc1 _ _ as0).trans as1
    have v1_1 : w1.frozen? ⟨w.heap.size, 1, none⟩ = false := (kf1 _ _ as0).trans as1
    have m1_2 : w1.cell? ⟨w.heap.size + 1, 0, none⟩ = some (.slice none 0 0) := (kc1 _ _ as0).trans as1
    have v1_2 : w1.frozen? ⟨w.heap.size + 1, 0, none⟩ = false := (kf1 _ _ as0).trans as1
    have m1_3 : w1.cell? ⟨w.heap.size + 1, 1, none⟩ = some (.bool false) := (kc1 _ _ as0).trans as1
    have v1_3 : w1.frozen? ⟨w.heap.size + 1, 1, none⟩ = false := (kf1 _ _ as0).trans as1
    clear kc1 kf1
    clear hb
    go_wp2_with fail
    refine region_anyT (S := fun wS => Below w1.heap.size w1 wS) (n := 7) kr (Below.refl _ _).drew (fun hS inv => ?_)
    refine anyT_take (i := 1) (oi := _) (v := Value.pointer (some ⟨w.heap.size, 0, none⟩)) rfl kr kr kr (by decide) (by decide) kr kr inv (fun _ _ _ h => h) (Or.inl ⟨kr, ?_⟩) hS (fun inv => ?_)
    · intro wz hSw
      first | kernel_rfl | go_simp
    (try simp only [Act.put, q2, q3, q4, q5, q6, q7])
    refine anyT_take (i := 2) (oi := _) (v := Value.slice A a.length c) rfl kr kr kr (by decide) (by decide) kr kr inv (fun _ _ _ h => h) (Or.inl ⟨kr, ?_⟩) hS (fun inv => ?_)
    · intro wz hSw
      have hk0 := (hSw : Below _ _ _).cell (p := ⟨w.heap.size, 0, none⟩) as0; go_simp
    (try simp only [Act.put, q2, q3, q4, q5, q6, q7])
    refine anyT_take (i := 4) (oi := _) (v := Value.pointer (some ⟨w.heap.size, 1, none⟩)) rfl kr kr kr (by decide) (by decide) kr kr inv (fun _ _ _ h => h) (Or.inl ⟨kr, ?_⟩) hS (fun inv => ?_)
    · intro wz hSw
      first | kernel_rfl | go_simp
    (try simp only [Act.put, q2, q3, q4, q5, q6, q7])
    refine anyT_take (i := 5) (oi := _) (v := Value.bool s) rfl kr kr kr (by decide) (by decide) kr kr inv (fun _ _ _ h => h) (Or.inl ⟨kr, ?_⟩) hS (fun inv => ?_)
    · intro wz hSw
      have hk0 := (hSw : Below _ _ _).cell (p := ⟨w.heap.size, 1, none⟩) as0; go_simp
    (try simp only [Act.put, q2, q3, q4, q5, q6, q7])
    refine anyT_ready (rs := [0]) kr (by simp) ?_
    refine ReadyT.head (o := _) rfl (by decide) kr inv (fun K hK => ?_) ReadyT.nil
    go_simp
    refine hK.out _ _ ?_ (fun hS inv => ?_)
    · exact (by first | exact (hS : Below w1.heap.size w1 _).alloc (Below.size hS) _ | exact Below.drew (Below.alloc (show Below w1.heap.size w1 w1 from hS) (Below.size hS) _))
    clear hK K
    (try simp only [Act.put, q2, q3, q4, q5, q6, q7])
    generalize hw2 : World.alloc w1 _ = w2 at *
    have hb : Below w1.heap.size w1 w2 := by rw [← hw2]; exact (Below.refl _ _).alloc (Nat.le_refl _) _
    have ho := hide (show w2.ownsRow w1.heap.size 65 1 (.slice (some ⟨w1.heap.size, 0, none⟩) 0 0) 0 (([] : List Int).map (Value.int .u8)) by rw [← hw2]; exact owq_empty w1 w1.heap.size (Nat.le_refl _))
    clear hw2
    have hB2 : Below w.heap.size w w2 := Below.trans belo (hb.mono as4)
    obtain ⟨kc2, kf2⟩ := bcell hb
    have hz2 := hb.size
    (try simp at hz2)
    have n2_0 : w.heap.size < w2.heap.size := by omega
    have n2_1 : w.heap.size + 1 < w2.heap.size := by omega
    have m2_0 : w2.cell? ⟨w.heap.size, 0, none⟩ = some (.slice A a.length c) := (kc2 _ _ as0).trans as1
    have v2_0 : w2.frozen? ⟨w.heap.size, 0, none⟩ = false := (kf2 _ _ as0).trans as1
    have m2_1 : w2.cell? ⟨w.heap.size, 1, none⟩ = some (.bool s) := (kc2 _ _ as0).trans as1
    have v2_1 : w2.frozen? ⟨w.heap.size, 1, none⟩ = false := (kf2 _ _ as0).trans as1
    have m2_2 : w2.cell? ⟨w.heap.size + 1, 0, none⟩ = some (.slice none 0 0) := (kc2 _ _ as0).trans as1
    have v2_2 : w2.frozen? ⟨w.heap.size + 1, 0, none⟩ = false := (kf2 _ _ as0).trans as1
    have m2_3 : w2.cell? ⟨w.heap.size + 1, 1, none⟩ = some (.bool false) := (kc2 _ _ as0).trans as1
    have v2_3 : w2.frozen? ⟨w.heap.size + 1, 1, none⟩ = false := (kf2 _ _ as0).trans as1
    clear kc2 kf2
    clear hb
    refine anyT_ready (rs := [3]) kr (by simp) ?_
    refine ReadyT.head (o := _) rfl (by decide) kr inv (fun K hK => ?_) ReadyT.nil
    refine step_append_q (by rfl) _ _ (by rfl) w1.heap.size _ _ [] kr ho.out A a.length c a kr rfl (HA.out.below belo) (by simp; exact Nat.le_trans LA.out (by decide)) (by first | omega | (simp; omega) | (simp; done)) ?_
    intro v' w3 hown hb
    obtain ⟨A2, c2, e, k1, k2, O2⟩ := owq_open hown
    obtain ⟨l2, E2⟩ : ∃ z, z = [] ++ a := ⟨_, rfl⟩
    rw [← E2] at e k1 O2
    subst e
    have C2 := hide (And.intro k1 k2)
    replace E2 := hide E2
    replace O2 := hide O2
    clear k1 k2 hown
    refine hK.out _ _ ?_ (fun hS inv => ?_)
    · exact (hS : Below w1.heap.size w1 _).trans (hb.mono (by first | omega | (simp; omega) | (simp; done)))
    clear hK K
    (try simp only [Act.put, q2, q3, q4, q5, q6, q7])
    replace O2 := hide (O2.out.base (show w.heap.size + 2 ≤ _ by first | omega | (simp; omega) | (simp; done)))
    have hB3 : Below w.heap.size w w3 := Below.trans belo (hb.mono as4)
    obtain ⟨kc3, kf3⟩ := bcellW hb
    have hz3 := hb.size
    (try simp at hz3)
    have n3_0 : w.heap.size < w3.heap.size := by omega
    have n3_1 : w.heap.size + 1 < w3.heap.size := by omega
    have m3_0 : w3.cell? ⟨w.heap.size, 0, none⟩ = some (.slice A a.length c) := (kc3 _ _ as0).trans as1
    have v3_0 : w3.frozen? ⟨w.heap.size, 0, none⟩ = false := (kf3 _ _ as0).trans as1
    have m3_1 : w3.cell? ⟨w.heap.size, 1, none⟩ = some (.bool s) := (kc3 _ _ as0).trans as1
    have v3_1 : w3.frozen? ⟨w.heap.size, 1, none⟩ = false := (kf3 _ _ as0).trans as1
    have m3_2 : w3.cell? ⟨w.heap.size + 1, 0, none⟩ = some (.slice none 0 0) := (kc3 _ _ as0).trans as1
    have v3_2 : w3.frozen? ⟨w.heap.size + 1, 0, none⟩ = false := (kf3 _ _ as0).trans as1
    have m3_3 : w3.cell? ⟨w.heap.size + 1, 1, none⟩ = some (.bool false) := (kc3 _ _ as0).trans as1
    have v3_3 : w3.frozen? ⟨w.heap.size + 1, 1, none⟩ = false := (kf3 _ _ as0).trans as1
    clear kc3 kf3
    clear hb
    refine anyT_take (i := 6) (oi := _) (v := Value.agg #[Value.slice A2 l2.length c2, Value.bool s]) rfl kr kr kr (by decide) (by decide) kr kr inv (fun _ _ _ h => h) (Or.inl ⟨kr, ?_⟩) hS (fun inv => ?_)
    · intro wz hSw
      first | kernel_rfl | go_simp
    (try simp only [Act.put, q2, q3, q4, q5, q6, q7])
    refine anyT_ready (rs := [7]) kr (by simp) ?_
    refine ReadyT.tail (o := _) rfl (by decide) (fun K hK => ?_)
    go_simp
    refine hK.out _ _ ?_
    clear hK K
    (try simp only [Act.put, q2, q3, q4, q5, q6, q7])
    refine anyT_done kr ?_ _
    go_wp2
    refine bodyPost_ret (v := .agg #[.slice A2 l2.length c2, .bool s]) (by simp [results, Tryz.results72, go_sem, *]) rfl ?_
    exact ⟨l2, s, A2, c2, hide (by rw [← HC.out, E2.out]; simp), rfl, C2, hide (OwQ.base (B := w.heap.size + 2) (owT O2) (by omega)), belo⟩
  · have HC := hide (show sgl 2 = cnt ⟨a, s⟩ by unfold cnt; rw [if_neg (by rw [← hr]; exact h0)]; rfl)
    clear hr
    have h0 : (r != 0) = true := by simpa using h0
    go_enter Tryz.func72, Tryz.ntmps72
    go_wp2_with fail
    refine (hcall.out _ belo).mono ?_
    rintro e w1 ⟨rfl, hb⟩
    have hB1 : Below w.heap.size w w1 := Below.trans belo (hb.mono as4)
    obtain ⟨kc1, kf1⟩ := bcell hb
    have hz1 := hb.size
    (try simp at hz1)
    have n1_0 : w.heap.size < w1.heap.size := by omega
    have n1_1 : w.heap.size + 1 < w1.heap.size := by omega
    have m1_0 : w1.cell? ⟨w.heap.size, 0, none⟩ = some (.slice A a.length c) := (kc1 _ _ as0).trans as1
    have v1_0 : w1.frozen? ⟨w.heap.size, 0, none⟩ = false := (kf1 _ _ as0).trans as1
    have m1_1 : w1.cell? ⟨w.heap.size, 1, none⟩ = some (.bool s) := (kc1 _ _ as0).trans as1
    have v1_1 : w1.frozen? ⟨w.heap.size, 1, none⟩ = false := (kf1 _ _ as0).trans as1
    have m1_2 : w1.cell? ⟨w.heap.size + 1, 0, none⟩ = some (.slice none 0 0) := (kc1 _ _ as0).trans as1
    have v1_2 : w1.frozen? ⟨w.heap.size + 1, 0, none⟩ = false := (kf1 _ _ as0).trans as1
    have m1_3 : w1.cell? ⟨w.heap.size + 1, 1, none⟩ = some (.bool false) := (kc1 _ _ as0).trans as1
    have v1_3 : w1.frozen? ⟨w.heap.size + 1, 1, none⟩ = false := (kf1 _ _ as0).trans as1
    clear kc1 kf1
    clear hb
    go_wp2_with fail
    go_wp2
    refine bodyPost_ret (v := .agg #[.slice (some ⟨w1.heap.size, 0, none⟩) 1 1, .bool false]) (by simp [results, Tryz.results72, go_sem, *]) rfl ?_
    exact ⟨[2], false, some ⟨w1.heap.size, 0, none⟩, 1, HC, rfl, hide ⟨Nat.le_refl _, by simp [maxLen]⟩, hide (fun _ => ⟨w1.heap.size, rfl, by omega, ⟨#[.int .u8 2], by simpa using heap_alloc_new ((w1.setCell ⟨w.heap.size + 1, 0, none⟩ (.slice (some ⟨w1.heap.size, 0, none⟩) 1 1)).setCell ⟨w.heap.size + 1, 1, none⟩ (.bool false)) (.cells #[.int .u8 2] 65), fun i hi => by obtain rfl : i = 0 := (by simpa using hi); rfl⟩⟩), belo⟩
def sm (a b : Vc) : Bool := a.s == b.s && a.b == b.b
theorem sm_iff (a b : Vc) : sm a b = true ↔ a = b := by
  unfold sm
  rw [Bool.and_eq_true, beq_iff_eq, beq_iff_eq]
  exact ⟨fun h => Vc.ext' h.2 h.1, fun h => by rw [h]; exact ⟨rfl, rfl⟩⟩
set_option maxHeartbeats 2000000 in
theorem rsame_any' (A B : Option Addr) (a b : List Int) (c d : Nat) (s t : Bool) (w : World) (ha : a.length ≤ 4096) (hb : b.length ≤ 4096) (hA : RQ w A a) (hB : RQ w B b) :
    Calls Tryz.prog 11 #[.agg #[.slice A a.length c, .bool s], .agg #[.slice B b.length d, .bool t]] w (Mk (.bool (sm ⟨a, s⟩ ⟨b, t⟩)) w) := by
  have HA := hide hA
  have HBB := hide hB
  clear hA hB
  obtain ⟨R, hR⟩ : ∃ R, R = sm ⟨a, s⟩ ⟨b, t⟩ := ⟨_, rfl⟩
  rw [← hR]
  have HR := hide (show R = true ↔ (⟨a, s⟩ : Vc) = ⟨b, t⟩ by rw [hR]; exact sm_iff _ _)
  clear hR
  by_cases h1 : s = t
  · subst h1
    by_cases h2 : a.length = b.length
    · have HL := hide h2
      rw [← h2]
      have hE := hide (show R = true ↔ ∀ i, i < a.length → qt a i = qt b i from HR.out.trans ⟨fun h i _ => by injection h with h _; rw [h], fun h => Vc.ext' (qlist_ext h2 h) rfl⟩)
      obtain ⟨W, hW⟩ : ∃ W, W = ((w.alloc (.cells #[.slice A a.length c, .bool s] 24)).alloc (.cells #[.slice B a.length d, .bool s] 24)) := ⟨_, rfl⟩
      have RA := hide (HA.out.below (show Below w.heap.size w W by rw [hW]; exact belo))
      have RB := hide (HBB.out.below (show Below w.heap.size w W by rw [hW]; exact belo))
      have hBW : Below w.heap.size w W := by rw [hW]; exact belo
      have q0 : W.cell? ⟨w.heap.size, 0, none⟩ = some (.slice A a.length c) := by rw [hW]; simp [go_sem]
      have q1 : W.cell? ⟨w.heap.size + 1, 0, none⟩ = some (.slice B a.length d) := by rw [hW]; simp [go_sem]
      have HW := hide hW
      clear hW h2 hb
      go_enter Tryz.func11, Tryz.ntmps11
      go_wp2_with fail
      rw [← HW.out]
      clear HW
      go_loopw [5] (fun i wr => ∃ k : Nat, k ≤ a.length ∧ i = .int .i64 k ∧ Hid (∀ j, j < k → qt a j = qt b j) ∧ ∃ n, wr = W.drewN n) (fun i _ => a.length - (intOf i).toNat)
      case atStart => exact ⟨0, Nat.zero_le _, rfl, hide fun j hj => by omega, 0, rfl⟩
      case round =>
        obtain ⟨k, hk, rfl, hno, n, rfl⟩ := hrel
        by_cases hlt : k < a.length
        · obtain ⟨ad, rfl, hb, hc⟩ := RA.out.at_ hlt
          obtain ⟨bd, rfl, hb2, hc2⟩ := RB.out.at_ (i := k) (by have := HL.out; omega)
          by_cases hx : qt a k = qt b k
          · have hx' := hide hx
            rw [hx] at hc
            clear hx
            go_wp2
            go_quiet (fail)
            go_wp2
            go_roundw
            case rel => exact ⟨k + 1, by omega, by go_num, hide fun j hj => by
              by_cases e : j = k
              · subst e; exact hx'.out
              · exact hno.out j (by omega), _, rfl⟩
            case measure => simp [intOf]; omega
          · have hx1 : (qt a k != qt b k) = true := by simpa using hx
            have hx2 := hide hx
            clear hx
            go_wp2
            go_quiet (fail)
            go_wp2
            go_ret
            refine ⟨ret_bool ?_, belo⟩
            cases hr : R
            · rfl
            · exact absurd (hE.out.1 hr k hlt) hx2.out
        · go_wp2
          go_ret
          refine ⟨ret_bool ?_, belo⟩
          exact (hE.out.2 fun i hi => hno.out i (by omega)).symm
    · have hf : R = false := by
        cases hr : R
        · rfl
        · have h := HR.out.1 hr
          injection h with h _
          exact absurd (congrArg List.length h) h2
      rw [hf]
      have hl1 : ¬ (a.length : Int) = b.length := by omega
      clear HR hf
      go_enter Tryz.func11, Tryz.ntmps11
      go_wp2
      go_ret
      exact ⟨rfl, belo⟩
  · have hf : R = false := by
      cases hr : R
      · rfl
      · have h := HR.out.1 hr
        injection h with _ h
        exact absurd h h1
    rw [hf]
    have hs1 : (s != t) = true := by simpa using h1
    clear HR hf
    go_enter Tryz.func11, Tryz.ntmps11
    go_wp2
    go_ret
    exact ⟨rfl, belo⟩
end
end Go.Proofs.YtbcpeagannjgpaaGreatDoor
