/-
  Texts of MS joined (VecI2, VecAW, VecPM, VecPU, VecPB, VecSI).
-/
import Derived.Test.YtpiakebbndoecaaDoorMS4
set_option linter.unusedVariables false
set_option linter.unusedSimpArgs false
set_option linter.unusedSectionVars false
namespace Go.Proofs.YtpiakebbndoecaaDoor
section
open Go.RowKit
set_option maxRecDepth 100000
set_option linter.unusedSimpArgs false
set_option linter.unusedVariables false
theorem btw_first (a b : Vc) : btw (fun p _ => p) a b = ⟨blA a b, sg a b⟩ := by
  unfold btw
  refine Vc.ext' ?_ rfl
  rw [← blA_length a b]
  exact ql_qt _
theorem btw_second (a b : Vc) : btw (fun _ q => q) a b = ⟨blB a b, sg a b⟩ := by
  unfold btw
  refine Vc.ext' ?_ rfl
  rw [← blB_length a b]
  exact ql_qt _
theorem vCond_any (C : Option Addr) (z : List Int) (e : Nat) (r : Bool) (A B : Option Addr) (a b : List Int) (c d : Nat) (s t : Bool) (w : World) (ha : a.length ≤ 4096) (hb : b.length ≤ 4096) (hca : Hid (a.length ≤ c ∧ c ≤ maxLen)) (hcb : Hid (b.length ≤ d ∧ d ≤ maxLen)) (hA : RQ w A a) (hB : RQ w B b) (ya : By a) (yb : By b) (hz : z.length ≤ 4096) (hce : Hid (z.length ≤ e ∧ e ≤ maxLen)) (hC : RQ w C z) (yc : By z) (ht : Tabs w) :
    Calls Tryd.prog 16 #[.agg #[.slice C z.length e, .bool r], .agg #[.slice A a.length c, .bool s], .agg #[.slice B b.length d, .bool t]] w (RetC (· = vCond ⟨z, r⟩ ⟨a, s⟩ ⟨b, t⟩) w) := by
  have HA := hide hA
  have HBB := hide hB
  have LA := hide ha
  have LB := hide hb
  have YA := hide ya
  have YB := hide yb
  clear hA hB ha hb ya yb
  have HT := hide ht
  have HC := hide hC
  have LC := hide hz
  have YC := hide yc
  clear ht hC hz yc
  obtain ⟨v, hv⟩ : ∃ v, v = tr ⟨z, r⟩ := ⟨_, rfl⟩
  have hcall := hide fun W (hW : Below w.heap.size w W) => truth_any C z e r W LC.out hce (HC.out.below hW) YC.out (HT.out.kept hW)
  rw [← hv] at hcall
  have HV := hide hv
  clear hv
  by_cases h1 : v = 1
  · subst h1
    have HS := hide (show btw (fun p _ => p) ⟨a, s⟩ ⟨b, t⟩ = vCond ⟨z, r⟩ ⟨a, s⟩ ⟨b, t⟩ by unfold vCond; rw [← HV.out, if_pos rfl, btw_first])
    clear HV
    go_enter Tryd.func16, Tryd.ntmps16
    go_wp2_with fail
    refine (hcall.out _ belo).mono ?_
    rintro e w1 ⟨rfl, hb⟩
    have hB1 : Below w.heap.size w w1 := Below.trans belo (hb.mono (by first | omega | (simp; done) | (simp; omega)))
    obtain ⟨kc1, kf1⟩ := bcell hb
    have hz1 := hb.size
    (try simp at hz1)
    have n1_0 : w.heap.size < w1.heap.size := by omega
    have n1_1 : w.heap.size + 1 < w1.heap.size := by omega
    have n1_2 : w.heap.size + 2 < w1.heap.size := by omega
    have n1_3 : w.heap.size + 3 < w1.heap.size := by omega
    have r1_0 : w1.cell? ⟨w.heap.size + 3, 0, none⟩ = some (.slice none 0 0) := (kc1 _ _ (by first | assumption | (simp; done) | omega | (simp; omega))).trans (by first | assumption | (simp [go_sem]; done) | (simp; done))
    have g1_0 : w1.frozen? ⟨w.heap.size + 3, 0, none⟩ = false := (kf1 _ _ (by first | assumption | (simp; done) | omega | (simp; omega))).trans (by first | assumption | (simp [go_sem]; done) | (simp; done))
    have r1_1 : w1.cell? ⟨w.heap.size + 3, 1, none⟩ = some (.bool false) := (kc1 _ _ (by first | assumption | (simp; done) | omega | (simp; omega))).trans (by first | assumption | (simp [go_sem]; done) | (simp; done))
    have g1_1 : w1.frozen? ⟨w.heap.size + 3, 1, none⟩ = false := (kf1 _ _ (by first | assumption | (simp; done) | omega | (simp; omega))).trans (by first | assumption | (simp [go_sem]; done) | (simp; done))
    clear hb
    go_wp2_with fail
    refine (bitwise_any _ _ opF_first A B a b c d s t _ LA.out LB.out hca hcb (HA.out.below belo) (HBB.out.below belo) YA.out YB.out (HT.out.kept belo)).mono ?_
    rintro e w2 ⟨l1, s1, A1, c1, E1, rfl, C1, O1, hb⟩
    replace O1 := hide (O1.out.base (show w.heap.size + 4 ≤ _ by first | omega | (simp; omega) | (simp; done)))
    have hB2 : Below w.heap.size w w2 := Below.trans belo (hb.mono (by first | omega | (simp; done) | (simp; omega)))
    obtain ⟨kc2, kf2⟩ := bcell hb
    have hz2 := hb.size
    (try simp at hz2)
    have n2_0 : w.heap.size < w2.heap.size := by omega
    have n2_1 : w.heap.size + 1 < w2.heap.size := by omega
    have n2_2 : w.heap.size + 2 < w2.heap.size := by omega
    have n2_3 : w.heap.size + 3 < w2.heap.size := by omega
    have r2_0 : w2.cell? ⟨w.heap.size + 3, 0, none⟩ = some (.slice none 0 0) := (kc2 _ _ (by first | assumption | (simp; done) | omega | (simp; omega))).trans (by first | assumption | (simp [go_sem]; done) | (simp; done))
    have g2_0 : w2.frozen? ⟨w.heap.size + 3, 0, none⟩ = false := (kf2 _ _ (by first | assumption | (simp; done) | omega | (simp; omega))).trans (by first | assumption | (simp [go_sem]; done) | (simp; done))
    have r2_1 : w2.cell? ⟨w.heap.size + 3, 1, none⟩ = some (.bool false) := (kc2 _ _ (by first | assumption | (simp; done) | omega | (simp; omega))).trans (by first | assumption | (simp [go_sem]; done) | (simp; done))
    have g2_1 : w2.frozen? ⟨w.heap.size + 3, 1, none⟩ = false := (kf2 _ _ (by first | assumption | (simp; done) | omega | (simp; omega))).trans (by first | assumption | (simp [go_sem]; done) | (simp; done))
    clear hb
    go_wp2
    refine bodyPost_ret (v := .agg #[.slice A1 l1.length c1, .bool s1]) (by simp [results, Tryd.results16, go_sem, *]) rfl ?_
    exact ⟨l1, s1, A1, c1, hide (E1.out.trans HS.out), rfl, C1, hide (OwQ.base (B := w.heap.size + 4) (by (repeat (first | with_reducible exact O1.out | with_reducible refine OwQ.far ?_ (by first | (simp; done) | omega | (simp; omega)) _ | with_reducible refine OwQ.allc ?_ _ | with_reducible refine OwQ.drew ?_ | with_reducible refine OwQ.drewN ?_ _))) (by omega)), by (repeat (first | with_reducible exact Below.refl _ _ | with_reducible assumption | with_reducible refine Below.setCell ?_ (by first | (simp; done) | omega | (simp; omega)) _ | with_reducible refine Below.alloc ?_ (by first | (simp; done) | omega | (simp; omega)) _ | with_reducible refine below_drewN ?_ _ | with_reducible refine Below.drew ?_))⟩
  · by_cases h0 : v = 0
    · subst h0
      have HS := hide (show btw (fun _ q => q) ⟨a, s⟩ ⟨b, t⟩ = vCond ⟨z, r⟩ ⟨a, s⟩ ⟨b, t⟩ by unfold vCond; rw [← HV.out, if_neg h1, if_pos rfl, btw_second])
      clear HV h1
      go_enter Tryd.func16, Tryd.ntmps16
      go_wp2_with fail
      refine (hcall.out _ belo).mono ?_
      rintro e w1 ⟨rfl, hb⟩
      have hB1 : Below w.heap.size w w1 := Below.trans belo (hb.mono (by first | omega | (simp; done) | (simp; omega)))
      obtain ⟨kc1, kf1⟩ := bcell hb
      have hz1 := hb.size
      (try simp at hz1)
      have n1_0 : w.heap.size < w1.heap.size := by omega
      have n1_1 : w.heap.size + 1 < w1.heap.size := by omega
      have n1_2 : w.heap.size + 2 < w1.heap.size := by omega
      have n1_3 : w.heap.size + 3 < w1.heap.size := by omega
      have r1_0 : w1.cell? ⟨w.heap.size + 3, 0, none⟩ = some (.slice none 0 0) := (kc1 _ _ (by first | assumption | (simp; done) | omega | (simp; omega))).trans (by first | assumption | (simp [go_sem]; done) | (simp; done))
      have g1_0 : w1.frozen? ⟨w.heap.size + 3, 0, none⟩ = false := (kf1 _ _ (by first | assumption | (simp; done) | omega | (simp; omega))).trans (by first | assumption | (simp [go_sem]; done) | (simp; done))
      have r1_1 : w1.cell? ⟨w.heap.size + 3, 1, none⟩ = some (.bool false) := (kc1 _ _ (by first | assumption | (simp; done) | omega | (simp; omega))).trans (by first | assumption | (simp [go_sem]; done) | (simp; done))
      have g1_1 : w1.frozen? ⟨w.heap.size + 3, 1, none⟩ = false := (kf1 _ _ (by first | assumption | (simp; done) | omega | (simp; omega))).trans (by first | assumption | (simp [go_sem]; done) | (simp; done))
      clear hb
      go_wp2_with fail
      refine (bitwise_any _ _ opF_second A B a b c d s t _ LA.out LB.out hca hcb (HA.out.below belo) (HBB.out.below belo) YA.out YB.out (HT.out.kept belo)).mono ?_
      rintro e w2 ⟨l1, s1, A1, c1, E1, rfl, C1, O1, hb⟩
      replace O1 := hide (O1.out.base (show w.heap.size + 4 ≤ _ by first | omega | (simp; omega) | (simp; done)))
      have hB2 : Below w.heap.size w w2 := Below.trans belo (hb.mono (by first | omega | (simp; done) | (simp; omega)))
      obtain ⟨kc2, kf2⟩ := bcell hb
      have hz2 := hb.size
      (try simp at hz2)
      have n2_0 : w.heap.size < w2.heap.size := by omega
      have n2_1 : w.heap.size + 1 < w2.heap.size := by omega
      have n2_2 : w.heap.size + 2 < w2.heap.size := by omega
      have n2_3 : w.heap.size + 3 < w2.heap.size := by omega
      have r2_0 : w2.cell? ⟨w.heap.size + 3, 0, none⟩ = some (.slice none 0 0) := (kc2 _ _ (by first | assumption | (simp; done) | omega | (simp; omega))).trans (by first | assumption | (simp [go_sem]; done) | (simp; done))
      have g2_0 : w2.frozen? ⟨w.heap.size + 3, 0, none⟩ = false := (kf2 _ _ (by first | assumption | (simp; done) | omega | (simp; omega))).trans (by first | assumption | (simp [go_sem]; done) | (simp; done))
      have r2_1 : w2.cell? ⟨w.heap.size + 3, 1, none⟩ = some (.bool false) := (kc2 _ _ (by first | assumption | (simp; done) | omega | (simp; omega))).trans (by first | assumption | (simp [go_sem]; done) | (simp; done))
      have g2_1 : w2.frozen? ⟨w.heap.size + 3, 1, none⟩ = false := (kf2 _ _ (by first | assumption | (simp; done) | omega | (simp; omega))).trans (by first | assumption | (simp [go_sem]; done) | (simp; done))
      clear hb
      go_wp2
      refine bodyPost_ret (v := .agg #[.slice A1 l1.length c1, .bool s1]) (by simp [results, Tryd.results16, go_sem, *]) rfl ?_
      exact ⟨l1, s1, A1, c1, hide (E1.out.trans HS.out), rfl, C1, hide (OwQ.base (B := w.heap.size + 4) (by (repeat (first | with_reducible exact O1.out | with_reducible refine OwQ.far ?_ (by first | (simp; done) | omega | (simp; omega)) _ | with_reducible refine OwQ.allc ?_ _ | with_reducible refine OwQ.drew ?_ | with_reducible refine OwQ.drewN ?_ _))) (by omega)), by (repeat (first | with_reducible exact Below.refl _ _ | with_reducible assumption | with_reducible refine Below.setCell ?_ (by first | (simp; done) | omega | (simp; omega)) _ | with_reducible refine Below.alloc ?_ (by first | (simp; done) | omega | (simp; omega)) _ | with_reducible refine below_drewN ?_ _ | with_reducible refine Below.drew ?_))⟩
    · have HS := hide (show btw (mMux 2) ⟨a, s⟩ ⟨b, t⟩ = vCond ⟨z, r⟩ ⟨a, s⟩ ⟨b, t⟩ by unfold vCond; rw [← HV.out, if_neg h1, if_neg h0])
      clear HV
      have e1 : (v == 1) = false := by simpa using h1
      have e0 : (v == 0) = false := by simpa using h0
      go_enter Tryd.func16, Tryd.ntmps16
      go_wp2_with fail
      refine (hcall.out _ belo).mono ?_
      rintro e w1 ⟨rfl, hb⟩
      have hB1 : Below w.heap.size w w1 := Below.trans belo (hb.mono (by first | omega | (simp; done) | (simp; omega)))
      obtain ⟨kc1, kf1⟩ := bcell hb
      have hz1 := hb.size
      (try simp at hz1)
      have n1_0 : w.heap.size < w1.heap.size := by omega
      have n1_1 : w.heap.size + 1 < w1.heap.size := by omega
      have n1_2 : w.heap.size + 2 < w1.heap.size := by omega
      have n1_3 : w.heap.size + 3 < w1.heap.size := by omega
      have r1_0 : w1.cell? ⟨w.heap.size + 3, 0, none⟩ = some (.slice none 0 0) := (kc1 _ _ (by first | assumption | (simp; done) | omega | (simp; omega))).trans (by first | assumption | (simp [go_sem]; done) | (simp; done))
      have g1_0 : w1.frozen? ⟨w.heap.size + 3, 0, none⟩ = false := (kf1 _ _ (by first | assumption | (simp; done) | omega | (simp; omega))).trans (by first | assumption | (simp [go_sem]; done) | (simp; done))
      have r1_1 : w1.cell? ⟨w.heap.size + 3, 1, none⟩ = some (.bool false) := (kc1 _ _ (by first | assumption | (simp; done) | omega | (simp; omega))).trans (by first | assumption | (simp [go_sem]; done) | (simp; done))
      have g1_1 : w1.frozen? ⟨w.heap.size + 3, 1, none⟩ = false := (kf1 _ _ (by first | assumption | (simp; done) | omega | (simp; omega))).trans (by first | assumption | (simp [go_sem]; done) | (simp; done))
      clear hb
      go_wp2_with fail
      refine (bitwise_any _ _ opF_mux A B a b c d s t _ LA.out LB.out hca hcb (HA.out.below belo) (HBB.out.below belo) YA.out YB.out (HT.out.kept belo)).mono ?_
      rintro e w2 ⟨l1, s1, A1, c1, E1, rfl, C1, O1, hb⟩
      replace O1 := hide (O1.out.base (show w.heap.size + 4 ≤ _ by first | omega | (simp; omega) | (simp; done)))
      have hB2 : Below w.heap.size w w2 := Below.trans belo (hb.mono (by first | omega | (simp; done) | (simp; omega)))
      obtain ⟨kc2, kf2⟩ := bcell hb
      have hz2 := hb.size
      (try simp at hz2)
      have n2_0 : w.heap.size < w2.heap.size := by omega
      have n2_1 : w.heap.size + 1 < w2.heap.size := by omega
      have n2_2 : w.heap.size + 2 < w2.heap.size := by omega
      have n2_3 : w.heap.size + 3 < w2.heap.size := by omega
      have r2_0 : w2.cell? ⟨w.heap.size + 3, 0, none⟩ = some (.slice none 0 0) := (kc2 _ _ (by first | assumption | (simp; done) | omega | (simp; omega))).trans (by first | assumption | (simp [go_sem]; done) | (simp; done))
      have g2_0 : w2.frozen? ⟨w.heap.size + 3, 0, none⟩ = false := (kf2 _ _ (by first | assumption | (simp; done) | omega | (simp; omega))).trans (by first | assumption | (simp [go_sem]; done) | (simp; done))
      have r2_1 : w2.cell? ⟨w.heap.size + 3, 1, none⟩ = some (.bool false) := (kc2 _ _ (by first | assumption | (simp; done) | omega | (simp; omega))).trans (by first | assumption | (simp [go_sem]; done) | (simp; done))
      have g2_1 : w2.frozen? ⟨w.heap.size + 3, 1, none⟩ = false := (kf2 _ _ (by first | assumption | (simp; done) | omega | (simp; omega))).trans (by first | assumption | (simp [go_sem]; done) | (simp; done))
      clear hb
      go_wp2
      refine bodyPost_ret (v := .agg #[.slice A1 l1.length c1, .bool s1]) (by simp [results, Tryd.results16, go_sem, *]) rfl ?_
      exact ⟨l1, s1, A1, c1, hide (E1.out.trans HS.out), rfl, C1, hide (OwQ.base (B := w.heap.size + 4) (by (repeat (first | with_reducible exact O1.out | with_reducible refine OwQ.far ?_ (by first | (simp; done) | omega | (simp; omega)) _ | with_reducible refine OwQ.allc ?_ _ | with_reducible refine OwQ.drew ?_ | with_reducible refine OwQ.drewN ?_ _))) (by omega)), by (repeat (first | with_reducible exact Below.refl _ _ | with_reducible assumption | with_reducible refine Below.setCell ?_ (by first | (simp; done) | omega | (simp; omega)) _ | with_reducible refine Below.alloc ?_ (by first | (simp; done) | omega | (simp; omega)) _ | with_reducible refine below_drewN ?_ _ | with_reducible refine Below.drew ?_))⟩
end
section
open Go.RowKit
set_option maxRecDepth 100000
set_option linter.unusedSimpArgs false
set_option linter.unusedVariables false
set_option maxHeartbeats 4000000 in
theorem vawake_any (w : World) (ht : Tabs w) : Calls Tryd.prog 6 #[] w (Mk (.bool true) w) := by
 have HT := hide ht
 clear ht
 have hU : Below w.heap.size w w := Below.refl _ _
 refine calls_sl (l := []) 196 Tryd.func6 rfl (by kernel_rfl) (by simp) (zs (z1 [(0, z_f)] (sx_n (z1 [(1, .func (.func 10) #[] #[])] (sx_n ?_)))))
 refine zc rfl ((vfrom_q 5 8 true _ (by decide) (by decide) (by decide) (by decide)).mono ?_)
 rintro e w1 ⟨le, se, Ae, ce, Ee, rfl, Ce, Oe, hb⟩
 refine ⟨_, rfl, ?_⟩
 replace Ee := hide (ret_e0 Ee.out)
 replace Oe := hide Oe.out.rd
 replace hU := zU hU hU.size hb
 clear hb
 have Ge := zGd Ee (gd_of (by decide +kernel))
 have Le := zLe Ge
 have Ye := hide Ge.by_
 clear Ge
 refine z3 [(23, .int .i64 0), (22, .agg #[.slice Ae le.length ce, .bool se]), (20, .tuple #[.agg #[.slice Ae le.length ce, .bool se], .int .i64 0])] (zm (A := Ae) (m := le.length) (c := ce) (s := se) rfl rfl rfl ?_)
 intro w2 Ne Be hNe hb
 replace Be := hide Be
 replace Oe := zQ Oe hb
 have hze : w.heap.size ≤ Ne := Nat.le_trans hU.size hNe
 clear hNe
 replace hU := zU hU hU.size hb
 clear hb
 refine z1 [(3, .int .i64 0)] (sx_n ?_)
 refine zc rfl ((vfrom_q 5 8 false _ (by decide) (by decide) (by decide) (by decide)).mono ?_)
 rintro e w3 ⟨lp, sp, Ap, cp, Ep, rfl, Cp, Op, hb⟩
 refine ⟨_, rfl, ?_⟩
 replace Oe := zQ Oe hb
 replace Be := zX Be hb
 replace Ep := hide (ret_e0 Ep.out)
 replace Op := hide Op.out.rd
 replace hU := zU hU hU.size hb
 clear hb
 have Gp := zGd Ep (gd_of (by decide +kernel))
 have Lp := zLe Gp
 have Yp := hide Gp.by_
 clear Gp
 refine z3 [(27, .int .i64 0), (26, .agg #[.slice Ap lp.length cp, .bool sp]), (24, .tuple #[.agg #[.slice Ap lp.length cp, .bool sp], .int .i64 0])] (zm (A := Ap) (m := lp.length) (c := cp) (s := sp) rfl rfl rfl ?_)
 intro w4 Np Bp hNp hb
 replace Bp := hide Bp
 replace Oe := zQ Oe hb
 replace Op := zQ Op hb
 replace Be := zX Be hb
 have hzp : w.heap.size ≤ Np := Nat.le_trans hU.size hNp
 clear hNp
 replace hU := zU hU hU.size hb
 clear hb
 refine z1 [(5, .int .i64 0)] (sx_n ?_)
 refine zc rfl ((vfrom_q (-1) 32 true _ (by decide) (by decide) (by decide) (by decide)).mono ?_)
 rintro e w5 ⟨lm, sm, Am, cm, Em, rfl, Cm, Om, hb⟩
 refine ⟨_, rfl, ?_⟩
 replace Oe := zQ Oe hb
 replace Op := zQ Op hb
 replace Be := zX Be hb
 replace Bp := zX Bp hb
 replace Em := hide (ret_e0 Em.out)
 replace Om := hide Om.out.rd
 replace hU := zU hU hU.size hb
 clear hb
 have Gm := zGd Em (gd_of (by decide +kernel))
 have Lm := zLe Gm
 have Ym := hide Gm.by_
 clear Gm
 refine z3 [(31, .int .i64 0), (30, .agg #[.slice Am lm.length cm, .bool sm]), (28, .tuple #[.agg #[.slice Am lm.length cm, .bool sm], .int .i64 0])] (zm (A := Am) (m := lm.length) (c := cm) (s := sm) rfl rfl rfl ?_)
 intro w6 Nm Bm hNm hb
 replace Bm := hide Bm
 replace Oe := zQ Oe hb
 replace Op := zQ Op hb
 replace Om := zQ Om hb
 replace Be := zX Be hb
 replace Bp := zX Bp hb
 have hzm : w.heap.size ≤ Nm := Nat.le_trans hU.size hNm
 clear hNm
 replace hU := zU hU hU.size hb
 clear hb
 refine z1 [(7, .int .i64 0)] (sx_n ?_)
 refine zc rfl ((vfrom_q 2 32 true _ (by decide) (by decide) (by decide) (by decide)).mono ?_)
 rintro e w7 ⟨lb, sb, Ab, cb, Eb, rfl, Cb, Ob, hb⟩
 refine ⟨_, rfl, ?_⟩
 replace Oe := zQ Oe hb
 replace Op := zQ Op hb
 replace Om := zQ Om hb
 replace Be := zX Be hb
 replace Bp := zX Bp hb
 replace Bm := zX Bm hb
 replace Eb := hide (ret_e0 Eb.out)
 replace Ob := hide Ob.out.rd
 replace hU := zU hU hU.size hb
 clear hb
 have Gb := zGd Eb (gd_of (by decide +kernel))
 have Lb := zLe Gb
 have Yb := hide Gb.by_
 clear Gb
 refine z3 [(35, .int .i64 0), (34, .agg #[.slice Ab lb.length cb, .bool sb]), (32, .tuple #[.agg #[.slice Ab lb.length cb, .bool sb], .int .i64 0])] (zm (A := Ab) (m := lb.length) (c := cb) (s := sb) rfl rfl rfl ?_)
 intro w8 Nb Bb hNb hb
 replace Bb := hide Bb
 replace Oe := zQ Oe hb
 replace Op := zQ Op hb
 replace Om := zQ Om hb
 replace Ob := zQ Ob hb
 replace Be := zX Be hb
 replace Bp := zX Bp hb
 replace Bm := zX Bm hb
 have hzb : w.heap.size ≤ Nb := Nat.le_trans hU.size hNb
 clear hNb
 replace hU := zU hU hU.size hb
 clear hb
 refine z1 [(9, .int .i64 0)] (sx_n ?_)
 refine zc rfl ((vof_any ⟨#[49, 48]⟩ _ (by decide)).mono ?_)
 rintro e w9 ⟨l1, s1, A1, c1, E1, rfl, C1, O1, hb⟩
 refine ⟨_, rfl, ?_⟩
 replace Oe := zQ Oe hb
 replace Op := zQ Op hb
 replace Om := zQ Om hb
 replace Ob := zQ Ob hb
 replace Be := zX Be hb
 replace Bp := zX Bp hb
 replace Bm := zX Bm hb
 replace Bb := zX Bb hb
 replace O1 := hide O1.out.rd
 replace hU := zU hU hU.size hb
 clear hb
 have G1 := zGd E1 (gd_of (by decide +kernel))
 have L1 := zLe G1
 have Y1 := hide G1.by_
 clear G1
 refine zc rfl ((vof_any ⟨#[48, 122, 49]⟩ _ (by decide)).mono ?_)
 rintro e w10 ⟨l2, s2, A2, c2, E2, rfl, C2, O2, hb⟩
 refine ⟨_, rfl, ?_⟩
 replace Oe := zQ Oe hb
 replace Op := zQ Op hb
 replace Om := zQ Om hb
 replace Ob := zQ Ob hb
 replace O1 := zQ O1 hb
 replace Be := zX Be hb
 replace Bp := zX Bp hb
 replace Bm := zX Bm hb
 replace Bb := zX Bb hb
 replace O2 := hide O2.out.rd
 replace hU := zU hU hU.size hb
 clear hb
 have G2 := zGd E2 (gd_of (by decide +kernel))
 have L2 := zLe G2
 have Y2 := hide G2.by_
 clear G2
 refine wpl_bs2 rfl (by kernel_rfl) rfl (A0 := A1) (l0 := l1) (c0 := c1) (s0 := s1) (A1 := A2) (l1 := l2) (c1 := c2) (s1 := s2) (by kernel_rfl) (by kernel_rfl) O1.out Y1.out L1.out C1 O2.out Y2.out L2.out C2 ?_
 intro w11 NV11 RV11 hlV11 hNV11 hb
 replace RV11 := hide RV11
 replace Oe := zQ Oe hb
 replace Op := zQ Op hb
 replace Om := zQ Om hb
 replace Ob := zQ Ob hb
 replace O1 := zQ O1 hb
 replace O2 := zQ O2 hb
 replace Be := zX Be hb
 replace Bp := zX Bp hb
 replace Bm := zX Bm hb
 replace Bb := zX Bb hb
 replace hU := zU hU hU.size hb
 clear hb hNV11
 refine zc rfl ((vConcat_e0 NV11 2 [(A1, l1, c1, s1), (A2, l2, c2, s2)] _ hlV11 (by simp) (by simp) RV11.out (by show cte [⟨l1, s1⟩, ⟨l2, s2⟩] = 0; rw [E1.out, E2.out]; decide +kernel)).mono ?_)
 rintro e w12 ⟨lh, sh, Ah, ch, Eh, rfl, Ch, Oh, hb⟩
 refine ⟨_, rfl, ?_⟩
 replace Oe := zQ Oe hb
 replace Op := zQ Op hb
 replace Om := zQ Om hb
 replace Ob := zQ Ob hb
 replace O1 := zQ O1 hb
 replace O2 := zQ O2 hb
 replace Be := zX Be hb
 replace Bp := zX Bp hb
 replace Bm := zX Bm hb
 replace Bb := zX Bb hb
 replace Eh := hide (ret_e0 Eh.out)
 replace Oh := hide Oh.out.rd
 replace hU := zU hU hU.size hb
 clear hb
 have Gh := zGd Eh ((by show Gd (cats [⟨l1, s1⟩, ⟨l2, s2⟩]); rw [E1.out, E2.out]; exact gd_of (by decide +kernel)))
 have Lh := zLe Gh
 have Yh := hide Gh.by_
 clear Gh
 replace Eh := hide (show (⟨lh, sh⟩ : Vc) = ⟨cats [⟨ofB ⟨#[49, 48]⟩, false⟩, ⟨ofB ⟨#[48, 122, 49]⟩, false⟩], false⟩ from Eh.out.trans (by show (⟨cats [⟨l1, s1⟩, ⟨l2, s2⟩], false⟩ : Vc) = _; rw [E1.out, E2.out]))
 clear RV11 O1 C1 L1 Y1
 clear O2 C2 L2 Y2
 refine z3 [(42, .int .i64 0), (41, .agg #[.slice Ah lh.length ch, .bool sh]), (36, .tuple #[.agg #[.slice Ah lh.length ch, .bool sh], .int .i64 0])] (zm (A := Ah) (m := lh.length) (c := ch) (s := sh) rfl rfl rfl ?_)
 intro w13 Nh Bh hNh hb
 replace Bh := hide Bh
 replace Oe := zQ Oe hb
 replace Op := zQ Op hb
 replace Om := zQ Om hb
 replace Ob := zQ Ob hb
 replace Oh := zQ Oh hb
 replace Be := zX Be hb
 replace Bp := zX Bp hb
 replace Bm := zX Bm hb
 replace Bb := zX Bb hb
 have hzh : w.heap.size ≤ Nh := Nat.le_trans hU.size hNh
 clear hNh
 replace hU := zU hU hU.size hb
 clear hb
 refine z1 [(11, .int .i64 0)] (sx_n ?_)
 refine zc rfl ((vof_any ⟨#[49, 48, 49, 49]⟩ _ (by decide)).mono ?_)
 rintro e w14 ⟨l1, s1, A1, c1, E1, rfl, C1, O1, hb⟩
 refine ⟨_, rfl, ?_⟩
 replace Oe := zQ Oe hb
 replace Op := zQ Op hb
 replace Om := zQ Om hb
 replace Ob := zQ Ob hb
 replace Oh := zQ Oh hb
 replace Be := zX Be hb
 replace Bp := zX Bp hb
 replace Bm := zX Bm hb
 replace Bb := zX Bb hb
 replace Bh := zX Bh hb
 replace O1 := hide O1.out.rd
 replace hU := zU hU hU.size hb
 clear hb
 have G1 := zGd E1 (gd_of (by decide +kernel))
 have L1 := zLe G1
 have Y1 := hide G1.by_
 clear G1
 refine zc rfl ((vSlice_e0 4 2 A1 l1 c1 s1 _ L1.out C1 O1.out Y1.out (by decide) (by decide) (by decide) (by decide) (by decide)).mono ?_)
 rintro e w15 ⟨lt, st, At, ct, Et, rfl, Ct, Ot, hb⟩
 refine ⟨_, rfl, ?_⟩
 replace Oe := zQ Oe hb
 replace Op := zQ Op hb
 replace Om := zQ Om hb
 replace Ob := zQ Ob hb
 replace Oh := zQ Oh hb
 replace O1 := zQ O1 hb
 replace Be := zX Be hb
 replace Bp := zX Bp hb
 replace Bm := zX Bm hb
 replace Bb := zX Bb hb
 replace Bh := zX Bh hb
 replace Et := hide (ret_e0 Et.out)
 replace Ot := hide Ot.out.rd
 replace hU := zU hU hU.size hb
 clear hb
 have Gt := zGd Et ((by rw [E1.out]; exact gd_of (by decide +kernel)))
 have Lt := zLe Gt
 have Yt := hide Gt.by_
 clear Gt
 replace Et := hide (show (⟨lt, st⟩ : Vc) = ⟨wdw (cnt ⟨ofB ⟨#[49, 48, 49, 49]⟩, false⟩).b 2 (4 - 2 + 1 : Int).toNat 2, false⟩ from Et.out.trans (by rw [E1.out]))
 clear O1 C1 L1 Y1
 refine z3 [(47, .int .i64 0), (46, .agg #[.slice At lt.length ct, .bool st]), (43, .tuple #[.agg #[.slice At lt.length ct, .bool st], .int .i64 0])] (zm (A := At) (m := lt.length) (c := ct) (s := st) rfl rfl rfl ?_)
 intro w16 Nt Bt hNt hb
 replace Bt := hide Bt
 replace Oe := zQ Oe hb
 replace Op := zQ Op hb
 replace Om := zQ Om hb
 replace Ob := zQ Ob hb
 replace Oh := zQ Oh hb
 replace Ot := zQ Ot hb
 replace Be := zX Be hb
 replace Bp := zX Bp hb
 replace Bm := zX Bm hb
 replace Bb := zX Bb hb
 replace Bh := zX Bh hb
 have hzt : w.heap.size ≤ Nt := Nat.le_trans hU.size hNt
 clear hNt
 replace hU := zU hU hU.size hb
 clear hb
 refine z1 [(13, .int .i64 0)] (ze (wp_seq (zs (wpl_r16 [(63, .int .i64 0), (62, z_f), (61, z_f), (60, z_f), (59, .int .i64 0), (58, z_f), (57, z_f), (56, z_f), (55, .int .i64 0), (54, z_f), (53, z_f), (52, z_f), (51, .int .i64 0), (50, z_f), (49, z_f), (48, .int .i64 0)] (by kernel_rfl) (z6 [(69, z_f), (68, z_f), (67, .int .i64 0), (66, z_f), (65, z_f), (64, z_f)] ?_)))))
 refine ze (zif (wp_skip (then_normal (wp_seq (region_R (n := 8) (N := 9) (by kernel_rfl) (by kernel_rfl) (by kernel_rfl) (by kernel_rfl) (by kernel_rfl) (by kernel_rfl) (fun _ _ _ _ _ h => h) ?_)))))
 intro F hQ
 have Be0 := Be
 have Bp0 := Bp
 have Bm0 := Bm
 have Bb0 := Bb
 have Bh0 := Bh
 have Bt0 := Bt
 refine anyR_ldvec (i := 1) (m' := 2) Bp0.out F hQ rfl rfl (by kernel_rfl) (by kernel_rfl) (by kernel_rfl) (by kernel_rfl) (by kernel_rfl) rfl (by kernel_rfl) ?_
 refine zac (i := 0) (m' := 3) rfl rfl ((vsof_any ⟨#[49, 49, 48, 49]⟩ _ (by decide)).mono ?_)
 rintro e w17 ⟨l1, s1, A1, c1, E1, rfl, C1, O1, hb⟩
 refine ⟨_, rfl, hb, ?_⟩
 replace hb : Below w16.heap.size w16 w17 := Below.trans ((Below.refl _ _).drew) hb
 replace Oe := zQ Oe hb
 replace Op := zQ Op hb
 replace Om := zQ Om hb
 replace Ob := zQ Ob hb
 replace Oh := zQ Oh hb
 replace Ot := zQ Ot hb
 replace Be := zX Be hb
 replace Bp := zX Bp hb
 replace Bm := zX Bm hb
 replace Bb := zX Bb hb
 replace Bh := zX Bh hb
 replace Bt := zX Bt hb
 replace O1 := hide O1.out.rd
 replace hU := zU hU hU.size hb
 clear hb
 have G1 := zGd E1 (gd_of (by decide +kernel))
 have L1 := zLe G1
 have Y1 := hide G1.by_
 clear G1
 refine zac (i := 2) (m' := 7) rfl rfl ((vAdd_any A1 Ap l1 lp c1 cp s1 sp _ L1.out Lp.out C1 Cp O1.out Op.out Y1.out Yp.out).mono ?_)
 rintro e w18 ⟨l2, s2, A2, c2, E2, rfl, C2, O2, hb⟩
 refine ⟨_, rfl, hb, ?_⟩
 replace Oe := zQ Oe hb
 replace Op := zQ Op hb
 replace Om := zQ Om hb
 replace Ob := zQ Ob hb
 replace Oh := zQ Oh hb
 replace Ot := zQ Ot hb
 replace O1 := zQ O1 hb
 replace Be := zX Be hb
 replace Bp := zX Bp hb
 replace Bm := zX Bm hb
 replace Bb := zX Bb hb
 replace Bh := zX Bh hb
 replace Bt := zX Bt hb
 replace O2 := hide O2.out.rd
 replace hU := zU hU hU.size hb
 clear hb
 have G2 := zGd E2 ((by rw [E1.out, Ep.out]; exact gd_of (by decide +kernel)))
 have L2 := zLe G2
 have Y2 := hide G2.by_
 clear G2
 replace E2 := hide (show (⟨l2, s2⟩ : Vc) = vAdd ⟨ofB ⟨#[49, 49, 48, 49]⟩, true⟩ ⟨fb (vz 8 5), false⟩ from E2.out.trans (by rw [E1.out, Ep.out]))
 clear O1 C1 L1 Y1
 refine zac (i := 3) (m' := 15) rfl rfl ((vint_val (18) A2 l2 c2 s2 _ L2.out C2 O2.out Y2.out (by rw [E2.out]; decide +kernel) (by rw [E2.out]; decide +kernel) (by decide) (by decide)).mono ?_)
 rintro e w19 ⟨rfl, hb⟩
 refine ⟨_, rfl, hb, ?_⟩
 replace Oe := zQ Oe hb
 replace Op := zQ Op hb
 replace Om := zQ Om hb
 replace Ob := zQ Ob hb
 replace Oh := zQ Oh hb
 replace Ot := zQ Ot hb
 replace O2 := zQ O2 hb
 replace Be := zX Be hb
 replace Bp := zX Bp hb
 replace Bm := zX Bm hb
 replace Bb := zX Bb hb
 replace Bh := zX Bh hb
 replace Bt := zX Bt hb
 replace hU := zU hU hU.size hb
 clear hb O2 C2 L2 Y2
 refine zav (i := 4) (m' := 31) (v := .tuple #[.int .i64 18, .bool true]) F hQ rfl rfl (zav (i := 5) (m' := 63) (v := .int .i64 18) F hQ rfl rfl (zav (i := 6) (m' := 127) (v := .bool true) F hQ rfl rfl (zav (i := 7) (m' := 255) (v := .int .i64 18) F hQ rfl rfl (anyR_e (anyR_last (i := 8) (m' := 511) (v := .bool true) rfl rfl (by kernel_rfl) (by kernel_rfl) (by kernel_rfl) (by kernel_rfl) (by kernel_rfl) (anyE_done (by kernel_rfl) ?_))))))
 clear F hQ Be0 Bp0 Bm0 Bb0 Bh0 Bt0
 refine then_normal (wp_seq (region_R (n := 8) (N := 9) (by kernel_rfl) (by kernel_rfl) (by kernel_rfl) (by kernel_rfl) (by kernel_rfl) (by kernel_rfl) (fun _ _ _ _ _ h => h) ?_))
 intro F hQ
 have Be0 := Be
 have Bp0 := Bp
 have Bm0 := Bm
 have Bb0 := Bb
 have Bh0 := Bh
 have Bt0 := Bt
 refine anyR_ldvec (i := 1) (m' := 2) Be0.out F hQ rfl rfl (by kernel_rfl) (by kernel_rfl) (by kernel_rfl) (by kernel_rfl) (by kernel_rfl) rfl (by kernel_rfl) ?_
 refine zac (i := 0) (m' := 3) rfl rfl ((vsof_any ⟨#[49, 49, 48, 49]⟩ _ (by decide)).mono ?_)
 rintro e w20 ⟨l1, s1, A1, c1, E1, rfl, C1, O1, hb⟩
 refine ⟨_, rfl, hb, ?_⟩
 replace hb : Below w19.heap.size w19 w20 := Below.trans ((Below.refl _ _).drew) hb
 replace Oe := zQ Oe hb
 replace Op := zQ Op hb
 replace Om := zQ Om hb
 replace Ob := zQ Ob hb
 replace Oh := zQ Oh hb
 replace Ot := zQ Ot hb
 replace Be := zX Be hb
 replace Bp := zX Bp hb
 replace Bm := zX Bm hb
 replace Bb := zX Bb hb
 replace Bh := zX Bh hb
 replace Bt := zX Bt hb
 replace O1 := hide O1.out.rd
 replace hU := zU hU hU.size hb
 clear hb
 have G1 := zGd E1 (gd_of (by decide +kernel))
 have L1 := zLe G1
 have Y1 := hide G1.by_
 clear G1
 refine zac (i := 2) (m' := 7) rfl rfl ((vAdd_any A1 Ae l1 le c1 ce s1 se _ L1.out Le.out C1 Ce O1.out Oe.out Y1.out Ye.out).mono ?_)
 rintro e w21 ⟨l2, s2, A2, c2, E2, rfl, C2, O2, hb⟩
 refine ⟨_, rfl, hb, ?_⟩
 replace Oe := zQ Oe hb
 replace Op := zQ Op hb
 replace Om := zQ Om hb
 replace Ob := zQ Ob hb
 replace Oh := zQ Oh hb
 replace Ot := zQ Ot hb
 replace O1 := zQ O1 hb
 replace Be := zX Be hb
 replace Bp := zX Bp hb
 replace Bm := zX Bm hb
 replace Bb := zX Bb hb
 replace Bh := zX Bh hb
 replace Bt := zX Bt hb
 replace O2 := hide O2.out.rd
 replace hU := zU hU hU.size hb
 clear hb
 have G2 := zGd E2 ((by rw [E1.out, Ee.out]; exact gd_of (by decide +kernel)))
 have L2 := zLe G2
 have Y2 := hide G2.by_
 clear G2
 replace E2 := hide (show (⟨l2, s2⟩ : Vc) = vAdd ⟨ofB ⟨#[49, 49, 48, 49]⟩, true⟩ ⟨fb (vz 8 5), true⟩ from E2.out.trans (by rw [E1.out, Ee.out]))
 clear O1 C1 L1 Y1
 refine zac (i := 3) (m' := 15) rfl rfl ((vint_val (2) A2 l2 c2 s2 _ L2.out C2 O2.out Y2.out (by rw [E2.out]; decide +kernel) (by rw [E2.out]; decide +kernel) (by decide) (by decide)).mono ?_)
 rintro e w22 ⟨rfl, hb⟩
 refine ⟨_, rfl, hb, ?_⟩
 replace Oe := zQ Oe hb
 replace Op := zQ Op hb
 replace Om := zQ Om hb
 replace Ob := zQ Ob hb
 replace Oh := zQ Oh hb
 replace Ot := zQ Ot hb
 replace O2 := zQ O2 hb
 replace Be := zX Be hb
 replace Bp := zX Bp hb
 replace Bm := zX Bm hb
 replace Bb := zX Bb hb
 replace Bh := zX Bh hb
 replace Bt := zX Bt hb
 replace hU := zU hU hU.size hb
 clear hb O2 C2 L2 Y2
 refine zav (i := 4) (m' := 31) (v := .tuple #[.int .i64 2, .bool true]) F hQ rfl rfl (zav (i := 5) (m' := 63) (v := .int .i64 2) F hQ rfl rfl (zav (i := 6) (m' := 127) (v := .bool true) F hQ rfl rfl (zav (i := 7) (m' := 255) (v := .int .i64 2) F hQ rfl rfl (anyR_e (anyR_last (i := 8) (m' := 511) (v := .bool true) rfl rfl (by kernel_rfl) (by kernel_rfl) (by kernel_rfl) (by kernel_rfl) (by kernel_rfl) (anyE_done (by kernel_rfl) ?_))))))
 clear F hQ Be0 Bp0 Bm0 Bb0 Bh0 Bt0
 refine then_normal (zs (zv Bb.out rfl rfl (zv Bm.out rfl rfl ?_)))
 refine zc rfl ((vPow_any Ab Am lb lm cb cm sb sm _ Lb.out Lm.out Cb Cm Ob.out Om.out Yb.out Ym.out (HT.out.kept hU)).mono ?_)
 rintro e w23 ⟨l1, s1, A1, c1, E1, rfl, C1, O1, hb⟩
 refine ⟨_, rfl, ?_⟩
 replace Oe := zQ Oe hb
 replace Op := zQ Op hb
 replace Om := zQ Om hb
 replace Ob := zQ Ob hb
 replace Oh := zQ Oh hb
 replace Ot := zQ Ot hb
 replace Be := zX Be hb
 replace Bp := zX Bp hb
 replace Bm := zX Bm hb
 replace Bb := zX Bb hb
 replace Bh := zX Bh hb
 replace Bt := zX Bt hb
 replace O1 := hide O1.out.rd
 replace hU := zU hU hU.size hb
 clear hb
 have G1 := zGd E1 ((by rw [Eb.out, Em.out]; exact gd_of (by decide +kernel)))
 have L1 := zLe G1
 have Y1 := hide G1.by_
 clear G1
 replace E1 := hide (show (⟨l1, s1⟩ : Vc) = vPow ⟨fb (vz 32 2), true⟩ ⟨fb (vz 32 (-1)), true⟩ from E1.out.trans (by rw [Eb.out, Em.out]))
 refine zc rfl ((vint_val (0) A1 l1 c1 s1 _ L1.out C1 O1.out Y1.out (by rw [E1.out]; decide +kernel) (by rw [E1.out]; decide +kernel) (by decide) (by decide)).mono ?_)
 rintro e w24 ⟨rfl, hb⟩
 refine ⟨_, rfl, ?_⟩
 replace Oe := zQ Oe hb
 replace Op := zQ Op hb
 replace Om := zQ Om hb
 replace Ob := zQ Ob hb
 replace Oh := zQ Oh hb
 replace Ot := zQ Ot hb
 replace O1 := zQ O1 hb
 replace Be := zX Be hb
 replace Bp := zX Bp hb
 replace Bm := zX Bm hb
 replace Bb := zX Bb hb
 replace Bh := zX Bh hb
 replace Bt := zX Bt hb
 replace hU := zU hU hU.size hb
 clear hb O1 C1 L1 Y1
 refine z5 [(19, z_t), (18, .int .i64 0), (90, z_t), (89, .int .i64 0), (84, .tuple #[.int .i64 0, .bool true])] (ze (wp_seq (zs (wpl_r16 [(106, z_t), (105, z_f), (104, z_f), (103, z_f), (102, .int .i64 2), (101, z_f), (100, z_f), (99, z_f), (98, z_t), (97, z_f), (96, z_f), (95, z_f), (94, .int .i64 18), (93, z_f), (92, z_f), (91, z_t)] (by kernel_rfl) (z6 [(112, z_f), (111, z_f), (110, .int .i64 0), (109, z_f), (108, z_f), (107, z_f)] ?_)))))
 refine ze (zif (wp_skip (then_normal (wp_seq (region_R (n := 83) (N := 84) (by kernel_rfl) (by kernel_rfl) (by kernel_rfl) (by kernel_rfl) (by kernel_rfl) (by kernel_rfl) (fun _ _ _ _ _ h => h) ?_)))))
 intro F hQ
 have Be0 := Be
 have Bp0 := Bp
 have Bm0 := Bm
 have Bb0 := Bb
 have Bh0 := Bh
 have Bt0 := Bt
 refine zav (i := 0) (m' := 1) (v := .func (.func 10) #[] #[]) F hQ rfl rfl ?_
 refine zac (i := 1) (m' := 3) rfl rfl ((vof_any ⟨#[49, 120, 48, 48]⟩ _ (by decide)).mono ?_)
 rintro e w25 ⟨l1, s1, A1, c1, E1, rfl, C1, O1, hb⟩
 refine ⟨_, rfl, hb, ?_⟩
 replace hb : Below w24.heap.size w24 w25 := Below.trans ((Below.refl _ _).drew) hb
 replace Oe := zQ Oe hb
 replace Op := zQ Op hb
 replace Om := zQ Om hb
 replace Ob := zQ Ob hb
 replace Oh := zQ Oh hb
 replace Ot := zQ Ot hb
 replace Be := zX Be hb
 replace Bp := zX Bp hb
 replace Bm := zX Bm hb
 replace Bb := zX Bb hb
 replace Bh := zX Bh hb
 replace Bt := zX Bt hb
 replace O1 := hide O1.out.rd
 replace hU := zU hU hU.size hb
 clear hb
 have G1 := zGd E1 (gd_of (by decide +kernel))
 have L1 := zLe G1
 have Y1 := hide G1.by_
 clear G1
 refine zac (i := 2) (m' := 7) rfl rfl ((vof_any ⟨#[48, 49, 49, 48]⟩ _ (by decide)).mono ?_)
 rintro e w26 ⟨l2, s2, A2, c2, E2, rfl, C2, O2, hb⟩
 refine ⟨_, rfl, hb, ?_⟩
 replace Oe := zQ Oe hb
 replace Op := zQ Op hb
 replace Om := zQ Om hb
 replace Ob := zQ Ob hb
 replace Oh := zQ Oh hb
 replace Ot := zQ Ot hb
 replace O1 := zQ O1 hb
 replace Be := zX Be hb
 replace Bp := zX Bp hb
 replace Bm := zX Bm hb
 replace Bb := zX Bb hb
 replace Bh := zX Bh hb
 replace Bt := zX Bt hb
 replace O2 := hide O2.out.rd
 replace hU := zU hU hU.size hb
 clear hb
 have G2 := zGd E2 (gd_of (by decide +kernel))
 have L2 := zLe G2
 have Y2 := hide G2.by_
 clear G2
 refine zac (i := 3) (m' := 15) rfl rfl ((vAnd_any A1 A2 l1 l2 c1 c2 s1 s2 _ L1.out L2.out C1 C2 O1.out O2.out Y1.out Y2.out (HT.out.kept hU)).mono ?_)
 rintro e w27 ⟨l3, s3, A3, c3, E3, rfl, C3, O3, hb⟩
 refine ⟨_, rfl, hb, ?_⟩
 replace Oe := zQ Oe hb
 replace Op := zQ Op hb
 replace Om := zQ Om hb
 replace Ob := zQ Ob hb
 replace Oh := zQ Oh hb
 replace Ot := zQ Ot hb
 replace O1 := zQ O1 hb
 replace O2 := zQ O2 hb
 replace Be := zX Be hb
 replace Bp := zX Bp hb
 replace Bm := zX Bm hb
 replace Bb := zX Bb hb
 replace Bh := zX Bh hb
 replace Bt := zX Bt hb
 replace O3 := hide O3.out.rd
 replace hU := zU hU hU.size hb
 clear hb
 have G3 := zGd E3 ((by rw [E1.out, E2.out]; exact gd_of (by decide +kernel)))
 have L3 := zLe G3
 have Y3 := hide G3.by_
 clear G3
 replace E3 := hide (show (⟨l3, s3⟩ : Vc) = btw mAnd ⟨ofB ⟨#[49, 120, 48, 48]⟩, false⟩ ⟨ofB ⟨#[48, 49, 49, 48]⟩, false⟩ from E3.out.trans (by rw [E1.out, E2.out]))
 clear O1 C1 L1 Y1 O2 C2 L2 Y2
 refine zac (i := 4) (m' := 31) rfl rfl ((vof_any ⟨#[48, 120, 48, 48]⟩ _ (by decide)).mono ?_)
 rintro e w28 ⟨l4, s4, A4, c4, E4, rfl, C4, O4, hb⟩
 refine ⟨_, rfl, hb, ?_⟩
 replace Oe := zQ Oe hb
 replace Op := zQ Op hb
 replace Om := zQ Om hb
 replace Ob := zQ Ob hb
 replace Oh := zQ Oh hb
 replace Ot := zQ Ot hb
 replace O3 := zQ O3 hb
 replace Be := zX Be hb
 replace Bp := zX Bp hb
 replace Bm := zX Bm hb
 replace Bb := zX Bb hb
 replace Bh := zX Bh hb
 replace Bt := zX Bt hb
 replace O4 := hide O4.out.rd
 replace hU := zU hU hU.size hb
 clear hb
 have G4 := zGd E4 (gd_of (by decide +kernel))
 have L4 := zLe G4
 have Y4 := hide G4.by_
 clear G4
 refine zac (i := 5) (m' := 63) rfl rfl ((rsame_yes A3 A4 l3 l4 c3 c4 s3 s4 _ L3.out L4.out O3.out O4.out (by rw [E3.out, E4.out]; exact (sm_iff _ _).1 (by decide +kernel))).mono ?_)
 rintro e w29 ⟨rfl, hb⟩
 refine ⟨_, rfl, hb, ?_⟩
 replace Oe := zQ Oe hb
 replace Op := zQ Op hb
 replace Om := zQ Om hb
 replace Ob := zQ Ob hb
 replace Oh := zQ Oh hb
 replace Ot := zQ Ot hb
 replace O3 := zQ O3 hb
 replace O4 := zQ O4 hb
 replace Be := zX Be hb
 replace Bp := zX Bp hb
 replace Bm := zX Bm hb
 replace Bb := zX Bb hb
 replace Bh := zX Bh hb
 replace Bt := zX Bt hb
 replace hU := zU hU hU.size hb
 clear hb O3 C3 L3 Y3
 clear O4 C4 L4 Y4
 refine zav (i := 6) (m' := 127) (v := .bool true) F hQ rfl rfl (zav (i := 7) (m' := 255) (v := .func (.func 10) #[] #[]) F hQ rfl rfl ?_)
 refine zac (i := 8) (m' := 511) rfl rfl ((vof_any ⟨#[49, 49, 48, 48]⟩ _ (by decide)).mono ?_)
 rintro e w30 ⟨l1, s1, A1, c1, E1, rfl, C1, O1, hb⟩
 refine ⟨_, rfl, hb, ?_⟩
 replace Oe := zQ Oe hb
 replace Op := zQ Op hb
 replace Om := zQ Om hb
 replace Ob := zQ Ob hb
 replace Oh := zQ Oh hb
 replace Ot := zQ Ot hb
 replace Be := zX Be hb
 replace Bp := zX Bp hb
 replace Bm := zX Bm hb
 replace Bb := zX Bb hb
 replace Bh := zX Bh hb
 replace Bt := zX Bt hb
 replace O1 := hide O1.out.rd
 replace hU := zU hU hU.size hb
 clear hb
 have G1 := zGd E1 (gd_of (by decide +kernel))
 have L1 := zLe G1
 have Y1 := hide G1.by_
 clear G1
 refine zac (i := 9) (m' := 1023) rfl rfl ((vof_any ⟨#[48, 49, 48, 49]⟩ _ (by decide)).mono ?_)
 rintro e w31 ⟨l2, s2, A2, c2, E2, rfl, C2, O2, hb⟩
 refine ⟨_, rfl, hb, ?_⟩
 replace Oe := zQ Oe hb
 replace Op := zQ Op hb
 replace Om := zQ Om hb
 replace Ob := zQ Ob hb
 replace Oh := zQ Oh hb
 replace Ot := zQ Ot hb
 replace O1 := zQ O1 hb
 replace Be := zX Be hb
 replace Bp := zX Bp hb
 replace Bm := zX Bm hb
 replace Bb := zX Bb hb
 replace Bh := zX Bh hb
 replace Bt := zX Bt hb
 replace O2 := hide O2.out.rd
 replace hU := zU hU hU.size hb
 clear hb
 have G2 := zGd E2 (gd_of (by decide +kernel))
 have L2 := zLe G2
 have Y2 := hide G2.by_
 clear G2
 refine zac (i := 10) (m' := 2047) rfl rfl ((vAdd_any A1 A2 l1 l2 c1 c2 s1 s2 _ L1.out L2.out C1 C2 O1.out O2.out Y1.out Y2.out).mono ?_)
 rintro e w32 ⟨l3, s3, A3, c3, E3, rfl, C3, O3, hb⟩
 refine ⟨_, rfl, hb, ?_⟩
 replace Oe := zQ Oe hb
 replace Op := zQ Op hb
 replace Om := zQ Om hb
 replace Ob := zQ Ob hb
 replace Oh := zQ Oh hb
 replace Ot := zQ Ot hb
 replace O1 := zQ O1 hb
 replace O2 := zQ O2 hb
 replace Be := zX Be hb
 replace Bp := zX Bp hb
 replace Bm := zX Bm hb
 replace Bb := zX Bb hb
 replace Bh := zX Bh hb
 replace Bt := zX Bt hb
 replace O3 := hide O3.out.rd
 replace hU := zU hU hU.size hb
 clear hb
 have G3 := zGd E3 ((by rw [E1.out, E2.out]; exact gd_of (by decide +kernel)))
 have L3 := zLe G3
 have Y3 := hide G3.by_
 clear G3
 replace E3 := hide (show (⟨l3, s3⟩ : Vc) = vAdd ⟨ofB ⟨#[49, 49, 48, 48]⟩, false⟩ ⟨ofB ⟨#[48, 49, 48, 49]⟩, false⟩ from E3.out.trans (by rw [E1.out, E2.out]))
 clear O1 C1 L1 Y1 O2 C2 L2 Y2
 refine zac (i := 11) (m' := 4095) rfl rfl ((vof_any ⟨#[48, 48, 48, 49]⟩ _ (by decide)).mono ?_)
 rintro e w33 ⟨l4, s4, A4, c4, E4, rfl, C4, O4, hb⟩
 refine ⟨_, rfl, hb, ?_⟩
 replace Oe := zQ Oe hb
 replace Op := zQ Op hb
 replace Om := zQ Om hb
 replace Ob := zQ Ob hb
 replace Oh := zQ Oh hb
 replace Ot := zQ Ot hb
 replace O3 := zQ O3 hb
 replace Be := zX Be hb
 replace Bp := zX Bp hb
 replace Bm := zX Bm hb
 replace Bb := zX Bb hb
 replace Bh := zX Bh hb
 replace Bt := zX Bt hb
 replace O4 := hide O4.out.rd
 replace hU := zU hU hU.size hb
 clear hb
 have G4 := zGd E4 (gd_of (by decide +kernel))
 have L4 := zLe G4
 have Y4 := hide G4.by_
 clear G4
 refine zac (i := 12) (m' := 8191) rfl rfl ((rsame_yes A3 A4 l3 l4 c3 c4 s3 s4 _ L3.out L4.out O3.out O4.out (by rw [E3.out, E4.out]; exact (sm_iff _ _).1 (by decide +kernel))).mono ?_)
 rintro e w34 ⟨rfl, hb⟩
 refine ⟨_, rfl, hb, ?_⟩
 replace Oe := zQ Oe hb
 replace Op := zQ Op hb
 replace Om := zQ Om hb
 replace Ob := zQ Ob hb
 replace Oh := zQ Oh hb
 replace Ot := zQ Ot hb
 replace O3 := zQ O3 hb
 replace O4 := zQ O4 hb
 replace Be := zX Be hb
 replace Bp := zX Bp hb
 replace Bm := zX Bm hb
 replace Bb := zX Bb hb
 replace Bh := zX Bh hb
 replace Bt := zX Bt hb
 replace hU := zU hU hU.size hb
 clear hb O3 C3 L3 Y3
 clear O4 C4 L4 Y4
 refine zav (i := 13) (m' := 16383) (v := .bool true) F hQ rfl rfl (zav (i := 14) (m' := 32767) (v := .bool true) F hQ rfl rfl (zav (i := 15) (m' := 65535) (v := .func (.func 10) #[] #[]) F hQ rfl rfl ?_))
 refine zac (i := 16) (m' := 131071) rfl rfl ((vof_any ⟨#[49, 120, 48, 48]⟩ _ (by decide)).mono ?_)
 rintro e w35 ⟨l1, s1, A1, c1, E1, rfl, C1, O1, hb⟩
 refine ⟨_, rfl, hb, ?_⟩
 replace Oe := zQ Oe hb
 replace Op := zQ Op hb
 replace Om := zQ Om hb
 replace Ob := zQ Ob hb
 replace Oh := zQ Oh hb
 replace Ot := zQ Ot hb
 replace Be := zX Be hb
 replace Bp := zX Bp hb
 replace Bm := zX Bm hb
 replace Bb := zX Bb hb
 replace Bh := zX Bh hb
 replace Bt := zX Bt hb
 replace O1 := hide O1.out.rd
 replace hU := zU hU hU.size hb
 clear hb
 have G1 := zGd E1 (gd_of (by decide +kernel))
 have L1 := zLe G1
 have Y1 := hide G1.by_
 clear G1
 refine zac (i := 17) (m' := 262143) rfl rfl ((vof_any ⟨#[48, 48, 48, 49]⟩ _ (by decide)).mono ?_)
 rintro e w36 ⟨l2, s2, A2, c2, E2, rfl, C2, O2, hb⟩
 refine ⟨_, rfl, hb, ?_⟩
 replace Oe := zQ Oe hb
 replace Op := zQ Op hb
 replace Om := zQ Om hb
 replace Ob := zQ Ob hb
 replace Oh := zQ Oh hb
 replace Ot := zQ Ot hb
 replace O1 := zQ O1 hb
 replace Be := zX Be hb
 replace Bp := zX Bp hb
 replace Bm := zX Bm hb
 replace Bb := zX Bb hb
 replace Bh := zX Bh hb
 replace Bt := zX Bt hb
 replace O2 := hide O2.out.rd
 replace hU := zU hU hU.size hb
 clear hb
 have G2 := zGd E2 (gd_of (by decide +kernel))
 have L2 := zLe G2
 have Y2 := hide G2.by_
 clear G2
 refine zac (i := 18) (m' := 524287) rfl rfl ((vAdd_any A1 A2 l1 l2 c1 c2 s1 s2 _ L1.out L2.out C1 C2 O1.out O2.out Y1.out Y2.out).mono ?_)
 rintro e w37 ⟨l3, s3, A3, c3, E3, rfl, C3, O3, hb⟩
 refine ⟨_, rfl, hb, ?_⟩
 replace Oe := zQ Oe hb
 replace Op := zQ Op hb
 replace Om := zQ Om hb
 replace Ob := zQ Ob hb
 replace Oh := zQ Oh hb
 replace Ot := zQ Ot hb
 replace O1 := zQ O1 hb
 replace O2 := zQ O2 hb
 replace Be := zX Be hb
 replace Bp := zX Bp hb
 replace Bm := zX Bm hb
 replace Bb := zX Bb hb
 replace Bh := zX Bh hb
 replace Bt := zX Bt hb
 replace O3 := hide O3.out.rd
 replace hU := zU hU hU.size hb
 clear hb
 have G3 := zGd E3 ((by rw [E1.out, E2.out]; exact gd_of (by decide +kernel)))
 have L3 := zLe G3
 have Y3 := hide G3.by_
 clear G3
 replace E3 := hide (show (⟨l3, s3⟩ : Vc) = vAdd ⟨ofB ⟨#[49, 120, 48, 48]⟩, false⟩ ⟨ofB ⟨#[48, 48, 48, 49]⟩, false⟩ from E3.out.trans (by rw [E1.out, E2.out]))
 clear O1 C1 L1 Y1 O2 C2 L2 Y2
 refine zac (i := 19) (m' := 1048575) rfl rfl ((vof_any ⟨#[120, 120, 120, 120]⟩ _ (by decide)).mono ?_)
 rintro e w38 ⟨l4, s4, A4, c4, E4, rfl, C4, O4, hb⟩
 refine ⟨_, rfl, hb, ?_⟩
 replace Oe := zQ Oe hb
 replace Op := zQ Op hb
 replace Om := zQ Om hb
 replace Ob := zQ Ob hb
 replace Oh := zQ Oh hb
 replace Ot := zQ Ot hb
 replace O3 := zQ O3 hb
 replace Be := zX Be hb
 replace Bp := zX Bp hb
 replace Bm := zX Bm hb
 replace Bb := zX Bb hb
 replace Bh := zX Bh hb
 replace Bt := zX Bt hb
 replace O4 := hide O4.out.rd
 replace hU := zU hU hU.size hb
 clear hb
 have G4 := zGd E4 (gd_of (by decide +kernel))
 have L4 := zLe G4
 have Y4 := hide G4.by_
 clear G4
 refine zac (i := 20) (m' := 2097151) rfl rfl ((rsame_yes A3 A4 l3 l4 c3 c4 s3 s4 _ L3.out L4.out O3.out O4.out (by rw [E3.out, E4.out]; exact (sm_iff _ _).1 (by decide +kernel))).mono ?_)
 rintro e w39 ⟨rfl, hb⟩
 refine ⟨_, rfl, hb, ?_⟩
 replace Oe := zQ Oe hb
 replace Op := zQ Op hb
 replace Om := zQ Om hb
 replace Ob := zQ Ob hb
 replace Oh := zQ Oh hb
 replace Ot := zQ Ot hb
 replace O3 := zQ O3 hb
 replace O4 := zQ O4 hb
 replace Be := zX Be hb
 replace Bp := zX Bp hb
 replace Bm := zX Bm hb
 replace Bb := zX Bb hb
 replace Bh := zX Bh hb
 replace Bt := zX Bt hb
 replace hU := zU hU hU.size hb
 clear hb O3 C3 L3 Y3
 clear O4 C4 L4 Y4
 refine zav (i := 21) (m' := 4194303) (v := .bool true) F hQ rfl rfl (zav (i := 22) (m' := 8388607) (v := .bool true) F hQ rfl rfl (zav (i := 23) (m' := 16777215) (v := .func (.func 10) #[] #[]) F hQ rfl rfl ?_))
 refine zac (i := 24) (m' := 33554431) rfl rfl ((vof_any ⟨#[49, 48, 120, 48]⟩ _ (by decide)).mono ?_)
 rintro e w40 ⟨l1, s1, A1, c1, E1, rfl, C1, O1, hb⟩
 refine ⟨_, rfl, hb, ?_⟩
 replace Oe := zQ Oe hb
 replace Op := zQ Op hb
 replace Om := zQ Om hb
 replace Ob := zQ Ob hb
 replace Oh := zQ Oh hb
 replace Ot := zQ Ot hb
 replace Be := zX Be hb
 replace Bp := zX Bp hb
 replace Bm := zX Bm hb
 replace Bb := zX Bb hb
 replace Bh := zX Bh hb
 replace Bt := zX Bt hb
 replace O1 := hide O1.out.rd
 replace hU := zU hU hU.size hb
 clear hb
 have G1 := zGd E1 (gd_of (by decide +kernel))
 have L1 := zLe G1
 have Y1 := hide G1.by_
 clear G1
 refine zac (i := 25) (m' := 67108863) rfl rfl ((vof_any ⟨#[48, 48, 48, 48]⟩ _ (by decide)).mono ?_)
 rintro e w41 ⟨l2, s2, A2, c2, E2, rfl, C2, O2, hb⟩
 refine ⟨_, rfl, hb, ?_⟩
 replace Oe := zQ Oe hb
 replace Op := zQ Op hb
 replace Om := zQ Om hb
 replace Ob := zQ Ob hb
 replace Oh := zQ Oh hb
 replace Ot := zQ Ot hb
 replace O1 := zQ O1 hb
 replace Be := zX Be hb
 replace Bp := zX Bp hb
 replace Bm := zX Bm hb
 replace Bb := zX Bb hb
 replace Bh := zX Bh hb
 replace Bt := zX Bt hb
 replace O2 := hide O2.out.rd
 replace hU := zU hU hU.size hb
 clear hb
 have G2 := zGd E2 (gd_of (by decide +kernel))
 have L2 := zLe G2
 have Y2 := hide G2.by_
 clear G2
 refine zac (i := 26) (m' := 134217727) rfl rfl ((vEq_any A1 A2 l1 l2 c1 c2 s1 s2 _ L1.out L2.out C1 C2 O1.out O2.out Y1.out Y2.out (HT.out.kept hU)).mono ?_)
 rintro e w42 ⟨l3, s3, A3, c3, E3, rfl, C3, O3, hb⟩
 refine ⟨_, rfl, hb, ?_⟩
 replace Oe := zQ Oe hb
 replace Op := zQ Op hb
 replace Om := zQ Om hb
 replace Ob := zQ Ob hb
 replace Oh := zQ Oh hb
 replace Ot := zQ Ot hb
 replace O1 := zQ O1 hb
 replace O2 := zQ O2 hb
 replace Be := zX Be hb
 replace Bp := zX Bp hb
 replace Bm := zX Bm hb
 replace Bb := zX Bb hb
 replace Bh := zX Bh hb
 replace Bt := zX Bt hb
 replace O3 := hide O3.out.rd
 replace hU := zU hU hU.size hb
 clear hb
 have G3 := zGd E3 ((by rw [E1.out, E2.out]; exact gd_of (by decide +kernel)))
 have L3 := zLe G3
 have Y3 := hide G3.by_
 clear G3
 replace E3 := hide (show (⟨l3, s3⟩ : Vc) = vEq ⟨ofB ⟨#[49, 48, 120, 48]⟩, false⟩ ⟨ofB ⟨#[48, 48, 48, 48]⟩, false⟩ from E3.out.trans (by rw [E1.out, E2.out]))
 clear O1 C1 L1 Y1 O2 C2 L2 Y2
 refine zac (i := 27) (m' := 268435455) rfl rfl ((vof_any ⟨#[48]⟩ _ (by decide)).mono ?_)
 rintro e w43 ⟨l4, s4, A4, c4, E4, rfl, C4, O4, hb⟩
 refine ⟨_, rfl, hb, ?_⟩
 replace Oe := zQ Oe hb
 replace Op := zQ Op hb
 replace Om := zQ Om hb
 replace Ob := zQ Ob hb
 replace Oh := zQ Oh hb
 replace Ot := zQ Ot hb
 replace O3 := zQ O3 hb
 replace Be := zX Be hb
 replace Bp := zX Bp hb
 replace Bm := zX Bm hb
 replace Bb := zX Bb hb
 replace Bh := zX Bh hb
 replace Bt := zX Bt hb
 replace O4 := hide O4.out.rd
 replace hU := zU hU hU.size hb
 clear hb
 have G4 := zGd E4 (gd_of (by decide +kernel))
 have L4 := zLe G4
 have Y4 := hide G4.by_
 clear G4
 refine zac (i := 28) (m' := 536870911) rfl rfl ((rsame_yes A3 A4 l3 l4 c3 c4 s3 s4 _ L3.out L4.out O3.out O4.out (by rw [E3.out, E4.out]; exact (sm_iff _ _).1 (by decide +kernel))).mono ?_)
 rintro e w44 ⟨rfl, hb⟩
 refine ⟨_, rfl, hb, ?_⟩
 replace Oe := zQ Oe hb
 replace Op := zQ Op hb
 replace Om := zQ Om hb
 replace Ob := zQ Ob hb
 replace Oh := zQ Oh hb
 replace Ot := zQ Ot hb
 replace O3 := zQ O3 hb
 replace O4 := zQ O4 hb
 replace Be := zX Be hb
 replace Bp := zX Bp hb
 replace Bm := zX Bm hb
 replace Bb := zX Bb hb
 replace Bh := zX Bh hb
 replace Bt := zX Bt hb
 replace hU := zU hU hU.size hb
 clear hb O3 C3 L3 Y3
 clear O4 C4 L4 Y4
 refine zav (i := 29) (m' := 1073741823) (v := .bool true) F hQ rfl rfl (zav (i := 30) (m' := 2147483647) (v := .bool true) F hQ rfl rfl (zav (i := 31) (m' := 4294967295) (v := .func (.func 10) #[] #[]) F hQ rfl rfl ?_))
 refine zac (i := 32) (m' := 8589934591) rfl rfl ((vof_any ⟨#[48, 48, 120, 48]⟩ _ (by decide)).mono ?_)
 rintro e w45 ⟨l1, s1, A1, c1, E1, rfl, C1, O1, hb⟩
 refine ⟨_, rfl, hb, ?_⟩
 replace Oe := zQ Oe hb
 replace Op := zQ Op hb
 replace Om := zQ Om hb
 replace Ob := zQ Ob hb
 replace Oh := zQ Oh hb
 replace Ot := zQ Ot hb
 replace Be := zX Be hb
 replace Bp := zX Bp hb
 replace Bm := zX Bm hb
 replace Bb := zX Bb hb
 replace Bh := zX Bh hb
 replace Bt := zX Bt hb
 replace O1 := hide O1.out.rd
 replace hU := zU hU hU.size hb
 clear hb
 have G1 := zGd E1 (gd_of (by decide +kernel))
 have L1 := zLe G1
 have Y1 := hide G1.by_
 clear G1
 refine zac (i := 33) (m' := 17179869183) rfl rfl ((vof_any ⟨#[48, 48, 48, 48]⟩ _ (by decide)).mono ?_)
 rintro e w46 ⟨l2, s2, A2, c2, E2, rfl, C2, O2, hb⟩
 refine ⟨_, rfl, hb, ?_⟩
 replace Oe := zQ Oe hb
 replace Op := zQ Op hb
 replace Om := zQ Om hb
 replace Ob := zQ Ob hb
 replace Oh := zQ Oh hb
 replace Ot := zQ Ot hb
 replace O1 := zQ O1 hb
 replace Be := zX Be hb
 replace Bp := zX Bp hb
 replace Bm := zX Bm hb
 replace Bb := zX Bb hb
 replace Bh := zX Bh hb
 replace Bt := zX Bt hb
 replace O2 := hide O2.out.rd
 replace hU := zU hU hU.size hb
 clear hb
 have G2 := zGd E2 (gd_of (by decide +kernel))
 have L2 := zLe G2
 have Y2 := hide G2.by_
 clear G2
 refine zac (i := 34) (m' := 34359738367) rfl rfl ((vEq_any A1 A2 l1 l2 c1 c2 s1 s2 _ L1.out L2.out C1 C2 O1.out O2.out Y1.out Y2.out (HT.out.kept hU)).mono ?_)
 rintro e w47 ⟨l3, s3, A3, c3, E3, rfl, C3, O3, hb⟩
 refine ⟨_, rfl, hb, ?_⟩
 replace Oe := zQ Oe hb
 replace Op := zQ Op hb
 replace Om := zQ Om hb
 replace Ob := zQ Ob hb
 replace Oh := zQ Oh hb
 replace Ot := zQ Ot hb
 replace O1 := zQ O1 hb
 replace O2 := zQ O2 hb
 replace Be := zX Be hb
 replace Bp := zX Bp hb
 replace Bm := zX Bm hb
 replace Bb := zX Bb hb
 replace Bh := zX Bh hb
 replace Bt := zX Bt hb
 replace O3 := hide O3.out.rd
 replace hU := zU hU hU.size hb
 clear hb
 have G3 := zGd E3 ((by rw [E1.out, E2.out]; exact gd_of (by decide +kernel)))
 have L3 := zLe G3
 have Y3 := hide G3.by_
 clear G3
 replace E3 := hide (show (⟨l3, s3⟩ : Vc) = vEq ⟨ofB ⟨#[48, 48, 120, 48]⟩, false⟩ ⟨ofB ⟨#[48, 48, 48, 48]⟩, false⟩ from E3.out.trans (by rw [E1.out, E2.out]))
 clear O1 C1 L1 Y1 O2 C2 L2 Y2
 refine zac (i := 35) (m' := 68719476735) rfl rfl ((vof_any ⟨#[120]⟩ _ (by decide)).mono ?_)
 rintro e w48 ⟨l4, s4, A4, c4, E4, rfl, C4, O4, hb⟩
 refine ⟨_, rfl, hb, ?_⟩
 replace Oe := zQ Oe hb
 replace Op := zQ Op hb
 replace Om := zQ Om hb
 replace Ob := zQ Ob hb
 replace Oh := zQ Oh hb
 replace Ot := zQ Ot hb
 replace O3 := zQ O3 hb
 replace Be := zX Be hb
 replace Bp := zX Bp hb
 replace Bm := zX Bm hb
 replace Bb := zX Bb hb
 replace Bh := zX Bh hb
 replace Bt := zX Bt hb
 replace O4 := hide O4.out.rd
 replace hU := zU hU hU.size hb
 clear hb
 have G4 := zGd E4 (gd_of (by decide +kernel))
 have L4 := zLe G4
 have Y4 := hide G4.by_
 clear G4
 refine zac (i := 36) (m' := 137438953471) rfl rfl ((rsame_yes A3 A4 l3 l4 c3 c4 s3 s4 _ L3.out L4.out O3.out O4.out (by rw [E3.out, E4.out]; exact (sm_iff _ _).1 (by decide +kernel))).mono ?_)
 rintro e w49 ⟨rfl, hb⟩
 refine ⟨_, rfl, hb, ?_⟩
 replace Oe := zQ Oe hb
 replace Op := zQ Op hb
 replace Om := zQ Om hb
 replace Ob := zQ Ob hb
 replace Oh := zQ Oh hb
 replace Ot := zQ Ot hb
 replace O3 := zQ O3 hb
 replace O4 := zQ O4 hb
 replace Be := zX Be hb
 replace Bp := zX Bp hb
 replace Bm := zX Bm hb
 replace Bb := zX Bb hb
 replace Bh := zX Bh hb
 replace Bt := zX Bt hb
 replace hU := zU hU hU.size hb
 clear hb O3 C3 L3 Y3
 clear O4 C4 L4 Y4
 refine zav (i := 37) (m' := 274877906943) (v := .bool true) F hQ rfl rfl (zav (i := 38) (m' := 549755813887) (v := .bool true) F hQ rfl rfl (zav (i := 39) (m' := 1099511627775) (v := .func (.func 10) #[] #[]) F hQ rfl rfl ?_))
 refine zac (i := 40) (m' := 2199023255551) rfl rfl ((vof_any ⟨#[49, 120, 48, 48]⟩ _ (by decide)).mono ?_)
 rintro e w50 ⟨l1, s1, A1, c1, E1, rfl, C1, O1, hb⟩
 refine ⟨_, rfl, hb, ?_⟩
 replace Oe := zQ Oe hb
 replace Op := zQ Op hb
 replace Om := zQ Om hb
 replace Ob := zQ Ob hb
 replace Oh := zQ Oh hb
 replace Ot := zQ Ot hb
 replace Be := zX Be hb
 replace Bp := zX Bp hb
 replace Bm := zX Bm hb
 replace Bb := zX Bb hb
 replace Bh := zX Bh hb
 replace Bt := zX Bt hb
 replace O1 := hide O1.out.rd
 replace hU := zU hU hU.size hb
 clear hb
 have G1 := zGd E1 (gd_of (by decide +kernel))
 have L1 := zLe G1
 have Y1 := hide G1.by_
 clear G1
 refine zac (i := 41) (m' := 4398046511103) rfl rfl ((vof_any ⟨#[49, 120, 48, 48]⟩ _ (by decide)).mono ?_)
 rintro e w51 ⟨l2, s2, A2, c2, E2, rfl, C2, O2, hb⟩
 refine ⟨_, rfl, hb, ?_⟩
 replace Oe := zQ Oe hb
 replace Op := zQ Op hb
 replace Om := zQ Om hb
 replace Ob := zQ Ob hb
 replace Oh := zQ Oh hb
 replace Ot := zQ Ot hb
 replace O1 := zQ O1 hb
 replace Be := zX Be hb
 replace Bp := zX Bp hb
 replace Bm := zX Bm hb
 replace Bb := zX Bb hb
 replace Bh := zX Bh hb
 replace Bt := zX Bt hb
 replace O2 := hide O2.out.rd
 replace hU := zU hU hU.size hb
 clear hb
 have G2 := zGd E2 (gd_of (by decide +kernel))
 have L2 := zLe G2
 have Y2 := hide G2.by_
 clear G2
 refine zac (i := 42) (m' := 8796093022207) rfl rfl ((vCaseEq_any A1 A2 l1 l2 c1 c2 s1 s2 _ L1.out L2.out C1 C2 O1.out O2.out Y1.out Y2.out).mono ?_)
 rintro e w52 ⟨l3, s3, A3, c3, E3, rfl, C3, O3, hb⟩
 refine ⟨_, rfl, hb, ?_⟩
 replace Oe := zQ Oe hb
 replace Op := zQ Op hb
 replace Om := zQ Om hb
 replace Ob := zQ Ob hb
 replace Oh := zQ Oh hb
 replace Ot := zQ Ot hb
 replace O1 := zQ O1 hb
 replace O2 := zQ O2 hb
 replace Be := zX Be hb
 replace Bp := zX Bp hb
 replace Bm := zX Bm hb
 replace Bb := zX Bb hb
 replace Bh := zX Bh hb
 replace Bt := zX Bt hb
 replace O3 := hide O3.out.rd
 replace hU := zU hU hU.size hb
 clear hb
 have G3 := zGd E3 ((by rw [E1.out, E2.out]; exact gd_of (by decide +kernel)))
 have L3 := zLe G3
 have Y3 := hide G3.by_
 clear G3
 replace E3 := hide (show (⟨l3, s3⟩ : Vc) = vCase ⟨ofB ⟨#[49, 120, 48, 48]⟩, false⟩ ⟨ofB ⟨#[49, 120, 48, 48]⟩, false⟩ from E3.out.trans (by rw [E1.out, E2.out]))
 clear O1 C1 L1 Y1 O2 C2 L2 Y2
 refine zac (i := 43) (m' := 17592186044415) rfl rfl ((vof_any ⟨#[49]⟩ _ (by decide)).mono ?_)
 rintro e w53 ⟨l4, s4, A4, c4, E4, rfl, C4, O4, hb⟩
 refine ⟨_, rfl, hb, ?_⟩
 replace Oe := zQ Oe hb
 replace Op := zQ Op hb
 replace Om := zQ Om hb
 replace Ob := zQ Ob hb
 replace Oh := zQ Oh hb
 replace Ot := zQ Ot hb
 replace O3 := zQ O3 hb
 replace Be := zX Be hb
 replace Bp := zX Bp hb
 replace Bm := zX Bm hb
 replace Bb := zX Bb hb
 replace Bh := zX Bh hb
 replace Bt := zX Bt hb
 replace O4 := hide O4.out.rd
 replace hU := zU hU hU.size hb
 clear hb
 have G4 := zGd E4 (gd_of (by decide +kernel))
 have L4 := zLe G4
 have Y4 := hide G4.by_
 clear G4
 refine zac (i := 44) (m' := 35184372088831) rfl rfl ((rsame_yes A3 A4 l3 l4 c3 c4 s3 s4 _ L3.out L4.out O3.out O4.out (by rw [E3.out, E4.out]; exact (sm_iff _ _).1 (by decide +kernel))).mono ?_)
 rintro e w54 ⟨rfl, hb⟩
 refine ⟨_, rfl, hb, ?_⟩
 replace Oe := zQ Oe hb
 replace Op := zQ Op hb
 replace Om := zQ Om hb
 replace Ob := zQ Ob hb
 replace Oh := zQ Oh hb
 replace Ot := zQ Ot hb
 replace O3 := zQ O3 hb
 replace O4 := zQ O4 hb
 replace Be := zX Be hb
 replace Bp := zX Bp hb
 replace Bm := zX Bm hb
 replace Bb := zX Bb hb
 replace Bh := zX Bh hb
 replace Bt := zX Bt hb
 replace hU := zU hU hU.size hb
 clear hb O3 C3 L3 Y3
 clear O4 C4 L4 Y4
 refine zav (i := 45) (m' := 70368744177663) (v := .bool true) F hQ rfl rfl (zav (i := 46) (m' := 140737488355327) (v := .bool true) F hQ rfl rfl (zav (i := 47) (m' := 281474976710655) (v := .func (.func 10) #[] #[]) F hQ rfl rfl ?_))
 refine zac (i := 48) (m' := 562949953421311) rfl rfl ((vint4_any (-3) true _ (by decide) (by decide)).mono ?_)
 rintro e w55 ⟨l1, s1, A1, c1, E1, rfl, C1, O1, hb⟩
 refine ⟨_, rfl, hb, ?_⟩
 replace Oe := zQ Oe hb
 replace Op := zQ Op hb
 replace Om := zQ Om hb
 replace Ob := zQ Ob hb
 replace Oh := zQ Oh hb
 replace Ot := zQ Ot hb
 replace Be := zX Be hb
 replace Bp := zX Bp hb
 replace Bm := zX Bm hb
 replace Bb := zX Bb hb
 replace Bh := zX Bh hb
 replace Bt := zX Bt hb
 replace O1 := hide O1.out.rd
 replace hU := zU hU hU.size hb
 clear hb
 have G1 := zGd E1 (gd_of (by decide +kernel))
 have L1 := zLe G1
 have Y1 := hide G1.by_
 clear G1
 refine zac (i := 49) (m' := 1125899906842623) rfl rfl ((vint4_any 2 true _ (by decide) (by decide)).mono ?_)
 rintro e w56 ⟨l2, s2, A2, c2, E2, rfl, C2, O2, hb⟩
 refine ⟨_, rfl, hb, ?_⟩
 replace Oe := zQ Oe hb
 replace Op := zQ Op hb
 replace Om := zQ Om hb
 replace Ob := zQ Ob hb
 replace Oh := zQ Oh hb
 replace Ot := zQ Ot hb
 replace O1 := zQ O1 hb
 replace Be := zX Be hb
 replace Bp := zX Bp hb
 replace Bm := zX Bm hb
 replace Bb := zX Bb hb
 replace Bh := zX Bh hb
 replace Bt := zX Bt hb
 replace O2 := hide O2.out.rd
 replace hU := zU hU hU.size hb
 clear hb
 have G2 := zGd E2 (gd_of (by decide +kernel))
 have L2 := zLe G2
 have Y2 := hide G2.by_
 clear G2
 refine zac (i := 50) (m' := 2251799813685247) rfl rfl ((vDiv_any A1 A2 l1 l2 c1 c2 s1 s2 _ L1.out L2.out C1 C2 O1.out O2.out Y1.out Y2.out).mono ?_)
 rintro e w57 ⟨l3, s3, A3, c3, E3, rfl, C3, O3, hb⟩
 refine ⟨_, rfl, hb, ?_⟩
 replace Oe := zQ Oe hb
 replace Op := zQ Op hb
 replace Om := zQ Om hb
 replace Ob := zQ Ob hb
 replace Oh := zQ Oh hb
 replace Ot := zQ Ot hb
 replace O1 := zQ O1 hb
 replace O2 := zQ O2 hb
 replace Be := zX Be hb
 replace Bp := zX Bp hb
 replace Bm := zX Bm hb
 replace Bb := zX Bb hb
 replace Bh := zX Bh hb
 replace Bt := zX Bt hb
 replace O3 := hide O3.out.rd
 replace hU := zU hU hU.size hb
 clear hb
 have G3 := zGd E3 ((by rw [E1.out, E2.out]; exact gd_of (by decide +kernel)))
 have L3 := zLe G3
 have Y3 := hide G3.by_
 clear G3
 replace E3 := hide (show (⟨l3, s3⟩ : Vc) = vDiv ⟨fb (vz 4 (-3)), true⟩ ⟨fb (vz 4 2), true⟩ from E3.out.trans (by rw [E1.out, E2.out]))
 clear O1 C1 L1 Y1 O2 C2 L2 Y2
 refine zac (i := 51) (m' := 4503599627370495) rfl rfl ((vint4_any (-1) true _ (by decide) (by decide)).mono ?_)
 rintro e w58 ⟨l4, s4, A4, c4, E4, rfl, C4, O4, hb⟩
 refine ⟨_, rfl, hb, ?_⟩
 replace Oe := zQ Oe hb
 replace Op := zQ Op hb
 replace Om := zQ Om hb
 replace Ob := zQ Ob hb
 replace Oh := zQ Oh hb
 replace Ot := zQ Ot hb
 replace O3 := zQ O3 hb
 replace Be := zX Be hb
 replace Bp := zX Bp hb
 replace Bm := zX Bm hb
 replace Bb := zX Bb hb
 replace Bh := zX Bh hb
 replace Bt := zX Bt hb
 replace O4 := hide O4.out.rd
 replace hU := zU hU hU.size hb
 clear hb
 have G4 := zGd E4 (gd_of (by decide +kernel))
 have L4 := zLe G4
 have Y4 := hide G4.by_
 clear G4
 refine zac (i := 52) (m' := 9007199254740991) rfl rfl ((rsame_yes A3 A4 l3 l4 c3 c4 s3 s4 _ L3.out L4.out O3.out O4.out (by rw [E3.out, E4.out]; exact (sm_iff _ _).1 (by decide +kernel))).mono ?_)
 rintro e w59 ⟨rfl, hb⟩
 refine ⟨_, rfl, hb, ?_⟩
 replace Oe := zQ Oe hb
 replace Op := zQ Op hb
 replace Om := zQ Om hb
 replace Ob := zQ Ob hb
 replace Oh := zQ Oh hb
 replace Ot := zQ Ot hb
 replace O3 := zQ O3 hb
 replace O4 := zQ O4 hb
 replace Be := zX Be hb
 replace Bp := zX Bp hb
 replace Bm := zX Bm hb
 replace Bb := zX Bb hb
 replace Bh := zX Bh hb
 replace Bt := zX Bt hb
 replace hU := zU hU hU.size hb
 clear hb O3 C3 L3 Y3
 clear O4 C4 L4 Y4
 refine zav (i := 53) (m' := 18014398509481983) (v := .bool true) F hQ rfl rfl (zav (i := 54) (m' := 36028797018963967) (v := .bool true) F hQ rfl rfl (zav (i := 55) (m' := 72057594037927935) (v := .func (.func 10) #[] #[]) F hQ rfl rfl ?_))
 refine zac (i := 56) (m' := 144115188075855871) rfl rfl ((vsof_any ⟨#[49, 48, 48, 48]⟩ _ (by decide)).mono ?_)
 rintro e w60 ⟨l1, s1, A1, c1, E1, rfl, C1, O1, hb⟩
 refine ⟨_, rfl, hb, ?_⟩
 replace Oe := zQ Oe hb
 replace Op := zQ Op hb
 replace Om := zQ Om hb
 replace Ob := zQ Ob hb
 replace Oh := zQ Oh hb
 replace Ot := zQ Ot hb
 replace Be := zX Be hb
 replace Bp := zX Bp hb
 replace Bm := zX Bm hb
 replace Bb := zX Bb hb
 replace Bh := zX Bh hb
 replace Bt := zX Bt hb
 replace O1 := hide O1.out.rd
 replace hU := zU hU hU.size hb
 clear hb
 have G1 := zGd E1 (gd_of (by decide +kernel))
 have L1 := zLe G1
 have Y1 := hide G1.by_
 clear G1
 refine zac (i := 57) (m' := 288230376151711743) rfl rfl ((vof_any ⟨#[49]⟩ _ (by decide)).mono ?_)
 rintro e w61 ⟨l2, s2, A2, c2, E2, rfl, C2, O2, hb⟩
 refine ⟨_, rfl, hb, ?_⟩
 replace Oe := zQ Oe hb
 replace Op := zQ Op hb
 replace Om := zQ Om hb
 replace Ob := zQ Ob hb
 replace Oh := zQ Oh hb
 replace Ot := zQ Ot hb
 replace O1 := zQ O1 hb
 replace Be := zX Be hb
 replace Bp := zX Bp hb
 replace Bm := zX Bm hb
 replace Bb := zX Bb hb
 replace Bh := zX Bh hb
 replace Bt := zX Bt hb
 replace O2 := hide O2.out.rd
 replace hU := zU hU hU.size hb
 clear hb
 have G2 := zGd E2 (gd_of (by decide +kernel))
 have L2 := zLe G2
 have Y2 := hide G2.by_
 clear G2
 refine zac (i := 58) (m' := 576460752303423487) rfl rfl ((vAShr_any A1 A2 l1 l2 c1 c2 s1 s2 _ L1.out L2.out C1 C2 O1.out O2.out Y1.out Y2.out).mono ?_)
 rintro e w62 ⟨l3, s3, A3, c3, E3, rfl, C3, O3, hb⟩
 refine ⟨_, rfl, hb, ?_⟩
 replace Oe := zQ Oe hb
 replace Op := zQ Op hb
 replace Om := zQ Om hb
 replace Ob := zQ Ob hb
 replace Oh := zQ Oh hb
 replace Ot := zQ Ot hb
 replace O1 := zQ O1 hb
 replace O2 := zQ O2 hb
 replace Be := zX Be hb
 replace Bp := zX Bp hb
 replace Bm := zX Bm hb
 replace Bb := zX Bb hb
 replace Bh := zX Bh hb
 replace Bt := zX Bt hb
 replace O3 := hide O3.out.rd
 replace hU := zU hU hU.size hb
 clear hb
 have G3 := zGd E3 ((by rw [E1.out, E2.out]; exact gd_of (by decide +kernel)))
 have L3 := zLe G3
 have Y3 := hide G3.by_
 clear G3
 replace E3 := hide (show (⟨l3, s3⟩ : Vc) = shf mAShr ⟨ofB ⟨#[49, 48, 48, 48]⟩, true⟩ ⟨ofB ⟨#[49]⟩, false⟩ from E3.out.trans (by rw [E1.out, E2.out]))
 clear O1 C1 L1 Y1 O2 C2 L2 Y2
 refine zac (i := 59) (m' := 1152921504606846975) rfl rfl ((vsof_any ⟨#[49, 49, 48, 48]⟩ _ (by decide)).mono ?_)
 rintro e w63 ⟨l4, s4, A4, c4, E4, rfl, C4, O4, hb⟩
 refine ⟨_, rfl, hb, ?_⟩
 replace Oe := zQ Oe hb
 replace Op := zQ Op hb
 replace Om := zQ Om hb
 replace Ob := zQ Ob hb
 replace Oh := zQ Oh hb
 replace Ot := zQ Ot hb
 replace O3 := zQ O3 hb
 replace Be := zX Be hb
 replace Bp := zX Bp hb
 replace Bm := zX Bm hb
 replace Bb := zX Bb hb
 replace Bh := zX Bh hb
 replace Bt := zX Bt hb
 replace O4 := hide O4.out.rd
 replace hU := zU hU hU.size hb
 clear hb
 have G4 := zGd E4 (gd_of (by decide +kernel))
 have L4 := zLe G4
 have Y4 := hide G4.by_
 clear G4
 refine zac (i := 60) (m' := 2305843009213693951) rfl rfl ((rsame_yes A3 A4 l3 l4 c3 c4 s3 s4 _ L3.out L4.out O3.out O4.out (by rw [E3.out, E4.out]; exact (sm_iff _ _).1 (by decide +kernel))).mono ?_)
 rintro e w64 ⟨rfl, hb⟩
 refine ⟨_, rfl, hb, ?_⟩
 replace Oe := zQ Oe hb
 replace Op := zQ Op hb
 replace Om := zQ Om hb
 replace Ob := zQ Ob hb
 replace Oh := zQ Oh hb
 replace Ot := zQ Ot hb
 replace O3 := zQ O3 hb
 replace O4 := zQ O4 hb
 replace Be := zX Be hb
 replace Bp := zX Bp hb
 replace Bm := zX Bm hb
 replace Bb := zX Bb hb
 replace Bh := zX Bh hb
 replace Bt := zX Bt hb
 replace hU := zU hU hU.size hb
 clear hb O3 C3 L3 Y3
 clear O4 C4 L4 Y4
 refine zav (i := 61) (m' := 4611686018427387903) (v := .bool true) F hQ rfl rfl (zav (i := 62) (m' := 9223372036854775807) (v := .bool true) F hQ rfl rfl (zav (i := 63) (m' := 18446744073709551615) (v := .func (.func 10) #[] #[]) F hQ rfl rfl (anyR_ldvec (i := 64) (m' := 36893488147419103231) Bh0.out F hQ rfl rfl (by kernel_rfl) (by kernel_rfl) (by kernel_rfl) (by kernel_rfl) (by kernel_rfl) rfl (by kernel_rfl) ?_)))
 refine zac (i := 65) (m' := 73786976294838206463) rfl rfl ((vof_any ⟨#[49, 48, 48, 122, 49]⟩ _ (by decide)).mono ?_)
 rintro e w65 ⟨l1, s1, A1, c1, E1, rfl, C1, O1, hb⟩
 refine ⟨_, rfl, hb, ?_⟩
 replace Oe := zQ Oe hb
 replace Op := zQ Op hb
 replace Om := zQ Om hb
 replace Ob := zQ Ob hb
 replace Oh := zQ Oh hb
 replace Ot := zQ Ot hb
 replace Be := zX Be hb
 replace Bp := zX Bp hb
 replace Bm := zX Bm hb
 replace Bb := zX Bb hb
 replace Bh := zX Bh hb
 replace Bt := zX Bt hb
 replace O1 := hide O1.out.rd
 replace hU := zU hU hU.size hb
 clear hb
 have G1 := zGd E1 (gd_of (by decide +kernel))
 have L1 := zLe G1
 have Y1 := hide G1.by_
 clear G1
 refine zac (i := 66) (m' := 147573952589676412927) rfl rfl ((rsame_yes Ah A1 lh l1 ch c1 sh s1 _ Lh.out L1.out Oh.out O1.out (by rw [Eh.out, E1.out]; exact (sm_iff _ _).1 (by decide +kernel))).mono ?_)
 rintro e w66 ⟨rfl, hb⟩
 refine ⟨_, rfl, hb, ?_⟩
 replace Oe := zQ Oe hb
 replace Op := zQ Op hb
 replace Om := zQ Om hb
 replace Ob := zQ Ob hb
 replace Oh := zQ Oh hb
 replace Ot := zQ Ot hb
 replace O1 := zQ O1 hb
 replace Be := zX Be hb
 replace Bp := zX Bp hb
 replace Bm := zX Bm hb
 replace Bb := zX Bb hb
 replace Bh := zX Bh hb
 replace Bt := zX Bt hb
 replace hU := zU hU hU.size hb
 clear hb O1 C1 L1 Y1
 refine zav (i := 67) (m' := 295147905179352825855) (v := .bool true) F hQ rfl rfl (zav (i := 68) (m' := 590295810358705651711) (v := .bool true) F hQ rfl rfl (zav (i := 69) (m' := 1180591620717411303423) (v := .func (.func 10) #[] #[]) F hQ rfl rfl (anyR_ldvec (i := 70) (m' := 2361183241434822606847) Bt0.out F hQ rfl rfl (by kernel_rfl) (by kernel_rfl) (by kernel_rfl) (by kernel_rfl) (by kernel_rfl) rfl (by kernel_rfl) ?_)))
 refine zac (i := 71) (m' := 4722366482869645213695) rfl rfl ((vof_any ⟨#[120, 49, 48]⟩ _ (by decide)).mono ?_)
 rintro e w67 ⟨l1, s1, A1, c1, E1, rfl, C1, O1, hb⟩
 refine ⟨_, rfl, hb, ?_⟩
 replace Oe := zQ Oe hb
 replace Op := zQ Op hb
 replace Om := zQ Om hb
 replace Ob := zQ Ob hb
 replace Oh := zQ Oh hb
 replace Ot := zQ Ot hb
 replace Be := zX Be hb
 replace Bp := zX Bp hb
 replace Bm := zX Bm hb
 replace Bb := zX Bb hb
 replace Bh := zX Bh hb
 replace Bt := zX Bt hb
 replace O1 := hide O1.out.rd
 replace hU := zU hU hU.size hb
 clear hb
 have G1 := zGd E1 (gd_of (by decide +kernel))
 have L1 := zLe G1
 have Y1 := hide G1.by_
 clear G1
 refine zac (i := 72) (m' := 9444732965739290427391) rfl rfl ((rsame_yes At A1 lt l1 ct c1 st s1 _ Lt.out L1.out Ot.out O1.out (by rw [Et.out, E1.out]; exact (sm_iff _ _).1 (by decide +kernel))).mono ?_)
 rintro e w68 ⟨rfl, hb⟩
 refine ⟨_, rfl, hb, ?_⟩
 replace Oe := zQ Oe hb
 replace Op := zQ Op hb
 replace Om := zQ Om hb
 replace Ob := zQ Ob hb
 replace Oh := zQ Oh hb
 replace Ot := zQ Ot hb
 replace O1 := zQ O1 hb
 replace Be := zX Be hb
 replace Bp := zX Bp hb
 replace Bm := zX Bm hb
 replace Bb := zX Bb hb
 replace Bh := zX Bh hb
 replace Bt := zX Bt hb
 replace hU := zU hU hU.size hb
 clear hb O1 C1 L1 Y1
 refine zav (i := 73) (m' := 18889465931478580854783) (v := .bool true) F hQ rfl rfl (zav (i := 74) (m' := 37778931862957161709567) (v := .bool true) F hQ rfl rfl (zav (i := 75) (m' := 75557863725914323419135) (v := .func (.func 10) #[] #[]) F hQ rfl rfl ?_))
 refine zac (i := 76) (m' := 151115727451828646838271) rfl rfl ((vof_any ⟨#[120]⟩ _ (by decide)).mono ?_)
 rintro e w69 ⟨l0, s0, A0, c0, E0, rfl, C0, O0, hb⟩
 refine ⟨_, rfl, hb, ?_⟩
 replace Oe := zQ Oe hb
 replace Op := zQ Op hb
 replace Om := zQ Om hb
 replace Ob := zQ Ob hb
 replace Oh := zQ Oh hb
 replace Ot := zQ Ot hb
 replace Be := zX Be hb
 replace Bp := zX Bp hb
 replace Bm := zX Bm hb
 replace Bb := zX Bb hb
 replace Bh := zX Bh hb
 replace Bt := zX Bt hb
 replace O0 := hide O0.out.rd
 replace hU := zU hU hU.size hb
 clear hb
 have G0 := zGd E0 (gd_of (by decide +kernel))
 have L0 := zLe G0
 have Y0 := hide G0.by_
 clear G0
 refine zac (i := 77) (m' := 302231454903657293676543) rfl rfl ((vof_any ⟨#[49, 48, 49, 48]⟩ _ (by decide)).mono ?_)
 rintro e w70 ⟨l1, s1, A1, c1, E1, rfl, C1, O1, hb⟩
 refine ⟨_, rfl, hb, ?_⟩
 replace Oe := zQ Oe hb
 replace Op := zQ Op hb
 replace Om := zQ Om hb
 replace Ob := zQ Ob hb
 replace Oh := zQ Oh hb
 replace Ot := zQ Ot hb
 replace O0 := zQ O0 hb
 replace Be := zX Be hb
 replace Bp := zX Bp hb
 replace Bm := zX Bm hb
 replace Bb := zX Bb hb
 replace Bh := zX Bh hb
 replace Bt := zX Bt hb
 replace O1 := hide O1.out.rd
 replace hU := zU hU hU.size hb
 clear hb
 have G1 := zGd E1 (gd_of (by decide +kernel))
 have L1 := zLe G1
 have Y1 := hide G1.by_
 clear G1
 refine zac (i := 78) (m' := 604462909807314587353087) rfl rfl ((vof_any ⟨#[49, 48, 48, 49]⟩ _ (by decide)).mono ?_)
 rintro e w71 ⟨l2, s2, A2, c2, E2, rfl, C2, O2, hb⟩
 refine ⟨_, rfl, hb, ?_⟩
 replace Oe := zQ Oe hb
 replace Op := zQ Op hb
 replace Om := zQ Om hb
 replace Ob := zQ Ob hb
 replace Oh := zQ Oh hb
 replace Ot := zQ Ot hb
 replace O0 := zQ O0 hb
 replace O1 := zQ O1 hb
 replace Be := zX Be hb
 replace Bp := zX Bp hb
 replace Bm := zX Bm hb
 replace Bb := zX Bb hb
 replace Bh := zX Bh hb
 replace Bt := zX Bt hb
 replace O2 := hide O2.out.rd
 replace hU := zU hU hU.size hb
 clear hb
 have G2 := zGd E2 (gd_of (by decide +kernel))
 have L2 := zLe G2
 have Y2 := hide G2.by_
 clear G2
 refine zac (i := 79) (m' := 1208925819614629174706175) rfl rfl ((vCond_any A0 l0 c0 s0 A1 A2 l1 l2 c1 c2 s1 s2 _ L1.out L2.out C1 C2 O1.out O2.out Y1.out Y2.out L0.out C0 O0.out Y0.out (HT.out.kept hU)).mono ?_)
 rintro e w72 ⟨l3, s3, A3, c3, E3, rfl, C3, O3, hb⟩
 refine ⟨_, rfl, hb, ?_⟩
 replace Oe := zQ Oe hb
 replace Op := zQ Op hb
 replace Om := zQ Om hb
 replace Ob := zQ Ob hb
 replace Oh := zQ Oh hb
 replace Ot := zQ Ot hb
 replace O0 := zQ O0 hb
 replace O1 := zQ O1 hb
 replace O2 := zQ O2 hb
 replace Be := zX Be hb
 replace Bp := zX Bp hb
 replace Bm := zX Bm hb
 replace Bb := zX Bb hb
 replace Bh := zX Bh hb
 replace Bt := zX Bt hb
 replace O3 := hide O3.out.rd
 replace hU := zU hU hU.size hb
 clear hb
 have G3 := zGd E3 ((by rw [E0.out, E1.out, E2.out]; exact gd_of (by decide +kernel)))
 have L3 := zLe G3
 have Y3 := hide G3.by_
 clear G3
 replace E3 := hide (show (⟨l3, s3⟩ : Vc) = vCond ⟨ofB ⟨#[120]⟩, false⟩ ⟨ofB ⟨#[49, 48, 49, 48]⟩, false⟩ ⟨ofB ⟨#[49, 48, 48, 49]⟩, false⟩ from E3.out.trans (by rw [E0.out, E1.out, E2.out]))
 clear O0 C0 L0 Y0 O1 C1 L1 Y1
 clear O2 C2 L2 Y2
 refine zac (i := 80) (m' := 2417851639229258349412351) rfl rfl ((vof_any ⟨#[49, 48, 120, 120]⟩ _ (by decide)).mono ?_)
 rintro e w73 ⟨l4, s4, A4, c4, E4, rfl, C4, O4, hb⟩
 refine ⟨_, rfl, hb, ?_⟩
 replace Oe := zQ Oe hb
 replace Op := zQ Op hb
 replace Om := zQ Om hb
 replace Ob := zQ Ob hb
 replace Oh := zQ Oh hb
 replace Ot := zQ Ot hb
 replace O3 := zQ O3 hb
 replace Be := zX Be hb
 replace Bp := zX Bp hb
 replace Bm := zX Bm hb
 replace Bb := zX Bb hb
 replace Bh := zX Bh hb
 replace Bt := zX Bt hb
 replace O4 := hide O4.out.rd
 replace hU := zU hU hU.size hb
 clear hb
 have G4 := zGd E4 (gd_of (by decide +kernel))
 have L4 := zLe G4
 have Y4 := hide G4.by_
 clear G4
 refine zac (i := 81) (m' := 4835703278458516698824703) rfl rfl ((rsame_yes A3 A4 l3 l4 c3 c4 s3 s4 _ L3.out L4.out O3.out O4.out (by rw [E3.out, E4.out]; exact (sm_iff _ _).1 (by decide +kernel))).mono ?_)
 rintro e w74 ⟨rfl, hb⟩
 refine ⟨_, rfl, hb, ?_⟩
 replace Oe := zQ Oe hb
 replace Op := zQ Op hb
 replace Om := zQ Om hb
 replace Ob := zQ Ob hb
 replace Oh := zQ Oh hb
 replace Ot := zQ Ot hb
 replace O3 := zQ O3 hb
 replace O4 := zQ O4 hb
 replace Be := zX Be hb
 replace Bp := zX Bp hb
 replace Bm := zX Bm hb
 replace Bb := zX Bb hb
 replace Bh := zX Bh hb
 replace Bt := zX Bt hb
 replace hU := zU hU hU.size hb
 clear hb O3 C3 L3 Y3
 clear O4 C4 L4 Y4
 refine zav (i := 82) (m' := 9671406556917033397649407) (v := .bool true) F hQ rfl rfl (anyR_e (anyR_last (i := 83) (m' := 19342813113834066795298815) (v := .bool true) rfl rfl (by kernel_rfl) (by kernel_rfl) (by kernel_rfl) (by kernel_rfl) (by kernel_rfl) (anyE_done (by kernel_rfl) ?_)))
 clear F hQ Be0 Bp0 Bm0 Bb0 Bh0 Bt0
 refine then_normal (wp_ret ?_)
 refine (show bodyPost _ _ _ .ret _ _ from ret_sl (.bool true) rfl (by kernel_rfl) ?_)
 exact ⟨rfl, hU⟩
end
section
open Go.RowKit
set_option maxRecDepth 100000
/-- The bits of a, with those of p laid from lo on: the first k of them, below M. -/
def ptd (a p : List Int) (lo : Int) (k : Nat) (M : Int) (i : Nat) : Int := if lo ≤ i ∧ (i : Int) < lo + k ∧ (i : Int) < M then qt p ((i : Int) - lo).toNat else qt a i
/-- What Put answers where the span is good. -/
def vPut (a b : Vc) (hi lo : Int) : Vc := ⟨ql (cnt a).b.length (ptd (cnt a).b (rsz (cnt b) (hi - lo + 1).toNat) lo (hi - lo + 1).toNat (hi + 1)), (cnt a).s⟩
theorem ptd_start {a p : List Int} {lo M : Int} {k : Nat} (h : M ≤ lo ∨ M ≤ 0) (i : Nat) : ptd a p lo k M i = qt a i := by
  unfold ptd
  rw [if_neg (by omega)]
theorem ptd_step {a p : List Int} {lo : Int} {k j : Nat} (h1 : lo ≤ j) (h2 : (j : Int) < lo + k) (i : Nat) :
    (if i = j then qt p ((j : Int) - lo).toNat else ptd a p lo k j i) = ptd a p lo k ((j : Int) + 1) i := by
  unfold ptd
  by_cases e : i = j
  · subst e
    rw [if_pos rfl, if_pos ⟨h1, h2, by omega⟩]
  · rw [if_neg e]
    by_cases c : lo ≤ (i : Int) ∧ (i : Int) < lo + k ∧ (i : Int) < j
    · rw [if_pos c, if_pos ⟨c.1, c.2.1, by omega⟩]
    · rw [if_neg c, if_neg (by omega)]
/-- Past the end of a, or past the last bit that is laid, nothing changes any more. -/
theorem ptd_end {a p : List Int} {lo M M' : Int} {k : Nat} (h : (a.length : Int) ≤ M ∨ lo + k ≤ M) (h' : (a.length : Int) ≤ M' ∨ lo + k ≤ M') (i : Nat) (hi : i < a.length) : ptd a p lo k M i = ptd a p lo k M' i := by
  unfold ptd
  by_cases c : lo ≤ (i : Int) ∧ (i : Int) < lo + k
  · rw [if_pos ⟨c.1, c.2, by omega⟩, if_pos ⟨c.1, c.2, by omega⟩]
  · rw [if_neg (fun e => c ⟨e.1, e.2.1⟩), if_neg (fun e => c ⟨e.1, e.2.1⟩)]
/-- What a loop leaves that stores into one row g of the call's own. -/
structure PutQ (w W : World) (g n : Nat) (F : Nat → Int) (wr : World) : Prop where
  row : RowQ wr g n F
  bel : Below w.heap.size w wr
  far : ∀ b, b ≠ g → wr.heap[b]? = W.heap[b]?
  size : wr.heap.size = W.heap.size
theorem PutQ.start {w W : World} {g n : Nat} {F : Nat → Int} (h : RowQ W g n F) (hb : Below w.heap.size w W) : PutQ w W g n F W := ⟨h, hb, fun _ _ => rfl, rfl⟩
theorem PutQ.congr {w W wr : World} {g n : Nat} {F G : Nat → Int} (h : PutQ w W g n F wr) (k : ∀ i, i < n → F i = G i) : PutQ w W g n G wr := ⟨h.row.congr k, h.bel, h.far, h.size⟩
theorem PutQ.step {w W wr : World} {g n : Nat} {F : Nat → Int} (h : PutQ w W g n F wr) (hg : w.heap.size ≤ g) (i : Nat) (v : Int) : PutQ w W g n (fun j => if j = i then v else F j) (wr.setCell ⟨g, i, none⟩ (.int .u8 v)) where
  row := h.row.set_ i v
  bel := h.bel.setCell (by exact hg) _
  far := fun b hb => by
    rw [← h.far b hb]
    exact heap_setCell_other wr ⟨g, i, none⟩ b _ hb
  size := by rw [← h.size]; simp
theorem PutQ.cell {w W wr : World} {g n : Nat} {F : Nat → Int} (h : PutQ w W g n F wr) {p : Addr} (hp : p.block ≠ g) : wr.cell? p = W.cell? p := by
  unfold World.cell?
  rw [h.far _ hp]
theorem PutQ.frozen {w W wr : World} {g n : Nat} {F : Nat → Int} (h : PutQ w W g n F wr) {p : Addr} (hp : p.block ≠ g) : wr.frozen? p = W.frozen? p := by
  unfold World.frozen?
  rw [h.far _ hp]
end
section
open Go.RowKit
set_option maxRecDepth 100000
set_option linter.unusedSimpArgs false
set_option linter.unusedVariables false
set_option maxHeartbeats 2000000 in
theorem vPut_any (hi lo : Int) (A B : Option Addr) (a b : List Int) (c d : Nat) (s t : Bool) (w : World) (ha : a.length ≤ 4096) (hb : b.length ≤ 4096) (hca : Hid (a.length ≤ c ∧ c ≤ maxLen)) (hcb : Hid (b.length ≤ d ∧ d ≤ maxLen)) (hA : RQ w A a) (hB : RQ w B b) (ya : By a) (yb : By b) (b1 : -9223372036854775808 ≤ lo) (b2 : hi ≤ 9223372036854775807) (b3 : -9223372036854775808 ≤ hi) (b4 : lo ≤ 9223372036854775807) :
    Calls Tryd.prog 12 #[.agg #[.slice A a.length c, .bool s], .int .i64 hi, .int .i64 lo, .agg #[.slice B b.length d, .bool t]] w (RetE (spn hi lo) (vPut ⟨a, s⟩ ⟨b, t⟩ hi lo) w) := by
  have HA := hide hA
  have HBB := hide hB
  have LA := hide ha
  have LB := hide hb
  have YA := hide ya
  have YB := hide yb
  clear hA hB ha hb ya yb
  have hcall := hide fun w => span_any hi lo w b1 b2 b3 b4
  obtain ⟨r, hr⟩ : ∃ r, r = spn hi lo := ⟨_, rfl⟩
  rw [← hr] at hcall ⊢
  have hfld := fld0
  by_cases h0 : r = 0
  · obtain ⟨g1, g2⟩ := spn_0.1 (hr.symm.trans h0)
    subst h0
    clear hr
    rw [if_pos rfl] at hcall
    obtain ⟨k, hk⟩ : ∃ k : Nat, hi - lo + 1 = k := ⟨(hi - lo + 1).toNat, by omega⟩
    have HV : Hid (vPut ⟨a, s⟩ ⟨b, t⟩ hi lo = ⟨ql (cnt ⟨a, s⟩).b.length (ptd (cnt ⟨a, s⟩).b (rsz (cnt ⟨b, t⟩) k) lo k (hi + 1)), (cnt ⟨a, s⟩).s⟩) := hide (by unfold vPut; rw [hk, Int.toNat_natCast])
    rw [HV.out]
    clear HV
    rw [hk] at hcall
    have hk2 : k ≤ 128 := by omega
    have hk1 : 1 ≤ k := by omega
    clear g1 g2
    go_enter Tryd.func12, Tryd.ntmps12
    go_wp2_with fail
    refine (hcall.out _).mono ?_
    rintro e w' ⟨rfl, rfl⟩
    go_wp2_with fail
    refine (counted_any A a c s w _ LA.out hca HA.out belo).mono ?_
    rintro e w1 ⟨l1, s1, A1, c1, E1, rfl, C1, O1, hb⟩
    replace O1 := hide (O1.out.lower (show w.heap.size + 3 ≤ _ by first | omega | (simp; omega) | (simp; done)))
    have hB1 : Below w.heap.size w w1 := Below.trans (by (repeat (first | with_reducible exact Below.refl _ _ | with_reducible assumption | with_reducible refine Below.setCell ?_ (by first | (simp; done) | omega | (simp; omega)) _ | with_reducible refine Below.alloc ?_ (by first | (simp; done) | omega | (simp; omega)) _ | with_reducible refine below_drewN ?_ _ | with_reducible refine Below.drew ?_))) (hb.mono (by first | omega | (simp; done) | (simp; omega)))
    obtain ⟨kc1, kf1⟩ := bcell hb
    have hz1 := hb.size
    (try simp at hz1)
    have n1_0 : w.heap.size < w1.heap.size := by omega
    have n1_1 : w.heap.size + 1 < w1.heap.size := by omega
    have n1_2 : w.heap.size + 2 < w1.heap.size := by omega
    have r1_0 : w1.cell? ⟨w.heap.size + 2, 0, none⟩ = some (.slice none 0 0) := (kc1 _ _ (by first | assumption | (simp; done) | omega | (simp; omega))).trans (by first | assumption | (simp [go_sem]; done) | (simp; done))
    have g1_0 : w1.frozen? ⟨w.heap.size + 2, 0, none⟩ = false := (kf1 _ _ (by first | assumption | (simp; done) | omega | (simp; omega))).trans (by first | assumption | (simp [go_sem]; done) | (simp; done))
    have r1_1 : w1.cell? ⟨w.heap.size + 2, 1, none⟩ = some (.bool false) := (kc1 _ _ (by first | assumption | (simp; done) | omega | (simp; omega))).trans (by first | assumption | (simp [go_sem]; done) | (simp; done))
    have g1_1 : w1.frozen? ⟨w.heap.size + 2, 1, none⟩ = false := (kf1 _ _ (by first | assumption | (simp; done) | omega | (simp; omega))).trans (by first | assumption | (simp [go_sem]; done) | (simp; done))
    have m1_0 : w1.cell? ⟨w.heap.size + 1, 0, none⟩ = some (.slice B b.length d) := (kc1 _ _ (by first | assumption | (simp; done) | omega | (simp; omega))).trans (by first | assumption | (simp [go_sem]; done))
    have v1_0 : w1.frozen? ⟨w.heap.size + 1, 0, none⟩ = false := (kf1 _ _ (by first | assumption | (simp; done) | omega | (simp; omega))).trans (by first | assumption | (simp [go_sem]; done))
    have m1_1 : w1.cell? ⟨w.heap.size + 1, 1, none⟩ = some (.bool t) := (kc1 _ _ (by first | assumption | (simp; done) | omega | (simp; omega))).trans (by first | assumption | (simp [go_sem]; done))
    have v1_1 : w1.frozen? ⟨w.heap.size + 1, 1, none⟩ = false := (kf1 _ _ (by first | assumption | (simp; done) | omega | (simp; omega))).trans (by first | assumption | (simp [go_sem]; done))
    have m1_2 : w1.cell? ⟨w.heap.size, 0, none⟩ = some (.slice A a.length c) := (kc1 _ _ (by first | assumption | (simp; done) | omega | (simp; omega))).trans (by first | assumption | (simp [go_sem]; done))
    have v1_2 : w1.frozen? ⟨w.heap.size, 0, none⟩ = false := (kf1 _ _ (by first | assumption | (simp; done) | omega | (simp; omega))).trans (by first | assumption | (simp [go_sem]; done))
    have m1_3 : w1.cell? ⟨w.heap.size, 1, none⟩ = some (.bool s) := (kc1 _ _ (by first | assumption | (simp; done) | omega | (simp; omega))).trans (by first | assumption | (simp [go_sem]; done))
    have v1_3 : w1.frozen? ⟨w.heap.size, 1, none⟩ = false := (kf1 _ _ (by first | assumption | (simp; done) | omega | (simp; omega))).trans (by first | assumption | (simp [go_sem]; done))
    clear kc1 kf1
    clear hb
    have G1 : Gd l1 := by have h := cnt_gd (v := ⟨a, s⟩) YA.out; rw [← E1.out] at h; exact h
    have u1 := G1.le
    go_wp2_with fail
    obtain ⟨W1, hW⟩ : ∃ W, W = (w1.setCell ⟨w.heap.size, 0, none⟩ (.slice A1 l1.length c1)).setCell ⟨w.heap.size, 1, none⟩ (.bool s1) := ⟨_, rfl⟩
    rw [← hW]
    have f0 : ∀ p, W1.frozen? p = w1.frozen? p := fun p => by rw [hW]; simp
    have f1 : ∀ b o, b ≠ w.heap.size → W1.cell? ⟨b, o, none⟩ = w1.cell? ⟨b, o, none⟩ := fun b o h => by rw [hW, World.cell?_setCell_far _ _ _ _ (fun e => h e.symm), World.cell?_setCell_far _ _ _ _ (fun e => h e.symm)]
    have a0 : W1.cell? ⟨w.heap.size, 0, none⟩ = some (.slice A1 l1.length c1) := by rw [hW, World.cell?_setCell_other _ _ _ _ (by simp)]; exact World.cell?_setCell_same _ _ _ m1_2
    have a1 : W1.cell? ⟨w.heap.size, 1, none⟩ = some (.bool s1) := by rw [hW]; exact World.cell?_setCell_same _ _ _ ((World.cell?_setCell_other _ _ _ _ (by simp)).trans m1_3)
    have BW : Below w.heap.size w W1 := by rw [hW]; exact belo
    have sW : W1.heap.size = w1.heap.size := by rw [hW]; simp
    replace O1 := hide (show RG w.heap.size (w.heap.size + 3) W1 A1 l1 by rw [hW]; (repeat (first | with_reducible exact O1.out | with_reducible refine RG.setc ?_ (by first | (simp; done) | omega | (simp; omega)) (by first | (simp; done) | omega | (simp; omega)) _ | with_reducible refine RG.allc ?_ _ | with_reducible refine RG.drew ?_ | with_reducible refine RG.drewN ?_ _)))
    have N_0 : w.heap.size + 0 < W1.heap.size := by omega
    have N_1 : w.heap.size + 1 < W1.heap.size := by omega
    have N_2 : w.heap.size + 2 < W1.heap.size := by omega
    have R_0 := (f1 (w.heap.size + 2) 0 (by omega)).trans r1_0
    have S_0 := (f0 ⟨w.heap.size + 2, 0, none⟩).trans g1_0
    have T_0 := (f1 (w.heap.size + 1) 0 (by omega)).trans m1_0
    have U_0 := (f0 ⟨w.heap.size + 1, 0, none⟩).trans v1_0
    have Z_0 := (f0 ⟨w.heap.size, 0, none⟩).trans v1_2
    have R_1 := (f1 (w.heap.size + 2) 1 (by omega)).trans r1_1
    have S_1 := (f0 ⟨w.heap.size + 2, 1, none⟩).trans g1_1
    have T_1 := (f1 (w.heap.size + 1) 1 (by omega)).trans m1_1
    have U_1 := (f0 ⟨w.heap.size + 1, 1, none⟩).trans v1_1
    have Z_1 := (f0 ⟨w.heap.size, 1, none⟩).trans v1_3
    rw [Nat.add_zero] at N_0
    clear hW f0 f1 hB1 n1_0 n1_1 n1_2 r1_0 r1_1 g1_0 g1_1 m1_0 m1_1 m1_2 m1_3 v1_0 v1_1 v1_2 v1_3 hz1 sW
    refine (cloneq_q A1 l1 c1 _ (by omega) (by refine RG.rd (B0 := w.heap.size) (B1 := w.heap.size + 3) ?_; (repeat (first | with_reducible exact O1.out | with_reducible refine RG.setc ?_ (by first | (simp; done) | omega | (simp; omega)) (by first | (simp; done) | omega | (simp; omega)) _ | with_reducible refine RG.allc ?_ _ | with_reducible refine RG.drew ?_ | with_reducible refine RG.drewN ?_ _)))).mono ?_
    rintro e w2 ⟨l2, A2, c2, E2, rfl, C2, O2, hb⟩
    replace O1 := hide ((show RG w.heap.size (w.heap.size + 3) _ A1 l1 by (repeat (first | with_reducible exact O1.out | with_reducible refine RG.setc ?_ (by first | (simp; done) | omega | (simp; omega)) (by first | (simp; done) | omega | (simp; omega)) _ | with_reducible refine RG.allc ?_ _ | with_reducible refine RG.drew ?_ | with_reducible refine RG.drewN ?_ _))).kept hb)
    replace O2 := hide (O2.out.base (show w.heap.size + 3 ≤ _ by first | omega | (simp; omega) | (simp; done)))
    have hB2 : Below w.heap.size w w2 := Below.trans (by (repeat (first | with_reducible exact Below.refl _ _ | with_reducible assumption | with_reducible refine Below.setCell ?_ (by first | (simp; done) | omega | (simp; omega)) _ | with_reducible refine Below.alloc ?_ (by first | (simp; done) | omega | (simp; omega)) _ | with_reducible refine below_drewN ?_ _ | with_reducible refine Below.drew ?_))) (hb.mono (by first | omega | (simp; done) | (simp; omega)))
    obtain ⟨kc2, kf2⟩ := bcell hb
    have hz2 := hb.size
    (try simp at hz2)
    have n2_0 : w.heap.size < w2.heap.size := by omega
    have n2_1 : w.heap.size + 1 < w2.heap.size := by omega
    have n2_2 : w.heap.size + 2 < w2.heap.size := by omega
    have r2_0 : w2.cell? ⟨w.heap.size + 2, 0, none⟩ = some (.slice none 0 0) := (kc2 _ _ (by first | assumption | (simp; done) | omega | (simp; omega))).trans (by first | assumption | (simp [go_sem]; done) | (simp; done))
    have g2_0 : w2.frozen? ⟨w.heap.size + 2, 0, none⟩ = false := (kf2 _ _ (by first | assumption | (simp; done) | omega | (simp; omega))).trans (by first | assumption | (simp [go_sem]; done) | (simp; done))
    have r2_1 : w2.cell? ⟨w.heap.size + 2, 1, none⟩ = some (.bool false) := (kc2 _ _ (by first | assumption | (simp; done) | omega | (simp; omega))).trans (by first | assumption | (simp [go_sem]; done) | (simp; done))
    have g2_1 : w2.frozen? ⟨w.heap.size + 2, 1, none⟩ = false := (kf2 _ _ (by first | assumption | (simp; done) | omega | (simp; omega))).trans (by first | assumption | (simp [go_sem]; done) | (simp; done))
    have m2_0 : w2.cell? ⟨w.heap.size + 1, 0, none⟩ = some (.slice B b.length d) := (kc2 _ _ (by first | assumption | (simp; done) | omega | (simp; omega))).trans (by first | assumption | (simp [go_sem]; done))
    have v2_0 : w2.frozen? ⟨w.heap.size + 1, 0, none⟩ = false := (kf2 _ _ (by first | assumption | (simp; done) | omega | (simp; omega))).trans (by first | assumption | (simp [go_sem]; done))
    have m2_1 : w2.cell? ⟨w.heap.size + 1, 1, none⟩ = some (.bool t) := (kc2 _ _ (by first | assumption | (simp; done) | omega | (simp; omega))).trans (by first | assumption | (simp [go_sem]; done))
    have v2_1 : w2.frozen? ⟨w.heap.size + 1, 1, none⟩ = false := (kf2 _ _ (by first | assumption | (simp; done) | omega | (simp; omega))).trans (by first | assumption | (simp [go_sem]; done))
    have m2_2 : w2.cell? ⟨w.heap.size, 0, none⟩ = some (.slice A1 l1.length c1) := (kc2 _ _ (by first | assumption | (simp; done) | omega | (simp; omega))).trans (by first | assumption | (simp [go_sem]; done))
    have v2_2 : w2.frozen? ⟨w.heap.size, 0, none⟩ = false := (kf2 _ _ (by first | assumption | (simp; done) | omega | (simp; omega))).trans (by first | assumption | (simp [go_sem]; done))
    have m2_3 : w2.cell? ⟨w.heap.size, 1, none⟩ = some (.bool s1) := (kc2 _ _ (by first | assumption | (simp; done) | omega | (simp; omega))).trans (by first | assumption | (simp [go_sem]; done))
    have v2_3 : w2.frozen? ⟨w.heap.size, 1, none⟩ = false := (kf2 _ _ (by first | assumption | (simp; done) | omega | (simp; omega))).trans (by first | assumption | (simp [go_sem]; done))
    clear kc2 kf2
    clear hb
    have p2 : 0 < l2.length := by rw [E2.out]; exact G1.pos
    go_wp2_with fail
    refine (counted_any B b d t w _ LB.out hcb HBB.out belo).mono ?_
    rintro e w3 ⟨l3, s3, A3, c3, E3, rfl, C3, O3, hb⟩
    replace O2 := hide ((show OwQ (w.heap.size + 3) _ A2 l2 by (repeat (first | with_reducible exact O2.out | with_reducible refine OwQ.far ?_ (by first | (simp; done) | omega | (simp; omega)) _ | with_reducible refine OwQ.allc ?_ _ | with_reducible refine OwQ.drew ?_ | with_reducible refine OwQ.drewN ?_ _))).kept hb)
    replace O1 := hide ((show RG w.heap.size (w.heap.size + 3) _ A1 l1 by (repeat (first | with_reducible exact O1.out | with_reducible refine RG.setc ?_ (by first | (simp; done) | omega | (simp; omega)) (by first | (simp; done) | omega | (simp; omega)) _ | with_reducible refine RG.allc ?_ _ | with_reducible refine RG.drew ?_ | with_reducible refine RG.drewN ?_ _))).kept hb)
    replace O3 := hide (O3.out.lower (show w.heap.size + 3 ≤ _ by first | omega | (simp; omega) | (simp; done)))
    have hB3 : Below w.heap.size w w3 := Below.trans (by (repeat (first | with_reducible exact Below.refl _ _ | with_reducible assumption | with_reducible refine Below.setCell ?_ (by first | (simp; done) | omega | (simp; omega)) _ | with_reducible refine Below.alloc ?_ (by first | (simp; done) | omega | (simp; omega)) _ | with_reducible refine below_drewN ?_ _ | with_reducible refine Below.drew ?_))) (hb.mono (by first | omega | (simp; done) | (simp; omega)))
    obtain ⟨kc3, kf3⟩ := bcell hb
    have hz3 := hb.size
    (try simp at hz3)
    have n3_0 : w.heap.size < w3.heap.size := by omega
    have n3_1 : w.heap.size + 1 < w3.heap.size := by omega
    have n3_2 : w.heap.size + 2 < w3.heap.size := by omega
    have r3_0 : w3.cell? ⟨w.heap.size + 2, 0, none⟩ = some (.slice none 0 0) := (kc3 _ _ (by first | assumption | (simp; done) | omega | (simp; omega))).trans (by first | assumption | (simp [go_sem]; done) | (simp; done))
    have g3_0 : w3.frozen? ⟨w.heap.size + 2, 0, none⟩ = false := (kf3 _ _ (by first | assumption | (simp; done) | omega | (simp; omega))).trans (by first | assumption | (simp [go_sem]; done) | (simp; done))
    have r3_1 : w3.cell? ⟨w.heap.size + 2, 1, none⟩ = some (.bool false) := (kc3 _ _ (by first | assumption | (simp; done) | omega | (simp; omega))).trans (by first | assumption | (simp [go_sem]; done) | (simp; done))
    have g3_1 : w3.frozen? ⟨w.heap.size + 2, 1, none⟩ = false := (kf3 _ _ (by first | assumption | (simp; done) | omega | (simp; omega))).trans (by first | assumption | (simp [go_sem]; done) | (simp; done))
    have m3_0 : w3.cell? ⟨w.heap.size + 1, 0, none⟩ = some (.slice B b.length d) := (kc3 _ _ (by first | assumption | (simp; done) | omega | (simp; omega))).trans (by first | assumption | (simp [go_sem]; done))
    have v3_0 : w3.frozen? ⟨w.heap.size + 1, 0, none⟩ = false := (kf3 _ _ (by first | assumption | (simp; done) | omega | (simp; omega))).trans (by first | assumption | (simp [go_sem]; done))
    have m3_1 : w3.cell? ⟨w.heap.size + 1, 1, none⟩ = some (.bool t) := (kc3 _ _ (by first | assumption | (simp; done) | omega | (simp; omega))).trans (by first | assumption | (simp [go_sem]; done))
    have v3_1 : w3.frozen? ⟨w.heap.size + 1, 1, none⟩ = false := (kf3 _ _ (by first | assumption | (simp; done) | omega | (simp; omega))).trans (by first | assumption | (simp [go_sem]; done))
    have m3_2 : w3.cell? ⟨w.heap.size, 0, none⟩ = some (.slice A1 l1.length c1) := (kc3 _ _ (by first | assumption | (simp; done) | omega | (simp; omega))).trans (by first | assumption | (simp [go_sem]; done))
    have v3_2 : w3.frozen? ⟨w.heap.size, 0, none⟩ = false := (kf3 _ _ (by first | assumption | (simp; done) | omega | (simp; omega))).trans (by first | assumption | (simp [go_sem]; done))
    have m3_3 : w3.cell? ⟨w.heap.size, 1, none⟩ = some (.bool s1) := (kc3 _ _ (by first | assumption | (simp; done) | omega | (simp; omega))).trans (by first | assumption | (simp [go_sem]; done))
    have v3_3 : w3.frozen? ⟨w.heap.size, 1, none⟩ = false := (kf3 _ _ (by first | assumption | (simp; done) | omega | (simp; omega))).trans (by first | assumption | (simp [go_sem]; done))
    clear kc3 kf3
    clear hb
    have G3 : Gd l3 := by have h := cnt_gd (v := ⟨b, t⟩) YB.out; rw [← E3.out] at h; exact h
    have u3 := G3.le
    have p3 := G3.pos
    obtain ⟨g2, e2, hg2, hlt2⟩ := O2.out.lt p2
    go_wp2_with fail
    refine (resized_q A3 l3 c3 k s3 _ p3 (by omega) (by omega) (by refine RG.rd (B0 := w.heap.size) (B1 := w.heap.size + 3) ?_; (repeat (first | with_reducible exact O3.out | with_reducible refine RG.setc ?_ (by first | (simp; done) | omega | (simp; omega)) (by first | (simp; done) | omega | (simp; omega)) _ | with_reducible refine RG.allc ?_ _ | with_reducible refine RG.drew ?_ | with_reducible refine RG.drewN ?_ _)))).mono ?_
    rintro e w4 ⟨l4, A4, c4, E4, rfl, C4, O4, hb⟩
    replace O2 := hide ((show OwQ (w.heap.size + 3) _ A2 l2 by (repeat (first | with_reducible exact O2.out | with_reducible refine OwQ.far ?_ (by first | (simp; done) | omega | (simp; omega)) _ | with_reducible refine OwQ.allc ?_ _ | with_reducible refine OwQ.drew ?_ | with_reducible refine OwQ.drewN ?_ _))).kept hb)
    replace O1 := hide ((show RG w.heap.size (w.heap.size + 3) _ A1 l1 by (repeat (first | with_reducible exact O1.out | with_reducible refine RG.setc ?_ (by first | (simp; done) | omega | (simp; omega)) (by first | (simp; done) | omega | (simp; omega)) _ | with_reducible refine RG.allc ?_ _ | with_reducible refine RG.drew ?_ | with_reducible refine RG.drewN ?_ _))).kept hb)
    replace O3 := hide ((show RG w.heap.size (w.heap.size + 3) _ A3 l3 by (repeat (first | with_reducible exact O3.out | with_reducible refine RG.setc ?_ (by first | (simp; done) | omega | (simp; omega)) (by first | (simp; done) | omega | (simp; omega)) _ | with_reducible refine RG.allc ?_ _ | with_reducible refine RG.drew ?_ | with_reducible refine RG.drewN ?_ _))).kept hb)
    have e4 := hide (show l4 = rsz ⟨l3, s3⟩ k from E4.out)
    have q4 : l4.length = k := by rw [e4.out]; exact ql_length _ _
    obtain ⟨g4, e5, hg4, hlt4⟩ := O4.out.lt (by omega)
    have hne : g2 ≠ g4 := by omega
    replace O4 := hide (O4.out.base (show w.heap.size + 3 ≤ _ by first | omega | (simp; omega) | (simp; done)))
    have hB4 : Below w.heap.size w w4 := Below.trans (by (repeat (first | with_reducible exact Below.refl _ _ | with_reducible assumption | with_reducible refine Below.setCell ?_ (by first | (simp; done) | omega | (simp; omega)) _ | with_reducible refine Below.alloc ?_ (by first | (simp; done) | omega | (simp; omega)) _ | with_reducible refine below_drewN ?_ _ | with_reducible refine Below.drew ?_))) (hb.mono (by first | omega | (simp; done) | (simp; omega)))
    obtain ⟨kc4, kf4⟩ := bcell hb
    have hz4 := hb.size
    (try simp at hz4)
    have n4_0 : w.heap.size < w4.heap.size := by omega
    have n4_1 : w.heap.size + 1 < w4.heap.size := by omega
    have n4_2 : w.heap.size + 2 < w4.heap.size := by omega
    have r4_0 : w4.cell? ⟨w.heap.size + 2, 0, none⟩ = some (.slice none 0 0) := (kc4 _ _ (by first | assumption | (simp; done) | omega | (simp; omega))).trans (by first | assumption | (simp [go_sem]; done) | (simp; done))
    have g4_0 : w4.frozen? ⟨w.heap.size + 2, 0, none⟩ = false := (kf4 _ _ (by first | assumption | (simp; done) | omega | (simp; omega))).trans (by first | assumption | (simp [go_sem]; done) | (simp; done))
    have r4_1 : w4.cell? ⟨w.heap.size + 2, 1, none⟩ = some (.bool false) := (kc4 _ _ (by first | assumption | (simp; done) | omega | (simp; omega))).trans (by first | assumption | (simp [go_sem]; done) | (simp; done))
    have g4_1 : w4.frozen? ⟨w.heap.size + 2, 1, none⟩ = false := (kf4 _ _ (by first | assumption | (simp; done) | omega | (simp; omega))).trans (by first | assumption | (simp [go_sem]; done) | (simp; done))
    have m4_0 : w4.cell? ⟨w.heap.size + 1, 0, none⟩ = some (.slice B b.length d) := (kc4 _ _ (by first | assumption | (simp; done) | omega | (simp; omega))).trans (by first | assumption | (simp [go_sem]; done))
    have v4_0 : w4.frozen? ⟨w.heap.size + 1, 0, none⟩ = false := (kf4 _ _ (by first | assumption | (simp; done) | omega | (simp; omega))).trans (by first | assumption | (simp [go_sem]; done))
    have m4_1 : w4.cell? ⟨w.heap.size + 1, 1, none⟩ = some (.bool t) := (kc4 _ _ (by first | assumption | (simp; done) | omega | (simp; omega))).trans (by first | assumption | (simp [go_sem]; done))
    have v4_1 : w4.frozen? ⟨w.heap.size + 1, 1, none⟩ = false := (kf4 _ _ (by first | assumption | (simp; done) | omega | (simp; omega))).trans (by first | assumption | (simp [go_sem]; done))
    have m4_2 : w4.cell? ⟨w.heap.size, 0, none⟩ = some (.slice A1 l1.length c1) := (kc4 _ _ (by first | assumption | (simp; done) | omega | (simp; omega))).trans (by first | assumption | (simp [go_sem]; done))
    have v4_2 : w4.frozen? ⟨w.heap.size, 0, none⟩ = false := (kf4 _ _ (by first | assumption | (simp; done) | omega | (simp; omega))).trans (by first | assumption | (simp [go_sem]; done))
    have m4_3 : w4.cell? ⟨w.heap.size, 1, none⟩ = some (.bool s1) := (kc4 _ _ (by first | assumption | (simp; done) | omega | (simp; omega))).trans (by first | assumption | (simp [go_sem]; done))
    have v4_3 : w4.frozen? ⟨w.heap.size, 1, none⟩ = false := (kf4 _ _ (by first | assumption | (simp; done) | omega | (simp; omega))).trans (by first | assumption | (simp [go_sem]; done))
    clear kc4 kf4
    clear hb
    obtain ⟨g2a, ea, hB2a, row2⟩ := O2.out p2
    obtain rfl : g2 = g2a := by rw [e2] at ea; injection ea with ea; injection ea
    obtain ⟨g4a, eb, hB4a, row4⟩ := O4.out (by omega)
    obtain rfl : g4 = g4a := by rw [e5] at eb; injection eb with eb; injection eb
    clear O1 O2 O3 O4 ea eb
    subst e2
    subst e5
    have el := E2.out.symm
    subst el
    have hcell : ∀ o : Nat, o < k → w4.cell? ⟨g4, o, none⟩ = some (.int .u8 (qt l4 o)) := fun o ho => row4.cell (by omega)
    have HR2 := hide row2
    have HC4 := hide hcell
    have HB4 := hide hB4
    clear row2 row4 hcell hB4 hB2 hB3 BW
    rcases (show 0 ≤ lo ∨ lo < 0 by omega) with hl | hl
    · obtain ⟨q, rfl⟩ : ∃ q : Nat, lo = q := ⟨lo.toNat, by omega⟩
      go_wp2_with fail
      go_loopw [14] (fun i wr => ∃ j : Nat, (q : Int) ≤ j ∧ i = .int .i64 j ∧ PutQ w w4 g2 l1.length (ptd l1 l4 q k j) wr) (fun i _ => l1.length - (intOf i).toNat)
      case atStart => exact ⟨q, by omega, rfl, (PutQ.start HR2.out HB4.out).congr fun i _ => (ptd_start (by omega) i).symm⟩
      case round =>
        obtain ⟨j, hj, rfl, hR⟩ := hrel
        have hRH := hide hR
        by_cases hlt : (j : Int) ≤ hi ∧ j < l1.length
        · obtain ⟨h5, h6⟩ := hlt
          obtain ⟨z, hz⟩ : ∃ z : Nat, (j : Int) - q = z := ⟨((j : Int) - q).toNat, by omega⟩
          have hzk : z < k := by omega
          have hzl : (z : Int) < (l4.length : Int) := by omega
          have hzn : z < l4.length := by omega
          have hz0 : (0 : Int) ≤ (j : Int) - q := by omega
          have hz1 : (j : Int) - q < (l4.length : Int) := by omega
          have hcp : wr.cell? ⟨g4, z, none⟩ = some (.int .u8 (qt l4 z)) := (hR.cell (p := ⟨g4, z, none⟩) (fun e => hne e.symm)).trans (HC4.out z hzk)
          have hcg : wr.cell? ⟨g2, j, none⟩ = some (.int .u8 (ptd l1 l4 q k j j)) := hR.row.cell h6
          have hfr : wr.frozen? ⟨g2, j, none⟩ = false := hR.row.free j
          clear hR
          rcases Classical.em ((l1.length : Int) - 1 < hi) with hmn | hmn
          all_goals
            go_wp2
            go_roundw
            case rel => exact ⟨j + 1, by omega, by go_num, (hRH.out.step (by omega) j _).congr fun i _ => by have e : z = ((j : Int) - q).toNat := (by omega); rw [e]; exact ptd_step (by omega) (by omega) i⟩
            case measure => simp [intOf]; omega
        · have hm1 : wr.cell? ⟨w.heap.size, 1, none⟩ = some (.bool s1) := (hR.cell (p := ⟨w.heap.size, 1, none⟩) (by show w.heap.size ≠ g2; omega)).trans m4_3
          have hr0 : wr.cell? ⟨w.heap.size + 2, 0, none⟩ = some (.slice none 0 0) := (hR.cell (p := ⟨w.heap.size + 2, 0, none⟩) (by show w.heap.size + 2 ≠ g2; omega)).trans r4_0
          have hr1 : wr.cell? ⟨w.heap.size + 2, 1, none⟩ = some (.bool false) := (hR.cell (p := ⟨w.heap.size + 2, 1, none⟩) (by show w.heap.size + 2 ≠ g2; omega)).trans r4_1
          have hs0 : wr.frozen? ⟨w.heap.size + 2, 0, none⟩ = false := (hR.frozen (p := ⟨w.heap.size + 2, 0, none⟩) (by show w.heap.size + 2 ≠ g2; omega)).trans g4_0
          have hs1 : wr.frozen? ⟨w.heap.size + 2, 1, none⟩ = false := (hR.frozen (p := ⟨w.heap.size + 2, 1, none⟩) (by show w.heap.size + 2 ≠ g2; omega)).trans g4_1
          have hBr : Below w.heap.size w wr := hR.bel
          have hsz : wr.heap.size = w4.heap.size := hR.size
          have OR : OwQ (w.heap.size + 3) wr (some ⟨g2, 0, none⟩) (ql l1.length (ptd l1 l4 q k (hi + 1))) := OwQ.of_row (by rw [ql_length]; exact hR.row.congr fun i hi2 => by rw [qt_ql_lt hi2]; exact ptd_end (by omega) (by omega) i hi2) (by omega)
          replace OR := hide OR
          clear hR
          have h5 : ¬ ((j : Int) ≤ hi ∧ (j : Int) ≤ (l1.length : Int) - 1) := by omega
          rcases Classical.em ((l1.length : Int) - 1 < hi) with hmn | hmn
          all_goals
            have h6 : ¬ ((j : Int) ≤ (if (l1.length : Int) - 1 < hi then (l1.length : Int) - 1 else hi)) := by split <;> omega
            first | rw [if_pos hmn] at h6 | rw [if_neg hmn] at h6
            clear hlt h5
            go_wp2
            refine bodyPost_ret (v := .tuple #[.agg #[.slice (some ⟨g2, 0, none⟩) l1.length c2, .bool s1], .int .i64 0]) (by simp [results, Tryd.results12, go_sem, *]) rfl ?_
            exact ⟨ql l1.length (ptd l1 l4 q k (hi + 1)), s1, some ⟨g2, 0, none⟩, c2, hide (by rw [if_pos rfl, ← E1.out, ← E3.out, ← e4.out]), by rw [ql_length], by rw [ql_length]; exact C2, hide (OwQ.base (B := w.heap.size + 3) (by (repeat (first | with_reducible exact OR.out | with_reducible refine OwQ.far ?_ (by first | (simp; done) | omega | (simp; omega)) _ | with_reducible refine OwQ.allc ?_ _ | with_reducible refine OwQ.drew ?_ | with_reducible refine OwQ.drewN ?_ _))) (by omega)), belo⟩
    · have hl2 := hl
      go_wp2_with fail
      go_loopw [14] (fun i wr => ∃ j : Nat, lo ≤ j ∧ i = .int .i64 j ∧ PutQ w w4 g2 l1.length (ptd l1 l4 lo k j) wr) (fun i _ => l1.length - (intOf i).toNat)
      case atStart => exact ⟨0, by omega, rfl, (PutQ.start HR2.out HB4.out).congr fun i _ => (ptd_start (by omega) i).symm⟩
      case round =>
        obtain ⟨j, hj, rfl, hR⟩ := hrel
        have hRH := hide hR
        by_cases hlt : (j : Int) ≤ hi ∧ j < l1.length
        · obtain ⟨h5, h6⟩ := hlt
          obtain ⟨z, hz⟩ : ∃ z : Nat, (j : Int) - lo = z := ⟨((j : Int) - lo).toNat, by omega⟩
          have hzk : z < k := by omega
          have hzl : (z : Int) < (l4.length : Int) := by omega
          have hzn : z < l4.length := by omega
          have hz0 : (0 : Int) ≤ (j : Int) - lo := by omega
          have hz1 : (j : Int) - lo < (l4.length : Int) := by omega
          have hcp : wr.cell? ⟨g4, z, none⟩ = some (.int .u8 (qt l4 z)) := (hR.cell (p := ⟨g4, z, none⟩) (fun e => hne e.symm)).trans (HC4.out z hzk)
          have hcg : wr.cell? ⟨g2, j, none⟩ = some (.int .u8 (ptd l1 l4 lo k j j)) := hR.row.cell h6
          have hfr : wr.frozen? ⟨g2, j, none⟩ = false := hR.row.free j
          clear hR
          rcases Classical.em ((l1.length : Int) - 1 < hi) with hmn | hmn
          all_goals
            go_wp2
            go_roundw
            case rel => exact ⟨j + 1, by omega, by go_num, (hRH.out.step (by omega) j _).congr fun i _ => by have e : z = ((j : Int) - lo).toNat := (by omega); rw [e]; exact ptd_step (by omega) (by omega) i⟩
            case measure => simp [intOf]; omega
        · have hm1 : wr.cell? ⟨w.heap.size, 1, none⟩ = some (.bool s1) := (hR.cell (p := ⟨w.heap.size, 1, none⟩) (by show w.heap.size ≠ g2; omega)).trans m4_3
          have hr0 : wr.cell? ⟨w.heap.size + 2, 0, none⟩ = some (.slice none 0 0) := (hR.cell (p := ⟨w.heap.size + 2, 0, none⟩) (by show w.heap.size + 2 ≠ g2; omega)).trans r4_0
          have hr1 : wr.cell? ⟨w.heap.size + 2, 1, none⟩ = some (.bool false) := (hR.cell (p := ⟨w.heap.size + 2, 1, none⟩) (by show w.heap.size + 2 ≠ g2; omega)).trans r4_1
          have hs0 : wr.frozen? ⟨w.heap.size + 2, 0, none⟩ = false := (hR.frozen (p := ⟨w.heap.size + 2, 0, none⟩) (by show w.heap.size + 2 ≠ g2; omega)).trans g4_0
          have hs1 : wr.frozen? ⟨w.heap.size + 2, 1, none⟩ = false := (hR.frozen (p := ⟨w.heap.size + 2, 1, none⟩) (by show w.heap.size + 2 ≠ g2; omega)).trans g4_1
          have hBr : Below w.heap.size w wr := hR.bel
          have hsz : wr.heap.size = w4.heap.size := hR.size
          have OR : OwQ (w.heap.size + 3) wr (some ⟨g2, 0, none⟩) (ql l1.length (ptd l1 l4 lo k (hi + 1))) := OwQ.of_row (by rw [ql_length]; exact hR.row.congr fun i hi2 => by rw [qt_ql_lt hi2]; exact ptd_end (by omega) (by omega) i hi2) (by omega)
          replace OR := hide OR
          clear hR
          have h5 : ¬ ((j : Int) ≤ hi ∧ (j : Int) ≤ (l1.length : Int) - 1) := by omega
          rcases Classical.em ((l1.length : Int) - 1 < hi) with hmn | hmn
          all_goals
            have h6 : ¬ ((j : Int) ≤ (if (l1.length : Int) - 1 < hi then (l1.length : Int) - 1 else hi)) := by split <;> omega
            first | rw [if_pos hmn] at h6 | rw [if_neg hmn] at h6
            clear hlt h5
            go_wp2
            refine bodyPost_ret (v := .tuple #[.agg #[.slice (some ⟨g2, 0, none⟩) l1.length c2, .bool s1], .int .i64 0]) (by simp [results, Tryd.results12, go_sem, *]) rfl ?_
            exact ⟨ql l1.length (ptd l1 l4 lo k (hi + 1)), s1, some ⟨g2, 0, none⟩, c2, hide (by rw [if_pos rfl, ← E1.out, ← E3.out, ← e4.out]), by rw [ql_length], by rw [ql_length]; exact C2, hide (OwQ.base (B := w.heap.size + 3) (by (repeat (first | with_reducible exact OR.out | with_reducible refine OwQ.far ?_ (by first | (simp; done) | omega | (simp; omega)) _ | with_reducible refine OwQ.allc ?_ _ | with_reducible refine OwQ.drew ?_ | with_reducible refine OwQ.drewN ?_ _))) (by omega)), belo⟩
  · rw [if_neg h0] at hcall
    go_enter Tryd.func12, Tryd.ntmps12
    go_wp2_with fail
    refine (hcall.out _).mono ?_
    rintro e w' ⟨rfl, rfl⟩
    go_wp2
    refine bodyPost_ret (v := .tuple #[.agg #[.slice none 0 0, .bool false], .int .i64 r]) (by simp [results, Tryd.results12, go_sem, *]) rfl ?_
    exact ⟨[], false, none, 0, hide (by rw [if_neg h0]; exact ⟨rfl, rfl⟩), rfl, hide ⟨Nat.le_refl _, by simp [maxLen]⟩, hide (fun h => absurd h (by simp)), belo⟩
end
section
set_option maxRecDepth 100000
theorem vPut_back {v : Vc} {hi lo : Int} (hv : Gd v.b) (h0 : 0 ≤ lo) (h1 : lo ≤ hi) (h2 : hi < v.b.length) : vPut v ⟨wdw v.b lo (hi - lo + 1).toNat 2, false⟩ hi lo = v := by
  have hle := hv.le
  have hk0 : 0 < (hi - lo + 1).toNat := by omega
  have hk1 : (hi - lo + 1).toNat ≤ 128 := by omega
  obtain ⟨k, hk⟩ : ∃ k, k = (hi - lo + 1).toNat := ⟨_, rfl⟩
  have hg : Gd (wdw v.b lo k 2) := gd_wdw hv (by omega) (by omega) (by decide)
  unfold vPut
  rw [← hk, cnt_of_gd (v := v) hv, cnt_of_gd (v := ⟨wdw v.b lo k 2, false⟩) hg]
  have hw : (wdw v.b lo k 2).length = k := ql_length _ _
  have hr : rsz ⟨wdw v.b lo k 2, false⟩ k = wdw v.b lo k 2 := (eq_ql hw fun i hi' => by rw [if_pos (show i < (wdw v.b lo k 2).length by omega)]).symm
  rw [hr]
  have e : ql v.b.length (ptd v.b (wdw v.b lo k 2) lo k (hi + 1)) = v.b := (eq_ql rfl fun i hi' => by
    unfold ptd
    split
    · rename_i h
      unfold wdw
      rw [qt_ql_lt (by omega), if_pos (by omega)]
      congr 1; omega
    · rfl).symm
  rw [e]
end
section
open Go Go.RowKit
set_option maxRecDepth 100000
set_option linter.unusedSimpArgs false
set_option linter.unusedVariables false
section
variable {P : Program} {ρ : Operand → Value} {o : Oper} {x y : Operand} {w : World} {t p : TypeId} {a b c : Int}
theorem wrap_id {c : Int} (h1 : -9223372036854775808 ≤ c) (h2 : c ≤ 9223372036854775807) : IntKind.wrap .i64 c = c := by
  simp only [IntKind.wrap, IntKind.bits, IntKind.signed]
  simp
  omega
theorem run_add (ho : o.op = .binOp .add t x y p) (hx : ρ x = .int .i64 a) (hy : ρ y = .int .i64 b) (hc : a + b = c) (h1 : -9223372036854775808 ≤ c) (h2 : c ≤ 9223372036854775807) : (execOp ρ o).run P w = .ok (.value (.int .i64 c)) w := by
  unfold execOp
  rw [ho]
  simp only [hx, hy]
  have e : (Value.int .i64 (IntKind.wrap .i64 (a + b))) = .int .i64 c := by rw [hc, wrap_id h1 h2]
  rw [← e]
  rfl
theorem run_sub (ho : o.op = .binOp .sub t x y p) (hx : ρ x = .int .i64 a) (hy : ρ y = .int .i64 b) (hc : a - b = c) (h1 : -9223372036854775808 ≤ c) (h2 : c ≤ 9223372036854775807) : (execOp ρ o).run P w = .ok (.value (.int .i64 c)) w := by
  unfold execOp
  rw [ho]
  simp only [hx, hy]
  have e : (Value.int .i64 (IntKind.wrap .i64 (a - b))) = .int .i64 c := by rw [hc, wrap_id h1 h2]
  rw [← e]
  rfl
theorem run_rem (ho : o.op = .binOp .rem t x y p) (hx : ρ x = .int .i64 a) (hy : ρ y = .int .i64 b) (hb : b ≠ 0) (hc : a.tmod b = c) : (execOp ρ o).run P w = .ok (.value (.int .i64 c)) w := by
  unfold execOp
  rw [ho]
  simp only [hx, hy]
  simp [go_sem, eqGuard, binOp, Op.intDiv, hb, hc]
theorem run_leq (ho : o.op = .binOp .leq t x y p) (hx : ρ x = .int .i64 a) (hy : ρ y = .int .i64 b) {q : Bool} (hc : decide (a ≤ b) = q) : (execOp ρ o).run P w = .ok (.value (.bool q)) w := by
  subst hc
  unfold execOp
  rw [ho]
  simp only [hx, hy]
  rfl
theorem run_eql (ho : o.op = .binOp .eql t x y p) (hx : ρ x = .int .i64 a) (hy : ρ y = .int .i64 b) {q : Bool} (hc : (a == b) = q) : (execOp ρ o).run P w = .ok (.value (.bool q)) w := by
  subst hc
  unfold execOp
  rw [ho]
  simp only [hx, hy]
  rfl
theorem run_beql (ho : o.op = .binOp .eql 4 x y p) {a b : Bool} (hx : ρ x = .bool a) (hy : ρ y = .bool b) {q : Bool} (hc : (a == b) = q) : (execOp ρ o).run Tryd.prog w = .ok (.value (.bool q)) w := by
  subst hc
  unfold execOp
  rw [ho]
  simp only [hx, hy]
  cases a <;> cases b <;> kernel_rfl
theorem run_max {ts : Array TypeId} (ho : o.op = .call { callee := .builtin .max, args := #[x, y], argTypes := ts }) (hx : ρ x = .int .i64 a) (hy : ρ y = .int .i64 b) (hc : (if b > a then b else a) = c) : (execOp ρ o).run P w = .ok (.value (.int .i64 c)) w := by
  subst hc
  unfold execOp
  rw [ho]
  simp [go_sem, hx, hy]
  try rfl
theorem run_min {ts : Array TypeId} (ho : o.op = .call { callee := .builtin .min, args := #[x, y], argTypes := ts }) (hx : ρ x = .int .i64 a) (hy : ρ y = .int .i64 b) (hc : (if b < a then b else a) = c) : (execOp ρ o).run P w = .ok (.value (.int .i64 c)) w := by
  subst hc
  unfold execOp
  rw [ho]
  simp [go_sem, hx, hy]
  try rfl
theorem run_conv8 (ho : o.op = .convert 5 3 x) (hx : ρ x = .int .u8 a) (h1 : 0 ≤ a) (h2 : a ≤ 255) : (execOp ρ o).run Tryd.prog w = .ok (.value (.int .i64 a)) w := by
  unfold execOp
  rw [ho]
  simp only [hx]
  have e : (Value.int .i64 (IntKind.wrap .i64 a)) = .int .i64 a := by rw [wrap_id (by omega) (by omega)]
  rw [← e]
  simp [go_sem]
  try rfl
end
theorem rem_bd {a n : Int} (h : 0 ≤ a) (hn : 0 < n) : 0 ≤ a.tmod n ∧ a.tmod n < n := ⟨Int.tmod_nonneg _ h, Int.tmod_lt_of_pos _ hn⟩
end
end Go.Proofs.YtpiakebbndoecaaDoor
