/-
  Texts of MC joined (VecAW, VecSI, VecLI, VecLR, VecSP, VecLT, VecFT, VecSQ, VecBI, VecLV, VecBL, VecPM, VecCC, VecLX, VecCN).
-/
import Derived.Test.YtbcpeagannjgpaaGreatDoorMC4
set_option linter.unusedVariables false
set_option linter.unusedSimpArgs false
set_option linter.unusedSectionVars false
namespace Go.Proofs.YtbcpeagannjgpaaGreatDoor
section
open Go.RowKit
set_option maxRecDepth 100000
set_option linter.unusedSimpArgs false
set_option linter.unusedVariables false
set_option maxHeartbeats 4000000 in
theorem vawake_any (w : World) (ht : Tabs w) : Calls Tryz.prog 8 #[] w (Mk (.bool true) w) := by
 have HT := hide ht
 clear ht
 have hU : Below w.heap.size w w := Below.refl _ _
 refine calls_sl (l := []) 196 Tryz.func8 rfl (by kernel_rfl) (by simp) (zs (z1 [(0, z_f)] (sx_n (z1 [(1, .func (.func 11) #[] #[])] (sx_n ?_)))))
 refine zc rfl ((vfrom_q 5 8 true _ (by decide) (by decide) (by decide) (by decide)).mono ?_)
 rintro e w1 ⟨le, se, Ae, ce, Ee, rfl, Ce, Oe, hb⟩
 refine ⟨_, rfl, ?_⟩
 replace Ee := hide (ret_e0 Ee.out)
 replace Oe := hide Oe.out.rd
 replace hU := zU hU hU.size hb
 clear hb
 have Ge := zGd Ee (gd_of (by decide +kernel))
 have Le := zLe Ge
 have Ye := hide Ge.by_
 clear Ge
 refine z3 [(23, .int .i64 0), (22, .agg #[.slice Ae le.length ce, .bool se]), (20, .tuple #[.agg #[.slice Ae le.length ce, .bool se], .int .i64 0])] (zm (A := Ae) (m := le.length) (c := ce) (s := se) rfl rfl rfl ?_)
 intro w2 Ne Be hNe hb
 replace Be := hide Be
 replace Oe := zQ Oe hb
 have hze : w.heap.size ≤ Ne := Nat.le_trans hU.size hNe
 clear hNe
 replace hU := zU hU hU.size hb
 clear hb
 refine z1 [(3, .int .i64 0)] (sx_n ?_)
 refine zc rfl ((vfrom_q 5 8 false _ (by decide) (by decide) (by decide) (by decide)).mono ?_)
 rintro e w3 ⟨lp, sp, Ap, cp, Ep, rfl, Cp, Op, hb⟩
 refine ⟨_, rfl, ?_⟩
 replace Oe := zQ Oe hb
 replace Be := zX Be hb
 replace Ep := hide (ret_e0 Ep.out)
 replace Op := hide Op.out.rd
 replace hU := zU hU hU.size hb
 clear hb
 have Gp := zGd Ep (gd_of (by decide +kernel))
 have Lp := zLe Gp
 have Yp := hide Gp.by_
 clear Gp
 refine z3 [(27, .int .i64 0), (26, .agg #[.slice Ap lp.length cp, .bool sp]), (24, .tuple #[.agg #[.slice Ap lp.length cp, .bool sp], .int .i64 0])] (zm (A := Ap) (m := lp.length) (c := cp) (s := sp) rfl rfl rfl ?_)
 intro w4 Np Bp hNp hb
 replace Bp := hide Bp
 replace Oe := zQ Oe hb
 replace Op := zQ Op hb
 replace Be := zX Be hb
 have hzp : w.heap.size ≤ Np := Nat.le_trans hU.size hNp
 clear hNp
 replace hU := zU hU hU.size hb
 clear hb
 refine z1 [(5, .int .i64 0)] (sx_n ?_)
 refine zc rfl ((vfrom_q (-1) 32 true _ (by decide) (by decide) (by decide) (by decide)).mono ?_)
 rintro e w5 ⟨lm, sm, Am, cm, Em, rfl, Cm, Om, hb⟩
 refine ⟨_, rfl, ?_⟩
 replace Oe := zQ Oe hb
 replace Op := zQ Op hb
 replace Be := zX Be hb
 replace Bp := zX Bp hb
 replace Em := hide (ret_e0 Em.out)
 replace Om := hide Om.out.rd
 replace hU := zU hU hU.size hb
 clear hb
 have Gm := zGd Em (gd_of (by decide +kernel))
 have Lm := zLe Gm
 have Ym := hide Gm.by_
 clear Gm
 refine z3 [(31, .int .i64 0), (30, .agg #[.slice Am lm.length cm, .bool sm]), (28, .tuple #[.agg #[.slice Am lm.length cm, .bool sm], .int .i64 0])] (zm (A := Am) (m := lm.length) (c := cm) (s := sm) rfl rfl rfl ?_)
 intro w6 Nm Bm hNm hb
 replace Bm := hide Bm
 replace Oe := zQ Oe hb
 replace Op := zQ Op hb
 replace Om := zQ Om hb
 replace Be := zX Be hb
 replace Bp := zX Bp hb
 have hzm : w.heap.size ≤ Nm := Nat.le_trans hU.size hNm
 clear hNm
 replace hU := zU hU hU.size hb
 clear hb
 refine z1 [(7, .int .i64 0)] (sx_n ?_)
 refine zc rfl ((vfrom_q 2 32 true _ (by decide) (by decide) (by decide) (by decide)).mono ?_)
 rintro e w7 ⟨lb, sb, Ab, cb, Eb, rfl, Cb, Ob, hb⟩
 refine ⟨_, rfl, ?_⟩
 replace Oe := zQ Oe hb
 replace Op := zQ Op hb
 replace Om := zQ Om hb
 replace Be := zX Be hb
 replace Bp := zX Bp hb
 replace Bm := zX Bm hb
 replace Eb := hide (ret_e0 Eb.out)
 replace Ob := hide Ob.out.rd
 replace hU := zU hU hU.size hb
 clear hb
 have Gb := zGd Eb (gd_of (by decide +kernel))
 have Lb := zLe Gb
 have Yb := hide Gb.by_
 clear Gb
 refine z3 [(35, .int .i64 0), (34, .agg #[.slice Ab lb.length cb, .bool sb]), (32, .tuple #[.agg #[.slice Ab lb.length cb, .bool sb], .int .i64 0])] (zm (A := Ab) (m := lb.length) (c := cb) (s := sb) rfl rfl rfl ?_)
 intro w8 Nb Bb hNb hb
 replace Bb := hide Bb
 replace Oe := zQ Oe hb
 replace Op := zQ Op hb
 replace Om := zQ Om hb
 replace Ob := zQ Ob hb
 replace Be := zX Be hb
 replace Bp := zX Bp hb
 replace Bm := zX Bm hb
 have hzb : w.heap.size ≤ Nb := Nat.le_trans hU.size hNb
 clear hNb
 replace hU := zU hU hU.size hb
 clear hb
 refine z1 [(9, .int .i64 0)] (sx_n ?_)
 refine zc rfl ((vof_any ⟨#[49, 48]⟩ _ (by decide)).mono ?_)
 rintro e w9 ⟨l1, s1, A1, c1, E1, rfl, C1, O1, hb⟩
 refine ⟨_, rfl, ?_⟩
 replace Oe := zQ Oe hb
 replace Op := zQ Op hb
 replace Om := zQ Om hb
 replace Ob := zQ Ob hb
 replace Be := zX Be hb
 replace Bp := zX Bp hb
 replace Bm := zX Bm hb
 replace Bb := zX Bb hb
 replace O1 := hide O1.out.rd
 replace hU := zU hU hU.size hb
 clear hb
 have G1 := zGd E1 (gd_of (by decide +kernel))
 have L1 := zLe G1
 have Y1 := hide G1.by_
 clear G1
 refine zc rfl ((vof_any ⟨#[48, 122, 49]⟩ _ (by decide)).mono ?_)
 rintro e w10 ⟨l2, s2, A2, c2, E2, rfl, C2, O2, hb⟩
 refine ⟨_, rfl, ?_⟩
 replace Oe := zQ Oe hb
 replace Op := zQ Op hb
 replace Om := zQ Om hb
 replace Ob := zQ Ob hb
 replace O1 := zQ O1 hb
 replace Be := zX Be hb
 replace Bp := zX Bp hb
 replace Bm := zX Bm hb
 replace Bb := zX Bb hb
 replace O2 := hide O2.out.rd
 replace hU := zU hU hU.size hb
 clear hb
 have G2 := zGd E2 (gd_of (by decide +kernel))
 have L2 := zLe G2
 have Y2 := hide G2.by_
 clear G2
 refine wpl_bs2 rfl (by kernel_rfl) rfl (A0 := A1) (l0 := l1) (c0 := c1) (s0 := s1) (A1 := A2) (l1 := l2) (c1 := c2) (s1 := s2) (by kernel_rfl) (by kernel_rfl) O1.out Y1.out L1.out C1 O2.out Y2.out L2.out C2 ?_
 intro w11 NV11 RV11 hlV11 hNV11 hb
 replace RV11 := hide RV11
 replace Oe := zQ Oe hb
 replace Op := zQ Op hb
 replace Om := zQ Om hb
 replace Ob := zQ Ob hb
 replace O1 := zQ O1 hb
 replace O2 := zQ O2 hb
 replace Be := zX Be hb
 replace Bp := zX Bp hb
 replace Bm := zX Bm hb
 replace Bb := zX Bb hb
 replace hU := zU hU hU.size hb
 clear hb hNV11
 refine zc rfl ((vConcat_e0 NV11 2 [(A1, l1, c1, s1), (A2, l2, c2, s2)] _ hlV11 (by simp) (by simp) RV11.out (by show cte [⟨l1, s1⟩, ⟨l2, s2⟩] = 0; rw [E1.out, E2.out]; decide +kernel)).mono ?_)
 rintro e w12 ⟨lh, sh, Ah, ch, Eh, rfl, Ch, Oh, hb⟩
 refine ⟨_, rfl, ?_⟩
 replace Oe := zQ Oe hb
 replace Op := zQ Op hb
 replace Om := zQ Om hb
 replace Ob := zQ Ob hb
 replace O1 := zQ O1 hb
 replace O2 := zQ O2 hb
 replace Be := zX Be hb
 replace Bp := zX Bp hb
 replace Bm := zX Bm hb
 replace Bb := zX Bb hb
 replace Eh := hide (ret_e0 Eh.out)
 replace Oh := hide Oh.out.rd
 replace hU := zU hU hU.size hb
 clear hb
 have Gh := zGd Eh ((by show Gd (cats [⟨l1, s1⟩, ⟨l2, s2⟩]); rw [E1.out, E2.out]; exact gd_of (by decide +kernel)))
 have Lh := zLe Gh
 have Yh := hide Gh.by_
 clear Gh
 replace Eh := hide (show (⟨lh, sh⟩ : Vc) = ⟨cats [⟨ofB ⟨#[49, 48]⟩, false⟩, ⟨ofB ⟨#[48, 122, 49]⟩, false⟩], false⟩ from Eh.out.trans (by show (⟨cats [⟨l1, s1⟩, ⟨l2, s2⟩], false⟩ : Vc) = _; rw [E1.out, E2.out]))
 clear RV11 O1 C1 L1 Y1
 clear O2 C2 L2 Y2
 refine z3 [(42, .int .i64 0), (41, .agg #[.slice Ah lh.length ch, .bool sh]), (36, .tuple #[.agg #[.slice Ah lh.length ch, .bool sh], .int .i64 0])] (zm (A := Ah) (m := lh.length) (c := ch) (s := sh) rfl rfl rfl ?_)
 intro w13 Nh Bh hNh hb
 replace Bh := hide Bh
 replace Oe := zQ Oe hb
 replace Op := zQ Op hb
 replace Om := zQ Om hb
 replace Ob := zQ Ob hb
 replace Oh := zQ Oh hb
 replace Be := zX Be hb
 replace Bp := zX Bp hb
 replace Bm := zX Bm hb
 replace Bb := zX Bb hb
 have hzh : w.heap.size ≤ Nh := Nat.le_trans hU.size hNh
 clear hNh
 replace hU := zU hU hU.size hb
 clear hb
 refine z1 [(11, .int .i64 0)] (sx_n ?_)
 refine zc rfl ((vof_any ⟨#[49, 48, 49, 49]⟩ _ (by decide)).mono ?_)
 rintro e w14 ⟨l1, s1, A1, c1, E1, rfl, C1, O1, hb⟩
 refine ⟨_, rfl, ?_⟩
 replace Oe := zQ Oe hb
 replace Op := zQ Op hb
 replace Om := zQ Om hb
 replace Ob := zQ Ob hb
 replace Oh := zQ Oh hb
 replace Be := zX Be hb
 replace Bp := zX Bp hb
 replace Bm := zX Bm hb
 replace Bb := zX Bb hb
 replace Bh := zX Bh hb
 replace O1 := hide O1.out.rd
 replace hU := zU hU hU.size hb
 clear hb
 have G1 := zGd E1 (gd_of (by decide +kernel))
 have L1 := zLe G1
 have Y1 := hide G1.by_
 clear G1
 refine zc rfl ((vSlice_e0 4 2 A1 l1 c1 s1 _ L1.out C1 O1.out Y1.out (by decide) (by decide) (by decide) (by decide) (by decide)).mono ?_)
 rintro e w15 ⟨lt, st, At, ct, Et, rfl, Ct, Ot, hb⟩
 refine ⟨_, rfl, ?_⟩
 replace Oe := zQ Oe hb
 replace Op := zQ Op hb
 replace Om := zQ Om hb
 replace Ob := zQ Ob hb
 replace Oh := zQ Oh hb
 replace O1 := zQ O1 hb
 replace Be := zX Be hb
 replace Bp := zX Bp hb
 replace Bm := zX Bm hb
 replace Bb := zX Bb hb
 replace Bh := zX Bh hb
 replace Et := hide (ret_e0 Et.out)
 replace Ot := hide Ot.out.rd
 replace hU := zU hU hU.size hb
 clear hb
 have Gt := zGd Et ((by rw [E1.out]; exact gd_of (by decide +kernel)))
 have Lt := zLe Gt
 have Yt := hide Gt.by_
 clear Gt
 replace Et := hide (show (⟨lt, st⟩ : Vc) = ⟨wdw (cnt ⟨ofB ⟨#[49, 48, 49, 49]⟩, false⟩).b 2 (4 - 2 + 1 : Int).toNat 2, false⟩ from Et.out.trans (by rw [E1.out]))
 clear O1 C1 L1 Y1
 refine z3 [(47, .int .i64 0), (46, .agg #[.slice At lt.length ct, .bool st]), (43, .tuple #[.agg #[.slice At lt.length ct, .bool st], .int .i64 0])] (zm (A := At) (m := lt.length) (c := ct) (s := st) rfl rfl rfl ?_)
 intro w16 Nt Bt hNt hb
 replace Bt := hide Bt
 replace Oe := zQ Oe hb
 replace Op := zQ Op hb
 replace Om := zQ Om hb
 replace Ob := zQ Ob hb
 replace Oh := zQ Oh hb
 replace Ot := zQ Ot hb
 replace Be := zX Be hb
 replace Bp := zX Bp hb
 replace Bm := zX Bm hb
 replace Bb := zX Bb hb
 replace Bh := zX Bh hb
 have hzt : w.heap.size ≤ Nt := Nat.le_trans hU.size hNt
 clear hNt
 replace hU := zU hU hU.size hb
 clear hb
 refine z1 [(13, .int .i64 0)] (ze (wp_seq (zs (wpl_r16 [(63, .int .i64 0), (62, z_f), (61, z_f), (60, z_f), (59, .int .i64 0), (58, z_f), (57, z_f), (56, z_f), (55, .int .i64 0), (54, z_f), (53, z_f), (52, z_f), (51, .int .i64 0), (50, z_f), (49, z_f), (48, .int .i64 0)] (by kernel_rfl) (z6 [(69, z_f), (68, z_f), (67, .int .i64 0), (66, z_f), (65, z_f), (64, z_f)] ?_)))))
 refine ze (zif (wp_skip (then_normal (wp_seq (region_R (n := 8) (N := 9) (by kernel_rfl) (by kernel_rfl) (by kernel_rfl) (by kernel_rfl) (by kernel_rfl) (by kernel_rfl) (fun _ _ _ _ _ h => h) ?_)))))
 intro F hQ
 have Be0 := Be
 have Bp0 := Bp
 have Bm0 := Bm
 have Bb0 := Bb
 have Bh0 := Bh
 have Bt0 := Bt
 refine anyR_ldvec (i := 1) (m' := 2) Bp0.out F hQ rfl rfl (by kernel_rfl) (by kernel_rfl) (by kernel_rfl) (by kernel_rfl) (by kernel_rfl) rfl (by kernel_rfl) ?_
 refine zac (i := 0) (m' := 3) rfl rfl ((vsof_any ⟨#[49, 49, 48, 49]⟩ _ (by decide)).mono ?_)
 rintro e w17 ⟨l1, s1, A1, c1, E1, rfl, C1, O1, hb⟩
 refine ⟨_, rfl, hb, ?_⟩
 replace hb : Below w16.heap.size w16 w17 := Below.trans ((Below.refl _ _).drew) hb
 replace Oe := zQ Oe hb
 replace Op := zQ Op hb
 replace Om := zQ Om hb
 replace Ob := zQ Ob hb
 replace Oh := zQ Oh hb
 replace Ot := zQ Ot hb
 replace Be := zX Be hb
 replace Bp := zX Bp hb
 replace Bm := zX Bm hb
 replace Bb := zX Bb hb
 replace Bh := zX Bh hb
 replace Bt := zX Bt hb
 replace O1 := hide O1.out.rd
 replace hU := zU hU hU.size hb
 clear hb
 have G1 := zGd E1 (gd_of (by decide +kernel))
 have L1 := zLe G1
 have Y1 := hide G1.by_
 clear G1
 refine zac (i := 2) (m' := 7) rfl rfl ((vAdd_any A1 Ap l1 lp c1 cp s1 sp _ L1.out Lp.out C1 Cp O1.out Op.out Y1.out Yp.out).mono ?_)
 rintro e w18 ⟨l2, s2, A2, c2, E2, rfl, C2, O2, hb⟩
 refine ⟨_, rfl, hb, ?_⟩
 replace Oe := zQ Oe hb
 replace Op := zQ Op hb
 replace Om := zQ Om hb
 replace Ob := zQ Ob hb
 replace Oh := zQ Oh hb
 replace Ot := zQ Ot hb
 replace O1 := zQ O1 hb
 replace Be := zX Be hb
 replace Bp := zX Bp hb
 replace Bm := zX Bm hb
 replace Bb := zX Bb hb
 replace Bh := zX Bh hb
 replace Bt := zX Bt hb
 replace O2 := hide O2.out.rd
 replace hU := zU hU hU.size hb
 clear hb
 have G2 := zGd E2 ((by rw [E1.out, Ep.out]; exact gd_of (by decide +kernel)))
 have L2 := zLe G2
 have Y2 := hide G2.by_
 clear G2
 replace E2 := hide (show (⟨l2, s2⟩ : Vc) = vAdd ⟨ofB ⟨#[49, 49, 48, 49]⟩, true⟩ ⟨fb (vz 8 5), false⟩ from E2.out.trans (by rw [E1.out, Ep.out]))
 clear O1 C1 L1 Y1
 refine zac (i := 3) (m' := 15) rfl rfl ((vint_val (18) A2 l2 c2 s2 _ L2.out C2 O2.out Y2.out (by rw [E2.out]; decide +kernel) (by rw [E2.out]; decide +kernel) (by decide) (by decide)).mono ?_)
 rintro e w19 ⟨rfl, hb⟩
 refine ⟨_, rfl, hb, ?_⟩
 replace Oe := zQ Oe hb
 replace Op := zQ Op hb
 replace Om := zQ Om hb
 replace Ob := zQ Ob hb
 replace Oh := zQ Oh hb
 replace Ot := zQ Ot hb
 replace O2 := zQ O2 hb
 replace Be := zX Be hb
 replace Bp := zX Bp hb
 replace Bm := zX Bm hb
 replace Bb := zX Bb hb
 replace Bh := zX Bh hb
 replace Bt := zX Bt hb
 replace hU := zU hU hU.size hb
 clear hb O2 C2 L2 Y2
 refine zav (i := 4) (m' := 31) (v := .tuple #[.int .i64 18, .bool true]) F hQ rfl rfl (zav (i := 5) (m' := 63) (v := .int .i64 18) F hQ rfl rfl (zav (i := 6) (m' := 127) (v := .bool true) F hQ rfl rfl (zav (i := 7) (m' := 255) (v := .int .i64 18) F hQ rfl rfl (anyR_e (anyR_last (i := 8) (m' := 511) (v := .bool true) rfl rfl (by kernel_rfl) (by kernel_rfl) (by kernel_rfl) (by kernel_rfl) (by kernel_rfl) (anyE_done (by kernel_rfl) ?_))))))
 clear F hQ Be0 Bp0 Bm0 Bb0 Bh0 Bt0
 refine then_normal (wp_seq (region_R (n := 8) (N := 9) (by kernel_rfl) (by kernel_rfl) (by kernel_rfl) (by kernel_rfl) (by kernel_rfl) (by kernel_rfl) (fun _ _ _ _ _ h => h) ?_))
 intro F hQ
 have Be0 := Be
 have Bp0 := Bp
 have Bm0 := Bm
 have Bb0 := Bb
 have Bh0 := Bh
 have Bt0 := Bt
 refine anyR_ldvec (i := 1) (m' := 2) Be0.out F hQ rfl rfl (by kernel_rfl) (by kernel_rfl) (by kernel_rfl) (by kernel_rfl) (by kernel_rfl) rfl (by kernel_rfl) ?_
 refine zac (i := 0) (m' := 3) rfl rfl ((vsof_any ⟨#[49, 49, 48, 49]⟩ _ (by decide)).mono ?_)
 rintro e w20 ⟨l1, s1, A1, c1, E1, rfl, C1, O1, hb⟩
 refine ⟨_, rfl, hb, ?_⟩
 replace hb : Below w19.heap.size w19 w20 := Below.trans ((Below.refl _ _).drew) hb
 replace Oe := zQ Oe hb
 replace Op := zQ Op hb
 replace Om := zQ Om hb
 replace Ob := zQ Ob hb
 replace Oh := zQ Oh hb
 replace Ot := zQ Ot hb
 replace Be := zX Be hb
 replace Bp := zX Bp hb
 replace Bm := zX Bm hb
 replace Bb := zX Bb hb
 replace Bh := zX Bh hb
 replace Bt := zX Bt hb
 replace O1 := hide O1.out.rd
 replace hU := zU hU hU.size hb
 clear hb
 have G1 := zGd E1 (gd_of (by decide +kernel))
 have L1 := zLe G1
 have Y1 := hide G1.by_
 clear G1
 refine zac (i := 2) (m' := 7) rfl rfl ((vAdd_any A1 Ae l1 le c1 ce s1 se _ L1.out Le.out C1 Ce O1.out Oe.out Y1.out Ye.out).mono ?_)
 rintro e w21 ⟨l2, s2, A2, c2, E2, rfl, C2, O2, hb⟩
 refine ⟨_, rfl, hb, ?_⟩
 replace Oe := zQ Oe hb
 replace Op := zQ Op hb
 replace Om := zQ Om hb
 replace Ob := zQ Ob hb
 replace Oh := zQ Oh hb
 replace Ot := zQ Ot hb
 replace O1 := zQ O1 hb
 replace Be := zX Be hb
 replace Bp := zX Bp hb
 replace Bm := zX Bm hb
 replace Bb := zX Bb hb
 replace Bh := zX Bh hb
 replace Bt := zX Bt hb
 replace O2 := hide O2.out.rd
 replace hU := zU hU hU.size hb
 clear hb
 have G2 := zGd E2 ((by rw [E1.out, Ee.out]; exact gd_of (by decide +kernel)))
 have L2 := zLe G2
 have Y2 := hide G2.by_
 clear G2
 replace E2 := hide (show (⟨l2, s2⟩ : Vc) = vAdd ⟨ofB ⟨#[49, 49, 48, 49]⟩, true⟩ ⟨fb (vz 8 5), true⟩ from E2.out.trans (by rw [E1.out, Ee.out]))
 clear O1 C1 L1 Y1
 refine zac (i := 3) (m' := 15) rfl rfl ((vint_val (2) A2 l2 c2 s2 _ L2.out C2 O2.out Y2.out (by rw [E2.out]; decide +kernel) (by rw [E2.out]; decide +kernel) (by decide) (by decide)).mono ?_)
 rintro e w22 ⟨rfl, hb⟩
 refine ⟨_, rfl, hb, ?_⟩
 replace Oe := zQ Oe hb
 replace Op := zQ Op hb
 replace Om := zQ Om hb
 replace Ob := zQ Ob hb
 replace Oh := zQ Oh hb
 replace Ot := zQ Ot hb
 replace O2 := zQ O2 hb
 replace Be := zX Be hb
 replace Bp := zX Bp hb
 replace Bm := zX Bm hb
 replace Bb := zX Bb hb
 replace Bh := zX Bh hb
 replace Bt := zX Bt hb
 replace hU := zU hU hU.size hb
 clear hb O2 C2 L2 Y2
 refine zav (i := 4) (m' := 31) (v := .tuple #[.int .i64 2, .bool true]) F hQ rfl rfl (zav (i := 5) (m' := 63) (v := .int .i64 2) F hQ rfl rfl (zav (i := 6) (m' := 127) (v := .bool true) F hQ rfl rfl (zav (i := 7) (m' := 255) (v := .int .i64 2) F hQ rfl rfl (anyR_e (anyR_last (i := 8) (m' := 511) (v := .bool true) rfl rfl (by kernel_rfl) (by kernel_rfl) (by kernel_rfl) (by kernel_rfl) (by kernel_rfl) (anyE_done (by kernel_rfl) ?_))))))
 clear F hQ Be0 Bp0 Bm0 Bb0 Bh0 Bt0
 refine then_normal (zs (zv Bb.out rfl rfl (zv Bm.out rfl rfl ?_)))
 refine zc rfl ((vPow_any Ab Am lb lm cb cm sb sm _ Lb.out Lm.out Cb Cm Ob.out Om.out Yb.out Ym.out (HT.out.kept hU)).mono ?_)
 rintro e w23 ⟨l1, s1, A1, c1, E1, rfl, C1, O1, hb⟩
 refine ⟨_, rfl, ?_⟩
 replace Oe := zQ Oe hb
 replace Op := zQ Op hb
 replace Om := zQ Om hb
 replace Ob := zQ Ob hb
 replace Oh := zQ Oh hb
 replace Ot := zQ Ot hb
 replace Be := zX Be hb
 replace Bp := zX Bp hb
 replace Bm := zX Bm hb
 replace Bb := zX Bb hb
 replace Bh := zX Bh hb
 replace Bt := zX Bt hb
 replace O1 := hide O1.out.rd
 replace hU := zU hU hU.size hb
 clear hb
 have G1 := zGd E1 ((by rw [Eb.out, Em.out]; exact gd_of (by decide +kernel)))
 have L1 := zLe G1
 have Y1 := hide G1.by_
 clear G1
 replace E1 := hide (show (⟨l1, s1⟩ : Vc) = vPow ⟨fb (vz 32 2), true⟩ ⟨fb (vz 32 (-1)), true⟩ from E1.out.trans (by rw [Eb.out, Em.out]))
 refine zc rfl ((vint_val (0) A1 l1 c1 s1 _ L1.out C1 O1.out Y1.out (by rw [E1.out]; decide +kernel) (by rw [E1.out]; decide +kernel) (by decide) (by decide)).mono ?_)
 rintro e w24 ⟨rfl, hb⟩
 refine ⟨_, rfl, ?_⟩
 replace Oe := zQ Oe hb
 replace Op := zQ Op hb
 replace Om := zQ Om hb
 replace Ob := zQ Ob hb
 replace Oh := zQ Oh hb
 replace Ot := zQ Ot hb
 replace O1 := zQ O1 hb
 replace Be := zX Be hb
 replace Bp := zX Bp hb
 replace Bm := zX Bm hb
 replace Bb := zX Bb hb
 replace Bh := zX Bh hb
 replace Bt := zX Bt hb
 replace hU := zU hU hU.size hb
 clear hb O1 C1 L1 Y1
 refine z5 [(19, z_t), (18, .int .i64 0), (90, z_t), (89, .int .i64 0), (84, .tuple #[.int .i64 0, .bool true])] (ze (wp_seq (zs (wpl_r16 [(106, z_t), (105, z_f), (104, z_f), (103, z_f), (102, .int .i64 2), (101, z_f), (100, z_f), (99, z_f), (98, z_t), (97, z_f), (96, z_f), (95, z_f), (94, .int .i64 18), (93, z_f), (92, z_f), (91, z_t)] (by kernel_rfl) (z6 [(112, z_f), (111, z_f), (110, .int .i64 0), (109, z_f), (108, z_f), (107, z_f)] ?_)))))
 refine ze (zif (wp_skip (then_normal (wp_seq (region_R (n := 83) (N := 84) (by kernel_rfl) (by kernel_rfl) (by kernel_rfl) (by kernel_rfl) (by kernel_rfl) (by kernel_rfl) (fun _ _ _ _ _ h => h) ?_)))))
 intro F hQ
 have Be0 := Be
 have Bp0 := Bp
 have Bm0 := Bm
 have Bb0 := Bb
 have Bh0 := Bh
 have Bt0 := Bt
 refine zav (i := 0) (m' := 1) (v := .func (.func 11) #[] #[]) F hQ rfl rfl ?_
 refine zac (i := 1) (m' := 3) rfl rfl ((vof_any ⟨#[49, 120, 48, 48]⟩ _ (by decide)).mono ?_)
 rintro e w25 ⟨l1, s1, A1, c1, E1, rfl, C1, O1, hb⟩
 refine ⟨_, rfl, hb, ?_⟩
 replace hb : Below w24.heap.size w24 w25 := Below.trans ((Below.refl _ _).drew) hb
 replace Oe := zQ Oe hb
 replace Op := zQ Op hb
 replace Om := zQ Om hb
 replace Ob := zQ Ob hb
 replace Oh := zQ Oh hb
 replace Ot := zQ Ot hb
 replace Be := zX Be hb
 replace Bp := zX Bp hb
 replace Bm := zX Bm hb
 replace Bb := zX Bb hb
 replace Bh := zX Bh hb
 replace Bt := zX Bt hb
 replace O1 := hide O1.out.rd
 replace hU := zU hU hU.size hb
 clear hb
 have G1 := zGd E1 (gd_of (by decide +kernel))
 have L1 := zLe G1
 have Y1 := hide G1.by_
 clear G1
 refine zac (i := 2) (m' := 7) rfl rfl ((vof_any ⟨#[48, 49, 49, 48]⟩ _ (by decide)).mono ?_)
 rintro e w26 ⟨l2, s2, A2, c2, E2, rfl, C2, O2, hb⟩
 refine ⟨_, rfl, hb, ?_⟩
 replace Oe := zQ Oe hb
 replace Op := zQ Op hb
 replace Om := zQ Om hb
 replace Ob := zQ Ob hb
 replace Oh := zQ Oh hb
 replace Ot := zQ Ot hb
 replace O1 := zQ O1 hb
 replace Be := zX Be hb
 replace Bp := zX Bp hb
 replace Bm := zX Bm hb
 replace Bb := zX Bb hb
 replace Bh := zX Bh hb
 replace Bt := zX Bt hb
 replace O2 := hide O2.out.rd
 replace hU := zU hU hU.size hb
 clear hb
 have G2 := zGd E2 (gd_of (by decide +kernel))
 have L2 := zLe G2
 have Y2 := hide G2.by_
 clear G2
 refine zac (i := 3) (m' := 15) rfl rfl ((vAnd_any A1 A2 l1 l2 c1 c2 s1 s2 _ L1.out L2.out C1 C2 O1.out O2.out Y1.out Y2.out (HT.out.kept hU)).mono ?_)
 rintro e w27 ⟨l3, s3, A3, c3, E3, rfl, C3, O3, hb⟩
 refine ⟨_, rfl, hb, ?_⟩
 replace Oe := zQ Oe hb
 replace Op := zQ Op hb
 replace Om := zQ Om hb
 replace Ob := zQ Ob hb
 replace Oh := zQ Oh hb
 replace Ot := zQ Ot hb
 replace O1 := zQ O1 hb
 replace O2 := zQ O2 hb
 replace Be := zX Be hb
 replace Bp := zX Bp hb
 replace Bm := zX Bm hb
 replace Bb := zX Bb hb
 replace Bh := zX Bh hb
 replace Bt := zX Bt hb
 replace O3 := hide O3.out.rd
 replace hU := zU hU hU.size hb
 clear hb
 have G3 := zGd E3 ((by rw [E1.out, E2.out]; exact gd_of (by decide +kernel)))
 have L3 := zLe G3
 have Y3 := hide G3.by_
 clear G3
 replace E3 := hide (show (⟨l3, s3⟩ : Vc) = btw mAnd ⟨ofB ⟨#[49, 120, 48, 48]⟩, false⟩ ⟨ofB ⟨#[48, 49, 49, 48]⟩, false⟩ from E3.out.trans (by rw [E1.out, E2.out]))
 clear O1 C1 L1 Y1 O2 C2 L2 Y2
 refine zac (i := 4) (m' := 31) rfl rfl ((vof_any ⟨#[48, 120, 48, 48]⟩ _ (by decide)).mono ?_)
 rintro e w28 ⟨l4, s4, A4, c4, E4, rfl, C4, O4, hb⟩
 refine ⟨_, rfl, hb, ?_⟩
 replace Oe := zQ Oe hb
 replace Op := zQ Op hb
 replace Om := zQ Om hb
 replace Ob := zQ Ob hb
 replace Oh := zQ Oh hb
 replace Ot := zQ Ot hb
 replace O3 := zQ O3 hb
 replace Be := zX Be hb
 replace Bp := zX Bp hb
 replace Bm := zX Bm hb
 replace Bb := zX Bb hb
 replace Bh := zX Bh hb
 replace Bt := zX Bt hb
 replace O4 := hide O4.out.rd
 replace hU := zU hU hU.size hb
 clear hb
 have G4 := zGd E4 (gd_of (by decide +kernel))
 have L4 := zLe G4
 have Y4 := hide G4.by_
 clear G4
 refine zac (i := 5) (m' := 63) rfl rfl ((rsame_yes A3 A4 l3 l4 c3 c4 s3 s4 _ L3.out L4.out O3.out O4.out (by rw [E3.out, E4.out]; exact (sm_iff _ _).1 (by decide +kernel))).mono ?_)
 rintro e w29 ⟨rfl, hb⟩
 refine ⟨_, rfl, hb, ?_⟩
 replace Oe := zQ Oe hb
 replace Op := zQ Op hb
 replace Om := zQ Om hb
 replace Ob := zQ Ob hb
 replace Oh := zQ Oh hb
 replace Ot := zQ Ot hb
 replace O3 := zQ O3 hb
 replace O4 := zQ O4 hb
 replace Be := zX Be hb
 replace Bp := zX Bp hb
 replace Bm := zX Bm hb
 replace Bb := zX Bb hb
 replace Bh := zX Bh hb
 replace Bt := zX Bt hb
 replace hU := zU hU hU.size hb
 clear hb O3 C3 L3 Y3
 clear O4 C4 L4 Y4
 refine zav (i := 6) (m' := 127) (v := .bool true) F hQ rfl rfl (zav (i := 7) (m' := 255) (v := .func (.func 11) #[] #[]) F hQ rfl rfl ?_)
 refine zac (i := 8) (m' := 511) rfl rfl ((vof_any ⟨#[49, 49, 48, 48]⟩ _ (by decide)).mono ?_)
 rintro e w30 ⟨l1, s1, A1, c1, E1, rfl, C1, O1, hb⟩
 refine ⟨_, rfl, hb, ?_⟩
 replace Oe := zQ Oe hb
 replace Op := zQ Op hb
 replace Om := zQ Om hb
 replace Ob := zQ Ob hb
 replace Oh := zQ Oh hb
 replace Ot := zQ Ot hb
 replace Be := zX Be hb
 replace Bp := zX Bp hb
 replace Bm := zX Bm hb
 replace Bb := zX Bb hb
 replace Bh := zX Bh hb
 replace Bt := zX Bt hb
 replace O1 := hide O1.out.rd
 replace hU := zU hU hU.size hb
 clear hb
 have G1 := zGd E1 (gd_of (by decide +kernel))
 have L1 := zLe G1
 have Y1 := hide G1.by_
 clear G1
 refine zac (i := 9) (m' := 1023) rfl rfl ((vof_any ⟨#[48, 49, 48, 49]⟩ _ (by decide)).mono ?_)
 rintro e w31 ⟨l2, s2, A2, c2, E2, rfl, C2, O2, hb⟩
 refine ⟨_, rfl, hb, ?_⟩
 replace Oe := zQ Oe hb
 replace Op := zQ Op hb
 replace Om := zQ Om hb
 replace Ob := zQ Ob hb
 replace Oh := zQ Oh hb
 replace Ot := zQ Ot hb
 replace O1 := zQ O1 hb
 replace Be := zX Be hb
 replace Bp := zX Bp hb
 replace Bm := zX Bm hb
 replace Bb := zX Bb hb
 replace Bh := zX Bh hb
 replace Bt := zX Bt hb
 replace O2 := hide O2.out.rd
 replace hU := zU hU hU.size hb
 clear hb
 have G2 := zGd E2 (gd_of (by decide +kernel))
 have L2 := zLe G2
 have Y2 := hide G2.by_
 clear G2
 refine zac (i := 10) (m' := 2047) rfl rfl ((vAdd_any A1 A2 l1 l2 c1 c2 s1 s2 _ L1.out L2.out C1 C2 O1.out O2.out Y1.out Y2.out).mono ?_)
 rintro e w32 ⟨l3, s3, A3, c3, E3, rfl, C3, O3, hb⟩
 refine ⟨_, rfl, hb, ?_⟩
 replace Oe := zQ Oe hb
 replace Op := zQ Op hb
 replace Om := zQ Om hb
 replace Ob := zQ Ob hb
 replace Oh := zQ Oh hb
 replace Ot := zQ Ot hb
 replace O1 := zQ O1 hb
 replace O2 := zQ O2 hb
 replace Be := zX Be hb
 replace Bp := zX Bp hb
 replace Bm := zX Bm hb
 replace Bb := zX Bb hb
 replace Bh := zX Bh hb
 replace Bt := zX Bt hb
 replace O3 := hide O3.out.rd
 replace hU := zU hU hU.size hb
 clear hb
 have G3 := zGd E3 ((by rw [E1.out, E2.out]; exact gd_of (by decide +kernel)))
 have L3 := zLe G3
 have Y3 := hide G3.by_
 clear G3
 replace E3 := hide (show (⟨l3, s3⟩ : Vc) = vAdd ⟨ofB ⟨#[49, 49, 48, 48]⟩, false⟩ ⟨ofB ⟨#[48, 49, 48, 49]⟩, false⟩ from E3.out.trans (by rw [E1.out, E2.out]))
 clear O1 C1 L1 Y1 O2 C2 L2 Y2
 refine zac (i := 11) (m' := 4095) rfl rfl ((vof_any ⟨#[48, 48, 48, 49]⟩ _ (by decide)).mono ?_)
 rintro e w33 ⟨l4, s4, A4, c4, E4, rfl, C4, O4, hb⟩
 refine ⟨_, rfl, hb, ?_⟩
 replace Oe := zQ Oe hb
 replace Op := zQ Op hb
 replace Om := zQ Om hb
 replace Ob := zQ Ob hb
 replace Oh := zQ Oh hb
 replace Ot := zQ Ot hb
 replace O3 := zQ O3 hb
 replace Be := zX Be hb
 replace Bp := zX Bp hb
 replace Bm := zX Bm hb
 replace Bb := zX Bb hb
 replace Bh := zX Bh hb
 replace Bt := zX Bt hb
 replace O4 := hide O4.out.rd
 replace hU := zU hU hU.size hb
 clear hb
 have G4 := zGd E4 (gd_of (by decide +kernel))
 have L4 := zLe G4
 have Y4 := hide G4.by_
 clear G4
 refine zac (i := 12) (m' := 8191) rfl rfl ((rsame_yes A3 A4 l3 l4 c3 c4 s3 s4 _ L3.out L4.out O3.out O4.out (by rw [E3.out, E4.out]; exact (sm_iff _ _).1 (by decide +kernel))).mono ?_)
 rintro e w34 ⟨rfl, hb⟩
 refine ⟨_, rfl, hb, ?_⟩
 replace Oe := zQ Oe hb
 replace Op := zQ Op hb
 replace Om := zQ Om hb
 replace Ob := zQ Ob hb
 replace Oh := zQ Oh hb
 replace Ot := zQ Ot hb
 replace O3 := zQ O3 hb
 replace O4 := zQ O4 hb
 replace Be := zX Be hb
 replace Bp := zX Bp hb
 replace Bm := zX Bm hb
 replace Bb := zX Bb hb
 replace Bh := zX Bh hb
 replace Bt := zX Bt hb
 replace hU := zU hU hU.size hb
 clear hb O3 C3 L3 Y3
 clear O4 C4 L4 Y4
 refine zav (i := 13) (m' := 16383) (v := .bool true) F hQ rfl rfl (zav (i := 14) (m' := 32767) (v := .bool true) F hQ rfl rfl (zav (i := 15) (m' := 65535) (v := .func (.func 11) #[] #[]) F hQ rfl rfl ?_))
 refine zac (i := 16) (m' := 131071) rfl rfl ((vof_any ⟨#[49, 120, 48, 48]⟩ _ (by decide)).mono ?_)
 rintro e w35 ⟨l1, s1, A1, c1, E1, rfl, C1, O1, hb⟩
 refine ⟨_, rfl, hb, ?_⟩
 replace Oe := zQ Oe hb
 replace Op := zQ Op hb
 replace Om := zQ Om hb
 replace Ob := zQ Ob hb
 replace Oh := zQ Oh hb
 replace Ot := zQ Ot hb
 replace Be := zX Be hb
 replace Bp := zX Bp hb
 replace Bm := zX Bm hb
 replace Bb := zX Bb hb
 replace Bh := zX Bh hb
 replace Bt := zX Bt hb
 replace O1 := hide O1.out.rd
 replace hU := zU hU hU.size hb
 clear hb
 have G1 := zGd E1 (gd_of (by decide +kernel))
 have L1 := zLe G1
 have Y1 := hide G1.by_
 clear G1
 refine zac (i := 17) (m' := 262143) rfl rfl ((vof_any ⟨#[48, 48, 48, 49]⟩ _ (by decide)).mono ?_)
 rintro e w36 ⟨l2, s2, A2, c2, E2, rfl, C2, O2, hb⟩
 refine ⟨_, rfl, hb, ?_⟩
 replace Oe := zQ Oe hb
 replace Op := zQ Op hb
 replace Om := zQ Om hb
 replace Ob := zQ Ob hb
 replace Oh := zQ Oh hb
 replace Ot := zQ Ot hb
 replace O1 := zQ O1 hb
 replace Be := zX Be hb
 replace Bp := zX Bp hb
 replace Bm := zX Bm hb
 replace Bb := zX Bb hb
 replace Bh := zX Bh hb
 replace Bt := zX Bt hb
 replace O2 := hide O2.out.rd
 replace hU := zU hU hU.size hb
 clear hb
 have G2 := zGd E2 (gd_of (by decide +kernel))
 have L2 := zLe G2
 have Y2 := hide G2.by_
 clear G2
 refine zac (i := 18) (m' := 524287) rfl rfl ((vAdd_any A1 A2 l1 l2 c1 c2 s1 s2 _ L1.out L2.out C1 C2 O1.out O2.out Y1.out Y2.out).mono ?_)
 rintro e w37 ⟨l3, s3, A3, c3, E3, rfl, C3, O3, hb⟩
 refine ⟨_, rfl, hb, ?_⟩
 replace Oe := zQ Oe hb
 replace Op := zQ Op hb
 replace Om := zQ Om hb
 replace Ob := zQ Ob hb
 replace Oh := zQ Oh hb
 replace Ot := zQ Ot hb
 replace O1 := zQ O1 hb
 replace O2 := zQ O2 hb
 replace Be := zX Be hb
 replace Bp := zX Bp hb
 replace Bm := zX Bm hb
 replace Bb := zX Bb hb
 replace Bh := zX Bh hb
 replace Bt := zX Bt hb
 replace O3 := hide O3.out.rd
 replace hU := zU hU hU.size hb
 clear hb
 have G3 := zGd E3 ((by rw [E1.out, E2.out]; exact gd_of (by decide +kernel)))
 have L3 := zLe G3
 have Y3 := hide G3.by_
 clear G3
 replace E3 := hide (show (⟨l3, s3⟩ : Vc) = vAdd ⟨ofB ⟨#[49, 120, 48, 48]⟩, false⟩ ⟨ofB ⟨#[48, 48, 48, 49]⟩, false⟩ from E3.out.trans (by rw [E1.out, E2.out]))
 clear O1 C1 L1 Y1 O2 C2 L2 Y2
 refine zac (i := 19) (m' := 1048575) rfl rfl ((vof_any ⟨#[120, 120, 120, 120]⟩ _ (by decide)).mono ?_)
 rintro e w38 ⟨l4, s4, A4, c4, E4, rfl, C4, O4, hb⟩
 refine ⟨_, rfl, hb, ?_⟩
 replace Oe := zQ Oe hb
 replace Op := zQ Op hb
 replace Om := zQ Om hb
 replace Ob := zQ Ob hb
 replace Oh := zQ Oh hb
 replace Ot := zQ Ot hb
 replace O3 := zQ O3 hb
 replace Be := zX Be hb
 replace Bp := zX Bp hb
 replace Bm := zX Bm hb
 replace Bb := zX Bb hb
 replace Bh := zX Bh hb
 replace Bt := zX Bt hb
 replace O4 := hide O4.out.rd
 replace hU := zU hU hU.size hb
 clear hb
 have G4 := zGd E4 (gd_of (by decide +kernel))
 have L4 := zLe G4
 have Y4 := hide G4.by_
 clear G4
 refine zac (i := 20) (m' := 2097151) rfl rfl ((rsame_yes A3 A4 l3 l4 c3 c4 s3 s4 _ L3.out L4.out O3.out O4.out (by rw [E3.out, E4.out]; exact (sm_iff _ _).1 (by decide +kernel))).mono ?_)
 rintro e w39 ⟨rfl, hb⟩
 refine ⟨_, rfl, hb, ?_⟩
 replace Oe := zQ Oe hb
 replace Op := zQ Op hb
 replace Om := zQ Om hb
 replace Ob := zQ Ob hb
 replace Oh := zQ Oh hb
 replace Ot := zQ Ot hb
 replace O3 := zQ O3 hb
 replace O4 := zQ O4 hb
 replace Be := zX Be hb
 replace Bp := zX Bp hb
 replace Bm := zX Bm hb
 replace Bb := zX Bb hb
 replace Bh := zX Bh hb
 replace Bt := zX Bt hb
 replace hU := zU hU hU.size hb
 clear hb O3 C3 L3 Y3
 clear O4 C4 L4 Y4
 refine zav (i := 21) (m' := 4194303) (v := .bool true) F hQ rfl rfl (zav (i := 22) (m' := 8388607) (v := .bool true) F hQ rfl rfl (zav (i := 23) (m' := 16777215) (v := .func (.func 11) #[] #[]) F hQ rfl rfl ?_))
 refine zac (i := 24) (m' := 33554431) rfl rfl ((vof_any ⟨#[49, 48, 120, 48]⟩ _ (by decide)).mono ?_)
 rintro e w40 ⟨l1, s1, A1, c1, E1, rfl, C1, O1, hb⟩
 refine ⟨_, rfl, hb, ?_⟩
 replace Oe := zQ Oe hb
 replace Op := zQ Op hb
 replace Om := zQ Om hb
 replace Ob := zQ Ob hb
 replace Oh := zQ Oh hb
 replace Ot := zQ Ot hb
 replace Be := zX Be hb
 replace Bp := zX Bp hb
 replace Bm := zX Bm hb
 replace Bb := zX Bb hb
 replace Bh := zX Bh hb
 replace Bt := zX Bt hb
 replace O1 := hide O1.out.rd
 replace hU := zU hU hU.size hb
 clear hb
 have G1 := zGd E1 (gd_of (by decide +kernel))
 have L1 := zLe G1
 have Y1 := hide G1.by_
 clear G1
 refine zac (i := 25) (m' := 67108863) rfl rfl ((vof_any ⟨#[48, 48, 48, 48]⟩ _ (by decide)).mono ?_)
 rintro e w41 ⟨l2, s2, A2, c2, E2, rfl, C2, O2, hb⟩
 refine ⟨_, rfl, hb, ?_⟩
 replace Oe := zQ Oe hb
 replace Op := zQ Op hb
 replace Om := zQ Om hb
 replace Ob := zQ Ob hb
 replace Oh := zQ Oh hb
 replace Ot := zQ Ot hb
 replace O1 := zQ O1 hb
 replace Be := zX Be hb
 replace Bp := zX Bp hb
 replace Bm := zX Bm hb
 replace Bb := zX Bb hb
 replace Bh := zX Bh hb
 replace Bt := zX Bt hb
 replace O2 := hide O2.out.rd
 replace hU := zU hU hU.size hb
 clear hb
 have G2 := zGd E2 (gd_of (by decide +kernel))
 have L2 := zLe G2
 have Y2 := hide G2.by_
 clear G2
 refine zac (i := 26) (m' := 134217727) rfl rfl ((vEq_any A1 A2 l1 l2 c1 c2 s1 s2 _ L1.out L2.out C1 C2 O1.out O2.out Y1.out Y2.out (HT.out.kept hU)).mono ?_)
 rintro e w42 ⟨l3, s3, A3, c3, E3, rfl, C3, O3, hb⟩
 refine ⟨_, rfl, hb, ?_⟩
 replace Oe := zQ Oe hb
 replace Op := zQ Op hb
 replace Om := zQ Om hb
 replace Ob := zQ Ob hb
 replace Oh := zQ Oh hb
 replace Ot := zQ Ot hb
 replace O1 := zQ O1 hb
 replace O2 := zQ O2 hb
 replace Be := zX Be hb
 replace Bp := zX Bp hb
 replace Bm := zX Bm hb
 replace Bb := zX Bb hb
 replace Bh := zX Bh hb
 replace Bt := zX Bt hb
 replace O3 := hide O3.out.rd
 replace hU := zU hU hU.size hb
 clear hb
 have G3 := zGd E3 ((by rw [E1.out, E2.out]; exact gd_of (by decide +kernel)))
 have L3 := zLe G3
 have Y3 := hide G3.by_
 clear G3
 replace E3 := hide (show (⟨l3, s3⟩ : Vc) = vEq ⟨ofB ⟨#[49, 48, 120, 48]⟩, false⟩ ⟨ofB ⟨#[48, 48, 48, 48]⟩, false⟩ from E3.out.trans (by rw [E1.out, E2.out]))
 clear O1 C1 L1 Y1 O2 C2 L2 Y2
 refine zac (i := 27) (m' := 268435455) rfl rfl ((vof_any ⟨#[48]⟩ _ (by decide)).mono ?_)
 rintro e w43 ⟨l4, s4, A4, c4, E4, rfl, C4, O4, hb⟩
 refine ⟨_, rfl, hb, ?_⟩
 replace Oe := zQ Oe hb
 replace Op := zQ Op hb
 replace Om := zQ Om hb
 replace Ob := zQ Ob hb
 replace Oh := zQ Oh hb
 replace Ot := zQ Ot hb
 replace O3 := zQ O3 hb
 replace Be := zX Be hb
 replace Bp := zX Bp hb
 replace Bm := zX Bm hb
 replace Bb := zX Bb hb
 replace Bh := zX Bh hb
 replace Bt := zX Bt hb
 replace O4 := hide O4.out.rd
 replace hU := zU hU hU.size hb
 clear hb
 have G4 := zGd E4 (gd_of (by decide +kernel))
 have L4 := zLe G4
 have Y4 := hide G4.by_
 clear G4
 refine zac (i := 28) (m' := 536870911) rfl rfl ((rsame_yes A3 A4 l3 l4 c3 c4 s3 s4 _ L3.out L4.out O3.out O4.out (by rw [E3.out, E4.out]; exact (sm_iff _ _).1 (by decide +kernel))).mono ?_)
 rintro e w44 ⟨rfl, hb⟩
 refine ⟨_, rfl, hb, ?_⟩
 replace Oe := zQ Oe hb
 replace Op := zQ Op hb
 replace Om := zQ Om hb
 replace Ob := zQ Ob hb
 replace Oh := zQ Oh hb
 replace Ot := zQ Ot hb
 replace O3 := zQ O3 hb
 replace O4 := zQ O4 hb
 replace Be := zX Be hb
 replace Bp := zX Bp hb
 replace Bm := zX Bm hb
 replace Bb := zX Bb hb
 replace Bh := zX Bh hb
 replace Bt := zX Bt hb
 replace hU := zU hU hU.size hb
 clear hb O3 C3 L3 Y3
 clear O4 C4 L4 Y4
 refine zav (i := 29) (m' := 1073741823) (v := .bool true) F hQ rfl rfl (zav (i := 30) (m' := 2147483647) (v := .bool true) F hQ rfl rfl (zav (i := 31) (m' := 4294967295) (v := .func (.func 11) #[] #[]) F hQ rfl rfl ?_))
 refine zac (i := 32) (m' := 8589934591) rfl rfl ((vof_any ⟨#[48, 48, 120, 48]⟩ _ (by decide)).mono ?_)
 rintro e w45 ⟨l1, s1, A1, c1, E1, rfl, C1, O1, hb⟩
 refine ⟨_, rfl, hb, ?_⟩
 replace Oe := zQ Oe hb
 replace Op := zQ Op hb
 replace Om := zQ Om hb
 replace Ob := zQ Ob hb
 replace Oh := zQ Oh hb
 replace Ot := zQ Ot hb
 replace Be := zX Be hb
 replace Bp := zX Bp hb
 replace Bm := zX Bm hb
 replace Bb := zX Bb hb
 replace Bh := zX Bh hb
 replace Bt := zX Bt hb
 replace O1 := hide O1.out.rd
 replace hU := zU hU hU.size hb
 clear hb
 have G1 := zGd E1 (gd_of (by decide +kernel))
 have L1 := zLe G1
 have Y1 := hide G1.by_
 clear G1
 refine zac (i := 33) (m' := 17179869183) rfl rfl ((vof_any ⟨#[48, 48, 48, 48]⟩ _ (by decide)).mono ?_)
 rintro e w46 ⟨l2, s2, A2, c2, E2, rfl, C2, O2, hb⟩
 refine ⟨_, rfl, hb, ?_⟩
 replace Oe := zQ Oe hb
 replace Op := zQ Op hb
 replace Om := zQ Om hb
 replace Ob := zQ Ob hb
 replace Oh := zQ Oh hb
 replace Ot := zQ Ot hb
 replace O1 := zQ O1 hb
 replace Be := zX Be hb
 replace Bp := zX Bp hb
 replace Bm := zX Bm hb
 replace Bb := zX Bb hb
 replace Bh := zX Bh hb
 replace Bt := zX Bt hb
 replace O2 := hide O2.out.rd
 replace hU := zU hU hU.size hb
 clear hb
 have G2 := zGd E2 (gd_of (by decide +kernel))
 have L2 := zLe G2
 have Y2 := hide G2.by_
 clear G2
 refine zac (i := 34) (m' := 34359738367) rfl rfl ((vEq_any A1 A2 l1 l2 c1 c2 s1 s2 _ L1.out L2.out C1 C2 O1.out O2.out Y1.out Y2.out (HT.out.kept hU)).mono ?_)
 rintro e w47 ⟨l3, s3, A3, c3, E3, rfl, C3, O3, hb⟩
 refine ⟨_, rfl, hb, ?_⟩
 replace Oe := zQ Oe hb
 replace Op := zQ Op hb
 replace Om := zQ Om hb
 replace Ob := zQ Ob hb
 replace Oh := zQ Oh hb
 replace Ot := zQ Ot hb
 replace O1 := zQ O1 hb
 replace O2 := zQ O2 hb
 replace Be := zX Be hb
 replace Bp := zX Bp hb
 replace Bm := zX Bm hb
 replace Bb := zX Bb hb
 replace Bh := zX Bh hb
 replace Bt := zX Bt hb
 replace O3 := hide O3.out.rd
 replace hU := zU hU hU.size hb
 clear hb
 have G3 := zGd E3 ((by rw [E1.out, E2.out]; exact gd_of (by decide +kernel)))
 have L3 := zLe G3
 have Y3 := hide G3.by_
 clear G3
 replace E3 := hide (show (⟨l3, s3⟩ : Vc) = vEq ⟨ofB ⟨#[48, 48, 120, 48]⟩, false⟩ ⟨ofB ⟨#[48, 48, 48, 48]⟩, false⟩ from E3.out.trans (by rw [E1.out, E2.out]))
 clear O1 C1 L1 Y1 O2 C2 L2 Y2
 refine zac (i := 35) (m' := 68719476735) rfl rfl ((vof_any ⟨#[120]⟩ _ (by decide)).mono ?_)
 rintro e w48 ⟨l4, s4, A4, c4, E4, rfl, C4, O4, hb⟩
 refine ⟨_, rfl, hb, ?_⟩
 replace Oe := zQ Oe hb
 replace Op := zQ Op hb
 replace Om := zQ Om hb
 replace Ob := zQ Ob hb
 replace Oh := zQ Oh hb
 replace Ot := zQ Ot hb
 replace O3 := zQ O3 hb
 replace Be := zX Be hb
 replace Bp := zX Bp hb
 replace Bm := zX Bm hb
 replace Bb := zX Bb hb
 replace Bh := zX Bh hb
 replace Bt := zX Bt hb
 replace O4 := hide O4.out.rd
 replace hU := zU hU hU.size hb
 clear hb
 have G4 := zGd E4 (gd_of (by decide +kernel))
 have L4 := zLe G4
 have Y4 := hide G4.by_
 clear G4
 refine zac (i := 36) (m' := 137438953471) rfl rfl ((rsame_yes A3 A4 l3 l4 c3 c4 s3 s4 _ L3.out L4.out O3.out O4.out (by rw [E3.out, E4.out]; exact (sm_iff _ _).1 (by decide +kernel))).mono ?_)
 rintro e w49 ⟨rfl, hb⟩
 refine ⟨_, rfl, hb, ?_⟩
 replace Oe := zQ Oe hb
 replace Op := zQ Op hb
 replace Om := zQ Om hb
 replace Ob := zQ Ob hb
 replace Oh := zQ Oh hb
 replace Ot := zQ Ot hb
 replace O3 := zQ O3 hb
 replace O4 := zQ O4 hb
 replace Be := zX Be hb
 replace Bp := zX Bp hb
 replace Bm := zX Bm hb
 replace Bb := zX Bb hb
 replace Bh := zX Bh hb
 replace Bt := zX Bt hb
 replace hU := zU hU hU.size hb
 clear hb O3 C3 L3 Y3
 clear O4 C4 L4 Y4
 refine zav (i := 37) (m' := 274877906943) (v := .bool true) F hQ rfl rfl (zav (i := 38) (m' := 549755813887) (v := .bool true) F hQ rfl rfl (zav (i := 39) (m' := 1099511627775) (v := .func (.func 11) #[] #[]) F hQ rfl rfl ?_))
 refine zac (i := 40) (m' := 2199023255551) rfl rfl ((vof_any ⟨#[49, 120, 48, 48]⟩ _ (by decide)).mono ?_)
 rintro e w50 ⟨l1, s1, A1, c1, E1, rfl, C1, O1, hb⟩
 refine ⟨_, rfl, hb, ?_⟩
 replace Oe := zQ Oe hb
 replace Op := zQ Op hb
 replace Om := zQ Om hb
 replace Ob := zQ Ob hb
 replace Oh := zQ Oh hb
 replace Ot := zQ Ot hb
 replace Be := zX Be hb
 replace Bp := zX Bp hb
 replace Bm := zX Bm hb
 replace Bb := zX Bb hb
 replace Bh := zX Bh hb
 replace Bt := zX Bt hb
 replace O1 := hide O1.out.rd
 replace hU := zU hU hU.size hb
 clear hb
 have G1 := zGd E1 (gd_of (by decide +kernel))
 have L1 := zLe G1
 have Y1 := hide G1.by_
 clear G1
 refine zac (i := 41) (m' := 4398046511103) rfl rfl ((vof_any ⟨#[49, 120, 48, 48]⟩ _ (by decide)).mono ?_)
 rintro e w51 ⟨l2, s2, A2, c2, E2, rfl, C2, O2, hb⟩
 refine ⟨_, rfl, hb, ?_⟩
 replace Oe := zQ Oe hb
 replace Op := zQ Op hb
 replace Om := zQ Om hb
 replace Ob := zQ Ob hb
 replace Oh := zQ Oh hb
 replace Ot := zQ Ot hb
 replace O1 := zQ O1 hb
 replace Be := zX Be hb
 replace Bp := zX Bp hb
 replace Bm := zX Bm hb
 replace Bb := zX Bb hb
 replace Bh := zX Bh hb
 replace Bt := zX Bt hb
 replace O2 := hide O2.out.rd
 replace hU := zU hU hU.size hb
 clear hb
 have G2 := zGd E2 (gd_of (by decide +kernel))
 have L2 := zLe G2
 have Y2 := hide G2.by_
 clear G2
 refine zac (i := 42) (m' := 8796093022207) rfl rfl ((vCaseEq_any A1 A2 l1 l2 c1 c2 s1 s2 _ L1.out L2.out C1 C2 O1.out O2.out Y1.out Y2.out).mono ?_)
 rintro e w52 ⟨l3, s3, A3, c3, E3, rfl, C3, O3, hb⟩
 refine ⟨_, rfl, hb, ?_⟩
 replace Oe := zQ Oe hb
 replace Op := zQ Op hb
 replace Om := zQ Om hb
 replace Ob := zQ Ob hb
 replace Oh := zQ Oh hb
 replace Ot := zQ Ot hb
 replace O1 := zQ O1 hb
 replace O2 := zQ O2 hb
 replace Be := zX Be hb
 replace Bp := zX Bp hb
 replace Bm := zX Bm hb
 replace Bb := zX Bb hb
 replace Bh := zX Bh hb
 replace Bt := zX Bt hb
 replace O3 := hide O3.out.rd
 replace hU := zU hU hU.size hb
 clear hb
 have G3 := zGd E3 ((by rw [E1.out, E2.out]; exact gd_of (by decide +kernel)))
 have L3 := zLe G3
 have Y3 := hide G3.by_
 clear G3
 replace E3 := hide (show (⟨l3, s3⟩ : Vc) = vCase ⟨ofB ⟨#[49, 120, 48, 48]⟩, false⟩ ⟨ofB ⟨#[49, 120, 48, 48]⟩, false⟩ from E3.out.trans (by rw [E1.out, E2.out]))
 clear O1 C1 L1 Y1 O2 C2 L2 Y2
 refine zac (i := 43) (m' := 17592186044415) rfl rfl ((vof_any ⟨#[49]⟩ _ (by decide)).mono ?_)
 rintro e w53 ⟨l4, s4, A4, c4, E4, rfl, C4, O4, hb⟩
 refine ⟨_, rfl, hb, ?_⟩
 replace Oe := zQ Oe hb
 replace Op := zQ Op hb
 replace Om := zQ Om hb
 replace Ob := zQ Ob hb
 replace Oh := zQ Oh hb
 replace Ot := zQ Ot hb
 replace O3 := zQ O3 hb
 replace Be := zX Be hb
 replace Bp := zX Bp hb
 replace Bm := zX Bm hb
 replace Bb := zX Bb hb
 replace Bh := zX Bh hb
 replace Bt := zX Bt hb
 replace O4 := hide O4.out.rd
 replace hU := zU hU hU.size hb
 clear hb
 have G4 := zGd E4 (gd_of (by decide +kernel))
 have L4 := zLe G4
 have Y4 := hide G4.by_
 clear G4
 refine zac (i := 44) (m' := 35184372088831) rfl rfl ((rsame_yes A3 A4 l3 l4 c3 c4 s3 s4 _ L3.out L4.out O3.out O4.out (by rw [E3.out, E4.out]; exact (sm_iff _ _).1 (by decide +kernel))).mono ?_)
 rintro e w54 ⟨rfl, hb⟩
 refine ⟨_, rfl, hb, ?_⟩
 replace Oe := zQ Oe hb
 replace Op := zQ Op hb
 replace Om := zQ Om hb
 replace Ob := zQ Ob hb
 replace Oh := zQ Oh hb
 replace Ot := zQ Ot hb
 replace O3 := zQ O3 hb
 replace O4 := zQ O4 hb
 replace Be := zX Be hb
 replace Bp := zX Bp hb
 replace Bm := zX Bm hb
 replace Bb := zX Bb hb
 replace Bh := zX Bh hb
 replace Bt := zX Bt hb
 replace hU := zU hU hU.size hb
 clear hb O3 C3 L3 Y3
 clear O4 C4 L4 Y4
 refine zav (i := 45) (m' := 70368744177663) (v := .bool true) F hQ rfl rfl (zav (i := 46) (m' := 140737488355327) (v := .bool true) F hQ rfl rfl (zav (i := 47) (m' := 281474976710655) (v := .func (.func 11) #[] #[]) F hQ rfl rfl ?_))
 refine zac (i := 48) (m' := 562949953421311) rfl rfl ((vint4_any (-3) true _ (by decide) (by decide)).mono ?_)
 rintro e w55 ⟨l1, s1, A1, c1, E1, rfl, C1, O1, hb⟩
 refine ⟨_, rfl, hb, ?_⟩
 replace Oe := zQ Oe hb
 replace Op := zQ Op hb
 replace Om := zQ Om hb
 replace Ob := zQ Ob hb
 replace Oh := zQ Oh hb
 replace Ot := zQ Ot hb
 replace Be := zX Be hb
 replace Bp := zX Bp hb
 replace Bm := zX Bm hb
 replace Bb := zX Bb hb
 replace Bh := zX Bh hb
 replace Bt := zX Bt hb
 replace O1 := hide O1.out.rd
 replace hU := zU hU hU.size hb
 clear hb
 have G1 := zGd E1 (gd_of (by decide +kernel))
 have L1 := zLe G1
 have Y1 := hide G1.by_
 clear G1
 refine zac (i := 49) (m' := 1125899906842623) rfl rfl ((vint4_any 2 true _ (by decide) (by decide)).mono ?_)
 rintro e w56 ⟨l2, s2, A2, c2, E2, rfl, C2, O2, hb⟩
 refine ⟨_, rfl, hb, ?_⟩
 replace Oe := zQ Oe hb
 replace Op := zQ Op hb
 replace Om := zQ Om hb
 replace Ob := zQ Ob hb
 replace Oh := zQ Oh hb
 replace Ot := zQ Ot hb
 replace O1 := zQ O1 hb
 replace Be := zX Be hb
 replace Bp := zX Bp hb
 replace Bm := zX Bm hb
 replace Bb := zX Bb hb
 replace Bh := zX Bh hb
 replace Bt := zX Bt hb
 replace O2 := hide O2.out.rd
 replace hU := zU hU hU.size hb
 clear hb
 have G2 := zGd E2 (gd_of (by decide +kernel))
 have L2 := zLe G2
 have Y2 := hide G2.by_
 clear G2
 refine zac (i := 50) (m' := 2251799813685247) rfl rfl ((vDiv_any A1 A2 l1 l2 c1 c2 s1 s2 _ L1.out L2.out C1 C2 O1.out O2.out Y1.out Y2.out).mono ?_)
 rintro e w57 ⟨l3, s3, A3, c3, E3, rfl, C3, O3, hb⟩
 refine ⟨_, rfl, hb, ?_⟩
 replace Oe := zQ Oe hb
 replace Op := zQ Op hb
 replace Om := zQ Om hb
 replace Ob := zQ Ob hb
 replace Oh := zQ Oh hb
 replace Ot := zQ Ot hb
 replace O1 := zQ O1 hb
 replace O2 := zQ O2 hb
 replace Be := zX Be hb
 replace Bp := zX Bp hb
 replace Bm := zX Bm hb
 replace Bb := zX Bb hb
 replace Bh := zX Bh hb
 replace Bt := zX Bt hb
 replace O3 := hide O3.out.rd
 replace hU := zU hU hU.size hb
 clear hb
 have G3 := zGd E3 ((by rw [E1.out, E2.out]; exact gd_of (by decide +kernel)))
 have L3 := zLe G3
 have Y3 := hide G3.by_
 clear G3
 replace E3 := hide (show (⟨l3, s3⟩ : Vc) = vDiv ⟨fb (vz 4 (-3)), true⟩ ⟨fb (vz 4 2), true⟩ from E3.out.trans (by rw [E1.out, E2.out]))
 clear O1 C1 L1 Y1 O2 C2 L2 Y2
 refine zac (i := 51) (m' := 4503599627370495) rfl rfl ((vint4_any (-1) true _ (by decide) (by decide)).mono ?_)
 rintro e w58 ⟨l4, s4, A4, c4, E4, rfl, C4, O4, hb⟩
 refine ⟨_, rfl, hb, ?_⟩
 replace Oe := zQ Oe hb
 replace Op := zQ Op hb
 replace Om := zQ Om hb
 replace Ob := zQ Ob hb
 replace Oh := zQ Oh hb
 replace Ot := zQ Ot hb
 replace O3 := zQ O3 hb
 replace Be := zX Be hb
 replace Bp := zX Bp hb
 replace Bm := zX Bm hb
 replace Bb := zX Bb hb
 replace Bh := zX Bh hb
 replace Bt := zX Bt hb
 replace O4 := hide O4.out.rd
 replace hU := zU hU hU.size hb
 clear hb
 have G4 := zGd E4 (gd_of (by decide +kernel))
 have L4 := zLe G4
 have Y4 := hide G4.by_
 clear G4
 refine zac (i := 52) (m' := 9007199254740991) rfl rfl ((rsame_yes A3 A4 l3 l4 c3 c4 s3 s4 _ L3.out L4.out O3.out O4.out (by rw [E3.out, E4.out]; exact (sm_iff _ _).1 (by decide +kernel))).mono ?_)
 rintro e w59 ⟨rfl, hb⟩
 refine ⟨_, rfl, hb, ?_⟩
 replace Oe := zQ Oe hb
 replace Op := zQ Op hb
 replace Om := zQ Om hb
 replace Ob := zQ Ob hb
 replace Oh := zQ Oh hb
 replace Ot := zQ Ot hb
 replace O3 := zQ O3 hb
 replace O4 := zQ O4 hb
 replace Be := zX Be hb
 replace Bp := zX Bp hb
 replace Bm := zX Bm hb
 replace Bb := zX Bb hb
 replace Bh := zX Bh hb
 replace Bt := zX Bt hb
 replace hU := zU hU hU.size hb
 clear hb O3 C3 L3 Y3
 clear O4 C4 L4 Y4
 refine zav (i := 53) (m' := 18014398509481983) (v := .bool true) F hQ rfl rfl (zav (i := 54) (m' := 36028797018963967) (v := .bool true) F hQ rfl rfl (zav (i := 55) (m' := 72057594037927935) (v := .func (.func 11) #[] #[]) F hQ rfl rfl ?_))
 refine zac (i := 56) (m' := 144115188075855871) rfl rfl ((vsof_any ⟨#[49, 48, 48, 48]⟩ _ (by decide)).mono ?_)
 rintro e w60 ⟨l1, s1, A1, c1, E1, rfl, C1, O1, hb⟩
 refine ⟨_, rfl, hb, ?_⟩
 replace Oe := zQ Oe hb
 replace Op := zQ Op hb
 replace Om := zQ Om hb
 replace Ob := zQ Ob hb
 replace Oh := zQ Oh hb
 replace Ot := zQ Ot hb
 replace Be := zX Be hb
 replace Bp := zX Bp hb
 replace Bm := zX Bm hb
 replace Bb := zX Bb hb
 replace Bh := zX Bh hb
 replace Bt := zX Bt hb
 replace O1 := hide O1.out.rd
 replace hU := zU hU hU.size hb
 clear hb
 have G1 := zGd E1 (gd_of (by decide +kernel))
 have L1 := zLe G1
 have Y1 := hide G1.by_
 clear G1
 refine zac (i := 57) (m' := 288230376151711743) rfl rfl ((vof_any ⟨#[49]⟩ _ (by decide)).mono ?_)
 rintro e w61 ⟨l2, s2, A2, c2, E2, rfl, C2, O2, hb⟩
 refine ⟨_, rfl, hb, ?_⟩
 replace Oe := zQ Oe hb
 replace Op := zQ Op hb
 replace Om := zQ Om hb
 replace Ob := zQ Ob hb
 replace Oh := zQ Oh hb
 replace Ot := zQ Ot hb
 replace O1 := zQ O1 hb
 replace Be := zX Be hb
 replace Bp := zX Bp hb
 replace Bm := zX Bm hb
 replace Bb := zX Bb hb
 replace Bh := zX Bh hb
 replace Bt := zX Bt hb
 replace O2 := hide O2.out.rd
 replace hU := zU hU hU.size hb
 clear hb
 have G2 := zGd E2 (gd_of (by decide +kernel))
 have L2 := zLe G2
 have Y2 := hide G2.by_
 clear G2
 refine zac (i := 58) (m' := 576460752303423487) rfl rfl ((vAShr_any A1 A2 l1 l2 c1 c2 s1 s2 _ L1.out L2.out C1 C2 O1.out O2.out Y1.out Y2.out).mono ?_)
 rintro e w62 ⟨l3, s3, A3, c3, E3, rfl, C3, O3, hb⟩
 refine ⟨_, rfl, hb, ?_⟩
 replace Oe := zQ Oe hb
 replace Op := zQ Op hb
 replace Om := zQ Om hb
 replace Ob := zQ Ob hb
 replace Oh := zQ Oh hb
 replace Ot := zQ Ot hb
 replace O1 := zQ O1 hb
 replace O2 := zQ O2 hb
 replace Be := zX Be hb
 replace Bp := zX Bp hb
 replace Bm := zX Bm hb
 replace Bb := zX Bb hb
 replace Bh := zX Bh hb
 replace Bt := zX Bt hb
 replace O3 := hide O3.out.rd
 replace hU := zU hU hU.size hb
 clear hb
 have G3 := zGd E3 ((by rw [E1.out, E2.out]; exact gd_of (by decide +kernel)))
 have L3 := zLe G3
 have Y3 := hide G3.by_
 clear G3
 replace E3 := hide (show (⟨l3, s3⟩ : Vc) = shf mAShr ⟨ofB ⟨#[49, 48, 48, 48]⟩, true⟩ ⟨ofB ⟨#[49]⟩, false⟩ from E3.out.trans (by rw [E1.out, E2.out]))
 clear O1 C1 L1 Y1 O2 C2 L2 Y2
 refine zac (i := 59) (m' := 1152921504606846975) rfl rfl ((vsof_any ⟨#[49, 49, 48, 48]⟩ _ (by decide)).mono ?_)
 rintro e w63 ⟨l4, s4, A4, c4, E4, rfl, C4, O4, hb⟩
 refine ⟨_, rfl, hb, ?_⟩
 replace Oe := zQ Oe hb
 replace Op := zQ Op hb
 replace Om := zQ Om hb
 replace Ob := zQ Ob hb
 replace Oh := zQ Oh hb
 replace Ot := zQ Ot hb
 replace O3 := zQ O3 hb
 replace Be := zX Be hb
 replace Bp := zX Bp hb
 replace Bm := zX Bm hb
 replace Bb := zX Bb hb
 replace Bh := zX Bh hb
 replace Bt := zX Bt hb
 replace O4 := hide O4.out.rd
 replace hU := zU hU hU.size hb
 clear hb
 have G4 := zGd E4 (gd_of (by decide +kernel))
 have L4 := zLe G4
 have Y4 := hide G4.by_
 clear G4
 refine zac (i := 60) (m' := 2305843009213693951) rfl rfl ((rsame_yes A3 A4 l3 l4 c3 c4 s3 s4 _ L3.out L4.out O3.out O4.out (by rw [E3.out, E4.out]; exact (sm_iff _ _).1 (by decide +kernel))).mono ?_)
 rintro e w64 ⟨rfl, hb⟩
 refine ⟨_, rfl, hb, ?_⟩
 replace Oe := zQ Oe hb
 replace Op := zQ Op hb
 replace Om := zQ Om hb
 replace Ob := zQ Ob hb
 replace Oh := zQ Oh hb
 replace Ot := zQ Ot hb
 replace O3 := zQ O3 hb
 replace O4 := zQ O4 hb
 replace Be := zX Be hb
 replace Bp := zX Bp hb
 replace Bm := zX Bm hb
 replace Bb := zX Bb hb
 replace Bh := zX Bh hb
 replace Bt := zX Bt hb
 replace hU := zU hU hU.size hb
 clear hb O3 C3 L3 Y3
 clear O4 C4 L4 Y4
 refine zav (i := 61) (m' := 4611686018427387903) (v := .bool true) F hQ rfl rfl (zav (i := 62) (m' := 9223372036854775807) (v := .bool true) F hQ rfl rfl (zav (i := 63) (m' := 18446744073709551615) (v := .func (.func 11) #[] #[]) F hQ rfl rfl (anyR_ldvec (i := 64) (m' := 36893488147419103231) Bh0.out F hQ rfl rfl (by kernel_rfl) (by kernel_rfl) (by kernel_rfl) (by kernel_rfl) (by kernel_rfl) rfl (by kernel_rfl) ?_)))
 refine zac (i := 65) (m' := 73786976294838206463) rfl rfl ((vof_any ⟨#[49, 48, 48, 122, 49]⟩ _ (by decide)).mono ?_)
 rintro e w65 ⟨l1, s1, A1, c1, E1, rfl, C1, O1, hb⟩
 refine ⟨_, rfl, hb, ?_⟩
 replace Oe := zQ Oe hb
 replace Op := zQ Op hb
 replace Om := zQ Om hb
 replace Ob := zQ Ob hb
 replace Oh := zQ Oh hb
 replace Ot := zQ Ot hb
 replace Be := zX Be hb
 replace Bp := zX Bp hb
 replace Bm := zX Bm hb
 replace Bb := zX Bb hb
 replace Bh := zX Bh hb
 replace Bt := zX Bt hb
 replace O1 := hide O1.out.rd
 replace hU := zU hU hU.size hb
 clear hb
 have G1 := zGd E1 (gd_of (by decide +kernel))
 have L1 := zLe G1
 have Y1 := hide G1.by_
 clear G1
 refine zac (i := 66) (m' := 147573952589676412927) rfl rfl ((rsame_yes Ah A1 lh l1 ch c1 sh s1 _ Lh.out L1.out Oh.out O1.out (by rw [Eh.out, E1.out]; exact (sm_iff _ _).1 (by decide +kernel))).mono ?_)
 rintro e w66 ⟨rfl, hb⟩
 refine ⟨_, rfl, hb, ?_⟩
 replace Oe := zQ Oe hb
 replace Op := zQ Op hb
 replace Om := zQ Om hb
 replace Ob := zQ Ob hb
 replace Oh := zQ Oh hb
 replace Ot := zQ Ot hb
 replace O1 := zQ O1 hb
 replace Be := zX Be hb
 replace Bp := zX Bp hb
 replace Bm := zX Bm hb
 replace Bb := zX Bb hb
 replace Bh := zX Bh hb
 replace Bt := zX Bt hb
 replace hU := zU hU hU.size hb
 clear hb O1 C1 L1 Y1
 refine zav (i := 67) (m' := 295147905179352825855) (v := .bool true) F hQ rfl rfl (zav (i := 68) (m' := 590295810358705651711) (v := .bool true) F hQ rfl rfl (zav (i := 69) (m' := 1180591620717411303423) (v := .func (.func 11) #[] #[]) F hQ rfl rfl (anyR_ldvec (i := 70) (m' := 2361183241434822606847) Bt0.out F hQ rfl rfl (by kernel_rfl) (by kernel_rfl) (by kernel_rfl) (by kernel_rfl) (by kernel_rfl) rfl (by kernel_rfl) ?_)))
 refine zac (i := 71) (m' := 4722366482869645213695) rfl rfl ((vof_any ⟨#[120, 49, 48]⟩ _ (by decide)).mono ?_)
 rintro e w67 ⟨l1, s1, A1, c1, E1, rfl, C1, O1, hb⟩
 refine ⟨_, rfl, hb, ?_⟩
 replace Oe := zQ Oe hb
 replace Op := zQ Op hb
 replace Om := zQ Om hb
 replace Ob := zQ Ob hb
 replace Oh := zQ Oh hb
 replace Ot := zQ Ot hb
 replace Be := zX Be hb
 replace Bp := zX Bp hb
 replace Bm := zX Bm hb
 replace Bb := zX Bb hb
 replace Bh := zX Bh hb
 replace Bt := zX Bt hb
 replace O1 := hide O1.out.rd
 replace hU := zU hU hU.size hb
 clear hb
 have G1 := zGd E1 (gd_of (by decide +kernel))
 have L1 := zLe G1
 have Y1 := hide G1.by_
 clear G1
 refine zac (i := 72) (m' := 9444732965739290427391) rfl rfl ((rsame_yes At A1 lt l1 ct c1 st s1 _ Lt.out L1.out Ot.out O1.out (by rw [Et.out, E1.out]; exact (sm_iff _ _).1 (by decide +kernel))).mono ?_)
 rintro e w68 ⟨rfl, hb⟩
 refine ⟨_, rfl, hb, ?_⟩
 replace Oe := zQ Oe hb
 replace Op := zQ Op hb
 replace Om := zQ Om hb
 replace Ob := zQ Ob hb
 replace Oh := zQ Oh hb
 replace Ot := zQ Ot hb
 replace O1 := zQ O1 hb
 replace Be := zX Be hb
 replace Bp := zX Bp hb
 replace Bm := zX Bm hb
 replace Bb := zX Bb hb
 replace Bh := zX Bh hb
 replace Bt := zX Bt hb
 replace hU := zU hU hU.size hb
 clear hb O1 C1 L1 Y1
 refine zav (i := 73) (m' := 18889465931478580854783) (v := .bool true) F hQ rfl rfl (zav (i := 74) (m' := 37778931862957161709567) (v := .bool true) F hQ rfl rfl (zav (i := 75) (m' := 75557863725914323419135) (v := .func (.func 11) #[] #[]) F hQ rfl rfl ?_))
 refine zac (i := 76) (m' := 151115727451828646838271) rfl rfl ((vof_any ⟨#[120]⟩ _ (by decide)).mono ?_)
 rintro e w69 ⟨l0, s0, A0, c0, E0, rfl, C0, O0, hb⟩
 refine ⟨_, rfl, hb, ?_⟩
 replace Oe := zQ Oe hb
 replace Op := zQ Op hb
 replace Om := zQ Om hb
 replace Ob := zQ Ob hb
 replace Oh := zQ Oh hb
 replace Ot := zQ Ot hb
 replace Be := zX Be hb
 replace Bp := zX Bp hb
 replace Bm := zX Bm hb
 replace Bb := zX Bb hb
 replace Bh := zX Bh hb
 replace Bt := zX Bt hb
 replace O0 := hide O0.out.rd
 replace hU := zU hU hU.size hb
 clear hb
 have G0 := zGd E0 (gd_of (by decide +kernel))
 have L0 := zLe G0
 have Y0 := hide G0.by_
 clear G0
 refine zac (i := 77) (m' := 302231454903657293676543) rfl rfl ((vof_any ⟨#[49, 48, 49, 48]⟩ _ (by decide)).mono ?_)
 rintro e w70 ⟨l1, s1, A1, c1, E1, rfl, C1, O1, hb⟩
 refine ⟨_, rfl, hb, ?_⟩
 replace Oe := zQ Oe hb
 replace Op := zQ Op hb
 replace Om := zQ Om hb
 replace Ob := zQ Ob hb
 replace Oh := zQ Oh hb
 replace Ot := zQ Ot hb
 replace O0 := zQ O0 hb
 replace Be := zX Be hb
 replace Bp := zX Bp hb
 replace Bm := zX Bm hb
 replace Bb := zX Bb hb
 replace Bh := zX Bh hb
 replace Bt := zX Bt hb
 replace O1 := hide O1.out.rd
 replace hU := zU hU hU.size hb
 clear hb
 have G1 := zGd E1 (gd_of (by decide +kernel))
 have L1 := zLe G1
 have Y1 := hide G1.by_
 clear G1
 refine zac (i := 78) (m' := 604462909807314587353087) rfl rfl ((vof_any ⟨#[49, 48, 48, 49]⟩ _ (by decide)).mono ?_)
 rintro e w71 ⟨l2, s2, A2, c2, E2, rfl, C2, O2, hb⟩
 refine ⟨_, rfl, hb, ?_⟩
 replace Oe := zQ Oe hb
 replace Op := zQ Op hb
 replace Om := zQ Om hb
 replace Ob := zQ Ob hb
 replace Oh := zQ Oh hb
 replace Ot := zQ Ot hb
 replace O0 := zQ O0 hb
 replace O1 := zQ O1 hb
 replace Be := zX Be hb
 replace Bp := zX Bp hb
 replace Bm := zX Bm hb
 replace Bb := zX Bb hb
 replace Bh := zX Bh hb
 replace Bt := zX Bt hb
 replace O2 := hide O2.out.rd
 replace hU := zU hU hU.size hb
 clear hb
 have G2 := zGd E2 (gd_of (by decide +kernel))
 have L2 := zLe G2
 have Y2 := hide G2.by_
 clear G2
 refine zac (i := 79) (m' := 1208925819614629174706175) rfl rfl ((vCond_any A0 l0 c0 s0 A1 A2 l1 l2 c1 c2 s1 s2 _ L1.out L2.out C1 C2 O1.out O2.out Y1.out Y2.out L0.out C0 O0.out Y0.out (HT.out.kept hU)).mono ?_)
 rintro e w72 ⟨l3, s3, A3, c3, E3, rfl, C3, O3, hb⟩
 refine ⟨_, rfl, hb, ?_⟩
 replace Oe := zQ Oe hb
 replace Op := zQ Op hb
 replace Om := zQ Om hb
 replace Ob := zQ Ob hb
 replace Oh := zQ Oh hb
 replace Ot := zQ Ot hb
 replace O0 := zQ O0 hb
 replace O1 := zQ O1 hb
 replace O2 := zQ O2 hb
 replace Be := zX Be hb
 replace Bp := zX Bp hb
 replace Bm := zX Bm hb
 replace Bb := zX Bb hb
 replace Bh := zX Bh hb
 replace Bt := zX Bt hb
 replace O3 := hide O3.out.rd
 replace hU := zU hU hU.size hb
 clear hb
 have G3 := zGd E3 ((by rw [E0.out, E1.out, E2.out]; exact gd_of (by decide +kernel)))
 have L3 := zLe G3
 have Y3 := hide G3.by_
 clear G3
 replace E3 := hide (show (⟨l3, s3⟩ : Vc) = vCond ⟨ofB ⟨#[120]⟩, false⟩ ⟨ofB ⟨#[49, 48, 49, 48]⟩, false⟩ ⟨ofB ⟨#[49, 48, 48, 49]⟩, false⟩ from E3.out.trans (by rw [E0.out, E1.out, E2.out]))
 clear O0 C0 L0 Y0 O1 C1 L1 Y1
 clear O2 C2 L2 Y2
 refine zac (i := 80) (m' := 2417851639229258349412351) rfl rfl ((vof_any ⟨#[49, 48, 120, 120]⟩ _ (by decide)).mono ?_)
 rintro e w73 ⟨l4, s4, A4, c4, E4, rfl, C4, O4, hb⟩
 refine ⟨_, rfl, hb, ?_⟩
 replace Oe := zQ Oe hb
 replace Op := zQ Op hb
 replace Om := zQ Om hb
 replace Ob := zQ Ob hb
 replace Oh := zQ Oh hb
 replace Ot := zQ Ot hb
 replace O3 := zQ O3 hb
 replace Be := zX Be hb
 replace Bp := zX Bp hb
 replace Bm := zX Bm hb
 replace Bb := zX Bb hb
 replace Bh := zX Bh hb
 replace Bt := zX Bt hb
 replace O4 := hide O4.out.rd
 replace hU := zU hU hU.size hb
 clear hb
 have G4 := zGd E4 (gd_of (by decide +kernel))
 have L4 := zLe G4
 have Y4 := hide G4.by_
 clear G4
 refine zac (i := 81) (m' := 4835703278458516698824703) rfl rfl ((rsame_yes A3 A4 l3 l4 c3 c4 s3 s4 _ L3.out L4.out O3.out O4.out (by rw [E3.out, E4.out]; exact (sm_iff _ _).1 (by decide +kernel))).mono ?_)
 rintro e w74 ⟨rfl, hb⟩
 refine ⟨_, rfl, hb, ?_⟩
 replace Oe := zQ Oe hb
 replace Op := zQ Op hb
 replace Om := zQ Om hb
 replace Ob := zQ Ob hb
 replace Oh := zQ Oh hb
 replace Ot := zQ Ot hb
 replace O3 := zQ O3 hb
 replace O4 := zQ O4 hb
 replace Be := zX Be hb
 replace Bp := zX Bp hb
 replace Bm := zX Bm hb
 replace Bb := zX Bb hb
 replace Bh := zX Bh hb
 replace Bt := zX Bt hb
 replace hU := zU hU hU.size hb
 clear hb O3 C3 L3 Y3
 clear O4 C4 L4 Y4
 refine zav (i := 82) (m' := 9671406556917033397649407) (v := .bool true) F hQ rfl rfl (anyR_e (anyR_last (i := 83) (m' := 19342813113834066795298815) (v := .bool true) rfl rfl (by kernel_rfl) (by kernel_rfl) (by kernel_rfl) (by kernel_rfl) (by kernel_rfl) (anyE_done (by kernel_rfl) ?_)))
 clear F hQ Be0 Bp0 Bm0 Bb0 Bh0 Bt0
 refine then_normal (wp_ret ?_)
 refine (show bodyPost _ _ _ .ret _ _ from ret_sl (.bool true) rfl (by kernel_rfl) ?_)
 exact ⟨rfl, hU⟩
end
section
open Go Go.RowKit
set_option maxRecDepth 100000
set_option linter.unusedSimpArgs false
set_option linter.unusedVariables false
section
variable {P : Program} {ρ : Operand → Value} {o : Oper} {x y : Operand} {w : World} {t p : TypeId} {a b c : Int}
theorem wrap_id {c : Int} (h1 : -9223372036854775808 ≤ c) (h2 : c ≤ 9223372036854775807) : IntKind.wrap .i64 c = c := by
  simp only [IntKind.wrap, IntKind.bits, IntKind.signed]
  simp
  omega
theorem run_add (ho : o.op = .binOp .add t x y p) (hx : ρ x = .int .i64 a) (hy : ρ y = .int .i64 b) (hc : a + b = c) (h1 : -9223372036854775808 ≤ c) (h2 : c ≤ 9223372036854775807) : (execOp ρ o).run P w = .ok (.value (.int .i64 c)) w := by
  unfold execOp
  rw [ho]
  simp only [hx, hy]
  have e : (Value.int .i64 (IntKind.wrap .i64 (a + b))) = .int .i64 c := by rw [hc, wrap_id h1 h2]
  rw [← e]
  rfl
theorem run_sub (ho : o.op = .binOp .sub t x y p) (hx : ρ x = .int .i64 a) (hy : ρ y = .int .i64 b) (hc : a - b = c) (h1 : -9223372036854775808 ≤ c) (h2 : c ≤ 9223372036854775807) : (execOp ρ o).run P w = .ok (.value (.int .i64 c)) w := by
  unfold execOp
  rw [ho]
  simp only [hx, hy]
  have e : (Value.int .i64 (IntKind.wrap .i64 (a - b))) = .int .i64 c := by rw [hc, wrap_id h1 h2]
  rw [← e]
  rfl
theorem run_max {ts : Array TypeId} (ho : o.op = .call { callee := .builtin .max, args := #[x, y], argTypes := ts }) (hx : ρ x = .int .i64 a) (hy : ρ y = .int .i64 b) (hc : (if b > a then b else a) = c) : (execOp ρ o).run P w = .ok (.value (.int .i64 c)) w := by
  subst hc
  unfold execOp
  rw [ho]
  simp [go_sem, hx, hy]
  try rfl
end
end
section
open Go Go.RowKit
set_option maxRecDepth 100000
set_option linter.unusedSimpArgs false
set_option linter.unusedVariables false
section
variable {P : Program} {Q : Exit → Act → World → Prop} {c : Code} {n : Nat}
/-- A loop of at most N rounds, with what holds ahead of the k-th. -/
theorem loop_inv {N : Nat} (I : Nat → Env → World → Prop) (hstep : ∀ k E w (next : Act → World → Prop), k ≤ N → I k E w → (∀ E' w', k < N → I (k + 1) E' w' → next (sl n E') w') → c.wp P (Exit.then next Q) (sl n E) w) :
    ∀ m k E w, k ≤ N → N < k + m → I k E w → Code.rounds P c Q m (sl n E) w
  | 0, k, E, w, h1, h2, _ => absurd h2 (by omega)
  | m + 1, k, E, w, h1, h2, hI => round_s (hstep k E w _ h1 hI fun E' w' hlt hI' => loop_inv I hstep m (k + 1) E' w' (by omega) (by omega) hI')
end
section
variable {P : Program} {ρ : Operand → Value} {o : Oper} {x y : Operand} {w : World} {t p : TypeId} {a b : Int}
theorem run_lss (ho : o.op = .binOp .lss t x y p) (hx : ρ x = .int .i64 a) (hy : ρ y = .int .i64 b) {q : Bool} (hc : decide (a < b) = q) : (execOp ρ o).run P w = .ok (.value (.bool q)) w := by
  subst hc
  unfold execOp
  rw [ho]
  simp only [hx, hy]
  rfl
theorem run_ix {A : Option Addr} {ad : Addr} {m cc k : Nat} (ho : o.op = .indexAddr 22 x y) (hx : ρ x = .slice A m cc) (hA : A = some ad) (hy : ρ y = .int .i64 k) (hk : k < m) : (execOp ρ o).run Tryz.prog w = .ok (.value (.pointer (some (ad.add k)))) w := by
  subst hA
  have h1 : (0 : Int) ≤ k := by omega
  have h2 : (k : Int) < m := by omega
  unfold execOp
  rw [ho]
  simp only [hx, hy]
  simp [go_sem, h1, h2, hk]
theorem run_ldbit {ad : Addr} {z : Int} (ho : o.op = .load 65 x) (hx : ρ x = .pointer (some ad)) (hc : w.cell? ad = some (.int .u8 z)) : (execOp ρ o).run Tryz.prog w = .ok (.value (.int .u8 z)) w := by
  unfold execOp
  rw [ho]
  simp only [hx]
  simp [go_sem, hc]
end
/-- The place of a bit, and the bit, at every world to come. -/
theorem RQ.bit {w : World} {A : Option Addr} {l : List Int} (h : RQ w A l) {i : Nat} (hi : i < l.length) : ∃ ad, A = some ad ∧ ∀ w', Below w.heap.size w w' → w'.cell? (ad.add i) = some (.int .u8 (qt l i)) := by
  obtain ⟨ad, e, hl, hc⟩ := h.at_ hi
  exact ⟨ad, e, fun w' hb => (hb.cell (p := ad.add i) (by rw [block_of_add]; exact hl)).trans hc⟩
end
section
open Go Go.RowKit
set_option maxRecDepth 100000
set_option linter.unusedSimpArgs false
set_option linter.unusedVariables false
section
variable {P : Program} {ops : Array Oper} {Q : Exit → Act → World → Prop} {S : World → Prop} {n fuel m k : Nat} {E : Env} {w : World}
def ganyE (P : Program) (ops : Array Oper) (Q : Exit → Act → World → Prop) (S : World → Prop) (n fuel m k : Nat) (E : Env) (w : World) : Prop :=
  anyT P .any ops Q S n fuel (lsm ops.size m) (sl k E) w
def ganyR (P : Program) (ops : Array Oper) (Q : Exit → Act → World → Prop) (S : World → Prop) (n fuel m k : Nat) (E : Env) (w : World) : Prop :=
  S w → HeadInv .any ops n (lsm ops.size m) → ganyE P ops Q S n fuel m k E w
theorem gregion {id n N k : Nat} {E : Env} {w : World} (S : World → Prop) (hm : P.follows .mixedOrders = true) (hN : ops.size = N) (ns : Region.noSelect ops = true) (sk : Region.sinkB .any ops n = true) (ch : Region.chainB .any ops n = true) (lt : Nat.blt n N = true) (hS : S w.drew)
    (hQ : ∀ c a d v w, Q (.panic c) (Act.put a (some d) v) w → Q (.panic c) a w) (h : Rg ops n → (∀ c a d v w, Q (.panic c) (Act.put a (some d) v) w → Q (.panic c) a w) → ganyR P ops Q S n N 0 k E w.drew) : (Code.region id ops true).wp P Q (sl k E) w := by
  refine region_anyT (S := S) (n := n) hm hS fun hS inv => ?_
  rw [lsm_zero] at inv ⊢
  subst hN
  exact h (Rg.of ns sk ch (Nat.le_of_ble_eq_true lt)) hQ hS inv
theorem gany_val {i d m' : Nat} {o : Oper} {v : Value} (F : Rg ops n) (hQ : ∀ c a d v w, Q (.panic c) (Act.put a (some d) v) w → Q (.panic c) a w) (hi : ops[i]? = some o) (hd : o.dst = some d) (hin : Nat.blt i n = true) (hf : freeB ops ops.size m i o = true) (hr : rdyB ops ops.size m i = true)
    (hw : wnt ops k E o = true) (hm : Nat.lor m (Nat.shiftLeft 1 i) = m') (hy : ∀ w', S w' → (execOp (evl k E) o).run P w' = .ok (.value v) w') (h : ganyR P ops Q S n fuel m' k ((d, v) :: E) w) : ganyR P ops Q S n (fuel + 1) m k E w := fun hS inv => by
  unfold ganyE
  have hin' : i < n := Nat.le_of_ble_eq_true hin
  refine anyT_takeR F hi hin' (freeB_spec hi hf) (by simpa using rdyB_iff.1 hr) inv (v := v) ?_ (Or.inl ⟨by rw [wanted_sl]; exact hw, fun w' hw' => by rw [eval_sl]; exact hy w' hw'⟩) hS fun inv' => ?_
  · intro c a w hq
    rw [hd] at hq
    exact hQ _ _ _ _ _ hq
  · rw [lsm_set, show m ||| 1 <<< i = m' from hm] at inv' ⊢
    rw [hd, put_sl]
    exact h hS inv'
/-- An operation's turn has come: what is left to show. -/
def GStep (P : Program) (ops : Array Oper) (Q : Exit → Act → World → Prop) (S : World → Prop) (n fuel m k : Nat) (E : Env) (w : World) (i : Nat) : Prop :=
  S w → HeadInv .any ops n (lsm ops.size m) → i ∈ Region.ready .any ops (lsm ops.size m) → wpOp P ops Q i (fun a' w' => (i < n → S w') ∧ anyT P .any ops Q S n fuel ((lsm ops.size m).setIfInBounds i true) a' w') (sl k E) w
theorem gany_one {i : Nat} (hr : onlyB ops ops.size m i = true) (h : GStep P ops Q S n fuel m k E w i) : ganyR P ops Q S n (fuel + 1) m k E w := fun hS inv => by
  unfold ganyE
  obtain ⟨h1, h2⟩ := onlyB_spec hr
  refine ⟨fun h0 => (by rw [h0] at h1; cases h1), fun j hj => ?_⟩
  obtain rfl := h2 j hj
  exact h hS inv hj
theorem gstep_val {i d m' : Nat} {o : Oper} {v : Value} {w' : World} (hi : ops[i]? = some o) (hd : o.dst = some d) (hin : Nat.blt i n = true) (hw : wnt ops k E o = true) (hm : Nat.lor m (Nat.shiftLeft 1 i) = m')
    (hr : (execOp (evl k E) o).run P w = .ok (.value v) w') (hb : S w → S w') (h : ganyR P ops Q S n fuel m' k ((d, v) :: E) w') : GStep P ops Q S n fuel m k E w i := fun hS inv hj => by
  have hin' : i < n := Nat.le_of_ble_eq_true hin
  refine wpOp_step hi fun K hK => ?_
  rw [wanted_sl, hw, if_pos rfl]
  unfold Oper.wp
  rw [eval_sl, hr, Oper.upon_value]
  have hS' := hb hS
  refine hK _ _ ⟨fun _ => hS', ?_⟩
  have inv' := inv.set hj hin'
  rw [lsm_set, show m ||| 1 <<< i = m' from hm] at inv' ⊢
  rw [hd, put_sl]
  exact h hS' inv'
theorem gany_e (h : ganyE P ops Q S n fuel m k E w) : ganyR P ops Q S n fuel m k E w := fun _ _ => h
/-- The forced end: an operation that yields nothing (a store). -/
theorem gany_none {i m' : Nat} {o : Oper} {w' : World} (hi : ops[i]? = some o) (hd : o.dst = none) (ho : onlyB ops ops.size m i = true) (hw : wnt ops k E o = true) (hm : Nat.lor m (Nat.shiftLeft 1 i) = m')
    (hin : Nat.ble n i = true) (hr : (execOp (evl k E) o).run P w = .ok .skip w') (h : ganyE P ops Q S n fuel m' k E w') : ganyE P ops Q S n (fuel + 1) m k E w := by
  unfold ganyE
  obtain ⟨h1, h2⟩ := onlyB_spec ho
  refine ⟨fun h0 => (by rw [h0] at h1; cases h1), fun j hj => ?_⟩
  obtain rfl := h2 j hj
  refine wpOp_step hi fun K hK => ?_
  rw [wanted_sl, hw, if_pos rfl]
  unfold Oper.wp
  rw [eval_sl, hr, Oper.upon_skip]
  have hge : n ≤ j := Nat.le_of_ble_eq_true hin
  refine hK _ _ ⟨fun h0 => absurd h0 (by omega), ?_⟩
  rw [lsm_set, show m ||| 1 <<< j = m' from hm, hd]
  exact h
theorem gany_done (hr : noneB ops ops.size m = true) (h : Q .normal (sl k E) w) : ganyE P ops Q S n fuel m k E w := anyT_done (noneB_spec hr) h _
end
/-- A slice of bits that may be appended to. -/
structure OwnV (B : Nat) (A : Option Addr) (l : List Int) (c : Nat) (w : World) : Prop where
  own : w.ownsRow B 65 1 (.slice A l.length c) l.length (l.map (Value.int .u8))
theorem OwnV.nil (w : World) (B : Nat) : OwnV B none [] 0 w := ⟨owq_nil w B⟩
theorem OwnV.kept {B : Nat} {A : Option Addr} {l : List Int} {c : Nat} {w w' : World} (h : OwnV B A l c w) (hb : Below w.heap.size w w') : OwnV B A l c w' := ⟨ownsRow_kept h.own hb⟩
theorem OwnV.open_ {B : Nat} {A : Option Addr} {l : List Int} {c : Nat} {w : World} (h : OwnV B A l c w) : Hid (l.length ≤ c ∧ c ≤ maxLen) ∧ Hid (OwQ B w A l) := by
  obtain ⟨A', c', e, h1, h2, h3⟩ := owq_open h.own
  injection e with e1 _ e2
  subst e1
  subst e2
  exact ⟨hide ⟨h1, h2⟩, hide h3⟩
section
variable {Q : Exit → Act → World → Prop} {ops : Array Oper} {o o2 : Oper} {rest : List Oper} {x y x0 : Operand} {w : World} {n d d2 k m fuel i m' B c N : Nat} {E : Env} {A : Option Addr} {l : List Int} {z : Int} {s : Bool} {S : World → Prop} {ρ : Operand → Value}
theorem run_bs1 (ho : o.op = .buildSlice 22 1 #[(0, x)]) (hx : ρ x = .int .u8 z) : (execOp ρ o).run Tryz.prog w = .ok (.value (.slice (some ⟨w.heap.size, 0, none⟩) 1 1)) (w.alloc (.cells #[.int .u8 z] 65)) := by
  unfold execOp
  rw [ho]
  simp [go_sem, hx]
/-- In a drawn region: a bit is made a slice, and the slice is appended. -/
theorem gstep_app (H : OwnV B A l c w) (W : World) (hB : B ≤ w.heap.size) (hl : l.length ≤ 4096) (hA : ∀ w', Below w.heap.size w w' → S w → S w') (hSB : ∀ v v', Below B v v' → S v → S v')
    {j j' : Nat} (hi : ops[i]? = some o) (hd : o.dst = some d) (hin : Nat.blt i n = true) (hw : wnt ops k E o = true) (hm : Nat.lor m (Nat.shiftLeft 1 i) = m') (ho : o.op = .buildSlice 22 1 #[(0, x0)]) (h0 : evl k E x0 = .int .u8 z)
    (hon : onlyB ops ops.size m' j = true) (hj : ops[j]? = some o2) (hd2 : o2.dst = some d2) (hjn : Nat.blt j n = true) (hg2 : o2.guard = none) (hm2 : Nat.lor m' (Nat.shiftLeft 1 j) = j') (ho2 : o2.op = .call { callee := .builtin .append, args := #[x, y], argTypes := #[22, 22] }) (hx : ∀ u : Value, evl k ((d, u) :: E) x = .slice A l.length c) (hy : ∀ u : Value, evl k ((d, u) :: E) y = u)
    (h : ∀ (V : World) (A' : Option Addr) (c' : Nat), OwnV B A' (l ++ [z]) c' V → Below B w V → ganyR Tryz.prog ops Q S n fuel j' k ((d2, .slice A' (l ++ [z]).length c') :: (d, .slice (some ⟨w.heap.size, 0, none⟩) 1 1) :: E) V) : GStep Tryz.prog ops Q S n (fuel + 1) m k E w i := by
  refine gstep_val hi hd hin hw hm (run_bs1 ho h0) (hA _ ((Below.refl _ _).alloc (Nat.le_refl _) _)) (gany_one hon ?_)
  intro hS inv hj2
  have hjn' : j < n := Nat.le_of_ble_eq_true hjn
  refine wpOp_step hj fun K hK => ?_
  have ha : Below B w (w.alloc (.cells #[.int .u8 z] 65)) := (Below.refl _ _).alloc hB _
  refine step_append_q hg2 x y ho2 B (.slice A l.length c) l.length l (by rw [eval_sl]; exact hx _) (H.own.alloc _) (some ⟨w.heap.size, 0, none⟩) 1 1 [z] (by rw [eval_sl]; exact hy _) rfl (one_rq _ _) (by simp; omega) (by simp; omega) ?_
  intro v' w3 hown hb
  obtain ⟨A', c', e, -, -, -⟩ := owq_open hown
  subst e
  have e1 : l.length + 1 = (l ++ [z]).length := by simp
  rw [e1] at hown
  have hS3 : S w3 := hSB _ _ hb hS
  refine hK _ _ ⟨fun _ => hS3, ?_⟩
  have inv' := inv.set hj2 hjn'
  rw [lsm_set, show m' ||| 1 <<< j = j' from hm2] at inv' ⊢
  rw [hd2, put_sl]
  exact h w3 A' c' ⟨hown⟩ (ha.trans hb) hS3 inv'
end
end
section
open Go Go.RowKit
set_option maxRecDepth 100000
set_option linter.unusedSimpArgs false
set_option linter.unusedVariables false
section
variable {Q : Exit → Act → World → Prop} {ops : Array Oper} {o : Oper} {rest : List Oper} {x y : Operand} {w W : World} {N n d m c : Nat} {s : Bool} {E : Env} {A : Option Addr}
theorem wpl_al (hd : o.dst = some d) (hw : wnt ops n E o = true) (ho : o.op = .alloc 24)
    (h : ∀ (V : World) (N : Nat), Box N none 0 0 false V → w.heap.size ≤ N → Below w.heap.size w V → WL Tryz.prog ops Q rest n ((d, .pointer (some ⟨N, 0, none⟩)) :: E) V) : WL Tryz.prog ops Q (o :: rest) n E w :=
  wpl_val hd hw (run_alvec ho) (h _ _ (Box.boxed w none 0 0 false) (Nat.le_refl _) ((Below.refl _ _).alloc (Nat.le_refl _) _))
theorem run_ldsg {ρ : Operand → Value} (ho : o.op = .load 4 x) (hx : ρ x = .pointer (some ⟨N, 1, none⟩)) (B : Box N A m c s w) : (execOp ρ o).run Tryz.prog w = .ok (.value (.bool s)) w := by
  have h1 := B.c1
  unfold execOp
  rw [ho]
  simp only [hx]
  simp [go_sem, h1]
theorem wpl_ldsg (B : Box N A m c s w) (hd : o.dst = some d) (hw : wnt ops n E o = true) (ho : o.op = .load 4 x) (hx : evl n E x = .pointer (some ⟨N, 1, none⟩))
    (h : WL Tryz.prog ops Q rest n ((d, .bool s) :: E) w) : WL Tryz.prog ops Q (o :: rest) n E w := wpl_val hd hw (run_ldsg ho hx B) h
theorem ret_box {fn : Func} {R : Ending → World → Prop} (B : Box N A m c s w) (hf : fn.results = #[.cell d 24]) (hv : (bif Nat.blt d n then lk E d else undef) = .pointer (some ⟨N, 0, none⟩)) (h : R (.returned (vagg A m c s)) w) : bodyPost Tryz.prog fn R .ret (sl n E) w := by
  refine bodyPost_ret (v := vagg A m c s) ?_ rfl h
  have h0 := B.c0
  have h1 := B.c1
  unfold results
  rw [hf]
  simp only [go_sem, List.mapM_toArray, List.mapM_cons, List.mapM_nil]
  have e := tmps_sl n E d
  rw [hv] at e
  rw [Array.getD_eq_getD_getElem?] at e
  simp [go_sem, e, h0, h1]
theorem OwQ.std {B m2 c2 : Nat} {A2 : Option Addr} {s2 : Bool} {V : World} {l : List Int} (h : OwQ B w A l) (hb : ∀ {B : Nat}, B ≤ N → Below B w V) (hN : N < B) (hk : ∀ g, g ≠ N → V.heap[g]? = w.heap[g]?) : OwQ B V A l := fun hn => by
  obtain ⟨g, e, hB, cs, hg, hc⟩ := h hn
  exact ⟨g, e, hB, cs, by rw [hk g (by omega)]; exact hg, hc⟩
end
end
section
open Go Go.RowKit
set_option maxRecDepth 100000
set_option linter.unusedSimpArgs false
set_option linter.unusedVariables false
theorem Box.keptB {N n c B : Nat} {A : Option Addr} {s : Bool} {w w' : World} (h : Box N A n c s w) (hb : Below B w w') (hN : N < B) : Box N A n c s w' :=
  ⟨Nat.lt_of_lt_of_le h.lt hb.size, (hb.cell (p := ⟨N, 0, none⟩) hN).trans h.c0, (hb.cell (p := ⟨N, 1, none⟩) hN).trans h.c1, (hb.frozen (p := ⟨N, 0, none⟩) hN).trans h.f0, (hb.frozen (p := ⟨N, 1, none⟩) hN).trans h.f1⟩
theorem Box.drew' {N n c : Nat} {A : Option Addr} {s : Bool} {w : World} (h : Box N A n c s w) : Box N A n c s w.drew := ⟨h.lt, h.c0, h.c1, h.f0, h.f1⟩
theorem OwnV.drew' {B : Nat} {A : Option Addr} {l : List Int} {c : Nat} {w : World} (h : OwnV B A l c w) : OwnV B A l c w.drew := ⟨h.own⟩
theorem RQ.bitB {wo W : World} {A : Option Addr} {l : List Int} (h : RQ wo A l) (hV : Below wo.heap.size wo W) {B : Nat} (hB : wo.heap.size ≤ B) {i : Nat} (hi : i < l.length) : ∃ ad, A = some ad ∧ ∀ w', Below B W w' → w'.cell? (ad.add i) = some (.int .u8 (qt l i)) := by
  obtain ⟨ad, e, hl, hc⟩ := h.at_ hi
  exact ⟨ad, e, fun w' hb => (hb.cell (p := ad.add i) (by rw [block_of_add]; omega)).trans ((hV.cell (p := ad.add i) (by rw [block_of_add]; exact hl)).trans hc)⟩
section
variable {Q : Exit → Act → World → Prop} {ops : Array Oper} {o o2 : Oper} {rest : List Oper} {x y x0 : Operand} {w W V wo : World} {n d d2 B N m c m2 c2 : Nat} {E : Env} {A A2 : Option Addr} {l l' : List Int} {z : Int} {s s2 : Bool} {ρ : Operand → Value}
theorem run_stsl (ho : o.op = .store 22 x y) (hx : ρ x = .pointer (some ⟨N, 0, none⟩)) (hy : ρ y = .slice A2 m2 c2) (b : Box N A m c s w) : (execOp ρ o).run Tryz.prog w = .ok .skip (w.setCell ⟨N, 0, none⟩ (.slice A2 m2 c2)) := by
  have h0 := b.c0
  have h2 := b.f0
  unfold execOp
  rw [ho]
  simp only [hx, hy]
  simp [go_sem, h0, h2]
theorem fit_next (hV : Below wo.heap.size wo W) (hno : wo.heap.size ≤ N) (b : Box N A m c s W) (hb : Below (N + 1) W V) (H : OwnV (N + 1) A2 (l ++ [z]) c2 V) (hl : l ++ [z] = l') :
    Below wo.heap.size wo (V.setCell ⟨N, 0, none⟩ (.slice A2 (l ++ [z]).length c2)) ∧ ∃ A c, Box N A l'.length c s (V.setCell ⟨N, 0, none⟩ (.slice A2 (l ++ [z]).length c2)) ∧ OwnV (N + 1) A l' c (V.setCell ⟨N, 0, none⟩ (.slice A2 (l ++ [z]).length c2)) := by
  subst hl
  have bV := b.keptB hb (Nat.lt_succ_self _)
  refine ⟨(hV.trans (hb.mono (by omega))).setCell (by exact hno) _, A2, c2, ⟨by simpa using bV.lt, cset_eq bV.c0, cset_ne (by simp) bV.c1, fset bV.f0, fset bV.f1⟩, ⟨ownsRow_setCell_below H.own (by simp) _⟩⟩
theorem wpl_app1q (H : OwnV B A l c w) (hB : B ≤ w.heap.size) (hl : l.length ≤ 4096) (hd : o.dst = some d) (hg : o.guard = none) (ho : o.op = .buildSlice 22 1 #[(0, x0)]) (h0 : evl n E x0 = .int .u8 z)
    (hd2 : o2.dst = some d2) (hg2 : o2.guard = none) (ho2 : o2.op = .call { callee := .builtin .append, args := #[x, y], argTypes := #[22, 22] }) (hx : ∀ u : Value, evl n ((d, u) :: E) x = .slice A l.length c) (hy : ∀ u : Value, evl n ((d, u) :: E) y = u)
    (h : ∀ (V : World) (A' : Option Addr) (c' : Nat), OwnV B A' (l ++ [z]) c' V → Below B w V → WL Tryz.prog ops Q rest n ((d2, .slice A' (l ++ [z]).length c') :: (d, .slice (some ⟨w.heap.size, 0, none⟩) 1 1) :: E) V) : WL Tryz.prog ops Q (o :: o2 :: rest) n E w :=
  wpl_val hd (by unfold wnt; rw [hg]) (run_bs1 ho h0) ⟨wpList_append_q _ hg2 x y ho2 B (.slice A l.length c) l.length l (by rw [eval_sl]; exact hx _) (H.own.alloc _) (some ⟨w.heap.size, 0, none⟩) 1 1 [z] (by rw [eval_sl]; exact hy _) rfl (one_rq _ _) (by simp; omega) (by simp; omega) (fun v' w' hown hb => by
    obtain ⟨A', c', e, -, -, -⟩ := owq_open hown
    subst e
    rw [hd2, put_sl]
    have e1 : l.length + 1 = (l ++ [z]).length := by simp
    rw [e1] at hown
    exact (h w' A' c' ⟨hown⟩ (((Below.refl _ _).alloc hB _).trans hb)).out)⟩
theorem wpl_stq (b : Box N A m c s w) (hd : o.dst = none) (hw : wnt ops n E o = true) (ho : o.op = .store 24 x y) (hx : evl n E x = .pointer (some ⟨N, 0, none⟩)) (hy : evl n E y = vagg A2 m2 c2 s2)
    (h : ∀ V : World, Box N A2 m2 c2 s2 V → (∀ g, g ≠ N → V.heap[g]? = w.heap[g]?) → (∀ {B : Nat}, B ≤ N → Below B w V) → WL Tryz.prog ops Q rest n E V) : WL Tryz.prog ops Q (o :: rest) n E w :=
  wpl_none hd hw (run_stbox ho hx hy b) (h _ b.st (fun g hg => by rw [heap_setCell_other _ _ _ _ hg, heap_setCell_other _ _ _ _ hg]) (fun hb => st_below hb))
end
end
section
open Go.RowKit
set_option maxRecDepth 100000
set_option linter.unusedSimpArgs false
set_option linter.unusedVariables false
theorem OwQ.low {B B' : Nat} {w : World} {A : Option Addr} {l : List Int} (h : OwQ B w A l) (hb : B' ≤ B) : OwQ B' w A l := fun hn => by
  obtain ⟨g, e, hB, hr⟩ := h hn
  exact ⟨g, e, by omega, hr⟩
set_option maxHeartbeats 4000000 in
theorem rfit_any (Aa : Option Addr) (la : List Int) (ca : Nat) (sa : Bool) (w : World) (ha : la.length ≤ 4096) (hca : Hid (la.length ≤ ca ∧ ca ≤ maxLen)) (hra : RQ w Aa la) (ya : By la) (n : Nat) (hn : n ≤ 4096) (h0 : 0 < la.length) :
    Calls Tryz.prog 103 #[.agg #[.slice Aa la.length ca, .bool sa], .int .i64 (n : Nat)] w (RetC (fun v => v = ⟨rsz ⟨la, sa⟩ n, sa⟩) w) := by
  have Oa := hide hra
  have La := hide ha
  have Ca := hca
  have Ya := hide ya
  clear ha hca hra ya
  obtain ⟨F, hF⟩ : ∃ F : Nat → Int, F = fun i => if i < la.length then qt la i else xt ⟨la, sa⟩ := ⟨_, rfl⟩
  have hF1 : ∀ i, i < la.length → F i = qt la i := fun i hi => by rw [hF]; exact if_pos hi
  have hF2 : ∀ i, la.length ≤ i → F i = xt ⟨la, sa⟩ := fun i hi => by rw [hF]; exact if_neg (by omega)
  have hR : ql n F = rsz ⟨la, sa⟩ n := by rw [hF]; rfl
  have hl4 := La.out
  obtain ⟨q, hq⟩ : ∃ q : Nat, q + 1 = la.length := ⟨la.length - 1, by omega⟩
  clear hF
  have hU : Below w.heap.size w w := Below.refl _ _
  refine calls_sl (l := [.agg #[.slice Aa la.length ca, .bool sa], .int .i64 ((n : Nat))]) 51 Tryz.func103 rfl (by kernel_rfl) (by simp) (wp_seq (reg_lit (wpl_boxvec (A := Aa) (m := la.length) (c := ca) (s := sa) rfl (by kernel_rfl) rfl (by kernel_rfl) ?_)))
  intro w1 Na Ba hNa hb
  replace Ba := hide Ba
  replace Oa := hide (RQ.below Oa.out hb)
  have hza : w.heap.size ≤ Na := Nat.le_trans hU.size hNa
  clear hNa
  replace hU := hU.trans (hb.mono hU.size)
  clear hb
  refine wpl_al rfl (by kernel_rfl) rfl ?_
  intro w2 Nr Br hNr hb
  replace Br := hide Br
  have near : Na ≠ Nr := by have := Ba.out.lt; omega
  replace Oa := hide (RQ.below Oa.out hb)
  replace Ba := hide (Box.kept Ba.out hb)
  have hzr : w.heap.size ≤ Nr := Nat.le_trans hU.size hNr
  clear hNr
  replace hU := hU.trans (hb.mono hU.size)
  clear hb
  refine sx_n (wpl_r1 [(7, .pointer (some ⟨Na, 1, none⟩))] (by kernel_rfl) (wpl_ldsg Ba.out rfl (by kernel_rfl) rfl (by kernel_rfl) (wpl_r1 [(9, .agg #[.slice none 0 0, .bool sa])] (by kernel_rfl) (wpl_made (A := none) (m := 0) (c := 0) (s := sa) rfl rfl rfl rfl rfl rfl (fun _ => by kernel_rfl) (fun _ => by kernel_rfl) ?_))))
  intro w1 No Bo hNo hV
  have hna : Na < No + 1 := by have := Ba.out.lt; omega
  have hnr : Nr < No + 1 := by have := Br.out.lt; omega
  refine wpl_end (then_normal (wp_seq (wp_seq (reg_lit (wpl_r1 [(6, .int .i64 0)] (by kernel_rfl) (wpl_end (then_normal ?_)))))))
  refine wp_block (loop_r (n + 1) ?_)
  refine loop_inv (N := n) (fun k E W => Kp [(6, .int .i64 (k : Nat)), (1, .int .i64 ((n : Nat))), (2, .pointer (some ⟨Na, 0, none⟩)), (4, .pointer (some ⟨Nr, 0, none⟩)), (5, .pointer (some ⟨No, 0, none⟩))] E ∧ Below w2.heap.size w2 W ∧ ∃ A c, Box No A (ql k F).length c sa W ∧ OwnV (No + 1) A (ql k F) c W) ?_ _ 0 _ _ (Nat.zero_le _) (by omega) ⟨Kp_c (by kernel_rfl) (Kp_c (by kernel_rfl) (Kp_c (by kernel_rfl) (Kp_c (by kernel_rfl) (Kp_c (by kernel_rfl) (Kp_n))))), hV, none, 0, Bo, OwnV.nil _ _⟩
  clear hV Bo
  intro k E W next hk hI hnext
  obtain ⟨hKp, hV, Ao, co, Bo, Ho⟩ := hI
  obtain ⟨lo, hlo⟩ : ∃ lo, lo = ql k F := ⟨_, rfl⟩
  rw [← hlo] at Bo Ho
  replace Bo := hide Bo
  replace Ho := hide Ho
  have hlk : lo.length = k := by rw [hlo, ql_length]
  have hlo4 : lo.length ≤ 4096 := by omega
  have hB : No + 1 ≤ W.heap.size := Bo.out.lt
  refine wp_keep _ hKp (fun X => ?_)
  clear hKp
  refine wp_seq (wp_seq ?_)
  rcases Nat.lt_or_ge k n with hlt | hge
  refine reg_lit (wpl_r2 [(11, .int .i64 ((n : Nat))), (10, .int .i64 ((k : Nat)))] (by kernel_rfl) (wpl_val rfl (by kernel_rfl) (run_lss (a := (k : Int)) (b := (n : Int)) rfl (by kernel_rfl) (by kernel_rfl) (decide_eq_true (by omega))) (wpl_end (then_normal (wp_ift (by kernel_rfl) (wp_skip (then_normal ?_)))))))
  refine wp_seq (wp_block (wp_seq ?_))
  rcases Nat.lt_or_ge k la.length with hka | hka
  refine reg_lit (wpl_r2 [(16, .pointer (some ⟨Na, 0, none⟩)), (15, .int .i64 ((k : Nat)))] (by kernel_rfl) ?_)
  refine wpl_ldsl (Ba.out.kept hV) rfl (by kernel_rfl) rfl (by kernel_rfl) ?_
  refine wpl_r1 [(18, .int .i64 ((la.length : Nat)))] (by kernel_rfl) (wpl_val rfl (by kernel_rfl) (run_lss (a := (k : Int)) (b := (la.length : Int)) rfl (by kernel_rfl) (by kernel_rfl) (decide_eq_true (by omega))) (wpl_end (then_normal (wp_ift (by kernel_rfl) ?_))))
  have hz : lo ++ [(qt la k)] = ql (k + 1) F := by rw [ql_snoc, ← hlo, hF1 k hka]
  obtain ⟨ad, hA, hc⟩ := RQ.bitB Oa.out hV (B := No + 1) (by omega) hka
  refine gregion (n := 10) (N := 11) (fun x => Below (No + 1) W x) (by kernel_rfl) (by kernel_rfl) (by kernel_rfl) (by kernel_rfl) (by kernel_rfl) (by kernel_rfl) (Below.refl _ _).drew (fun _ _ _ _ _ h => h) ?_
  intro Fr hQ
  refine gany_val (i := 0) (m' := 1) (v := .pointer (some ⟨No, 0, none⟩)) Fr hQ rfl rfl (by kernel_rfl) (by kernel_rfl) (by kernel_rfl) (by kernel_rfl) (by kernel_rfl) (fun _ hb => by kernel_rfl) ?_
  refine gany_val (i := 1) (m' := 3) (v := .slice Ao lo.length co) Fr hQ rfl rfl (by kernel_rfl) (by kernel_rfl) (by kernel_rfl) (by kernel_rfl) (by kernel_rfl) (fun _ hb => run_ldsl rfl (by kernel_rfl) (Box.keptB Bo.out hb (Nat.lt_succ_self _))) ?_
  refine gany_val (i := 2) (m' := 7) (v := .pointer (some ⟨Na, 0, none⟩)) Fr hQ rfl rfl (by kernel_rfl) (by kernel_rfl) (by kernel_rfl) (by kernel_rfl) (by kernel_rfl) (fun _ hb => by kernel_rfl) ?_
  refine gany_val (i := 3) (m' := 15) (v := .slice Aa la.length ca) Fr hQ rfl rfl (by kernel_rfl) (by kernel_rfl) (by kernel_rfl) (by kernel_rfl) (by kernel_rfl) (fun _ hb => run_ldsl rfl (by kernel_rfl) (Box.keptB (Ba.out.kept hV) hb hna)) ?_
  refine gany_val (i := 4) (m' := 31) (v := .int .i64 ((k : Nat))) Fr hQ rfl rfl (by kernel_rfl) (by kernel_rfl) (by kernel_rfl) (by kernel_rfl) (by kernel_rfl) (fun _ hb => by kernel_rfl) (gany_val (i := 5) (m' := 63) (v := .pointer (some (ad.add k))) Fr hQ rfl rfl (by kernel_rfl) (by kernel_rfl) (by kernel_rfl) (by kernel_rfl) (by kernel_rfl) (fun _ hb => run_ix (k := k) (m := la.length) (cc := ca) rfl (by kernel_rfl) hA (by kernel_rfl) hka) (gany_val (i := 6) (m' := 127) (v := .int .u8 ((qt la k))) Fr hQ rfl rfl (by kernel_rfl) (by kernel_rfl) (by kernel_rfl) (by kernel_rfl) (by kernel_rfl) (fun _ hb => run_ldbit rfl (by kernel_rfl) (hc _ hb)) (gany_one (i := 7) (by kernel_rfl) (gstep_app (j := 8) (m' := 255) (j' := 511) (z := (qt la k)) Ho.out.drew' W hB hlo4 (fun _ hb h => h.trans (hb.mono hB)) (fun _ _ hb h => h.trans hb) rfl rfl (by kernel_rfl) (by kernel_rfl) (by kernel_rfl) rfl (by kernel_rfl) (by kernel_rfl) rfl rfl (by kernel_rfl) rfl (by kernel_rfl) rfl (fun _ => by kernel_rfl) (fun _ => by kernel_rfl) ?_))))
  intro V A2 c2 Hv hb
  replace hb : Below (No + 1) W V := ((Below.refl _ _).drew).trans hb
  refine gany_val (i := 9) (m' := 1023) (v := .pointer (some ⟨No, 0, none⟩)) Fr hQ rfl rfl (by kernel_rfl) (by kernel_rfl) (by kernel_rfl) (by kernel_rfl) (by kernel_rfl) (fun _ hb => by kernel_rfl) (gany_e ?_)
  refine gany_none (i := 10) (m' := 2047) (w' := V.setCell ⟨No, 0, none⟩ (.slice A2 (lo ++ [(qt la k)]).length c2)) rfl rfl (by kernel_rfl) (by kernel_rfl) (by kernel_rfl) (by kernel_rfl) (run_stsl rfl (by kernel_rfl) (by kernel_rfl) (Bo.out.keptB hb (Nat.lt_succ_self _))) ?_
  refine gany_done (by kernel_rfl) ?_
  have HS := fit_next hV hNo Bo.out hb Hv hz
  clear Fr hQ
  refine block_normal (then_normal (reg_lit (wpl_r1 [(13, .int .i64 ((k : Nat)))] (by kernel_rfl) (wpl_val rfl (by kernel_rfl) (run_add (a := (k : Int)) (b := 1) (c := ((k + 1 : Int) : Int)) rfl (by kernel_rfl) (by kernel_rfl) (by omega) (by omega) (by omega)) (wpl_r1 [(6, .int .i64 (((k + 1 : Nat) : Int)))] (by kernel_rfl) (wpl_end ?_))))))
  refine then_normal (hnext _ _ hlt ⟨Kp_c (by kernel_rfl) (Kp_c (by kernel_rfl) (Kp_c (by kernel_rfl) (Kp_c (by kernel_rfl) (Kp_c (by kernel_rfl) (Kp_n))))), HS⟩)
  refine reg_lit (wpl_r2 [(16, .pointer (some ⟨Na, 0, none⟩)), (15, .int .i64 ((k : Nat)))] (by kernel_rfl) ?_)
  refine wpl_ldsl (Ba.out.kept hV) rfl (by kernel_rfl) rfl (by kernel_rfl) ?_
  refine wpl_r1 [(18, .int .i64 ((la.length : Nat)))] (by kernel_rfl) (wpl_val rfl (by kernel_rfl) (run_lss (a := (k : Int)) (b := (la.length : Int)) rfl (by kernel_rfl) (by kernel_rfl) (decide_eq_false (by omega))) (wpl_end (then_normal (wp_iff (by kernel_rfl) (wp_seq ?_)))))
  rcases Bool.eq_false_or_eq_true sa with hs | hs
  refine reg_lit (wpl_r1 [(30, .pointer (some ⟨Na, 1, none⟩))] (by kernel_rfl) ?_)
  refine wpl_ldsg (s := true) (by rw [← hs]; exact Ba.out.kept hV) rfl (by kernel_rfl) rfl (by kernel_rfl) ?_
  refine wpl_end (then_normal (wp_ift (by kernel_rfl) ?_))
  have hx : F k = qt la q := by rw [hF2 k hka]; unfold xt; simp only [hs, if_true]; rw [← hq]; rfl
  have hz : lo ++ [(qt la q)] = ql (k + 1) F := by rw [ql_snoc, ← hlo, hx]
  obtain ⟨ad, hA, hc⟩ := RQ.bitB Oa.out hV (B := No + 1) (by omega) (i := q) (by omega)
  refine gregion (n := 13) (N := 14) (fun x => Below (No + 1) W x) (by kernel_rfl) (by kernel_rfl) (by kernel_rfl) (by kernel_rfl) (by kernel_rfl) (by kernel_rfl) (Below.refl _ _).drew (fun _ _ _ _ _ h => h) ?_
  intro Fr hQ
  refine gany_val (i := 0) (m' := 1) (v := .pointer (some ⟨No, 0, none⟩)) Fr hQ rfl rfl (by kernel_rfl) (by kernel_rfl) (by kernel_rfl) (by kernel_rfl) (by kernel_rfl) (fun _ hb => by kernel_rfl) ?_
  refine gany_val (i := 1) (m' := 3) (v := .slice Ao lo.length co) Fr hQ rfl rfl (by kernel_rfl) (by kernel_rfl) (by kernel_rfl) (by kernel_rfl) (by kernel_rfl) (fun _ hb => run_ldsl rfl (by kernel_rfl) (Box.keptB Bo.out hb (Nat.lt_succ_self _))) ?_
  refine gany_val (i := 2) (m' := 7) (v := .pointer (some ⟨Na, 0, none⟩)) Fr hQ rfl rfl (by kernel_rfl) (by kernel_rfl) (by kernel_rfl) (by kernel_rfl) (by kernel_rfl) (fun _ hb => by kernel_rfl) ?_
  refine gany_val (i := 3) (m' := 15) (v := .slice Aa la.length ca) Fr hQ rfl rfl (by kernel_rfl) (by kernel_rfl) (by kernel_rfl) (by kernel_rfl) (by kernel_rfl) (fun _ hb => run_ldsl rfl (by kernel_rfl) (Box.keptB (Ba.out.kept hV) hb hna)) ?_
  refine gany_val (i := 4) (m' := 31) (v := .pointer (some ⟨Na, 0, none⟩)) Fr hQ rfl rfl (by kernel_rfl) (by kernel_rfl) (by kernel_rfl) (by kernel_rfl) (by kernel_rfl) (fun _ hb => by kernel_rfl) ?_
  refine gany_val (i := 5) (m' := 63) (v := .slice Aa la.length ca) Fr hQ rfl rfl (by kernel_rfl) (by kernel_rfl) (by kernel_rfl) (by kernel_rfl) (by kernel_rfl) (fun _ hb => run_ldsl rfl (by kernel_rfl) (Box.keptB (Ba.out.kept hV) hb hna)) ?_
  refine gany_val (i := 6) (m' := 127) (v := .int .i64 ((la.length : Nat))) Fr hQ rfl rfl (by kernel_rfl) (by kernel_rfl) (by kernel_rfl) (by kernel_rfl) (by kernel_rfl) (fun _ hb => by kernel_rfl) (gany_val (i := 7) (m' := 255) (v := .int .i64 ((q : Nat))) Fr hQ rfl rfl (by kernel_rfl) (by kernel_rfl) (by kernel_rfl) (by kernel_rfl) (by kernel_rfl) (fun _ hb => run_sub (a := (la.length : Int)) (b := 1) (c := (q : Int)) rfl (by kernel_rfl) (by kernel_rfl) (by omega) (by omega) (by omega)) (gany_val (i := 8) (m' := 511) (v := .pointer (some (ad.add q))) Fr hQ rfl rfl (by kernel_rfl) (by kernel_rfl) (by kernel_rfl) (by kernel_rfl) (by kernel_rfl) (fun _ hb => run_ix (k := q) (m := la.length) (cc := ca) rfl (by kernel_rfl) hA (by kernel_rfl) (by omega)) (gany_val (i := 9) (m' := 1023) (v := .int .u8 ((qt la q))) Fr hQ rfl rfl (by kernel_rfl) (by kernel_rfl) (by kernel_rfl) (by kernel_rfl) (by kernel_rfl) (fun _ hb => run_ldbit rfl (by kernel_rfl) (hc _ hb)) (gany_one (i := 10) (by kernel_rfl) (gstep_app (j := 11) (m' := 2047) (j' := 4095) (z := (qt la q)) Ho.out.drew' W hB hlo4 (fun _ hb h => h.trans (hb.mono hB)) (fun _ _ hb h => h.trans hb) rfl rfl (by kernel_rfl) (by kernel_rfl) (by kernel_rfl) rfl (by kernel_rfl) (by kernel_rfl) rfl rfl (by kernel_rfl) rfl (by kernel_rfl) rfl (fun _ => by kernel_rfl) (fun _ => by kernel_rfl) ?_)))))
  intro V A2 c2 Hv hb
  replace hb : Below (No + 1) W V := ((Below.refl _ _).drew).trans hb
  refine gany_val (i := 12) (m' := 8191) (v := .pointer (some ⟨No, 0, none⟩)) Fr hQ rfl rfl (by kernel_rfl) (by kernel_rfl) (by kernel_rfl) (by kernel_rfl) (by kernel_rfl) (fun _ hb => by kernel_rfl) (gany_e ?_)
  refine gany_none (i := 13) (m' := 16383) (w' := V.setCell ⟨No, 0, none⟩ (.slice A2 (lo ++ [(qt la q)]).length c2)) rfl rfl (by kernel_rfl) (by kernel_rfl) (by kernel_rfl) (by kernel_rfl) (run_stsl rfl (by kernel_rfl) (by kernel_rfl) (Bo.out.keptB hb (Nat.lt_succ_self _))) ?_
  refine gany_done (by kernel_rfl) ?_
  have HS := fit_next hV hNo Bo.out hb Hv hz
  clear Fr hQ
  refine block_normal (then_normal (reg_lit (wpl_r1 [(13, .int .i64 ((k : Nat)))] (by kernel_rfl) (wpl_val rfl (by kernel_rfl) (run_add (a := (k : Int)) (b := 1) (c := ((k + 1 : Int) : Int)) rfl (by kernel_rfl) (by kernel_rfl) (by omega) (by omega) (by omega)) (wpl_r1 [(6, .int .i64 (((k + 1 : Nat) : Int)))] (by kernel_rfl) (wpl_end ?_))))))
  refine then_normal (hnext _ _ hlt ⟨Kp_c (by kernel_rfl) (Kp_c (by kernel_rfl) (Kp_c (by kernel_rfl) (Kp_c (by kernel_rfl) (Kp_c (by kernel_rfl) (Kp_n))))), HS⟩)
  refine reg_lit (wpl_r1 [(30, .pointer (some ⟨Na, 1, none⟩))] (by kernel_rfl) ?_)
  refine wpl_ldsg (s := false) (by rw [← hs]; exact Ba.out.kept hV) rfl (by kernel_rfl) rfl (by kernel_rfl) ?_
  refine wpl_end (then_normal (wp_iff (by kernel_rfl) ?_))
  have hx : F k = 0 := by rw [hF2 k hka]; unfold xt; simp only [hs]; rfl
  have hz : lo ++ [0] = ql (k + 1) F := by rw [ql_snoc, ← hlo, hx]
  refine reg_lit (wpl_r1 [(45, .pointer (some ⟨No, 0, none⟩))] (by kernel_rfl) (wpl_ldsl Bo.out rfl (by kernel_rfl) rfl (by kernel_rfl) (wpl_app1q (z := 0) Ho.out hB hlo4 rfl rfl rfl (by kernel_rfl) rfl rfl rfl (fun _ => by kernel_rfl) (fun _ => by kernel_rfl) ?_)))
  intro V A2 c2 Hv hb
  refine wpl_r1 [(49, .pointer (some ⟨No, 0, none⟩))] (by kernel_rfl) ?_
  refine wpl_none (w' := V.setCell ⟨No, 0, none⟩ (.slice A2 (lo ++ [0]).length c2)) rfl (by kernel_rfl) (run_stsl rfl (by kernel_rfl) (by kernel_rfl) (Bo.out.keptB hb (Nat.lt_succ_self _))) ?_
  have HS := fit_next hV hNo Bo.out hb Hv hz
  refine wpl_end (block_normal (then_normal (reg_lit (wpl_r1 [(13, .int .i64 ((k : Nat)))] (by kernel_rfl) (wpl_val rfl (by kernel_rfl) (run_add (a := (k : Int)) (b := 1) (c := ((k + 1 : Int) : Int)) rfl (by kernel_rfl) (by kernel_rfl) (by omega) (by omega) (by omega)) (wpl_r1 [(6, .int .i64 (((k + 1 : Nat) : Int)))] (by kernel_rfl) (wpl_end ?_)))))))
  refine then_normal (hnext _ _ hlt ⟨Kp_c (by kernel_rfl) (Kp_c (by kernel_rfl) (Kp_c (by kernel_rfl) (Kp_c (by kernel_rfl) (Kp_c (by kernel_rfl) (Kp_n))))), HS⟩)
  refine reg_lit (wpl_r2 [(11, .int .i64 ((n : Nat))), (10, .int .i64 ((k : Nat)))] (by kernel_rfl) (wpl_val rfl (by kernel_rfl) (run_lss (a := (k : Int)) (b := (n : Int)) rfl (by kernel_rfl) (by kernel_rfl) (decide_eq_false (by omega))) (wpl_end (then_normal (wp_iff (by kernel_rfl) (wp_exit (then_exit ?_)))))))
  refine then_exit (exit_here (then_normal (wp_seq (reg_lit (wpl_ldvec Bo.out rfl (by kernel_rfl) rfl (by kernel_rfl) ?_)))))
  refine wpl_stq (A2 := Ao) (m2 := lo.length) (c2 := co) (s2 := sa) (Br.out.kept hV) rfl (by kernel_rfl) rfl (by kernel_rfl) (by kernel_rfl) ?_
  intro V Bq hkeep hbel
  refine wpl_end (then_normal (wp_ret (ret_box Bq rfl (by kernel_rfl) ?_)))
  obtain rfl : k = n := by omega
  exact ⟨lo, sa, Ao, co, hide (by rw [hlo, hR]), rfl, Ho.out.open_.1, hide (OwQ.low (OwQ.std (m2 := 0) (c2 := 0) (A2 := none) (s2 := false) Ho.out.open_.2.out hbel hnr hkeep) (by have := hU.size; omega)), (hU.trans (hV.mono hU.size)).trans (hbel hzr)⟩
end
section
open Go.RowKit
set_option maxRecDepth 100000
set_option linter.unusedSimpArgs false
set_option linter.unusedVariables false
/-- Bits in a row of the call's own, whatever they are. -/
def Qls (B g : Nat) (w : World) (x : Option Addr × Nat × Nat × Bool) : Prop := 0 < x.2.1 → ∃ gi F, x.1 = some ⟨gi, 0, none⟩ ∧ B ≤ gi ∧ gi ≠ g ∧ RowQ w gi x.2.1 F
theorem Qls.stored {B g : Nat} {w : World} {x : Option Addr × Nat × Nat × Bool} (h : Qls B g w x) (gj k : Nat) (v : Int) : Qls B g (w.setCell ⟨gj, k, none⟩ (.int .u8 v)) x := fun hn => by
  obtain ⟨gi, F, e, h1, h2, h3⟩ := h hn
  by_cases hg : gi = gj
  · subst hg; exact ⟨gi, _, e, h1, h2, h3.set_ k v⟩
  · exact ⟨gi, F, e, h1, h2, h3.far (by simpa using hg) _⟩
structure SpQ (B g : Nat) (vs : List (Option Addr × Nat × Nat × Bool)) (w wr : World) : Prop where
  sls : ∀ i (h : i < vs.length), wr.cell? ⟨g, i * 2, none⟩ = some (.slice vs[i].1 vs[i].2.1 vs[i].2.2.1)
  bls : ∀ i (h : i < vs.length), Qls B g wr vs[i]
  bel : Below B w wr
theorem SpQ.stored {B g : Nat} {vs : List (Option Addr × Nat × Nat × Bool)} {w wr : World} (h : SpQ B g vs w wr) {gj k : Nat} (hB : B ≤ gj) (hg : gj ≠ g) (v : Int) : SpQ B g vs w (wr.setCell ⟨gj, k, none⟩ (.int .u8 v)) where
  sls := fun i hi => by
    rw [World.cell?_setCell_other _ _ _ _ (by intro e; injection e; omega)]
    exact h.sls i hi
  bls := fun i hi => (h.bls i hi).stored gj k v
  bel := h.bel.setCell (by simpa using hB) _
set_option maxHeartbeats 2000000 in
theorem vspoil_any (B g c : Nat) (vs : List (Option Addr × Nat × Nat × Bool)) (w : World) (hv : vs.length ≤ 8) (hs : ∀ i (h : i < vs.length), vs[i].2.1 ≤ 4096) (h : SpQ B g vs w w) :
    Calls Tryz.prog 13 #[.slice (some ⟨g, 0, none⟩) vs.length c] w fun e w' => e = .returned (.tuple #[]) ∧ Below B w w' := by
  have H := hide h
  have HS := hide hs
  clear h hs
  go_enter Tryz.func13, Tryz.ntmps13
  go_wp2
  go_loopw [2] (fun i wr => ∃ k : Nat, k ≤ vs.length ∧ i = .int .i64 k ∧ SpQ B g vs w wr) (fun i _ => vs.length - (intOf i).toNat)
  case atStart => exact ⟨0, Nat.zero_le _, rfl, H.out⟩
  case round =>
    obtain ⟨k, hk, rfl, hR⟩ := hrel
    have hRH := hide hR
    clear hR
    by_cases hlt : k < vs.length
    · have hn4 := HS.out k hlt
      obtain ⟨x, hx⟩ : ∃ x, x = vs[k] := ⟨_, rfl⟩
      obtain ⟨A, n, cn, sn⟩ := x
      rw [← hx] at hn4
      have hsl : Hid (∀ wr, SpQ B g vs w wr → wr.cell? ⟨g, k * 2, none⟩ = some (.slice A n cn)) := hide fun wr h => by have := h.sls k hlt; rw [← hx] at this; exact this
      have hbl : Hid (∀ wr, SpQ B g vs w wr → Qls B g wr (A, n, cn, sn)) := hide fun wr h => by have := h.bls k hlt; rw [← hx] at this; exact this
      clear hx
      simp only at hn4
      go_wp2
      go_loopw [3] (fun i wr => ∃ m : Nat, m ≤ n ∧ i = .int .i64 m ∧ SpQ B g vs w wr) (fun i _ => n - (intOf i).toNat)
      case atStart => exact ⟨0, Nat.zero_le _, rfl, hRH.out⟩
      case round =>
        clear hRH
        obtain ⟨m, hm, rfl, hR⟩ := hrel
        have hRH := hide hR
        clear hR
        have hc := hsl.out _ hRH.out
        by_cases hmn : m < n
        · obtain ⟨gi, F, he, h1, h2, h3⟩ := hbl.out _ hRH.out (by simpa using Nat.lt_of_le_of_lt (Nat.zero_le _) hmn)
          simp only at he
          subst he
          have hcc := h3.cell (i := m) hmn
          have hff := h3.free m
          clear h3
          go_wp2
          go_roundw
          case rel => exact ⟨m + 1, by omega, by go_num, hRH.out.stored h1 h2 _⟩
          case measure => simp [intOf]; omega
        · go_wp2
          go_roundw
          case rel => exact ⟨k + 1, by omega, by go_num, hRH.out⟩
          case measure => simp [intOf]; omega
    · go_wp2
      go_end0
      exact ⟨rfl, hRH.out.bel⟩
/-- One vector of the call's own. -/
theorem vspoil1 {A : Option Addr} {l : List Int} {cc : Nat} {s : Bool} (B g c : Nat) (w : World) (hl : l.length ≤ 4096) (h : Vls w g [(A, l.length, cc, s)]) (hO : OwQ B w A l) :
    Calls Tryz.prog 13 #[.slice (some ⟨g, 0, none⟩) 1 c] w fun e w' => e = .returned (.tuple #[]) ∧ Below B w w' := by
  refine vspoil_any B g c [(A, l.length, cc, s)] w (by simp) (fun i h => ?_) ⟨fun i hi => ?_, fun i hi => ?_, Below.refl _ _⟩
  · obtain rfl : i = 0 := by simpa using h
    exact hl
  · exact (h i hi).1
  · obtain rfl : i = 0 := by simpa using hi
    intro hn
    obtain ⟨gi, e, hB, hr⟩ := hO hn
    refine ⟨gi, _, e, hB, ?_, hr⟩
    intro eg
    subst eg
    have h1 := (h 0 (by simp)).1
    have h2 := hr.cell (i := 0) hn
    simp only [Nat.zero_mul] at h1
    rw [h2] at h1
    cases h1
end
section
open Go.RowKit
set_option maxRecDepth 100000
set_option linter.unusedSimpArgs false
set_option linter.unusedVariables false
/-- A slice of bools that may be appended to. -/
structure OwnB (B : Nat) (v : Value) (l : List Bool) (w : World) : Prop where
  own : w.ownsRow B 4 1 v l.length (l.map Value.bool)
theorem OwnB.kept {B : Nat} {v : Value} {l : List Bool} {w w' : World} (h : OwnB B v l w) (hb : Below w.heap.size w w') : OwnB B v l w' := ⟨ownsRow_kept h.own hb⟩
section
variable {P : Program} {Q : Exit → Act → World → Prop} {ops : Array Oper} {o o2 : Oper} {rest : List Oper} {x y : Operand} {w : World} {n d d2 : Nat} {E : Env} {ρ : Operand → Value}
theorem run_not {t : TypeId} (ho : o.op = .unOp .not t x) {a q : Bool} (hx : ρ x = .bool a) (hc : (!a) = q) : (execOp ρ o).run P w = .ok (.value (.bool q)) w := by
  subst hc
  unfold execOp
  rw [ho]
  simp only [hx]
  rfl
theorem run_eql8 {t p : TypeId} {a b : Int} (ho : o.op = .binOp .eql t x y p) (hx : ρ x = .int .u8 a) (hy : ρ y = .int .u8 b) {q : Bool} (hc : (a == b) = q) : (execOp ρ o).run P w = .ok (.value (.bool q)) w := by
  subst hc
  unfold execOp
  rw [ho]
  simp only [hx, hy]
  rfl
end
end
section
open Go.RowKit
set_option maxRecDepth 100000
set_option linter.unusedSimpArgs false
set_option linter.unusedVariables false
section
variable {Q : Exit → Act → World → Prop} {ops : Array Oper} {o : Oper} {rest : List Oper} {x y : Operand} {w W : World} {A A2 : Option Addr} {N m c m2 c2 n d : Nat} {s s2 q : Bool} {E : Env}
theorem run_stsg {ρ : Operand → Value} (ho : o.op = .store 4 x y) (hx : ρ x = .pointer (some ⟨N, 1, none⟩)) (hy : ρ y = .bool q) (B : Box N A m c s w) :
    (execOp ρ o).run Tryz.prog w = .ok .skip (w.setCell ⟨N, 1, none⟩ (.bool q)) := by
  have h1 := B.c1
  have h3 := B.f1
  unfold execOp
  rw [ho]
  simp only [hx, hy]
  simp [go_sem, h1, h3]
theorem Box.sg_std (B : Box N A m c s w) (q : Bool) : Std N A m c q w (w.setCell ⟨N, 1, none⟩ (.bool q)) where
  box := ⟨by simpa using B.lt, cset_ne (by simp) B.c0, cset_eq B.c1, fset B.f0, fset B.f1⟩
  ne := fun b hne => ⟨by simpa using b.lt, cset_ne (by omega) b.c0, cset_ne (by omega) b.c1, fset b.f0, fset b.f1⟩
  rq := fun h hn => by
    obtain ⟨ad, e, hlt, hc⟩ := h hn
    refine ⟨ad, e, by simpa using hlt, fun i hi => ?_⟩
    have h0 := hc i hi
    rw [World.cell?_setCell_other _ _ _ _ (fun k => by rw [← k, B.c1] at h0; cases h0)]
    exact h0
  bel := fun h => (Below.refl _ _).setCell h _
theorem wpl_stsg (B : Box N A m c s w) (hd : o.dst = none) (hw : wnt ops n E o = true) (ho : o.op = .store 4 x y) (hx : evl n E x = .pointer (some ⟨N, 1, none⟩)) (hy : evl n E y = .bool q)
    (h : ∀ V : World, Std N A m c q w V → WL Tryz.prog ops Q rest n E V) : WL Tryz.prog ops Q (o :: rest) n E w :=
  wpl_none hd hw (run_stsg ho hx hy B) (h _ (B.sg_std q))
theorem anyE_stq {fuel k mk i m' q : Nat} (B : Box N A m c s w) (hi : ops[i]? = some o) (hd : o.dst = none) (ho' : onlyB ops ops.size mk i = true) (hw : wnt ops k E o = true) (hm : Nat.lor mk (Nat.shiftLeft 1 i) = m') (hin : Nat.ble q i = true)
    (ho : o.op = .store 24 x y) (hx : evl k E x = .pointer (some ⟨N, 0, none⟩)) (hy : evl k E y = vagg A2 m2 c2 s2)
    (h : ∀ V : World, Std N A2 m2 c2 s2 w V → (∀ g, g ≠ N → V.heap[g]? = w.heap[g]?) → anyE Tryz.prog ops Q W q fuel m' k E V) : anyE Tryz.prog ops Q W q (fuel + 1) mk k E w :=
  anyE_none hi hd ho' hw hm hin (run_stbox ho hx hy B) (h _ ⟨B.st, fun b hne => b.st_ne hne, fun r => r.st B, fun hb => st_below hb⟩ (fun g hg => by rw [heap_setCell_other _ _ _ _ hg, heap_setCell_other _ _ _ _ hg]))
theorem ret_box2 {M m' c' e : Nat} {A' : Option Addr} {s' : Bool} {fn : Func} {R : Ending → World → Prop} (B : Box N A m c s w) (B' : Box M A' m' c' s' w) (hf : fn.results = #[.cell d 24, .cell e 24])
    (hv : (bif Nat.blt d n then lk E d else undef) = .pointer (some ⟨N, 0, none⟩)) (hv' : (bif Nat.blt e n then lk E e else undef) = .pointer (some ⟨M, 0, none⟩)) (h : R (.returned (.tuple #[vagg A m c s, vagg A' m' c' s'])) w) : bodyPost Tryz.prog fn R .ret (sl n E) w := by
  refine bodyPost_ret (v := .tuple #[vagg A m c s, vagg A' m' c' s']) ?_ rfl h
  have h0 := B.c0
  have h1 := B.c1
  have h2 := B'.c0
  have h3 := B'.c1
  unfold results
  rw [hf]
  simp only [go_sem, List.mapM_toArray, List.mapM_cons, List.mapM_nil]
  have e1 := tmps_sl n E d
  rw [hv] at e1
  rw [Array.getD_eq_getD_getElem?] at e1
  have e2 := tmps_sl n E e
  rw [hv'] at e2
  rw [Array.getD_eq_getD_getElem?] at e2
  simp [go_sem, e1, e2, h0, h1, h2, h3]
end
theorem sep_of {B : Nat} {w w' : World} {A A2 : Option Addr} {l l2 : List Int} (h : OwQ B w A l) (k : OwQ w.heap.size w' A2 l2) (p : 0 < l.length) (q : 0 < l2.length) : Sep A A2 := fun g g2 e e2 => by
  obtain ⟨x, ex, hx, hr⟩ := h p
  obtain ⟨y, ey, hy, hr2⟩ := k q
  rw [e] at ex
  rw [e2] at ey
  injection ex with ex
  injection ex with ex
  injection ey with ey
  injection ey with ey
  have := hr.lt
  omega
/-- What the reference's Balance answers. -/
def RetBR (a b : Vc) (w : World) (e : Ending) (w' : World) : Prop :=
  ∃ p P c q Q d, Hid (p = blA a b) ∧ Hid (q = blB a b) ∧ e = .returned (.tuple #[.agg #[.slice P p.length c, .bool (sg a b)], .agg #[.slice Q q.length d, .bool (sg a b)]]) ∧ Hid (p.length ≤ c ∧ c ≤ maxLen) ∧ Hid (q.length ≤ d ∧ d ≤ maxLen) ∧ Hid (OwQ w.heap.size w' P p) ∧ Hid (OwQ w.heap.size w' Q q) ∧ Hid (Sep P Q) ∧ Below w.heap.size w w'
end
section
open Go.RowKit
set_option maxRecDepth 100000
set_option linter.unusedSimpArgs false
set_option linter.unusedVariables false
theorem sg3 (s t : Bool) : s = false ∨ (s = true ∧ t = false) ∨ (s = true ∧ t = true) := by cases s <;> cases t <;> simp
set_option maxHeartbeats 4000000 in
theorem rbalance_any (Aa Ab : Option Addr) (la lb : List Int) (ca cb : Nat) (sa sb : Bool) (w : World) (ha : la.length ≤ 4096) (hb : lb.length ≤ 4096) (hca : Hid (la.length ≤ ca ∧ ca ≤ maxLen)) (hcb : Hid (lb.length ≤ cb ∧ cb ≤ maxLen)) (hra : RQ w Aa la) (hrb : RQ w Ab lb) (ya : By la) (yb : By lb) :
    Calls Tryz.prog 86 #[.agg #[.slice Aa la.length ca, .bool sa], .agg #[.slice Ab lb.length cb, .bool sb]] w (RetBR ⟨la, sa⟩ ⟨lb, sb⟩ w) := by
  have Oa := hide hra
  have La := hide ha
  have Ca := hca
  have Ya := hide ya
  have Ob := hide hrb
  have Lb := hide hb
  have Cb := hcb
  have Yb := hide yb
  clear ha hca hra ya hb hcb hrb yb
  have hU : Below w.heap.size w w := Below.refl _ _
  refine calls_sl (l := [.agg #[.slice Aa la.length ca, .bool sa], .agg #[.slice Ab lb.length cb, .bool sb]]) 34 Tryz.func86 rfl (by kernel_rfl) (by simp) (wp_seq (reg_lit (wpl_boxvec (A := Aa) (m := la.length) (c := ca) (s := sa) rfl (by kernel_rfl) rfl (by kernel_rfl) ?_)))
  intro w1 Na Ba hNa hb
  replace Ba := hide Ba
  replace Oa := hide (RQ.below Oa.out hb)
  replace Ob := hide (RQ.below Ob.out hb)
  have hza : w.heap.size ≤ Na := Nat.le_trans hU.size hNa
  clear hNa
  replace hU := hU.trans (hb.mono hU.size)
  clear hb
  refine wpl_boxvec (A := Ab) (m := lb.length) (c := cb) (s := sb) rfl (by kernel_rfl) rfl (by kernel_rfl) ?_
  intro w2 Nb Bb hNb hb
  replace Bb := hide Bb
  have neab : Na ≠ Nb := by have := Ba.out.lt; omega
  replace Oa := hide (RQ.below Oa.out hb)
  replace Ob := hide (RQ.below Ob.out hb)
  replace Ba := hide (Box.kept Ba.out hb)
  have hzb : w.heap.size ≤ Nb := Nat.le_trans hU.size hNb
  clear hNb
  replace hU := hU.trans (hb.mono hU.size)
  clear hb
  refine wpl_al rfl (by kernel_rfl) rfl ?_
  intro w3 Nu Bu hNu hb
  replace Bu := hide Bu
  have neau : Na ≠ Nu := by have := Ba.out.lt; omega
  have nebu : Nb ≠ Nu := by have := Bb.out.lt; omega
  replace Oa := hide (RQ.below Oa.out hb)
  replace Ob := hide (RQ.below Ob.out hb)
  replace Ba := hide (Box.kept Ba.out hb)
  replace Bb := hide (Box.kept Bb.out hb)
  have hzu : w.heap.size ≤ Nu := Nat.le_trans hU.size hNu
  clear hNu
  replace hU := hU.trans (hb.mono hU.size)
  clear hb
  refine wpl_al rfl (by kernel_rfl) rfl ?_
  intro w4 Nv Bv hNv hb
  replace Bv := hide Bv
  have neav : Na ≠ Nv := by have := Ba.out.lt; omega
  have nebv : Nb ≠ Nv := by have := Bb.out.lt; omega
  have neuv : Nu ≠ Nv := by have := Bu.out.lt; omega
  replace Oa := hide (RQ.below Oa.out hb)
  replace Ob := hide (RQ.below Ob.out hb)
  replace Ba := hide (Box.kept Ba.out hb)
  replace Bb := hide (Box.kept Bb.out hb)
  replace Bu := hide (Box.kept Bu.out hb)
  have hzv : w.heap.size ≤ Nv := Nat.le_trans hU.size hNv
  clear hNv
  replace hU := hU.trans (hb.mono hU.size)
  clear hb
  refine wpl_end (then_normal (wp_seq (region_R (n := 4) (N := 6) (by kernel_rfl) (by kernel_rfl) (by kernel_rfl) (by kernel_rfl) (by kernel_rfl) (by kernel_rfl) (fun _ _ _ _ _ h => h) ?_)))
  intro F hQ
  have Ba0 := Ba
  have Bb0 := Bb
  have Bu0 := Bu
  have Bv0 := Bv
  refine anyR_ldvec (i := 0) (m' := 1) Ba0.out F hQ rfl rfl (by kernel_rfl) (by kernel_rfl) (by kernel_rfl) (by kernel_rfl) (by kernel_rfl) rfl (by kernel_rfl) (anyR_ldvec (i := 2) (m' := 5) Bb0.out F hQ rfl rfl (by kernel_rfl) (by kernel_rfl) (by kernel_rfl) (by kernel_rfl) (by kernel_rfl) rfl (by kernel_rfl) ?_)
  refine anyR_call (i := 1) (m' := 7) rfl rfl (by kernel_rfl) (by kernel_rfl) (by kernel_rfl) (by kernel_rfl) (by kernel_rfl) ((rnorm_any' Aa la ca sa _ La.out Ca (by exact Oa.out) Ya.out).mono ?_)
  rintro e w5 ⟨l1, s1, A1, c1, E1, rfl, C1, O1, hb⟩
  refine ⟨_, rfl, hb, ?_⟩
  replace hb : Below w4.heap.size w4 w5 := Below.trans ((Below.refl _ _).drew) hb
  replace Oa := hide (RQ.below Oa.out hb)
  replace Ob := hide (RQ.below Ob.out hb)
  replace Ba := hide (Box.kept Ba.out hb)
  replace Bb := hide (Box.kept Bb.out hb)
  replace Bu := hide (Box.kept Bu.out hb)
  replace Bv := hide (Box.kept Bv.out hb)
  replace O1 := hide O1.out.rd
  replace hU := hU.trans (hb.mono hU.size)
  clear hb
  have G1 : Gd l1 := by have h := congrArg Vc.b E1.out; dsimp only at h; rw [h]; exact (cnt_gd (v := ⟨la, sa⟩) Ya.out)
  have L1 := hide (show l1.length ≤ 4096 from Nat.le_trans G1.le (by decide))
  have Y1 := hide G1.by_
  clear G1
  refine anyR_call (i := 3) (m' := 15) rfl rfl (by kernel_rfl) (by kernel_rfl) (by kernel_rfl) (by kernel_rfl) (by kernel_rfl) ((rnorm_any' Ab lb cb sb _ Lb.out Cb Ob.out Yb.out).mono ?_)
  rintro e w6 ⟨l2, s2, A2, c2, E2, rfl, C2, O2, hb⟩
  refine ⟨_, rfl, hb, ?_⟩
  replace Oa := hide (RQ.below Oa.out hb)
  replace Ob := hide (RQ.below Ob.out hb)
  replace O1 := hide (RQ.below O1.out hb)
  replace Ba := hide (Box.kept Ba.out hb)
  replace Bb := hide (Box.kept Bb.out hb)
  replace Bu := hide (Box.kept Bu.out hb)
  replace Bv := hide (Box.kept Bv.out hb)
  replace O2 := hide O2.out.rd
  replace hU := hU.trans (hb.mono hU.size)
  clear hb
  have G2 : Gd l2 := by have h := congrArg Vc.b E2.out; dsimp only at h; rw [h]; exact (cnt_gd (v := ⟨lb, sb⟩) Yb.out)
  have L2 := hide (show l2.length ≤ 4096 from Nat.le_trans G2.le (by decide))
  have Y2 := hide G2.by_
  clear G2
  refine anyR_e (anyE_st (i := 4) (m' := 31) Ba.out rfl rfl (by kernel_rfl) (by kernel_rfl) (by kernel_rfl) (by kernel_rfl) rfl (by kernel_rfl) (A2 := A1) (m2 := l1.length) (c2 := c1) (s2 := s1) (by kernel_rfl) ?_)
  intro w7 hst
  replace Oa := hide (hst.rq Oa.out)
  replace Ob := hide (hst.rq Ob.out)
  replace O1 := hide (hst.rq O1.out)
  replace O2 := hide (hst.rq O2.out)
  replace Bb := hide (hst.ne Bb.out (by first | exact neba | exact (Ne.symm neab) | assumption | (exact Ne.symm (by assumption)) | omega))
  replace Bu := hide (hst.ne Bu.out (by first | exact neua | exact (Ne.symm neau) | assumption | (exact Ne.symm (by assumption)) | omega))
  replace Bv := hide (hst.ne Bv.out (by first | exact neva | exact (Ne.symm neav) | assumption | (exact Ne.symm (by assumption)) | omega))
  replace Ba := hide hst.box
  replace hU := hU.trans (hst.bel hza)
  clear hst
  refine anyE_st (i := 5) (m' := 63) Bb.out rfl rfl (by kernel_rfl) (by kernel_rfl) (by kernel_rfl) (by kernel_rfl) rfl (by kernel_rfl) (A2 := A2) (m2 := l2.length) (c2 := c2) (s2 := s2) (by kernel_rfl) ?_
  intro w8 hst
  replace Oa := hide (hst.rq Oa.out)
  replace Ob := hide (hst.rq Ob.out)
  replace O1 := hide (hst.rq O1.out)
  replace O2 := hide (hst.rq O2.out)
  replace Ba := hide (hst.ne Ba.out (by first | exact neab | exact (Ne.symm neba) | assumption | (exact Ne.symm (by assumption)) | omega))
  replace Bu := hide (hst.ne Bu.out (by first | exact neub | exact (Ne.symm nebu) | assumption | (exact Ne.symm (by assumption)) | omega))
  replace Bv := hide (hst.ne Bv.out (by first | exact nevb | exact (Ne.symm nebv) | assumption | (exact Ne.symm (by assumption)) | omega))
  replace Bb := hide hst.box
  replace hU := hU.trans (hst.bel hzb)
  clear hst
  refine anyE_done (by kernel_rfl) ?_
  clear F hQ Ba0 Bb0 Bu0 Bv0
  refine then_normal (wp_seq (wp_seq ?_))
  have q1 : (cnt ⟨la, sa⟩).s = s1 := (congrArg Vc.s E1.out).symm
  have q2 : (cnt ⟨lb, sb⟩).s = s2 := (congrArg Vc.s E2.out).symm
  have hsg : sg ⟨la, sa⟩ ⟨lb, sb⟩ = (s1 && s2) := by unfold sg; rw [q1, q2]
  clear q1 q2
  rcases sg3 s1 s2 with h1 | ⟨h1, h2⟩ | ⟨h1, h2⟩
  have hsg3 : sg ⟨la, sa⟩ ⟨lb, sb⟩ = false := by rw [hsg, h1] <;> rfl
  refine reg_lit (wpl_r1 [(11, .pointer (some ⟨Na, 1, none⟩))] (by kernel_rfl) (wpl_ldsg Ba.out rfl (by kernel_rfl) rfl (by kernel_rfl) (wpl_val rfl (by kernel_rfl) (run_not (a := s1) rfl (by kernel_rfl) (by rw [h1] <;> rfl)) (wpl_r5 [(18, .bool true), (17, undef), (16, undef), (15, undef), (14, .bool true)] (by kernel_rfl) (wpl_end (then_normal (wp_ift (by kernel_rfl) ?_)))))))
  refine reg_lit (wpl_r1 [(19, .pointer (some ⟨Na, 1, none⟩))] (by kernel_rfl) (wpl_stsg (q := false) Ba.out rfl (by kernel_rfl) rfl (by kernel_rfl) (by kernel_rfl) ?_))
  intro w9 hst
  replace Oa := hide (hst.rq Oa.out)
  replace Ob := hide (hst.rq Ob.out)
  replace O1 := hide (hst.rq O1.out)
  replace O2 := hide (hst.rq O2.out)
  replace Bb := hide (hst.ne Bb.out (by first | exact neba | exact (Ne.symm neab)))
  replace Bu := hide (hst.ne Bu.out (by first | exact neua | exact (Ne.symm neau)))
  replace Bv := hide (hst.ne Bv.out (by first | exact neva | exact (Ne.symm neav)))
  replace Ba := hide hst.box
  replace hU := hU.trans (hst.bel hza)
  clear hst
  refine wpl_r1 [(20, .pointer (some ⟨Nb, 1, none⟩))] (by kernel_rfl) (wpl_stsg (q := false) Bb.out rfl (by kernel_rfl) rfl (by kernel_rfl) (by kernel_rfl) ?_)
  intro w10 hst
  replace Oa := hide (hst.rq Oa.out)
  replace Ob := hide (hst.rq Ob.out)
  replace O1 := hide (hst.rq O1.out)
  replace O2 := hide (hst.rq O2.out)
  replace Ba := hide (hst.ne Ba.out (by first | exact neab | exact (Ne.symm neba)))
  replace Bu := hide (hst.ne Bu.out (by first | exact neub | exact (Ne.symm nebu)))
  replace Bv := hide (hst.ne Bv.out (by first | exact nevb | exact (Ne.symm nebv)))
  replace Bb := hide hst.box
  replace hU := hU.trans (hst.bel hzb)
  clear hst
  refine wpl_end (then_normal (wp_seq ?_))
  obtain ⟨A3, l3, c3, s3, hb, O3, L3, Y3, C3, E3⟩ : ∃ (A : Option Addr) (l : List Int) (c : Nat) (s : Bool), Hid (Box Na A l.length c s w10) ∧ Hid (RQ w10 A l) ∧ Hid (l.length ≤ 4096) ∧ Hid (By l) ∧ Hid (l.length ≤ c ∧ c ≤ maxLen) ∧ Hid ((⟨l, s⟩ : Vc) = ⟨(cnt ⟨la, sa⟩).b, sg ⟨la, sa⟩ ⟨lb, sb⟩⟩) := ⟨A1, l1, c1, false, Ba, hide O1.out, L1, Y1, C1, hide (by rw [hsg3, ← congrArg Vc.b E1.out])⟩
  replace Ba := hb
  clear hb O1 L1 Y1 C1
  have HG3 := hide (show Gd l3 by have h := congrArg Vc.b E3.out; dsimp only at h; rw [h]; exact cnt_gd (v := ⟨la, sa⟩) Ya.out)
  have h03 : 0 < l3.length := HG3.out.pos
  have e3 : l3.length = (cnt ⟨la, sa⟩).b.length := by have h := congrArg Vc.b E3.out; dsimp only at h; rw [h]
  obtain ⟨A4, l4, c4, s4, hb, O4, L4, Y4, C4, E4⟩ : ∃ (A : Option Addr) (l : List Int) (c : Nat) (s : Bool), Hid (Box Nb A l.length c s w10) ∧ Hid (RQ w10 A l) ∧ Hid (l.length ≤ 4096) ∧ Hid (By l) ∧ Hid (l.length ≤ c ∧ c ≤ maxLen) ∧ Hid ((⟨l, s⟩ : Vc) = ⟨(cnt ⟨lb, sb⟩).b, sg ⟨la, sa⟩ ⟨lb, sb⟩⟩) := ⟨A2, l2, c2, false, Bb, hide O2.out, L2, Y2, C2, hide (by rw [hsg3, ← congrArg Vc.b E2.out])⟩
  replace Bb := hb
  clear hb O2 L2 Y2 C2
  have HG4 := hide (show Gd l4 by have h := congrArg Vc.b E4.out; dsimp only at h; rw [h]; exact cnt_gd (v := ⟨lb, sb⟩) Yb.out)
  have h04 : 0 < l4.length := HG4.out.pos
  have e4 : l4.length = (cnt ⟨lb, sb⟩).b.length := by have h := congrArg Vc.b E4.out; dsimp only at h; rw [h]
  obtain ⟨n, hn⟩ : ∃ n : Nat, n = max l3.length l4.length := ⟨_, rfl⟩
  have hn1 : n = wd ⟨la, sa⟩ ⟨lb, sb⟩ := by rw [hn, e3, e4]; rfl
  have hn2 : 0 < n ∧ n ≤ 128 := by rw [hn1]; exact wd_bd (a := ⟨la, sa⟩) (b := ⟨lb, sb⟩) Ya.out Yb.out
  have hmx : (if (l4.length : Int) > l3.length then (l4.length : Int) else l3.length) = (n : Int) := by rw [hn]; simp only [Nat.max_def]; split <;> split <;> omega
  have b3 := L3.out
  have b4 := L4.out
  refine reg_lit (wpl_r1 [(21, .pointer (some ⟨Na, 0, none⟩))] (by kernel_rfl) (wpl_ldsl Ba.out rfl (by kernel_rfl) rfl (by kernel_rfl) (wpl_r2 [(24, .pointer (some ⟨Nb, 0, none⟩)), (23, .int .i64 ((l3.length : Nat)))] (by kernel_rfl) (wpl_ldsl Bb.out rfl (by kernel_rfl) rfl (by kernel_rfl) (wpl_r1 [(26, .int .i64 ((l4.length : Nat)))] (by kernel_rfl) (wpl_val rfl (by kernel_rfl) (run_max (a := (l3.length : Int)) (b := (l4.length : Int)) rfl (by kernel_rfl) (by kernel_rfl) hmx) (wpl_r1 [(6, .int .i64 ((n : Nat)))] (by kernel_rfl) ?_)))))))
  refine wpl_end (then_normal (wp_seq (region_R (n := 6) (N := 8) (by kernel_rfl) (by kernel_rfl) (by kernel_rfl) (by kernel_rfl) (by kernel_rfl) (by kernel_rfl) (fun _ _ _ _ _ h => h) ?_)))
  intro F hQ
  have Ba0 := Ba
  have Bb0 := Bb
  have Bu0 := Bu
  have Bv0 := Bv
  refine anyR_ldvec (i := 0) (m' := 1) Ba0.out F hQ rfl rfl (by kernel_rfl) (by kernel_rfl) (by kernel_rfl) (by kernel_rfl) (by kernel_rfl) rfl (by kernel_rfl) (anyR_val (i := 1) (m' := 3) (v := .int .i64 ((n : Nat))) F hQ rfl rfl (by kernel_rfl) (by kernel_rfl) (by kernel_rfl) (by kernel_rfl) (by kernel_rfl) (fun _ _ => by kernel_rfl) (anyR_ldvec (i := 3) (m' := 11) Bb0.out F hQ rfl rfl (by kernel_rfl) (by kernel_rfl) (by kernel_rfl) (by kernel_rfl) (by kernel_rfl) rfl (by kernel_rfl) (anyR_val (i := 4) (m' := 27) (v := .int .i64 ((n : Nat))) F hQ rfl rfl (by kernel_rfl) (by kernel_rfl) (by kernel_rfl) (by kernel_rfl) (by kernel_rfl) (fun _ _ => by kernel_rfl) ?_)))
  refine anyR_call (i := 2) (m' := 31) rfl rfl (by kernel_rfl) (by kernel_rfl) (by kernel_rfl) (by kernel_rfl) (by kernel_rfl) ((rfit_any A3 l3 c3 s3 _ L3.out C3 (by exact O3.out) Y3.out n (by omega) h03).mono ?_)
  rintro e w11 ⟨l5, s5, A5, c5, E5, rfl, C5, O5, hb⟩
  refine ⟨_, rfl, hb, ?_⟩
  have n5u : Nu < w10.heap.size := Bu.out.lt
  have n5v : Nv < w10.heap.size := Bv.out.lt
  have k5 : w.heap.size ≤ w10.heap.size := hU.size
  have p5 : 0 < l5.length := by have h := congrArg (fun v : Vc => v.b.length) E5.out; dsimp only at h; rw [h, rsz_length]; exact hn2.1
  replace hb : Below w10.heap.size w10 w11 := Below.trans ((Below.refl _ _).drew) hb
  replace Oa := hide (RQ.below Oa.out hb)
  replace Ob := hide (RQ.below Ob.out hb)
  replace O3 := hide (RQ.below O3.out hb)
  replace O4 := hide (RQ.below O4.out hb)
  replace Ba := hide (Box.kept Ba.out hb)
  replace Bb := hide (Box.kept Bb.out hb)
  replace Bu := hide (Box.kept Bu.out hb)
  replace Bv := hide (Box.kept Bv.out hb)
  replace hU := hU.trans (hb.mono hU.size)
  clear hb
  have G5 : Gd l5 := by have h := congrArg Vc.b E5.out; dsimp only at h; rw [h]; exact (gd_rsz (v := ⟨l3, s3⟩) HG3.out hn2.1 hn2.2)
  have L5 := hide (show l5.length ≤ 4096 from Nat.le_trans G5.le (by decide))
  have Y5 := hide G5.by_
  clear G5
  refine anyR_call (i := 5) (m' := 63) rfl rfl (by kernel_rfl) (by kernel_rfl) (by kernel_rfl) (by kernel_rfl) (by kernel_rfl) ((rfit_any A4 l4 c4 s4 _ L4.out C4 O4.out Y4.out n (by omega) h04).mono ?_)
  rintro e w12 ⟨l6, s6, A6, c6, E6, rfl, C6, O6, hb⟩
  refine ⟨_, rfl, hb, ?_⟩
  have n6u : Nu < w11.heap.size := Bu.out.lt
  have n6v : Nv < w11.heap.size := Bv.out.lt
  have k6 : w.heap.size ≤ w11.heap.size := hU.size
  have p6 : 0 < l6.length := by have h := congrArg (fun v : Vc => v.b.length) E6.out; dsimp only at h; rw [h, rsz_length]; exact hn2.1
  have S56 : Hid (Sep A5 A6) := hide (sep_of O5.out O6.out p5 p6)
  replace Oa := hide (RQ.below Oa.out hb)
  replace Ob := hide (RQ.below Ob.out hb)
  replace O3 := hide (RQ.below O3.out hb)
  replace O4 := hide (RQ.below O4.out hb)
  replace O5 := hide (OwQ.kept O5.out hb)
  replace Ba := hide (Box.kept Ba.out hb)
  replace Bb := hide (Box.kept Bb.out hb)
  replace Bu := hide (Box.kept Bu.out hb)
  replace Bv := hide (Box.kept Bv.out hb)
  replace hU := hU.trans (hb.mono hU.size)
  clear hb
  have G6 : Gd l6 := by have h := congrArg Vc.b E6.out; dsimp only at h; rw [h]; exact (gd_rsz (v := ⟨l4, s4⟩) HG4.out hn2.1 hn2.2)
  have L6 := hide (show l6.length ≤ 4096 from Nat.le_trans G6.le (by decide))
  have Y6 := hide G6.by_
  clear G6
  refine anyR_e (anyE_stq (i := 6) (m' := 127) Bu.out rfl rfl (by kernel_rfl) (by kernel_rfl) (by kernel_rfl) (by kernel_rfl) rfl (by kernel_rfl) (A2 := A5) (m2 := l5.length) (c2 := c5) (s2 := s5) (by kernel_rfl) ?_)
  intro w13 hst hkeep
  replace Oa := hide (hst.rq Oa.out)
  replace Ob := hide (hst.rq Ob.out)
  replace O3 := hide (hst.rq O3.out)
  replace O4 := hide (hst.rq O4.out)
  replace O5 := hide (OwQ.std (m2 := 0) (c2 := 0) (A2 := none) (s2 := false) O5.out hst.bel n5u hkeep)
  replace O6 := hide (OwQ.std (m2 := 0) (c2 := 0) (A2 := none) (s2 := false) O6.out hst.bel n6u hkeep)
  replace Ba := hide (hst.ne Ba.out (by first | exact neau | exact (Ne.symm neua)))
  replace Bb := hide (hst.ne Bb.out (by first | exact nebu | exact (Ne.symm neub)))
  replace Bv := hide (hst.ne Bv.out (by first | exact nevu | exact (Ne.symm neuv)))
  replace Bu := hide hst.box
  replace hU := hU.trans (hst.bel hzu)
  clear hst hkeep
  refine anyE_stq (i := 7) (m' := 255) Bv.out rfl rfl (by kernel_rfl) (by kernel_rfl) (by kernel_rfl) (by kernel_rfl) rfl (by kernel_rfl) (A2 := A6) (m2 := l6.length) (c2 := c6) (s2 := s6) (by kernel_rfl) ?_
  intro w14 hst hkeep
  replace Oa := hide (hst.rq Oa.out)
  replace Ob := hide (hst.rq Ob.out)
  replace O3 := hide (hst.rq O3.out)
  replace O4 := hide (hst.rq O4.out)
  replace O5 := hide (OwQ.std (m2 := 0) (c2 := 0) (A2 := none) (s2 := false) O5.out hst.bel n5v hkeep)
  replace O6 := hide (OwQ.std (m2 := 0) (c2 := 0) (A2 := none) (s2 := false) O6.out hst.bel n6v hkeep)
  replace Ba := hide (hst.ne Ba.out (by first | exact neav | exact (Ne.symm neva)))
  replace Bb := hide (hst.ne Bb.out (by first | exact nebv | exact (Ne.symm nevb)))
  replace Bu := hide (hst.ne Bu.out (by first | exact neuv | exact (Ne.symm nevu)))
  replace Bv := hide hst.box
  replace hU := hU.trans (hst.bel hzv)
  clear hst hkeep
  refine anyE_done (by kernel_rfl) ?_
  clear F hQ Ba0 Bb0 Bu0 Bv0
  refine then_normal (wp_ret ?_)
  have z5 : s5 = (sg ⟨la, sa⟩ ⟨lb, sb⟩) := (congrArg Vc.s E5.out).trans (congrArg Vc.s E3.out)
  have z6 : s6 = (sg ⟨la, sa⟩ ⟨lb, sb⟩) := (congrArg Vc.s E6.out).trans (congrArg Vc.s E4.out)
  refine ret_box2 Bu.out Bv.out rfl (by kernel_rfl) (by kernel_rfl) ?_
  exact ⟨l5, A5, c5, l6, A6, c6, hide ((congrArg Vc.b E5.out).trans (by rw [E3.out, hn1]; rfl)), hide ((congrArg Vc.b E6.out).trans (by rw [E4.out, hn1]; rfl)), (by show Ending.returned (.tuple #[vagg A5 l5.length c5 s5, vagg A6 l6.length c6 s6]) = .returned (.tuple #[vagg A5 l5.length c5 (sg ⟨la, sa⟩ ⟨lb, sb⟩), vagg A6 l6.length c6 (sg ⟨la, sa⟩ ⟨lb, sb⟩)]); rw [z5, z6]), C5, C6, hide (OwQ.low O5.out k5), hide (OwQ.low O6.out k6), S56, hU⟩
  have hsg3 : sg ⟨la, sa⟩ ⟨lb, sb⟩ = false := by rw [hsg, h1, h2] <;> rfl
  refine reg_lit (wpl_r1 [(11, .pointer (some ⟨Na, 1, none⟩))] (by kernel_rfl) (wpl_ldsg Ba.out rfl (by kernel_rfl) rfl (by kernel_rfl) (wpl_val rfl (by kernel_rfl) (run_not (a := s1) rfl (by kernel_rfl) (by rw [h1] <;> rfl)) (wpl_r2 [(15, .pointer (some ⟨Nb, 1, none⟩)), (14, .bool false)] (by kernel_rfl) (wpl_ldsg Bb.out rfl (by kernel_rfl) rfl (by kernel_rfl) (wpl_val rfl (by kernel_rfl) (run_not (a := s2) rfl (by kernel_rfl) (by rw [h2] <;> rfl)) (wpl_r1 [(18, .bool true)] (by kernel_rfl) ?_)))))))
  refine wpl_end (then_normal (wp_ift (by kernel_rfl) (reg_lit (wpl_r1 [(19, .pointer (some ⟨Na, 1, none⟩))] (by kernel_rfl) (wpl_stsg (q := false) Ba.out rfl (by kernel_rfl) rfl (by kernel_rfl) (by kernel_rfl) ?_)))))
  intro w15 hst
  replace Oa := hide (hst.rq Oa.out)
  replace Ob := hide (hst.rq Ob.out)
  replace O1 := hide (hst.rq O1.out)
  replace O2 := hide (hst.rq O2.out)
  replace Bb := hide (hst.ne Bb.out (by first | exact neba | exact (Ne.symm neab)))
  replace Bu := hide (hst.ne Bu.out (by first | exact neua | exact (Ne.symm neau)))
  replace Bv := hide (hst.ne Bv.out (by first | exact neva | exact (Ne.symm neav)))
  replace Ba := hide hst.box
  replace hU := hU.trans (hst.bel hza)
  clear hst
  refine wpl_r1 [(20, .pointer (some ⟨Nb, 1, none⟩))] (by kernel_rfl) (wpl_stsg (q := false) Bb.out rfl (by kernel_rfl) rfl (by kernel_rfl) (by kernel_rfl) ?_)
  intro w16 hst
  replace Oa := hide (hst.rq Oa.out)
  replace Ob := hide (hst.rq Ob.out)
  replace O1 := hide (hst.rq O1.out)
  replace O2 := hide (hst.rq O2.out)
  replace Ba := hide (hst.ne Ba.out (by first | exact neab | exact (Ne.symm neba)))
  replace Bu := hide (hst.ne Bu.out (by first | exact neub | exact (Ne.symm nebu)))
  replace Bv := hide (hst.ne Bv.out (by first | exact nevb | exact (Ne.symm nebv)))
  replace Bb := hide hst.box
  replace hU := hU.trans (hst.bel hzb)
  clear hst
  refine wpl_end (then_normal (wp_seq ?_))
  obtain ⟨A3, l3, c3, s3, hb, O3, L3, Y3, C3, E3⟩ : ∃ (A : Option Addr) (l : List Int) (c : Nat) (s : Bool), Hid (Box Na A l.length c s w16) ∧ Hid (RQ w16 A l) ∧ Hid (l.length ≤ 4096) ∧ Hid (By l) ∧ Hid (l.length ≤ c ∧ c ≤ maxLen) ∧ Hid ((⟨l, s⟩ : Vc) = ⟨(cnt ⟨la, sa⟩).b, sg ⟨la, sa⟩ ⟨lb, sb⟩⟩) := ⟨A1, l1, c1, false, Ba, hide O1.out, L1, Y1, C1, hide (by rw [hsg3, ← congrArg Vc.b E1.out])⟩
  replace Ba := hb
  clear hb O1 L1 Y1 C1
  have HG3 := hide (show Gd l3 by have h := congrArg Vc.b E3.out; dsimp only at h; rw [h]; exact cnt_gd (v := ⟨la, sa⟩) Ya.out)
  have h03 : 0 < l3.length := HG3.out.pos
  have e3 : l3.length = (cnt ⟨la, sa⟩).b.length := by have h := congrArg Vc.b E3.out; dsimp only at h; rw [h]
  obtain ⟨A4, l4, c4, s4, hb, O4, L4, Y4, C4, E4⟩ : ∃ (A : Option Addr) (l : List Int) (c : Nat) (s : Bool), Hid (Box Nb A l.length c s w16) ∧ Hid (RQ w16 A l) ∧ Hid (l.length ≤ 4096) ∧ Hid (By l) ∧ Hid (l.length ≤ c ∧ c ≤ maxLen) ∧ Hid ((⟨l, s⟩ : Vc) = ⟨(cnt ⟨lb, sb⟩).b, sg ⟨la, sa⟩ ⟨lb, sb⟩⟩) := ⟨A2, l2, c2, false, Bb, hide O2.out, L2, Y2, C2, hide (by rw [hsg3, ← congrArg Vc.b E2.out])⟩
  replace Bb := hb
  clear hb O2 L2 Y2 C2
  have HG4 := hide (show Gd l4 by have h := congrArg Vc.b E4.out; dsimp only at h; rw [h]; exact cnt_gd (v := ⟨lb, sb⟩) Yb.out)
  have h04 : 0 < l4.length := HG4.out.pos
  have e4 : l4.length = (cnt ⟨lb, sb⟩).b.length := by have h := congrArg Vc.b E4.out; dsimp only at h; rw [h]
  obtain ⟨n, hn⟩ : ∃ n : Nat, n = max l3.length l4.length := ⟨_, rfl⟩
  have hn1 : n = wd ⟨la, sa⟩ ⟨lb, sb⟩ := by rw [hn, e3, e4]; rfl
  have hn2 : 0 < n ∧ n ≤ 128 := by rw [hn1]; exact wd_bd (a := ⟨la, sa⟩) (b := ⟨lb, sb⟩) Ya.out Yb.out
  have hmx : (if (l4.length : Int) > l3.length then (l4.length : Int) else l3.length) = (n : Int) := by rw [hn]; simp only [Nat.max_def]; split <;> split <;> omega
  have b3 := L3.out
  have b4 := L4.out
  refine reg_lit (wpl_r1 [(21, .pointer (some ⟨Na, 0, none⟩))] (by kernel_rfl) (wpl_ldsl Ba.out rfl (by kernel_rfl) rfl (by kernel_rfl) (wpl_r2 [(24, .pointer (some ⟨Nb, 0, none⟩)), (23, .int .i64 ((l3.length : Nat)))] (by kernel_rfl) (wpl_ldsl Bb.out rfl (by kernel_rfl) rfl (by kernel_rfl) (wpl_r1 [(26, .int .i64 ((l4.length : Nat)))] (by kernel_rfl) (wpl_val rfl (by kernel_rfl) (run_max (a := (l3.length : Int)) (b := (l4.length : Int)) rfl (by kernel_rfl) (by kernel_rfl) hmx) (wpl_r1 [(6, .int .i64 ((n : Nat)))] (by kernel_rfl) ?_)))))))
  refine wpl_end (then_normal (wp_seq (region_R (n := 6) (N := 8) (by kernel_rfl) (by kernel_rfl) (by kernel_rfl) (by kernel_rfl) (by kernel_rfl) (by kernel_rfl) (fun _ _ _ _ _ h => h) ?_)))
  intro F hQ
  have Ba0 := Ba
  have Bb0 := Bb
  have Bu0 := Bu
  have Bv0 := Bv
  refine anyR_ldvec (i := 0) (m' := 1) Ba0.out F hQ rfl rfl (by kernel_rfl) (by kernel_rfl) (by kernel_rfl) (by kernel_rfl) (by kernel_rfl) rfl (by kernel_rfl) (anyR_val (i := 1) (m' := 3) (v := .int .i64 ((n : Nat))) F hQ rfl rfl (by kernel_rfl) (by kernel_rfl) (by kernel_rfl) (by kernel_rfl) (by kernel_rfl) (fun _ _ => by kernel_rfl) (anyR_ldvec (i := 3) (m' := 11) Bb0.out F hQ rfl rfl (by kernel_rfl) (by kernel_rfl) (by kernel_rfl) (by kernel_rfl) (by kernel_rfl) rfl (by kernel_rfl) (anyR_val (i := 4) (m' := 27) (v := .int .i64 ((n : Nat))) F hQ rfl rfl (by kernel_rfl) (by kernel_rfl) (by kernel_rfl) (by kernel_rfl) (by kernel_rfl) (fun _ _ => by kernel_rfl) ?_)))
  refine anyR_call (i := 2) (m' := 31) rfl rfl (by kernel_rfl) (by kernel_rfl) (by kernel_rfl) (by kernel_rfl) (by kernel_rfl) ((rfit_any A3 l3 c3 s3 _ L3.out C3 (by exact O3.out) Y3.out n (by omega) h03).mono ?_)
  rintro e w17 ⟨l5, s5, A5, c5, E5, rfl, C5, O5, hb⟩
  refine ⟨_, rfl, hb, ?_⟩
  have n5u : Nu < w16.heap.size := Bu.out.lt
  have n5v : Nv < w16.heap.size := Bv.out.lt
  have k5 : w.heap.size ≤ w16.heap.size := hU.size
  have p5 : 0 < l5.length := by have h := congrArg (fun v : Vc => v.b.length) E5.out; dsimp only at h; rw [h, rsz_length]; exact hn2.1
  replace hb : Below w16.heap.size w16 w17 := Below.trans ((Below.refl _ _).drew) hb
  replace Oa := hide (RQ.below Oa.out hb)
  replace Ob := hide (RQ.below Ob.out hb)
  replace O3 := hide (RQ.below O3.out hb)
  replace O4 := hide (RQ.below O4.out hb)
  replace Ba := hide (Box.kept Ba.out hb)
  replace Bb := hide (Box.kept Bb.out hb)
  replace Bu := hide (Box.kept Bu.out hb)
  replace Bv := hide (Box.kept Bv.out hb)
  replace hU := hU.trans (hb.mono hU.size)
  clear hb
  have G5 : Gd l5 := by have h := congrArg Vc.b E5.out; dsimp only at h; rw [h]; exact (gd_rsz (v := ⟨l3, s3⟩) HG3.out hn2.1 hn2.2)
  have L5 := hide (show l5.length ≤ 4096 from Nat.le_trans G5.le (by decide))
  have Y5 := hide G5.by_
  clear G5
  refine anyR_call (i := 5) (m' := 63) rfl rfl (by kernel_rfl) (by kernel_rfl) (by kernel_rfl) (by kernel_rfl) (by kernel_rfl) ((rfit_any A4 l4 c4 s4 _ L4.out C4 O4.out Y4.out n (by omega) h04).mono ?_)
  rintro e w18 ⟨l6, s6, A6, c6, E6, rfl, C6, O6, hb⟩
  refine ⟨_, rfl, hb, ?_⟩
  have n6u : Nu < w17.heap.size := Bu.out.lt
  have n6v : Nv < w17.heap.size := Bv.out.lt
  have k6 : w.heap.size ≤ w17.heap.size := hU.size
  have p6 : 0 < l6.length := by have h := congrArg (fun v : Vc => v.b.length) E6.out; dsimp only at h; rw [h, rsz_length]; exact hn2.1
  have S56 : Hid (Sep A5 A6) := hide (sep_of O5.out O6.out p5 p6)
  replace Oa := hide (RQ.below Oa.out hb)
  replace Ob := hide (RQ.below Ob.out hb)
  replace O3 := hide (RQ.below O3.out hb)
  replace O4 := hide (RQ.below O4.out hb)
  replace O5 := hide (OwQ.kept O5.out hb)
  replace Ba := hide (Box.kept Ba.out hb)
  replace Bb := hide (Box.kept Bb.out hb)
  replace Bu := hide (Box.kept Bu.out hb)
  replace Bv := hide (Box.kept Bv.out hb)
  replace hU := hU.trans (hb.mono hU.size)
  clear hb
  have G6 : Gd l6 := by have h := congrArg Vc.b E6.out; dsimp only at h; rw [h]; exact (gd_rsz (v := ⟨l4, s4⟩) HG4.out hn2.1 hn2.2)
  have L6 := hide (show l6.length ≤ 4096 from Nat.le_trans G6.le (by decide))
  have Y6 := hide G6.by_
  clear G6
  refine anyR_e (anyE_stq (i := 6) (m' := 127) Bu.out rfl rfl (by kernel_rfl) (by kernel_rfl) (by kernel_rfl) (by kernel_rfl) rfl (by kernel_rfl) (A2 := A5) (m2 := l5.length) (c2 := c5) (s2 := s5) (by kernel_rfl) ?_)
  intro w19 hst hkeep
  replace Oa := hide (hst.rq Oa.out)
  replace Ob := hide (hst.rq Ob.out)
  replace O3 := hide (hst.rq O3.out)
  replace O4 := hide (hst.rq O4.out)
  replace O5 := hide (OwQ.std (m2 := 0) (c2 := 0) (A2 := none) (s2 := false) O5.out hst.bel n5u hkeep)
  replace O6 := hide (OwQ.std (m2 := 0) (c2 := 0) (A2 := none) (s2 := false) O6.out hst.bel n6u hkeep)
  replace Ba := hide (hst.ne Ba.out (by first | exact neau | exact (Ne.symm neua)))
  replace Bb := hide (hst.ne Bb.out (by first | exact nebu | exact (Ne.symm neub)))
  replace Bv := hide (hst.ne Bv.out (by first | exact nevu | exact (Ne.symm neuv)))
  replace Bu := hide hst.box
  replace hU := hU.trans (hst.bel hzu)
  clear hst hkeep
  refine anyE_stq (i := 7) (m' := 255) Bv.out rfl rfl (by kernel_rfl) (by kernel_rfl) (by kernel_rfl) (by kernel_rfl) rfl (by kernel_rfl) (A2 := A6) (m2 := l6.length) (c2 := c6) (s2 := s6) (by kernel_rfl) ?_
  intro w20 hst hkeep
  replace Oa := hide (hst.rq Oa.out)
  replace Ob := hide (hst.rq Ob.out)
  replace O3 := hide (hst.rq O3.out)
  replace O4 := hide (hst.rq O4.out)
  replace O5 := hide (OwQ.std (m2 := 0) (c2 := 0) (A2 := none) (s2 := false) O5.out hst.bel n5v hkeep)
  replace O6 := hide (OwQ.std (m2 := 0) (c2 := 0) (A2 := none) (s2 := false) O6.out hst.bel n6v hkeep)
  replace Ba := hide (hst.ne Ba.out (by first | exact neav | exact (Ne.symm neva)))
  replace Bb := hide (hst.ne Bb.out (by first | exact nebv | exact (Ne.symm nevb)))
  replace Bu := hide (hst.ne Bu.out (by first | exact neuv | exact (Ne.symm nevu)))
  replace Bv := hide hst.box
  replace hU := hU.trans (hst.bel hzv)
  clear hst hkeep
  refine anyE_done (by kernel_rfl) ?_
  clear F hQ Ba0 Bb0 Bu0 Bv0
  refine then_normal (wp_ret ?_)
  have z5 : s5 = (sg ⟨la, sa⟩ ⟨lb, sb⟩) := (congrArg Vc.s E5.out).trans (congrArg Vc.s E3.out)
  have z6 : s6 = (sg ⟨la, sa⟩ ⟨lb, sb⟩) := (congrArg Vc.s E6.out).trans (congrArg Vc.s E4.out)
  refine ret_box2 Bu.out Bv.out rfl (by kernel_rfl) (by kernel_rfl) ?_
  exact ⟨l5, A5, c5, l6, A6, c6, hide ((congrArg Vc.b E5.out).trans (by rw [E3.out, hn1]; rfl)), hide ((congrArg Vc.b E6.out).trans (by rw [E4.out, hn1]; rfl)), (by show Ending.returned (.tuple #[vagg A5 l5.length c5 s5, vagg A6 l6.length c6 s6]) = .returned (.tuple #[vagg A5 l5.length c5 (sg ⟨la, sa⟩ ⟨lb, sb⟩), vagg A6 l6.length c6 (sg ⟨la, sa⟩ ⟨lb, sb⟩)]); rw [z5, z6]), C5, C6, hide (OwQ.low O5.out k5), hide (OwQ.low O6.out k6), S56, hU⟩
  have hsg3 : sg ⟨la, sa⟩ ⟨lb, sb⟩ = true := by rw [hsg, h1, h2] <;> rfl
  refine reg_lit (wpl_r1 [(11, .pointer (some ⟨Na, 1, none⟩))] (by kernel_rfl) (wpl_ldsg Ba.out rfl (by kernel_rfl) rfl (by kernel_rfl) (wpl_val rfl (by kernel_rfl) (run_not (a := s1) rfl (by kernel_rfl) (by rw [h1] <;> rfl)) (wpl_r2 [(15, .pointer (some ⟨Nb, 1, none⟩)), (14, .bool false)] (by kernel_rfl) (wpl_ldsg Bb.out rfl (by kernel_rfl) rfl (by kernel_rfl) (wpl_val rfl (by kernel_rfl) (run_not (a := s2) rfl (by kernel_rfl) (by rw [h2] <;> rfl)) (wpl_r1 [(18, .bool false)] (by kernel_rfl) ?_)))))))
  refine wpl_end (then_normal (wp_iff (by kernel_rfl) (wp_skip (then_normal (wp_seq ?_)))))
  obtain ⟨A3, l3, c3, s3, hb, O3, L3, Y3, C3, E3⟩ : ∃ (A : Option Addr) (l : List Int) (c : Nat) (s : Bool), Hid (Box Na A l.length c s w8) ∧ Hid (RQ w8 A l) ∧ Hid (l.length ≤ 4096) ∧ Hid (By l) ∧ Hid (l.length ≤ c ∧ c ≤ maxLen) ∧ Hid ((⟨l, s⟩ : Vc) = ⟨(cnt ⟨la, sa⟩).b, sg ⟨la, sa⟩ ⟨lb, sb⟩⟩) := ⟨A1, l1, c1, s1, Ba, hide O1.out, L1, Y1, C1, hide (by rw [h1, hsg3, ← congrArg Vc.b E1.out])⟩
  replace Ba := hb
  clear hb O1 L1 Y1 C1
  have HG3 := hide (show Gd l3 by have h := congrArg Vc.b E3.out; dsimp only at h; rw [h]; exact cnt_gd (v := ⟨la, sa⟩) Ya.out)
  have h03 : 0 < l3.length := HG3.out.pos
  have e3 : l3.length = (cnt ⟨la, sa⟩).b.length := by have h := congrArg Vc.b E3.out; dsimp only at h; rw [h]
  obtain ⟨A4, l4, c4, s4, hb, O4, L4, Y4, C4, E4⟩ : ∃ (A : Option Addr) (l : List Int) (c : Nat) (s : Bool), Hid (Box Nb A l.length c s w8) ∧ Hid (RQ w8 A l) ∧ Hid (l.length ≤ 4096) ∧ Hid (By l) ∧ Hid (l.length ≤ c ∧ c ≤ maxLen) ∧ Hid ((⟨l, s⟩ : Vc) = ⟨(cnt ⟨lb, sb⟩).b, sg ⟨la, sa⟩ ⟨lb, sb⟩⟩) := ⟨A2, l2, c2, s2, Bb, hide O2.out, L2, Y2, C2, hide (by rw [h2, hsg3, ← congrArg Vc.b E2.out])⟩
  replace Bb := hb
  clear hb O2 L2 Y2 C2
  have HG4 := hide (show Gd l4 by have h := congrArg Vc.b E4.out; dsimp only at h; rw [h]; exact cnt_gd (v := ⟨lb, sb⟩) Yb.out)
  have h04 : 0 < l4.length := HG4.out.pos
  have e4 : l4.length = (cnt ⟨lb, sb⟩).b.length := by have h := congrArg Vc.b E4.out; dsimp only at h; rw [h]
  obtain ⟨n, hn⟩ : ∃ n : Nat, n = max l3.length l4.length := ⟨_, rfl⟩
  have hn1 : n = wd ⟨la, sa⟩ ⟨lb, sb⟩ := by rw [hn, e3, e4]; rfl
  have hn2 : 0 < n ∧ n ≤ 128 := by rw [hn1]; exact wd_bd (a := ⟨la, sa⟩) (b := ⟨lb, sb⟩) Ya.out Yb.out
  have hmx : (if (l4.length : Int) > l3.length then (l4.length : Int) else l3.length) = (n : Int) := by rw [hn]; simp only [Nat.max_def]; split <;> split <;> omega
  have b3 := L3.out
  have b4 := L4.out
  refine reg_lit (wpl_r1 [(21, .pointer (some ⟨Na, 0, none⟩))] (by kernel_rfl) (wpl_ldsl Ba.out rfl (by kernel_rfl) rfl (by kernel_rfl) (wpl_r2 [(24, .pointer (some ⟨Nb, 0, none⟩)), (23, .int .i64 ((l3.length : Nat)))] (by kernel_rfl) (wpl_ldsl Bb.out rfl (by kernel_rfl) rfl (by kernel_rfl) (wpl_r1 [(26, .int .i64 ((l4.length : Nat)))] (by kernel_rfl) (wpl_val rfl (by kernel_rfl) (run_max (a := (l3.length : Int)) (b := (l4.length : Int)) rfl (by kernel_rfl) (by kernel_rfl) hmx) (wpl_r1 [(6, .int .i64 ((n : Nat)))] (by kernel_rfl) ?_)))))))
  refine wpl_end (then_normal (wp_seq (region_R (n := 6) (N := 8) (by kernel_rfl) (by kernel_rfl) (by kernel_rfl) (by kernel_rfl) (by kernel_rfl) (by kernel_rfl) (fun _ _ _ _ _ h => h) ?_)))
  intro F hQ
  have Ba0 := Ba
  have Bb0 := Bb
  have Bu0 := Bu
  have Bv0 := Bv
  refine anyR_ldvec (i := 0) (m' := 1) Ba0.out F hQ rfl rfl (by kernel_rfl) (by kernel_rfl) (by kernel_rfl) (by kernel_rfl) (by kernel_rfl) rfl (by kernel_rfl) (anyR_val (i := 1) (m' := 3) (v := .int .i64 ((n : Nat))) F hQ rfl rfl (by kernel_rfl) (by kernel_rfl) (by kernel_rfl) (by kernel_rfl) (by kernel_rfl) (fun _ _ => by kernel_rfl) (anyR_ldvec (i := 3) (m' := 11) Bb0.out F hQ rfl rfl (by kernel_rfl) (by kernel_rfl) (by kernel_rfl) (by kernel_rfl) (by kernel_rfl) rfl (by kernel_rfl) (anyR_val (i := 4) (m' := 27) (v := .int .i64 ((n : Nat))) F hQ rfl rfl (by kernel_rfl) (by kernel_rfl) (by kernel_rfl) (by kernel_rfl) (by kernel_rfl) (fun _ _ => by kernel_rfl) ?_)))
  refine anyR_call (i := 2) (m' := 31) rfl rfl (by kernel_rfl) (by kernel_rfl) (by kernel_rfl) (by kernel_rfl) (by kernel_rfl) ((rfit_any A3 l3 c3 s3 _ L3.out C3 (by exact O3.out) Y3.out n (by omega) h03).mono ?_)
  rintro e w21 ⟨l5, s5, A5, c5, E5, rfl, C5, O5, hb⟩
  refine ⟨_, rfl, hb, ?_⟩
  have n5u : Nu < w8.heap.size := Bu.out.lt
  have n5v : Nv < w8.heap.size := Bv.out.lt
  have k5 : w.heap.size ≤ w8.heap.size := hU.size
  have p5 : 0 < l5.length := by have h := congrArg (fun v : Vc => v.b.length) E5.out; dsimp only at h; rw [h, rsz_length]; exact hn2.1
  replace hb : Below w8.heap.size w8 w21 := Below.trans ((Below.refl _ _).drew) hb
  replace Oa := hide (RQ.below Oa.out hb)
  replace Ob := hide (RQ.below Ob.out hb)
  replace O3 := hide (RQ.below O3.out hb)
  replace O4 := hide (RQ.below O4.out hb)
  replace Ba := hide (Box.kept Ba.out hb)
  replace Bb := hide (Box.kept Bb.out hb)
  replace Bu := hide (Box.kept Bu.out hb)
  replace Bv := hide (Box.kept Bv.out hb)
  replace hU := hU.trans (hb.mono hU.size)
  clear hb
  have G5 : Gd l5 := by have h := congrArg Vc.b E5.out; dsimp only at h; rw [h]; exact (gd_rsz (v := ⟨l3, s3⟩) HG3.out hn2.1 hn2.2)
  have L5 := hide (show l5.length ≤ 4096 from Nat.le_trans G5.le (by decide))
  have Y5 := hide G5.by_
  clear G5
  refine anyR_call (i := 5) (m' := 63) rfl rfl (by kernel_rfl) (by kernel_rfl) (by kernel_rfl) (by kernel_rfl) (by kernel_rfl) ((rfit_any A4 l4 c4 s4 _ L4.out C4 O4.out Y4.out n (by omega) h04).mono ?_)
  rintro e w22 ⟨l6, s6, A6, c6, E6, rfl, C6, O6, hb⟩
  refine ⟨_, rfl, hb, ?_⟩
  have n6u : Nu < w21.heap.size := Bu.out.lt
  have n6v : Nv < w21.heap.size := Bv.out.lt
  have k6 : w.heap.size ≤ w21.heap.size := hU.size
  have p6 : 0 < l6.length := by have h := congrArg (fun v : Vc => v.b.length) E6.out; dsimp only at h; rw [h, rsz_length]; exact hn2.1
  have S56 : Hid (Sep A5 A6) := hide (sep_of O5.out O6.out p5 p6)
  replace Oa := hide (RQ.below Oa.out hb)
  replace Ob := hide (RQ.below Ob.out hb)
  replace O3 := hide (RQ.below O3.out hb)
  replace O4 := hide (RQ.below O4.out hb)
  replace O5 := hide (OwQ.kept O5.out hb)
  replace Ba := hide (Box.kept Ba.out hb)
  replace Bb := hide (Box.kept Bb.out hb)
  replace Bu := hide (Box.kept Bu.out hb)
  replace Bv := hide (Box.kept Bv.out hb)
  replace hU := hU.trans (hb.mono hU.size)
  clear hb
  have G6 : Gd l6 := by have h := congrArg Vc.b E6.out; dsimp only at h; rw [h]; exact (gd_rsz (v := ⟨l4, s4⟩) HG4.out hn2.1 hn2.2)
  have L6 := hide (show l6.length ≤ 4096 from Nat.le_trans G6.le (by decide))
  have Y6 := hide G6.by_
  clear G6
  refine anyR_e (anyE_stq (i := 6) (m' := 127) Bu.out rfl rfl (by kernel_rfl) (by kernel_rfl) (by kernel_rfl) (by kernel_rfl) rfl (by kernel_rfl) (A2 := A5) (m2 := l5.length) (c2 := c5) (s2 := s5) (by kernel_rfl) ?_)
  intro w23 hst hkeep
  replace Oa := hide (hst.rq Oa.out)
  replace Ob := hide (hst.rq Ob.out)
  replace O3 := hide (hst.rq O3.out)
  replace O4 := hide (hst.rq O4.out)
  replace O5 := hide (OwQ.std (m2 := 0) (c2 := 0) (A2 := none) (s2 := false) O5.out hst.bel n5u hkeep)
  replace O6 := hide (OwQ.std (m2 := 0) (c2 := 0) (A2 := none) (s2 := false) O6.out hst.bel n6u hkeep)
  replace Ba := hide (hst.ne Ba.out (by first | exact neau | exact (Ne.symm neua)))
  replace Bb := hide (hst.ne Bb.out (by first | exact nebu | exact (Ne.symm neub)))
  replace Bv := hide (hst.ne Bv.out (by first | exact nevu | exact (Ne.symm neuv)))
  replace Bu := hide hst.box
  replace hU := hU.trans (hst.bel hzu)
  clear hst hkeep
  refine anyE_stq (i := 7) (m' := 255) Bv.out rfl rfl (by kernel_rfl) (by kernel_rfl) (by kernel_rfl) (by kernel_rfl) rfl (by kernel_rfl) (A2 := A6) (m2 := l6.length) (c2 := c6) (s2 := s6) (by kernel_rfl) ?_
  intro w24 hst hkeep
  replace Oa := hide (hst.rq Oa.out)
  replace Ob := hide (hst.rq Ob.out)
  replace O3 := hide (hst.rq O3.out)
  replace O4 := hide (hst.rq O4.out)
  replace O5 := hide (OwQ.std (m2 := 0) (c2 := 0) (A2 := none) (s2 := false) O5.out hst.bel n5v hkeep)
  replace O6 := hide (OwQ.std (m2 := 0) (c2 := 0) (A2 := none) (s2 := false) O6.out hst.bel n6v hkeep)
  replace Ba := hide (hst.ne Ba.out (by first | exact neav | exact (Ne.symm neva)))
  replace Bb := hide (hst.ne Bb.out (by first | exact nebv | exact (Ne.symm nevb)))
  replace Bu := hide (hst.ne Bu.out (by first | exact neuv | exact (Ne.symm nevu)))
  replace Bv := hide hst.box
  replace hU := hU.trans (hst.bel hzv)
  clear hst hkeep
  refine anyE_done (by kernel_rfl) ?_
  clear F hQ Ba0 Bb0 Bu0 Bv0
  refine then_normal (wp_ret ?_)
  have z5 : s5 = (sg ⟨la, sa⟩ ⟨lb, sb⟩) := (congrArg Vc.s E5.out).trans (congrArg Vc.s E3.out)
  have z6 : s6 = (sg ⟨la, sa⟩ ⟨lb, sb⟩) := (congrArg Vc.s E6.out).trans (congrArg Vc.s E4.out)
  refine ret_box2 Bu.out Bv.out rfl (by kernel_rfl) (by kernel_rfl) ?_
  exact ⟨l5, A5, c5, l6, A6, c6, hide ((congrArg Vc.b E5.out).trans (by rw [E3.out, hn1]; rfl)), hide ((congrArg Vc.b E6.out).trans (by rw [E4.out, hn1]; rfl)), (by show Ending.returned (.tuple #[vagg A5 l5.length c5 s5, vagg A6 l6.length c6 s6]) = .returned (.tuple #[vagg A5 l5.length c5 (sg ⟨la, sa⟩ ⟨lb, sb⟩), vagg A6 l6.length c6 (sg ⟨la, sa⟩ ⟨lb, sb⟩)]); rw [z5, z6]), C5, C6, hide (OwQ.low O5.out k5), hide (OwQ.low O6.out k6), S56, hU⟩
end
section
open Go.RowKit
set_option maxRecDepth 100000
/-- What a loop leaves that stores into one row g of the call's own. -/
structure PutQ (w W : World) (g n : Nat) (F : Nat → Int) (wr : World) : Prop where
  row : RowQ wr g n F
  bel : Below w.heap.size w wr
  far : ∀ b, b ≠ g → wr.heap[b]? = W.heap[b]?
  size : wr.heap.size = W.heap.size
theorem PutQ.start {w W : World} {g n : Nat} {F : Nat → Int} (h : RowQ W g n F) (hb : Below w.heap.size w W) : PutQ w W g n F W := ⟨h, hb, fun _ _ => rfl, rfl⟩
theorem PutQ.congr {w W wr : World} {g n : Nat} {F G : Nat → Int} (h : PutQ w W g n F wr) (k : ∀ i, i < n → F i = G i) : PutQ w W g n G wr := ⟨h.row.congr k, h.bel, h.far, h.size⟩
theorem PutQ.step {w W wr : World} {g n : Nat} {F : Nat → Int} (h : PutQ w W g n F wr) (hg : w.heap.size ≤ g) (i : Nat) (v : Int) : PutQ w W g n (fun j => if j = i then v else F j) (wr.setCell ⟨g, i, none⟩ (.int .u8 v)) where
  row := h.row.set_ i v
  bel := h.bel.setCell (by exact hg) _
  far := fun b hb => by
    rw [← h.far b hb]
    exact heap_setCell_other wr ⟨g, i, none⟩ b _ hb
  size := by rw [← h.size]; simp
theorem PutQ.cell {w W wr : World} {g n : Nat} {F : Nat → Int} (h : PutQ w W g n F wr) {p : Addr} (hp : p.block ≠ g) : wr.cell? p = W.cell? p := by
  unfold World.cell?
  rw [h.far _ hp]
theorem PutQ.frozen {w W wr : World} {g n : Nat} {F : Nat → Int} (h : PutQ w W g n F wr) {p : Addr} (hp : p.block ≠ g) : wr.frozen? p = W.frozen? p := by
  unfold World.frozen?
  rw [h.far _ hp]
end
section
open Go.RowKit
set_option maxRecDepth 100000
set_option linter.unusedSimpArgs false
set_option linter.unusedVariables false
theorem rd_snoc (f : Int → Int → Int) (l : List Int) (n : Nat) : rd f l (n + 1) = f (rd f l n) (qt l (n + 1)) := rfl
/-- A disjunction from the front. -/
def orF (l : List Int) : Nat → Int
  | 0 => 0
  | n + 1 => mOr (orF l n) (qt l n)
theorem orF_rd (l : List Int) : ∀ n, orF l (n + 1) = rd mOr l n
  | 0 => by
    show mOr 0 (qt l 0) = mBuf (qt l 0)
    unfold mOr mBuf
    by_cases h1 : qt l 0 = 1
    · simp [h1]
    · by_cases h0 : qt l 0 = 0
      · simp [h0]
      · simp [h0, h1]
  | n + 1 => by rw [rd_snoc, ← orF_rd l n]; rfl
set_option maxHeartbeats 1000000 in
theorem rtruth_any' (A : Option Addr) (a : List Int) (c : Nat) (s : Bool) (w : World) (ha : a.length ≤ 4096) (hca : Hid (a.length ≤ c ∧ c ≤ maxLen)) (hA : RQ w A a) (ya : By a) :
    Calls Tryz.prog 80 #[.agg #[.slice A a.length c, .bool s]] w (Mk (.int .u8 (tr ⟨a, s⟩)) w) := by
  have HA := hide hA
  have LA := hide ha
  have YA := hide ya
  clear hA ha ya
  go_enter Tryz.func80, Tryz.ntmps80
  go_wp2_with fail
  refine (rnorm_any' A a c s _ LA.out hca (HA.out.below belo) YA.out).mono ?_
  rintro e w1 ⟨l1, s1, A1, c1, E1, rfl, C1, O1, hb⟩
  replace O1 := hide (O1.out.base (show w.heap.size + 1 ≤ _ by first | omega | (simp; omega) | (simp; done)))
  have hB1 : Below w.heap.size w w1 := Below.trans belo (hb.mono (by first | omega | (simp; done) | (simp; omega)))
  obtain ⟨kc1, kf1⟩ := bcell hb
  have hz1 := hb.size
  (try simp at hz1)
  have n1_0 : w.heap.size < w1.heap.size := by omega
  clear hb
  have G1 : Gd l1 := by have h := cnt_gd (v := ⟨a, s⟩) YA.out; rw [← E1.out] at h; exact h
  have HG1 := hide G1
  have u1 := G1.le
  have p1 := G1.pos
  clear G1
  have mm0_0 : w1.cell? ⟨w.heap.size, 0, none⟩ = some (.slice A a.length c) := (kc1 _ _ (by first | assumption | (simp; done) | omega | (simp; omega))).trans (by first | assumption | (simp [go_sem]; done))
  have vv0_0 : w1.frozen? ⟨w.heap.size, 0, none⟩ = false := (kf1 _ _ (by first | assumption | (simp; done) | omega | (simp; omega))).trans (by first | assumption | (simp [go_sem]; done))
  have mm0_1 : w1.cell? ⟨w.heap.size, 1, none⟩ = some (.bool s) := (kc1 _ _ (by first | assumption | (simp; done) | omega | (simp; omega))).trans (by first | assumption | (simp [go_sem]; done))
  have vv0_1 : w1.frozen? ⟨w.heap.size, 1, none⟩ = false := (kf1 _ _ (by first | assumption | (simp; done) | omega | (simp; omega))).trans (by first | assumption | (simp [go_sem]; done))
  clear kc1 kf1
  go_wp2_with fail
  obtain ⟨V1, hV⟩ : ∃ x, x = ((w1.setCell ⟨w.heap.size, 0, none⟩ (.slice A1 l1.length c1)).setCell ⟨w.heap.size, 1, none⟩ (.bool s1)) := ⟨_, rfl⟩
  rw [← hV]
  have hBV1 : Below w.heap.size w V1 := by rw [hV]; exact belo
  have qV1_0 : V1.cell? ⟨w.heap.size, 0, none⟩ = some (.slice A1 l1.length c1) := by rw [hV]; (repeat (first | with_reducible refine cset_eq' ?_ | with_reducible refine cset_ne (by first | (simp; done) | (simp; omega)) ?_ | with_reducible refine cset_ex ?_ | exact ⟨_, by assumption⟩ | assumption))
  have jV1_0 : V1.frozen? ⟨w.heap.size, 0, none⟩ = false := by rw [hV]; (repeat (first | with_reducible refine fset ?_ | assumption))
  have qV1_1 : V1.cell? ⟨w.heap.size, 1, none⟩ = some (.bool s1) := by rw [hV]; (repeat (first | with_reducible refine cset_eq' ?_ | with_reducible refine cset_ne (by first | (simp; done) | (simp; omega)) ?_ | with_reducible refine cset_ex ?_ | exact ⟨_, by assumption⟩ | assumption))
  have jV1_1 : V1.frozen? ⟨w.heap.size, 1, none⟩ = false := by rw [hV]; (repeat (first | with_reducible refine fset ?_ | assumption))
  have nV1_0 : w.heap.size < V1.heap.size := by rw [hV]; simp; omega
  replace O1 := hide (show OwQ (w.heap.size + 1) V1 A1 l1 by rw [hV]; (repeat (first | with_reducible exact O1.out | with_reducible refine OwQ.far ?_ (by first | (simp; done) | omega | (simp; omega)) _ | with_reducible refine OwQ.allc ?_ _ | with_reducible refine OwQ.drew ?_ | with_reducible refine OwQ.drewN ?_ _)))
  clear hV
  have HR := hide (show orF l1 l1.length = tr ⟨a, s⟩ by
    have h : tr ⟨a, s⟩ = rd mOr l1 (l1.length - 1) := by unfold tr red; rw [← E1.out]
    obtain ⟨m, hm⟩ : ∃ m, l1.length = m + 1 := ⟨l1.length - 1, by omega⟩
    rw [h, hm, orF_rd, Nat.add_sub_cancel])
  go_loopw [3, 4] (fun v i wr => ∃ k : Nat, k ≤ l1.length ∧ v = .int .u8 (orF l1 k) ∧ i = .int .i64 k ∧ wr = V1) (fun _ i _ => l1.length - (intOf i).toNat)
  case atStart => exact ⟨0, Nat.zero_le _, rfl, rfl, rfl⟩
  case round =>
    obtain ⟨k, hk, rfl, rfl, rfl⟩ := hrel
    obtain ⟨y, hy⟩ : ∃ y, y = orF l1 k := ⟨_, rfl⟩
    have HY := hide hy
    by_cases hlt : k < l1.length
    · rw [← hy]
      obtain ⟨ad, rfl, hlt1, hc⟩ := O1.out.rd.at_ hlt
      have hcall := hide (ror_q y (qt l1 k))
      clear hy
      go_wp2_with (go_at_call 75; (with_reducible refine (hcall.out _).mono ?_); rintro e w' ⟨rfl, rfl⟩)
      go_roundw
      case rel => exact ⟨k + 1, by omega, by rw [HY.out]; rfl, by go_num, by first | trivial | rfl⟩
      case measure => simp [intOf]; omega
    · have e : k = l1.length := by omega
      subst e
      rw [HR.out] at hy ⊢
      go_wp2
      go_ret
      exact ⟨rfl, belo⟩
end
section
open Go.RowKit
set_option maxRecDepth 100000
set_option linter.unusedSimpArgs false
set_option linter.unusedVariables false
theorem OwQ.box {B N m c : Nat} {w V : World} {A AA : Option Addr} {l : List Int} {s : Bool} (h : OwQ B w A l) (b : Box N AA m c s w) (hk : ∀ g, g ≠ N → V.heap[g]? = w.heap[g]?) : OwQ B V A l := fun hn => by
  obtain ⟨g, e, hB, hr⟩ := h hn
  have hg : g ≠ N := fun e => by
    subst e
    have h1 := hr.cell hn
    rw [b.c0] at h1
    cases h1
  refine ⟨g, e, hB, ?_⟩
  obtain ⟨cs, hc, hi⟩ := hr
  exact ⟨cs, by rw [hk g hg]; exact hc, hi⟩
theorem Box.off {N m c g n : Nat} {w : World} {AA : Option Addr} {s : Bool} {F : Nat → Int} (b : Box N AA m c s w) (hr : RowQ w g n F) (hn : 0 < n) : N ≠ g := fun e => by
  subst e
  have h1 := hr.cell hn
  rw [b.c0] at h1
  cases h1
theorem PutQ.box {w W wr : World} {g n N m c : Nat} {F : Nat → Int} {AA : Option Addr} {s : Bool} (h : PutQ w W g n F wr) (b : Box N AA m c s W) (hN : N ≠ g) : Box N AA m c s wr :=
  ⟨by rw [h.size]; exact b.lt, (h.cell (p := ⟨N, 0, none⟩) hN).trans b.c0, (h.cell (p := ⟨N, 1, none⟩) hN).trans b.c1, (h.frozen (p := ⟨N, 0, none⟩) hN).trans b.f0, (h.frozen (p := ⟨N, 1, none⟩) hN).trans b.f1⟩
theorem PutQ.drew {w W wr : World} {g n : Nat} {F : Nat → Int} (h : PutQ w W g n F wr) : PutQ w W g n F wr.drew := ⟨h.row, h.bel.trans ((Below.refl _ _).drew), h.far, h.size⟩
section
variable {Q : Exit → Act → World → Prop} {ops : Array Oper} {o : Oper} {rest : List Oper} {x y : Operand} {w W : World} {A A2 : Option Addr} {N m c m2 c2 n d : Nat} {s s2 q : Bool} {E : Env}
theorem wpl_stk (B : Box N A m c s w) (hd : o.dst = none) (hw : wnt ops n E o = true) (ho : o.op = .store 24 x y) (hx : evl n E x = .pointer (some ⟨N, 0, none⟩)) (hy : evl n E y = vagg A2 m2 c2 s2)
    (h : ∀ V : World, Std N A2 m2 c2 s2 w V → (∀ g, g ≠ N → V.heap[g]? = w.heap[g]?) → WL Tryz.prog ops Q rest n E V) : WL Tryz.prog ops Q (o :: rest) n E w :=
  wpl_none hd hw (run_stbox ho hx hy B) (h _ ⟨B.st, fun b hne => b.st_ne hne, fun r => r.st B, fun hb => st_below hb⟩ (fun g hg => by rw [heap_setCell_other _ _ _ _ hg, heap_setCell_other _ _ _ _ hg]))
theorem run_stbit {ρ : Operand → Value} {g i cnt_ : Nat} {F : Nat → Int} {z : Int} (ho : o.op = .store 65 x y) {p : Addr} (hx : ρ x = .pointer (some p)) (hp : p = ⟨g, i, none⟩) (hy : ρ y = .int .u8 z) (hr : RowQ w g cnt_ F) (hi : i < cnt_) :
    (execOp ρ o).run Tryz.prog w = .ok .skip (w.setCell ⟨g, i, none⟩ (.int .u8 z)) := by
  subst hp
  have h1 := hr.cell hi
  have h3 := hr.free i
  unfold execOp
  rw [ho]
  simp only [hx, hy]
  simp [go_sem, h1, h3]
theorem gstep_call {P : Program} {S : World → Prop} {k mk fuel i m' : Nat} {f : FuncId} {args : Array Value} {v : Value} (hi : ops[i]? = some o) (hd : o.dst = some d) (hin : Nat.blt i n = true) (hw : wnt ops k E o = true) (hm : Nat.lor mk (Nat.shiftLeft 1 i) = m')
    (hr : (execOp (evl k E) o).run P w = .ok (.enter f args) w) (hc : Calls P f args w fun e w' => e = .returned v ∧ w' = w) (h : ganyR P ops Q S n fuel m' k ((d, v) :: E) w) : GStep P ops Q S n fuel mk k E w i := fun hS inv hj => by
  have hin' : i < n := Nat.le_of_ble_eq_true hin
  refine wpOp_step hi fun K hK => ?_
  rw [wanted_sl, hw, if_pos rfl]
  unfold Oper.wp
  rw [eval_sl, hr, Oper.upon_enter]
  refine hc.mono ?_
  rintro e w' ⟨rfl, rfl⟩
  show K ((sl k E).put o.dst v) _
  refine hK _ _ ⟨fun _ => hS, ?_⟩
  have inv' := inv.set hj hin'
  rw [lsm_set, show mk ||| 1 <<< i = m' from hm] at inv' ⊢
  rw [hd, put_sl]
  exact h hS inv'
end
/-- Balance with the sign by two names. -/
theorem rbalance_s (s1 s2 : Bool) (Aa Ab : Option Addr) (la lb : List Int) (ca cb : Nat) (sa sb : Bool) (w : World) (h1 : s1 = sg ⟨la, sa⟩ ⟨lb, sb⟩) (h2 : s2 = sg ⟨la, sa⟩ ⟨lb, sb⟩) (ha : la.length ≤ 4096) (hb : lb.length ≤ 4096) (hca : Hid (la.length ≤ ca ∧ ca ≤ maxLen)) (hcb : Hid (lb.length ≤ cb ∧ cb ≤ maxLen)) (hra : RQ w Aa la) (hrb : RQ w Ab lb) (ya : By la) (yb : By lb) :
    Calls Tryz.prog 86 #[.agg #[.slice Aa la.length ca, .bool sa], .agg #[.slice Ab lb.length cb, .bool sb]] w fun e w' =>
      (∃ p P c q Q d, Hid (p = blA ⟨la, sa⟩ ⟨lb, sb⟩) ∧ Hid (q = blB ⟨la, sa⟩ ⟨lb, sb⟩) ∧ e = .returned (.tuple #[.agg #[.slice P p.length c, .bool s1], .agg #[.slice Q q.length d, .bool s2]]) ∧ Hid (p.length ≤ c ∧ c ≤ maxLen) ∧ Hid (q.length ≤ d ∧ d ≤ maxLen) ∧ Hid (OwQ w.heap.size w' P p) ∧ Hid (OwQ w.heap.size w' Q q) ∧ Hid (Sep P Q)) ∧ Below w.heap.size w w' := by
  subst h1
  subst h2
  refine (rbalance_any Aa Ab la lb ca cb sa sb w ha hb hca hcb hra hrb ya yb).mono ?_
  rintro e w' ⟨p, P, c, q, Q, d, k1, k2, k3, k4, k5, k6, k7, k8, k9⟩
  exact ⟨⟨p, P, c, q, Q, d, k1, k2, k3, k4, k5, k6, k7, k8⟩, k9⟩
/-- The reference's Cond after k rounds. -/
def cdf (l1 l2 : List Int) (k i : Nat) : Int := if i < k then mMux 2 (qt l1 i) (qt l2 i) else qt l1 i
theorem cdf_next (l1 l2 : List Int) (k i : Nat) : (if i = k then mMux 2 (qt l1 k) (qt l2 k) else cdf l1 l2 k i) = cdf l1 l2 (k + 1) i := by
  unfold cdf
  by_cases h : i = k
  · subst h; rw [if_pos rfl, if_pos (Nat.lt_succ_self _)]
  · rw [if_neg h]
    by_cases h2 : i < k
    · rw [if_pos h2, if_pos (by omega)]
    · rw [if_neg h2, if_neg (by omega)]
theorem own_of {w W0 W V : World} {g n N : Nat} {F : Nat → Int} {A : Option Addr} (h : PutQ w W0 g n F W) (hk : ∀ x, x ≠ N → V.heap[x]? = W.heap[x]?) (hN : N ≠ g) (eg : A = some ⟨g, 0, none⟩) (hg : w.heap.size ≤ g) : OwQ w.heap.size V A (ql n F) := fun _ => by
  obtain ⟨cs, hc, hi⟩ := h.row
  refine ⟨g, eg, hg, cs, by rw [hk g hN.symm]; exact hc, fun i h2 => ?_⟩
  rw [ql_length] at h2
  rw [hi i h2, qt_ql_lt h2]
theorem tr3 (r : Int) : r = 1 ∨ (r ≠ 1 ∧ r = 0) ∨ (r ≠ 1 ∧ r ≠ 0) := by omega
theorem rtruth_r (r : Int) (A : Option Addr) (a : List Int) (c : Nat) (s : Bool) (w : World) (hr : r = tr ⟨a, s⟩) (ha : a.length ≤ 4096) (hca : Hid (a.length ≤ c ∧ c ≤ maxLen)) (hA : RQ w A a) (ya : By a) :
    Calls Tryz.prog 80 #[.agg #[.slice A a.length c, .bool s]] w (Mk (.int .u8 r) w) := by
  subst hr
  exact rtruth_any' A a c s w ha hca hA ya
end
section
open Go.RowKit
set_option maxRecDepth 100000
set_option linter.unusedSimpArgs false
set_option linter.unusedVariables false
theorem Box.drewE {N n c : Nat} {A : Option Addr} {s : Bool} {w w' : World} (h : Box N A n c s w) (e : w' = w.drew) : Box N A n c s w' := by subst e; exact h.drew'
set_option maxHeartbeats 8000000 in
theorem rcond_any (Az Aa Ab : Option Addr) (lz la lb : List Int) (cz ca cb : Nat) (sz sa sb : Bool) (w : World) (hz : lz.length ≤ 4096) (ha : la.length ≤ 4096) (hb : lb.length ≤ 4096) (hcz : Hid (lz.length ≤ cz ∧ cz ≤ maxLen)) (hca : Hid (la.length ≤ ca ∧ ca ≤ maxLen)) (hcb : Hid (lb.length ≤ cb ∧ cb ≤ maxLen)) (hrz : RQ w Az lz) (hra : RQ w Aa la) (hrb : RQ w Ab lb) (yz : By lz) (ya : By la) (yb : By lb) :
    Calls Tryz.prog 34 #[.agg #[.slice Az lz.length cz, .bool sz], .agg #[.slice Aa la.length ca, .bool sa], .agg #[.slice Ab lb.length cb, .bool sb]] w (RetC (· = vCond ⟨lz, sz⟩ ⟨la, sa⟩ ⟨lb, sb⟩) w) := by
  have Oz := hide hrz
  have Lz := hide hz
  have Cz := hcz
  have Yz := hide yz
  have Oa := hide hra
  have La := hide ha
  have Ca := hca
  have Ya := hide ya
  have Ob := hide hrb
  have Lb := hide hb
  have Cb := hcb
  have Yb := hide yb
  clear hz hcz hrz yz ha hca hra ya hb hcb hrb yb
  obtain ⟨s1, hs1⟩ : ∃ s, s = sg ⟨la, sa⟩ ⟨lb, sb⟩ := ⟨_, rfl⟩
  obtain ⟨s2, hs2⟩ : ∃ s, s = sg ⟨la, sa⟩ ⟨lb, sb⟩ := ⟨_, rfl⟩
  obtain ⟨r, hr⟩ : ∃ r, r = tr ⟨lz, sz⟩ := ⟨_, rfl⟩
  have hU : Below w.heap.size w w := Below.refl _ _
  refine calls_sl (l := [.agg #[.slice Az lz.length cz, .bool sz], .agg #[.slice Aa la.length ca, .bool sa], .agg #[.slice Ab lb.length cb, .bool sb]]) 47 Tryz.func34 rfl (by kernel_rfl) (by simp) (wp_seq (reg_lit (wpl_boxvec (A := Az) (m := lz.length) (c := cz) (s := sz) rfl (by kernel_rfl) rfl (by kernel_rfl) ?_)))
  intro w1 Nz Bz hNz hb
  replace Bz := hide Bz
  replace Oz := hide (RQ.below Oz.out hb)
  replace Oa := hide (RQ.below Oa.out hb)
  replace Ob := hide (RQ.below Ob.out hb)
  have hzz : w.heap.size ≤ Nz := Nat.le_trans hU.size hNz
  clear hNz
  replace hU := hU.trans (hb.mono hU.size)
  clear hb
  refine wpl_boxvec (A := Aa) (m := la.length) (c := ca) (s := sa) rfl (by kernel_rfl) rfl (by kernel_rfl) ?_
  intro w2 Na Ba hNa hb
  replace Ba := hide Ba
  have neza : Nz ≠ Na := by have := Bz.out.lt; omega
  replace Oz := hide (RQ.below Oz.out hb)
  replace Oa := hide (RQ.below Oa.out hb)
  replace Ob := hide (RQ.below Ob.out hb)
  replace Bz := hide (Box.kept Bz.out hb)
  have hza : w.heap.size ≤ Na := Nat.le_trans hU.size hNa
  clear hNa
  replace hU := hU.trans (hb.mono hU.size)
  clear hb
  refine wpl_boxvec (A := Ab) (m := lb.length) (c := cb) (s := sb) rfl (by kernel_rfl) rfl (by kernel_rfl) ?_
  intro w3 Nb Bb hNb hb
  replace Bb := hide Bb
  have nezb : Nz ≠ Nb := by have := Bz.out.lt; omega
  have neab : Na ≠ Nb := by have := Ba.out.lt; omega
  replace Oz := hide (RQ.below Oz.out hb)
  replace Oa := hide (RQ.below Oa.out hb)
  replace Ob := hide (RQ.below Ob.out hb)
  replace Bz := hide (Box.kept Bz.out hb)
  replace Ba := hide (Box.kept Ba.out hb)
  have hzb : w.heap.size ≤ Nb := Nat.le_trans hU.size hNb
  clear hNb
  replace hU := hU.trans (hb.mono hU.size)
  clear hb
  refine wpl_al rfl (by kernel_rfl) rfl ?_
  intro w4 Nu Bu hNu hb
  replace Bu := hide Bu
  have nezu : Nz ≠ Nu := by have := Bz.out.lt; omega
  have neau : Na ≠ Nu := by have := Ba.out.lt; omega
  have nebu : Nb ≠ Nu := by have := Bb.out.lt; omega
  replace Oz := hide (RQ.below Oz.out hb)
  replace Oa := hide (RQ.below Oa.out hb)
  replace Ob := hide (RQ.below Ob.out hb)
  replace Bz := hide (Box.kept Bz.out hb)
  replace Ba := hide (Box.kept Ba.out hb)
  replace Bb := hide (Box.kept Bb.out hb)
  have hzu : w.heap.size ≤ Nu := Nat.le_trans hU.size hNu
  clear hNu
  replace hU := hU.trans (hb.mono hU.size)
  clear hb
  refine sx_n (wpl_ldvec Ba.out rfl (by kernel_rfl) rfl (by kernel_rfl) (wpl_ldvec Bb.out rfl (by kernel_rfl) rfl (by kernel_rfl) ?_))
  refine wpl_call rfl (by kernel_rfl) (by kernel_rfl) ((rbalance_s s1 s2 Aa Ab la lb ca cb sa sb _ hs1 hs2 La.out Lb.out Ca Cb Oa.out Ob.out Ya.out Yb.out).mono ?_)
  rintro e w5 ⟨⟨l1, A1, c1, l2, A2, c2, E1, E2, rfl, C1, C2, O1, O2, S12⟩, hb⟩
  refine ⟨_, rfl, ?_⟩
  have k0 : w.heap.size ≤ w4.heap.size := hU.size
  replace Oz := hide (RQ.below Oz.out hb)
  replace Oa := hide (RQ.below Oa.out hb)
  replace Ob := hide (RQ.below Ob.out hb)
  replace Bz := hide (Box.kept Bz.out hb)
  replace Ba := hide (Box.kept Ba.out hb)
  replace Bb := hide (Box.kept Bb.out hb)
  replace Bu := hide (Box.kept Bu.out hb)
  replace hU := hU.trans (hb.mono hU.size)
  clear hb
  replace O1 := hide (OwQ.base O1.out k0)
  have HG1 := hide (show Gd l1 by rw [E1.out]; exact gd_blA (a := ⟨la, sa⟩) (b := ⟨lb, sb⟩) Ya.out Yb.out)
  have L1 := hide (show l1.length ≤ 4096 from Nat.le_trans HG1.out.le (by decide))
  have Y1 := hide HG1.out.by_
  replace O2 := hide (OwQ.base O2.out k0)
  have HG2 := hide (show Gd l2 by rw [E2.out]; exact gd_blB (a := ⟨la, sa⟩) (b := ⟨lb, sb⟩) Ya.out Yb.out)
  have L2 := hide (show l2.length ≤ 4096 from Nat.le_trans HG2.out.le (by decide))
  have Y2 := hide HG2.out.by_
  clear k0
  refine wpl_r3 [(15, .agg #[.slice A2 l2.length c2, .bool s2]), (14, .agg #[.slice A1 l1.length c1, .bool s1]), (10, .tuple #[.agg #[.slice A1 l1.length c1, .bool s1], .agg #[.slice A2 l2.length c2, .bool s2]])] (by kernel_rfl) (wpl_al rfl (by kernel_rfl) rfl ?_)
  intro w6 Np Bp hNp hb
  replace Bp := hide Bp
  have nezp : Nz ≠ Np := by have := Bz.out.lt; omega
  have neap : Na ≠ Np := by have := Ba.out.lt; omega
  have nebp : Nb ≠ Np := by have := Bb.out.lt; omega
  have neup : Nu ≠ Np := by have := Bu.out.lt; omega
  replace Oz := hide (RQ.below Oz.out hb)
  replace Oa := hide (RQ.below Oa.out hb)
  replace Ob := hide (RQ.below Ob.out hb)
  replace O1 := hide (OwQ.kept O1.out hb)
  replace O2 := hide (OwQ.kept O2.out hb)
  replace Bz := hide (Box.kept Bz.out hb)
  replace Ba := hide (Box.kept Ba.out hb)
  replace Bb := hide (Box.kept Bb.out hb)
  replace Bu := hide (Box.kept Bu.out hb)
  have hzp : w.heap.size ≤ Np := Nat.le_trans hU.size hNp
  clear hNp
  replace hU := hU.trans (hb.mono hU.size)
  clear hb
  refine wpl_al rfl (by kernel_rfl) rfl ?_
  intro w7 Nq Bq hNq hb
  replace Bq := hide Bq
  have nezq : Nz ≠ Nq := by have := Bz.out.lt; omega
  have neaq : Na ≠ Nq := by have := Ba.out.lt; omega
  have nebq : Nb ≠ Nq := by have := Bb.out.lt; omega
  have neuq : Nu ≠ Nq := by have := Bu.out.lt; omega
  have nepq : Np ≠ Nq := by have := Bp.out.lt; omega
  replace Oz := hide (RQ.below Oz.out hb)
  replace Oa := hide (RQ.below Oa.out hb)
  replace Ob := hide (RQ.below Ob.out hb)
  replace O1 := hide (OwQ.kept O1.out hb)
  replace O2 := hide (OwQ.kept O2.out hb)
  replace Bz := hide (Box.kept Bz.out hb)
  replace Ba := hide (Box.kept Ba.out hb)
  replace Bb := hide (Box.kept Bb.out hb)
  replace Bu := hide (Box.kept Bu.out hb)
  replace Bp := hide (Box.kept Bp.out hb)
  have hzq : w.heap.size ≤ Nq := Nat.le_trans hU.size hNq
  clear hNq
  replace hU := hU.trans (hb.mono hU.size)
  clear hb
  refine wpl_stk Bp.out rfl (by kernel_rfl) rfl (by kernel_rfl) (A2 := A1) (m2 := l1.length) (c2 := c1) (s2 := s1) (by kernel_rfl) ?_
  intro w8 hst hkeep
  replace Oz := hide (hst.rq Oz.out)
  replace Oa := hide (hst.rq Oa.out)
  replace Ob := hide (hst.rq Ob.out)
  replace O1 := hide (OwQ.box O1.out Bp.out hkeep)
  replace O2 := hide (OwQ.box O2.out Bp.out hkeep)
  replace Bz := hide (hst.ne Bz.out (by first | exact nezp | exact (Ne.symm nepz)))
  replace Ba := hide (hst.ne Ba.out (by first | exact neap | exact (Ne.symm nepa)))
  replace Bb := hide (hst.ne Bb.out (by first | exact nebp | exact (Ne.symm nepb)))
  replace Bu := hide (hst.ne Bu.out (by first | exact neup | exact (Ne.symm nepu)))
  replace Bq := hide (hst.ne Bq.out (by first | exact neqp | exact (Ne.symm nepq)))
  replace Bp := hide hst.box
  replace hU := hU.trans (hst.bel hzp)
  clear hst hkeep
  refine wpl_stk Bq.out rfl (by kernel_rfl) rfl (by kernel_rfl) (A2 := A2) (m2 := l2.length) (c2 := c2) (s2 := s2) (by kernel_rfl) ?_
  intro w9 hst hkeep
  replace Oz := hide (hst.rq Oz.out)
  replace Oa := hide (hst.rq Oa.out)
  replace Ob := hide (hst.rq Ob.out)
  replace O1 := hide (OwQ.box O1.out Bq.out hkeep)
  replace O2 := hide (OwQ.box O2.out Bq.out hkeep)
  replace Bz := hide (hst.ne Bz.out (by first | exact nezq | exact (Ne.symm neqz)))
  replace Ba := hide (hst.ne Ba.out (by first | exact neaq | exact (Ne.symm neqa)))
  replace Bb := hide (hst.ne Bb.out (by first | exact nebq | exact (Ne.symm neqb)))
  replace Bu := hide (hst.ne Bu.out (by first | exact neuq | exact (Ne.symm nequ)))
  replace Bp := hide (hst.ne Bp.out (by first | exact nepq | exact (Ne.symm neqp)))
  replace Bq := hide hst.box
  replace hU := hU.trans (hst.bel hzq)
  clear hst hkeep
  refine wpl_end (then_normal (wp_seq (wp_seq (reg_lit (wpl_ldvec Bz.out rfl (by kernel_rfl) rfl (by kernel_rfl) ?_)))))
  refine wpl_call rfl (by kernel_rfl) (by kernel_rfl) ((rtruth_r r Az lz cz sz _ hr Lz.out Cz Oz.out Yz.out).mono ?_)
  rintro e w10 ⟨rfl, hb⟩
  refine ⟨_, rfl, ?_⟩
  replace Oz := hide (RQ.below Oz.out hb)
  replace Oa := hide (RQ.below Oa.out hb)
  replace Ob := hide (RQ.below Ob.out hb)
  replace O1 := hide (OwQ.kept O1.out hb)
  replace O2 := hide (OwQ.kept O2.out hb)
  replace Bz := hide (Box.kept Bz.out hb)
  replace Ba := hide (Box.kept Ba.out hb)
  replace Bb := hide (Box.kept Bb.out hb)
  replace Bu := hide (Box.kept Bu.out hb)
  replace Bp := hide (Box.kept Bp.out hb)
  replace Bq := hide (Box.kept Bq.out hb)
  replace hU := hU.trans (hb.mono hU.size)
  clear hb
  refine wpl_end (then_normal (wp_block (wp_seq ?_)))
  rcases tr3 r with h1 | ⟨h1, h0⟩ | ⟨h1, h0⟩
  refine reg_lit (wpl_val rfl (by kernel_rfl) (run_eql8 (a := r) (b := 1) rfl (by kernel_rfl) (by kernel_rfl) (beq_iff_eq.2 h1)) (wpl_r1 [(18, .bool true)] (by kernel_rfl) (wpl_end (then_normal (wp_ift (by kernel_rfl) (wp_seq (reg_lit ?_)))))))
  refine wpl_ldvec Bp.out rfl (by kernel_rfl) rfl (by kernel_rfl) (wpl_stk Bu.out rfl (by kernel_rfl) rfl (by kernel_rfl) (A2 := A1) (m2 := l1.length) (c2 := c1) (s2 := s1) (by kernel_rfl) ?_)
  intro w11 hst hkeep
  replace Oz := hide (hst.rq Oz.out)
  replace Oa := hide (hst.rq Oa.out)
  replace Ob := hide (hst.rq Ob.out)
  replace O1 := hide (OwQ.box O1.out Bu.out hkeep)
  replace O2 := hide (OwQ.box O2.out Bu.out hkeep)
  replace Bz := hide (hst.ne Bz.out (by first | exact nezu | exact (Ne.symm neuz)))
  replace Ba := hide (hst.ne Ba.out (by first | exact neau | exact (Ne.symm neua)))
  replace Bb := hide (hst.ne Bb.out (by first | exact nebu | exact (Ne.symm neub)))
  replace Bp := hide (hst.ne Bp.out (by first | exact nepu | exact (Ne.symm neup)))
  replace Bq := hide (hst.ne Bq.out (by first | exact nequ | exact (Ne.symm neuq)))
  replace Bu := hide hst.box
  replace hU := hU.trans (hst.bel hzu)
  clear hst hkeep
  refine wpl_end (then_normal (wp_ret (ret_box Bu.out rfl (by kernel_rfl) ?_)))
  exact ⟨l1, s1, A1, c1, hide (show (⟨l1, s1⟩ : Vc) = vCond ⟨lz, sz⟩ ⟨la, sa⟩ ⟨lb, sb⟩ by unfold vCond; rw [← hr, if_pos h1, E1.out, hs1]), rfl, C1, O1, hU⟩
  refine reg_lit (wpl_val rfl (by kernel_rfl) (run_eql8 (a := r) (b := 1) rfl (by kernel_rfl) (by kernel_rfl) (beq_eq_false_iff_ne.2 h1)) (wpl_r1 [(18, .bool false)] (by kernel_rfl) (wpl_end (then_normal (wp_iff (by kernel_rfl) (wp_seq (reg_lit ?_)))))))
  refine wpl_val rfl (by kernel_rfl) (run_eql8 (a := r) (b := 0) rfl (by kernel_rfl) (by kernel_rfl) (beq_iff_eq.2 h0)) (wpl_r1 [(21, .bool true)] (by kernel_rfl) (wpl_end (then_normal (wp_ift (by kernel_rfl) (wp_seq (reg_lit (wpl_ldvec Bq.out rfl (by kernel_rfl) rfl (by kernel_rfl) ?_)))))))
  refine wpl_stk Bu.out rfl (by kernel_rfl) rfl (by kernel_rfl) (A2 := A2) (m2 := l2.length) (c2 := c2) (s2 := s2) (by kernel_rfl) ?_
  intro w12 hst hkeep
  replace Oz := hide (hst.rq Oz.out)
  replace Oa := hide (hst.rq Oa.out)
  replace Ob := hide (hst.rq Ob.out)
  replace O1 := hide (OwQ.box O1.out Bu.out hkeep)
  replace O2 := hide (OwQ.box O2.out Bu.out hkeep)
  replace Bz := hide (hst.ne Bz.out (by first | exact nezu | exact (Ne.symm neuz)))
  replace Ba := hide (hst.ne Ba.out (by first | exact neau | exact (Ne.symm neua)))
  replace Bb := hide (hst.ne Bb.out (by first | exact nebu | exact (Ne.symm neub)))
  replace Bp := hide (hst.ne Bp.out (by first | exact nepu | exact (Ne.symm neup)))
  replace Bq := hide (hst.ne Bq.out (by first | exact nequ | exact (Ne.symm neuq)))
  replace Bu := hide hst.box
  replace hU := hU.trans (hst.bel hzu)
  clear hst hkeep
  refine wpl_end (then_normal (wp_ret (ret_box Bu.out rfl (by kernel_rfl) ?_)))
  exact ⟨l2, s2, A2, c2, hide (show (⟨l2, s2⟩ : Vc) = vCond ⟨lz, sz⟩ ⟨la, sa⟩ ⟨lb, sb⟩ by unfold vCond; rw [← hr, if_neg h1, if_pos h0, E2.out, hs2]), rfl, C2, O2, hU⟩
  refine reg_lit (wpl_val rfl (by kernel_rfl) (run_eql8 (a := r) (b := 1) rfl (by kernel_rfl) (by kernel_rfl) (beq_eq_false_iff_ne.2 h1)) (wpl_r1 [(18, .bool false)] (by kernel_rfl) (wpl_end (then_normal (wp_iff (by kernel_rfl) (wp_seq (reg_lit ?_)))))))
  refine wpl_val rfl (by kernel_rfl) (run_eql8 (a := r) (b := 0) rfl (by kernel_rfl) (by kernel_rfl) (beq_eq_false_iff_ne.2 h0)) (wpl_r1 [(21, .bool false)] (by kernel_rfl) (wpl_end (then_normal (wp_iff (by kernel_rfl) (wp_skip (block_normal (then_normal ?_)))))))
  refine wp_seq (wp_seq (reg_lit (wpl_r1 [(9, .int .i64 0)] (by kernel_rfl) (wpl_end (then_normal (wp_block ?_))))))
  obtain ⟨g, eg, hg, hrow⟩ := O1.out HG1.out.pos
  obtain ⟨g2, eg2, hg2, hrow2⟩ := O2.out HG2.out.pos
  have hgg : g2 ≠ g := fun e => S12.out g g2 eg eg2 e.symm
  have hlen : l2.length = l1.length := by rw [E1.out, E2.out, blA_length, blB_length]
  have b1 := L1.out
  have hp : Np ≠ g := Bp.out.off hrow HG1.out.pos
  have hq : Nq ≠ g := Bq.out.off hrow HG1.out.pos
  have hu : Nu ≠ g := Bu.out.off hrow HG1.out.pos
  refine loop_r (l1.length + 1) ?_
  refine loop_inv (N := l1.length) (fun k E W => Kp [(9, .int .i64 (k : Nat)), (6, .pointer (some ⟨Nu, 0, none⟩)), (7, .pointer (some ⟨Np, 0, none⟩)), (8, .pointer (some ⟨Nq, 0, none⟩))] E ∧ PutQ w w10 g l1.length (cdf l1 l2 k) W) ?_ _ 0 _ _ (Nat.zero_le _) (by omega) ⟨Kp_c (by kernel_rfl) (Kp_c (by kernel_rfl) (Kp_c (by kernel_rfl) (Kp_c (by kernel_rfl) (Kp_n)))), (PutQ.start hrow hU).congr (fun i _ => by unfold cdf; rw [if_neg (Nat.not_lt_zero _)])⟩
  clear hU
  intro k E W next hk hI hnext
  obtain ⟨hKp, HP⟩ := hI
  replace HP := hide HP
  refine wp_keep _ hKp (fun X => ?_)
  clear hKp
  refine wp_seq (wp_seq ?_)
  rcases Nat.lt_or_ge k l1.length with hlt | hge
  refine reg_lit (wpl_r2 [(25, .pointer (some ⟨Np, 0, none⟩)), (24, .int .i64 ((k : Nat)))] (by kernel_rfl) (wpl_ldsl (HP.out.box Bp.out hp) rfl (by kernel_rfl) rfl (by kernel_rfl) (wpl_r1 [(27, .int .i64 ((l1.length : Nat)))] (by kernel_rfl) (wpl_val rfl (by kernel_rfl) (run_lss (a := (k : Int)) (b := (l1.length : Int)) rfl (by kernel_rfl) (by kernel_rfl) (decide_eq_true (by omega))) (wpl_end (then_normal (wp_ift (by kernel_rfl) ?_)))))))
  refine wp_skip (then_normal (wp_seq (wp_block ?_)))
  have hlt2 : k < l2.length := by omega
  have hc1 : ∀ w', w' = W.drew → w'.cell? ((⟨g, 0, none⟩ : Addr).add k) = some (.int .u8 (qt l1 k)) := fun w' e => by rw [e, addr_add]; have h := HP.out.row.cell hlt; unfold cdf at h; rw [if_neg (Nat.lt_irrefl k)] at h; exact h
  have hc2 : ∀ w', w' = W.drew → w'.cell? ((⟨g2, 0, none⟩ : Addr).add k) = some (.int .u8 (qt l2 k)) := fun w' e => by rw [e, addr_add]; exact (HP.out.cell (p := ⟨g2, k, none⟩) hgg).trans (hrow2.cell hlt2)
  refine gregion (n := 15) (N := 16) (fun x => x = W.drew) (by kernel_rfl) (by kernel_rfl) (by kernel_rfl) (by kernel_rfl) (by kernel_rfl) (by kernel_rfl) rfl (fun _ _ _ _ _ h => h) ?_
  intro Fr hQ
  refine gany_val (i := 0) (m' := 1) (v := .pointer (some ⟨Np, 0, none⟩)) Fr hQ rfl rfl (by kernel_rfl) (by kernel_rfl) (by kernel_rfl) (by kernel_rfl) (by kernel_rfl) (fun _ hb => by kernel_rfl) (gany_val (i := 1) (m' := 3) (v := .slice A1 l1.length c1) Fr hQ rfl rfl (by kernel_rfl) (by kernel_rfl) (by kernel_rfl) (by kernel_rfl) (by kernel_rfl) (fun _ hb => run_ldsl rfl (by kernel_rfl) (Box.drewE (HP.out.box Bp.out hp) hb)) (gany_val (i := 2) (m' := 7) (v := .int .i64 ((k : Nat))) Fr hQ rfl rfl (by kernel_rfl) (by kernel_rfl) (by kernel_rfl) (by kernel_rfl) (by kernel_rfl) (fun _ hb => by kernel_rfl) (gany_val (i := 3) (m' := 15) (v := .pointer (some ⟨Np, 0, none⟩)) Fr hQ rfl rfl (by kernel_rfl) (by kernel_rfl) (by kernel_rfl) (by kernel_rfl) (by kernel_rfl) (fun _ hb => by kernel_rfl) (gany_val (i := 4) (m' := 31) (v := .slice A1 l1.length c1) Fr hQ rfl rfl (by kernel_rfl) (by kernel_rfl) (by kernel_rfl) (by kernel_rfl) (by kernel_rfl) (fun _ hb => run_ldsl rfl (by kernel_rfl) (Box.drewE (HP.out.box Bp.out hp) hb)) (gany_val (i := 5) (m' := 63) (v := .int .i64 ((k : Nat))) Fr hQ rfl rfl (by kernel_rfl) (by kernel_rfl) (by kernel_rfl) (by kernel_rfl) (by kernel_rfl) (fun _ hb => by kernel_rfl) (gany_val (i := 6) (m' := 127) (v := .pointer (some ((⟨g, 0, none⟩ : Addr).add k))) Fr hQ rfl rfl (by kernel_rfl) (by kernel_rfl) (by kernel_rfl) (by kernel_rfl) (by kernel_rfl) (fun _ hb => run_ix (k := k) (m := l1.length) (cc := c1) rfl (by kernel_rfl) eg (by kernel_rfl) hlt) (gany_val (i := 7) (m' := 255) (v := .int .u8 ((qt l1 k))) Fr hQ rfl rfl (by kernel_rfl) (by kernel_rfl) (by kernel_rfl) (by kernel_rfl) (by kernel_rfl) (fun _ hb => run_ldbit rfl (by kernel_rfl) (hc1 _ hb)) ?_)))))))
  refine gany_val (i := 8) (m' := 511) (v := .pointer (some ⟨Nq, 0, none⟩)) Fr hQ rfl rfl (by kernel_rfl) (by kernel_rfl) (by kernel_rfl) (by kernel_rfl) (by kernel_rfl) (fun _ hb => by kernel_rfl) (gany_val (i := 9) (m' := 1023) (v := .slice A2 l2.length c2) Fr hQ rfl rfl (by kernel_rfl) (by kernel_rfl) (by kernel_rfl) (by kernel_rfl) (by kernel_rfl) (fun _ hb => run_ldsl rfl (by kernel_rfl) (Box.drewE (HP.out.box Bq.out hq) hb)) (gany_val (i := 10) (m' := 2047) (v := .int .i64 ((k : Nat))) Fr hQ rfl rfl (by kernel_rfl) (by kernel_rfl) (by kernel_rfl) (by kernel_rfl) (by kernel_rfl) (fun _ hb => by kernel_rfl) (gany_val (i := 11) (m' := 4095) (v := .pointer (some ((⟨g2, 0, none⟩ : Addr).add k))) Fr hQ rfl rfl (by kernel_rfl) (by kernel_rfl) (by kernel_rfl) (by kernel_rfl) (by kernel_rfl) (fun _ hb => run_ix (k := k) (m := l2.length) (cc := c2) rfl (by kernel_rfl) eg2 (by kernel_rfl) hlt2) (gany_val (i := 12) (m' := 8191) (v := .int .u8 ((qt l2 k))) Fr hQ rfl rfl (by kernel_rfl) (by kernel_rfl) (by kernel_rfl) (by kernel_rfl) (by kernel_rfl) (fun _ hb => run_ldbit rfl (by kernel_rfl) (hc2 _ hb)) (gany_one (i := 13) (by kernel_rfl) (gstep_call (m' := 16383) rfl rfl (by kernel_rfl) (by kernel_rfl) (by kernel_rfl) (by kernel_rfl) (rmux_q 2 (qt l1 k) (qt l2 k) _ (HG1.out.bd k).1 (HG2.out.bd k).1) (gany_val (i := 14) (m' := 32767) (v := .pointer (some ((⟨g, 0, none⟩ : Addr).add k))) Fr hQ rfl rfl (by kernel_rfl) (by kernel_rfl) (by kernel_rfl) (by kernel_rfl) (by kernel_rfl) (fun _ hb => run_ix (k := k) (m := l1.length) (cc := c1) rfl (by kernel_rfl) eg (by kernel_rfl) hlt) ?_)))))))
  refine gany_e (gany_none (i := 15) (m' := 65535) (w' := W.drew.setCell ⟨g, k, none⟩ (.int .u8 (mMux 2 (qt l1 k) (qt l2 k)))) rfl rfl (by kernel_rfl) (by kernel_rfl) (by kernel_rfl) (by kernel_rfl) (run_stbit rfl (by kernel_rfl) (addr_add g k) (by kernel_rfl) HP.out.drew.row hlt) (gany_done (by kernel_rfl) ?_))
  have HS := (HP.out.drew.step hg k (mMux 2 (qt l1 k) (qt l2 k))).congr (fun i _ => cdf_next l1 l2 k i)
  clear Fr hQ
  refine block_normal (then_normal (reg_lit (wpl_r1 [(29, .int .i64 ((k : Nat)))] (by kernel_rfl) (wpl_val rfl (by kernel_rfl) (run_add (a := (k : Int)) (b := 1) (c := ((k + 1 : Int) : Int)) rfl (by kernel_rfl) (by kernel_rfl) (by omega) (by omega) (by omega)) (wpl_r1 [(9, .int .i64 (((k + 1 : Nat) : Int)))] (by kernel_rfl) (wpl_end ?_))))))
  refine then_normal (hnext _ _ hlt ⟨Kp_c (by kernel_rfl) (Kp_c (by kernel_rfl) (Kp_c (by kernel_rfl) (Kp_c (by kernel_rfl) (Kp_n)))), HS⟩)
  refine reg_lit (wpl_r2 [(25, .pointer (some ⟨Np, 0, none⟩)), (24, .int .i64 ((k : Nat)))] (by kernel_rfl) (wpl_ldsl (HP.out.box Bp.out hp) rfl (by kernel_rfl) rfl (by kernel_rfl) (wpl_r1 [(27, .int .i64 ((l1.length : Nat)))] (by kernel_rfl) (wpl_val rfl (by kernel_rfl) (run_lss (a := (k : Int)) (b := (l1.length : Int)) rfl (by kernel_rfl) (by kernel_rfl) (decide_eq_false (by omega))) (wpl_end (then_normal (wp_iff (by kernel_rfl) ?_)))))))
  refine wp_exit (then_exit (then_exit (exit_here (then_normal (wp_seq (reg_lit (wpl_ldvec (HP.out.box Bp.out hp) rfl (by kernel_rfl) rfl (by kernel_rfl) ?_)))))))
  refine wpl_stk (HP.out.box Bu.out hu) rfl (by kernel_rfl) rfl (by kernel_rfl) (A2 := A1) (m2 := l1.length) (c2 := c1) (s2 := s1) (by kernel_rfl) ?_
  intro w13 hst hkeep
  refine wpl_end (then_normal (wp_ret ?_))
  obtain rfl : k = l1.length := by omega
  refine ret_box hst.box rfl (by kernel_rfl) ?_
  have hln : (ql l1.length (cdf l1 l2 l1.length)).length = l1.length := ql_length _ _
  exact ⟨ql l1.length (cdf l1 l2 l1.length), s1, A1, c1, hide (show (⟨ql l1.length (cdf l1 l2 l1.length), s1⟩ : Vc) = vCond ⟨lz, sz⟩ ⟨la, sa⟩ ⟨lb, sb⟩ by unfold vCond btw; rw [← hr, if_neg h1, if_neg h0, hs1, ← E1.out, ← E2.out, ← blA_length ⟨la, sa⟩ ⟨lb, sb⟩, ← E1.out]; exact congrArg (fun l => (⟨l, _⟩ : Vc)) (ql_congr fun i hi => if_pos hi)), by rw [hln], by rw [hln]; exact C1, hide (own_of HP.out hkeep hu eg hg), HP.out.bel.trans (hst.bel hzu)⟩
end
end Go.Proofs.YtbcpeagannjgpaaGreatDoor
