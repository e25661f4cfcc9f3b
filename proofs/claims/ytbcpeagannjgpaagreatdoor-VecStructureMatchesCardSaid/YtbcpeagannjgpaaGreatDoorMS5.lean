/-
  Texts of MS joined (VecAW, VecSI, VecLI, VecAR, VecSQ, VecAT, VecPM, VecPU, VecLR, VecSP, VecLT, VecFT, VecBI, VecLV, VecBL, VecLX, VecRU, VecRV, VecRT).
-/
import Derived.Test.YtbcpeagannjgpaaGreatDoorMS4
set_option linter.unusedVariables false
set_option linter.unusedSimpArgs false
set_option linter.unusedSectionVars false
namespace Go.Proofs.YtbcpeagannjgpaaGreatDoor
section
open Go.RowKit
set_option maxRecDepth 100000
set_option linter.unusedSimpArgs false
set_option linter.unusedVariables false
set_option maxHeartbeats 4000000 in
theorem vawake_any (w : World) (ht : Tabs w) : Calls Tryz.prog 8 #[] w (Mk (.bool true) w) := by
 have HT := hide ht
 clear ht
 have hU : Below w.heap.size w w := Below.refl _ _
 refine calls_sl (l := []) 196 Tryz.func8 rfl (by kernel_rfl) (by simp) (zs (z1 [(0, z_f)] (sx_n (z1 [(1, .func (.func 11) #[] #[])] (sx_n ?_)))))
 refine zc rfl ((vfrom_q 5 8 true _ (by decide) (by decide) (by decide) (by decide)).mono ?_)
 rintro e w1 ⟨le, se, Ae, ce, Ee, rfl, Ce, Oe, hb⟩
 refine ⟨_, rfl, ?_⟩
 replace Ee := hide (ret_e0 Ee.out)
 replace Oe := hide Oe.out.rd
 replace hU := zU hU hU.size hb
 clear hb
 have Ge := zGd Ee (gd_of (by decide +kernel))
 have Le := zLe Ge
 have Ye := hide Ge.by_
 clear Ge
 refine z3 [(23, .int .i64 0), (22, .agg #[.slice Ae le.length ce, .bool se]), (20, .tuple #[.agg #[.slice Ae le.length ce, .bool se], .int .i64 0])] (zm (A := Ae) (m := le.length) (c := ce) (s := se) rfl rfl rfl ?_)
 intro w2 Ne Be hNe hb
 replace Be := hide Be
 replace Oe := zQ Oe hb
 have hze : w.heap.size ≤ Ne := Nat.le_trans hU.size hNe
 clear hNe
 replace hU := zU hU hU.size hb
 clear hb
 refine z1 [(3, .int .i64 0)] (sx_n ?_)
 refine zc rfl ((vfrom_q 5 8 false _ (by decide) (by decide) (by decide) (by decide)).mono ?_)
 rintro e w3 ⟨lp, sp, Ap, cp, Ep, rfl, Cp, Op, hb⟩
 refine ⟨_, rfl, ?_⟩
 replace Oe := zQ Oe hb
 replace Be := zX Be hb
 replace Ep := hide (ret_e0 Ep.out)
 replace Op := hide Op.out.rd
 replace hU := zU hU hU.size hb
 clear hb
 have Gp := zGd Ep (gd_of (by decide +kernel))
 have Lp := zLe Gp
 have Yp := hide Gp.by_
 clear Gp
 refine z3 [(27, .int .i64 0), (26, .agg #[.slice Ap lp.length cp, .bool sp]), (24, .tuple #[.agg #[.slice Ap lp.length cp, .bool sp], .int .i64 0])] (zm (A := Ap) (m := lp.length) (c := cp) (s := sp) rfl rfl rfl ?_)
 intro w4 Np Bp hNp hb
 replace Bp := hide Bp
 replace Oe := zQ Oe hb
 replace Op := zQ Op hb
 replace Be := zX Be hb
 have hzp : w.heap.size ≤ Np := Nat.le_trans hU.size hNp
 clear hNp
 replace hU := zU hU hU.size hb
 clear hb
 refine z1 [(5, .int .i64 0)] (sx_n ?_)
 refine zc rfl ((vfrom_q (-1) 32 true _ (by decide) (by decide) (by decide) (by decide)).mono ?_)
 rintro e w5 ⟨lm, sm, Am, cm, Em, rfl, Cm, Om, hb⟩
 refine ⟨_, rfl, ?_⟩
 replace Oe := zQ Oe hb
 replace Op := zQ Op hb
 replace Be := zX Be hb
 replace Bp := zX Bp hb
 replace Em := hide (ret_e0 Em.out)
 replace Om := hide Om.out.rd
 replace hU := zU hU hU.size hb
 clear hb
 have Gm := zGd Em (gd_of (by decide +kernel))
 have Lm := zLe Gm
 have Ym := hide Gm.by_
 clear Gm
 refine z3 [(31, .int .i64 0), (30, .agg #[.slice Am lm.length cm, .bool sm]), (28, .tuple #[.agg #[.slice Am lm.length cm, .bool sm], .int .i64 0])] (zm (A := Am) (m := lm.length) (c := cm) (s := sm) rfl rfl rfl ?_)
 intro w6 Nm Bm hNm hb
 replace Bm := hide Bm
 replace Oe := zQ Oe hb
 replace Op := zQ Op hb
 replace Om := zQ Om hb
 replace Be := zX Be hb
 replace Bp := zX Bp hb
 have hzm : w.heap.size ≤ Nm := Nat.le_trans hU.size hNm
 clear hNm
 replace hU := zU hU hU.size hb
 clear hb
 refine z1 [(7, .int .i64 0)] (sx_n ?_)
 refine zc rfl ((vfrom_q 2 32 true _ (by decide) (by decide) (by decide) (by decide)).mono ?_)
 rintro e w7 ⟨lb, sb, Ab, cb, Eb, rfl, Cb, Ob, hb⟩
 refine ⟨_, rfl, ?_⟩
 replace Oe := zQ Oe hb
 replace Op := zQ Op hb
 replace Om := zQ Om hb
 replace Be := zX Be hb
 replace Bp := zX Bp hb
 replace Bm := zX Bm hb
 replace Eb := hide (ret_e0 Eb.out)
 replace Ob := hide Ob.out.rd
 replace hU := zU hU hU.size hb
 clear hb
 have Gb := zGd Eb (gd_of (by decide +kernel))
 have Lb := zLe Gb
 have Yb := hide Gb.by_
 clear Gb
 refine z3 [(35, .int .i64 0), (34, .agg #[.slice Ab lb.length cb, .bool sb]), (32, .tuple #[.agg #[.slice Ab lb.length cb, .bool sb], .int .i64 0])] (zm (A := Ab) (m := lb.length) (c := cb) (s := sb) rfl rfl rfl ?_)
 intro w8 Nb Bb hNb hb
 replace Bb := hide Bb
 replace Oe := zQ Oe hb
 replace Op := zQ Op hb
 replace Om := zQ Om hb
 replace Ob := zQ Ob hb
 replace Be := zX Be hb
 replace Bp := zX Bp hb
 replace Bm := zX Bm hb
 have hzb : w.heap.size ≤ Nb := Nat.le_trans hU.size hNb
 clear hNb
 replace hU := zU hU hU.size hb
 clear hb
 refine z1 [(9, .int .i64 0)] (sx_n ?_)
 refine zc rfl ((vof_any ⟨#[49, 48]⟩ _ (by decide)).mono ?_)
 rintro e w9 ⟨l1, s1, A1, c1, E1, rfl, C1, O1, hb⟩
 refine ⟨_, rfl, ?_⟩
 replace Oe := zQ Oe hb
 replace Op := zQ Op hb
 replace Om := zQ Om hb
 replace Ob := zQ Ob hb
 replace Be := zX Be hb
 replace Bp := zX Bp hb
 replace Bm := zX Bm hb
 replace Bb := zX Bb hb
 replace O1 := hide O1.out.rd
 replace hU := zU hU hU.size hb
 clear hb
 have G1 := zGd E1 (gd_of (by decide +kernel))
 have L1 := zLe G1
 have Y1 := hide G1.by_
 clear G1
 refine zc rfl ((vof_any ⟨#[48, 122, 49]⟩ _ (by decide)).mono ?_)
 rintro e w10 ⟨l2, s2, A2, c2, E2, rfl, C2, O2, hb⟩
 refine ⟨_, rfl, ?_⟩
 replace Oe := zQ Oe hb
 replace Op := zQ Op hb
 replace Om := zQ Om hb
 replace Ob := zQ Ob hb
 replace O1 := zQ O1 hb
 replace Be := zX Be hb
 replace Bp := zX Bp hb
 replace Bm := zX Bm hb
 replace Bb := zX Bb hb
 replace O2 := hide O2.out.rd
 replace hU := zU hU hU.size hb
 clear hb
 have G2 := zGd E2 (gd_of (by decide +kernel))
 have L2 := zLe G2
 have Y2 := hide G2.by_
 clear G2
 refine wpl_bs2 rfl (by kernel_rfl) rfl (A0 := A1) (l0 := l1) (c0 := c1) (s0 := s1) (A1 := A2) (l1 := l2) (c1 := c2) (s1 := s2) (by kernel_rfl) (by kernel_rfl) O1.out Y1.out L1.out C1 O2.out Y2.out L2.out C2 ?_
 intro w11 NV11 RV11 hlV11 hNV11 hb
 replace RV11 := hide RV11
 replace Oe := zQ Oe hb
 replace Op := zQ Op hb
 replace Om := zQ Om hb
 replace Ob := zQ Ob hb
 replace O1 := zQ O1 hb
 replace O2 := zQ O2 hb
 replace Be := zX Be hb
 replace Bp := zX Bp hb
 replace Bm := zX Bm hb
 replace Bb := zX Bb hb
 replace hU := zU hU hU.size hb
 clear hb hNV11
 refine zc rfl ((vConcat_e0 NV11 2 [(A1, l1, c1, s1), (A2, l2, c2, s2)] _ hlV11 (by simp) (by simp) RV11.out (by show cte [⟨l1, s1⟩, ⟨l2, s2⟩] = 0; rw [E1.out, E2.out]; decide +kernel)).mono ?_)
 rintro e w12 ⟨lh, sh, Ah, ch, Eh, rfl, Ch, Oh, hb⟩
 refine ⟨_, rfl, ?_⟩
 replace Oe := zQ Oe hb
 replace Op := zQ Op hb
 replace Om := zQ Om hb
 replace Ob := zQ Ob hb
 replace O1 := zQ O1 hb
 replace O2 := zQ O2 hb
 replace Be := zX Be hb
 replace Bp := zX Bp hb
 replace Bm := zX Bm hb
 replace Bb := zX Bb hb
 replace Eh := hide (ret_e0 Eh.out)
 replace Oh := hide Oh.out.rd
 replace hU := zU hU hU.size hb
 clear hb
 have Gh := zGd Eh ((by show Gd (cats [⟨l1, s1⟩, ⟨l2, s2⟩]); rw [E1.out, E2.out]; exact gd_of (by decide +kernel)))
 have Lh := zLe Gh
 have Yh := hide Gh.by_
 clear Gh
 replace Eh := hide (show (⟨lh, sh⟩ : Vc) = ⟨cats [⟨ofB ⟨#[49, 48]⟩, false⟩, ⟨ofB ⟨#[48, 122, 49]⟩, false⟩], false⟩ from Eh.out.trans (by show (⟨cats [⟨l1, s1⟩, ⟨l2, s2⟩], false⟩ : Vc) = _; rw [E1.out, E2.out]))
 clear RV11 O1 C1 L1 Y1
 clear O2 C2 L2 Y2
 refine z3 [(42, .int .i64 0), (41, .agg #[.slice Ah lh.length ch, .bool sh]), (36, .tuple #[.agg #[.slice Ah lh.length ch, .bool sh], .int .i64 0])] (zm (A := Ah) (m := lh.length) (c := ch) (s := sh) rfl rfl rfl ?_)
 intro w13 Nh Bh hNh hb
 replace Bh := hide Bh
 replace Oe := zQ Oe hb
 replace Op := zQ Op hb
 replace Om := zQ Om hb
 replace Ob := zQ Ob hb
 replace Oh := zQ Oh hb
 replace Be := zX Be hb
 replace Bp := zX Bp hb
 replace Bm := zX Bm hb
 replace Bb := zX Bb hb
 have hzh : w.heap.size ≤ Nh := Nat.le_trans hU.size hNh
 clear hNh
 replace hU := zU hU hU.size hb
 clear hb
 refine z1 [(11, .int .i64 0)] (sx_n ?_)
 refine zc rfl ((vof_any ⟨#[49, 48, 49, 49]⟩ _ (by decide)).mono ?_)
 rintro e w14 ⟨l1, s1, A1, c1, E1, rfl, C1, O1, hb⟩
 refine ⟨_, rfl, ?_⟩
 replace Oe := zQ Oe hb
 replace Op := zQ Op hb
 replace Om := zQ Om hb
 replace Ob := zQ Ob hb
 replace Oh := zQ Oh hb
 replace Be := zX Be hb
 replace Bp := zX Bp hb
 replace Bm := zX Bm hb
 replace Bb := zX Bb hb
 replace Bh := zX Bh hb
 replace O1 := hide O1.out.rd
 replace hU := zU hU hU.size hb
 clear hb
 have G1 := zGd E1 (gd_of (by decide +kernel))
 have L1 := zLe G1
 have Y1 := hide G1.by_
 clear G1
 refine zc rfl ((vSlice_e0 4 2 A1 l1 c1 s1 _ L1.out C1 O1.out Y1.out (by decide) (by decide) (by decide) (by decide) (by decide)).mono ?_)
 rintro e w15 ⟨lt, st, At, ct, Et, rfl, Ct, Ot, hb⟩
 refine ⟨_, rfl, ?_⟩
 replace Oe := zQ Oe hb
 replace Op := zQ Op hb
 replace Om := zQ Om hb
 replace Ob := zQ Ob hb
 replace Oh := zQ Oh hb
 replace O1 := zQ O1 hb
 replace Be := zX Be hb
 replace Bp := zX Bp hb
 replace Bm := zX Bm hb
 replace Bb := zX Bb hb
 replace Bh := zX Bh hb
 replace Et := hide (ret_e0 Et.out)
 replace Ot := hide Ot.out.rd
 replace hU := zU hU hU.size hb
 clear hb
 have Gt := zGd Et ((by rw [E1.out]; exact gd_of (by decide +kernel)))
 have Lt := zLe Gt
 have Yt := hide Gt.by_
 clear Gt
 replace Et := hide (show (⟨lt, st⟩ : Vc) = ⟨wdw (cnt ⟨ofB ⟨#[49, 48, 49, 49]⟩, false⟩).b 2 (4 - 2 + 1 : Int).toNat 2, false⟩ from Et.out.trans (by rw [E1.out]))
 clear O1 C1 L1 Y1
 refine z3 [(47, .int .i64 0), (46, .agg #[.slice At lt.length ct, .bool st]), (43, .tuple #[.agg #[.slice At lt.length ct, .bool st], .int .i64 0])] (zm (A := At) (m := lt.length) (c := ct) (s := st) rfl rfl rfl ?_)
 intro w16 Nt Bt hNt hb
 replace Bt := hide Bt
 replace Oe := zQ Oe hb
 replace Op := zQ Op hb
 replace Om := zQ Om hb
 replace Ob := zQ Ob hb
 replace Oh := zQ Oh hb
 replace Ot := zQ Ot hb
 replace Be := zX Be hb
 replace Bp := zX Bp hb
 replace Bm := zX Bm hb
 replace Bb := zX Bb hb
 replace Bh := zX Bh hb
 have hzt : w.heap.size ≤ Nt := Nat.le_trans hU.size hNt
 clear hNt
 replace hU := zU hU hU.size hb
 clear hb
 refine z1 [(13, .int .i64 0)] (ze (wp_seq (zs (wpl_r16 [(63, .int .i64 0), (62, z_f), (61, z_f), (60, z_f), (59, .int .i64 0), (58, z_f), (57, z_f), (56, z_f), (55, .int .i64 0), (54, z_f), (53, z_f), (52, z_f), (51, .int .i64 0), (50, z_f), (49, z_f), (48, .int .i64 0)] (by kernel_rfl) (z6 [(69, z_f), (68, z_f), (67, .int .i64 0), (66, z_f), (65, z_f), (64, z_f)] ?_)))))
 refine ze (zif (wp_skip (then_normal (wp_seq (region_R (n := 8) (N := 9) (by kernel_rfl) (by kernel_rfl) (by kernel_rfl) (by kernel_rfl) (by kernel_rfl) (by kernel_rfl) (fun _ _ _ _ _ h => h) ?_)))))
 intro F hQ
 have Be0 := Be
 have Bp0 := Bp
 have Bm0 := Bm
 have Bb0 := Bb
 have Bh0 := Bh
 have Bt0 := Bt
 refine anyR_ldvec (i := 1) (m' := 2) Bp0.out F hQ rfl rfl (by kernel_rfl) (by kernel_rfl) (by kernel_rfl) (by kernel_rfl) (by kernel_rfl) rfl (by kernel_rfl) ?_
 refine zac (i := 0) (m' := 3) rfl rfl ((vsof_any ⟨#[49, 49, 48, 49]⟩ _ (by decide)).mono ?_)
 rintro e w17 ⟨l1, s1, A1, c1, E1, rfl, C1, O1, hb⟩
 refine ⟨_, rfl, hb, ?_⟩
 replace hb : Below w16.heap.size w16 w17 := Below.trans ((Below.refl _ _).drew) hb
 replace Oe := zQ Oe hb
 replace Op := zQ Op hb
 replace Om := zQ Om hb
 replace Ob := zQ Ob hb
 replace Oh := zQ Oh hb
 replace Ot := zQ Ot hb
 replace Be := zX Be hb
 replace Bp := zX Bp hb
 replace Bm := zX Bm hb
 replace Bb := zX Bb hb
 replace Bh := zX Bh hb
 replace Bt := zX Bt hb
 replace O1 := hide O1.out.rd
 replace hU := zU hU hU.size hb
 clear hb
 have G1 := zGd E1 (gd_of (by decide +kernel))
 have L1 := zLe G1
 have Y1 := hide G1.by_
 clear G1
 refine zac (i := 2) (m' := 7) rfl rfl ((vAdd_any A1 Ap l1 lp c1 cp s1 sp _ L1.out Lp.out C1 Cp O1.out Op.out Y1.out Yp.out).mono ?_)
 rintro e w18 ⟨l2, s2, A2, c2, E2, rfl, C2, O2, hb⟩
 refine ⟨_, rfl, hb, ?_⟩
 replace Oe := zQ Oe hb
 replace Op := zQ Op hb
 replace Om := zQ Om hb
 replace Ob := zQ Ob hb
 replace Oh := zQ Oh hb
 replace Ot := zQ Ot hb
 replace O1 := zQ O1 hb
 replace Be := zX Be hb
 replace Bp := zX Bp hb
 replace Bm := zX Bm hb
 replace Bb := zX Bb hb
 replace Bh := zX Bh hb
 replace Bt := zX Bt hb
 replace O2 := hide O2.out.rd
 replace hU := zU hU hU.size hb
 clear hb
 have G2 := zGd E2 ((by rw [E1.out, Ep.out]; exact gd_of (by decide +kernel)))
 have L2 := zLe G2
 have Y2 := hide G2.by_
 clear G2
 replace E2 := hide (show (⟨l2, s2⟩ : Vc) = vAdd ⟨ofB ⟨#[49, 49, 48, 49]⟩, true⟩ ⟨fb (vz 8 5), false⟩ from E2.out.trans (by rw [E1.out, Ep.out]))
 clear O1 C1 L1 Y1
 refine zac (i := 3) (m' := 15) rfl rfl ((vint_val (18) A2 l2 c2 s2 _ L2.out C2 O2.out Y2.out (by rw [E2.out]; decide +kernel) (by rw [E2.out]; decide +kernel) (by decide) (by decide)).mono ?_)
 rintro e w19 ⟨rfl, hb⟩
 refine ⟨_, rfl, hb, ?_⟩
 replace Oe := zQ Oe hb
 replace Op := zQ Op hb
 replace Om := zQ Om hb
 replace Ob := zQ Ob hb
 replace Oh := zQ Oh hb
 replace Ot := zQ Ot hb
 replace O2 := zQ O2 hb
 replace Be := zX Be hb
 replace Bp := zX Bp hb
 replace Bm := zX Bm hb
 replace Bb := zX Bb hb
 replace Bh := zX Bh hb
 replace Bt := zX Bt hb
 replace hU := zU hU hU.size hb
 clear hb O2 C2 L2 Y2
 refine zav (i := 4) (m' := 31) (v := .tuple #[.int .i64 18, .bool true]) F hQ rfl rfl (zav (i := 5) (m' := 63) (v := .int .i64 18) F hQ rfl rfl (zav (i := 6) (m' := 127) (v := .bool true) F hQ rfl rfl (zav (i := 7) (m' := 255) (v := .int .i64 18) F hQ rfl rfl (anyR_e (anyR_last (i := 8) (m' := 511) (v := .bool true) rfl rfl (by kernel_rfl) (by kernel_rfl) (by kernel_rfl) (by kernel_rfl) (by kernel_rfl) (anyE_done (by kernel_rfl) ?_))))))
 clear F hQ Be0 Bp0 Bm0 Bb0 Bh0 Bt0
 refine then_normal (wp_seq (region_R (n := 8) (N := 9) (by kernel_rfl) (by kernel_rfl) (by kernel_rfl) (by kernel_rfl) (by kernel_rfl) (by kernel_rfl) (fun _ _ _ _ _ h => h) ?_))
 intro F hQ
 have Be0 := Be
 have Bp0 := Bp
 have Bm0 := Bm
 have Bb0 := Bb
 have Bh0 := Bh
 have Bt0 := Bt
 refine anyR_ldvec (i := 1) (m' := 2) Be0.out F hQ rfl rfl (by kernel_rfl) (by kernel_rfl) (by kernel_rfl) (by kernel_rfl) (by kernel_rfl) rfl (by kernel_rfl) ?_
 refine zac (i := 0) (m' := 3) rfl rfl ((vsof_any ⟨#[49, 49, 48, 49]⟩ _ (by decide)).mono ?_)
 rintro e w20 ⟨l1, s1, A1, c1, E1, rfl, C1, O1, hb⟩
 refine ⟨_, rfl, hb, ?_⟩
 replace hb : Below w19.heap.size w19 w20 := Below.trans ((Below.refl _ _).drew) hb
 replace Oe := zQ Oe hb
 replace Op := zQ Op hb
 replace Om := zQ Om hb
 replace Ob := zQ Ob hb
 replace Oh := zQ Oh hb
 replace Ot := zQ Ot hb
 replace Be := zX Be hb
 replace Bp := zX Bp hb
 replace Bm := zX Bm hb
 replace Bb := zX Bb hb
 replace Bh := zX Bh hb
 replace Bt := zX Bt hb
 replace O1 := hide O1.out.rd
 replace hU := zU hU hU.size hb
 clear hb
 have G1 := zGd E1 (gd_of (by decide +kernel))
 have L1 := zLe G1
 have Y1 := hide G1.by_
 clear G1
 refine zac (i := 2) (m' := 7) rfl rfl ((vAdd_any A1 Ae l1 le c1 ce s1 se _ L1.out Le.out C1 Ce O1.out Oe.out Y1.out Ye.out).mono ?_)
 rintro e w21 ⟨l2, s2, A2, c2, E2, rfl, C2, O2, hb⟩
 refine ⟨_, rfl, hb, ?_⟩
 replace Oe := zQ Oe hb
 replace Op := zQ Op hb
 replace Om := zQ Om hb
 replace Ob := zQ Ob hb
 replace Oh := zQ Oh hb
 replace Ot := zQ Ot hb
 replace O1 := zQ O1 hb
 replace Be := zX Be hb
 replace Bp := zX Bp hb
 replace Bm := zX Bm hb
 replace Bb := zX Bb hb
 replace Bh := zX Bh hb
 replace Bt := zX Bt hb
 replace O2 := hide O2.out.rd
 replace hU := zU hU hU.size hb
 clear hb
 have G2 := zGd E2 ((by rw [E1.out, Ee.out]; exact gd_of (by decide +kernel)))
 have L2 := zLe G2
 have Y2 := hide G2.by_
 clear G2
 replace E2 := hide (show (⟨l2, s2⟩ : Vc) = vAdd ⟨ofB ⟨#[49, 49, 48, 49]⟩, true⟩ ⟨fb (vz 8 5), true⟩ from E2.out.trans (by rw [E1.out, Ee.out]))
 clear O1 C1 L1 Y1
 refine zac (i := 3) (m' := 15) rfl rfl ((vint_val (2) A2 l2 c2 s2 _ L2.out C2 O2.out Y2.out (by rw [E2.out]; decide +kernel) (by rw [E2.out]; decide +kernel) (by decide) (by decide)).mono ?_)
 rintro e w22 ⟨rfl, hb⟩
 refine ⟨_, rfl, hb, ?_⟩
 replace Oe := zQ Oe hb
 replace Op := zQ Op hb
 replace Om := zQ Om hb
 replace Ob := zQ Ob hb
 replace Oh := zQ Oh hb
 replace Ot := zQ Ot hb
 replace O2 := zQ O2 hb
 replace Be := zX Be hb
 replace Bp := zX Bp hb
 replace Bm := zX Bm hb
 replace Bb := zX Bb hb
 replace Bh := zX Bh hb
 replace Bt := zX Bt hb
 replace hU := zU hU hU.size hb
 clear hb O2 C2 L2 Y2
 refine zav (i := 4) (m' := 31) (v := .tuple #[.int .i64 2, .bool true]) F hQ rfl rfl (zav (i := 5) (m' := 63) (v := .int .i64 2) F hQ rfl rfl (zav (i := 6) (m' := 127) (v := .bool true) F hQ rfl rfl (zav (i := 7) (m' := 255) (v := .int .i64 2) F hQ rfl rfl (anyR_e (anyR_last (i := 8) (m' := 511) (v := .bool true) rfl rfl (by kernel_rfl) (by kernel_rfl) (by kernel_rfl) (by kernel_rfl) (by kernel_rfl) (anyE_done (by kernel_rfl) ?_))))))
 clear F hQ Be0 Bp0 Bm0 Bb0 Bh0 Bt0
 refine then_normal (zs (zv Bb.out rfl rfl (zv Bm.out rfl rfl ?_)))
 refine zc rfl ((vPow_any Ab Am lb lm cb cm sb sm _ Lb.out Lm.out Cb Cm Ob.out Om.out Yb.out Ym.out (HT.out.kept hU)).mono ?_)
 rintro e w23 ⟨l1, s1, A1, c1, E1, rfl, C1, O1, hb⟩
 refine ⟨_, rfl, ?_⟩
 replace Oe := zQ Oe hb
 replace Op := zQ Op hb
 replace Om := zQ Om hb
 replace Ob := zQ Ob hb
 replace Oh := zQ Oh hb
 replace Ot := zQ Ot hb
 replace Be := zX Be hb
 replace Bp := zX Bp hb
 replace Bm := zX Bm hb
 replace Bb := zX Bb hb
 replace Bh := zX Bh hb
 replace Bt := zX Bt hb
 replace O1 := hide O1.out.rd
 replace hU := zU hU hU.size hb
 clear hb
 have G1 := zGd E1 ((by rw [Eb.out, Em.out]; exact gd_of (by decide +kernel)))
 have L1 := zLe G1
 have Y1 := hide G1.by_
 clear G1
 replace E1 := hide (show (⟨l1, s1⟩ : Vc) = vPow ⟨fb (vz 32 2), true⟩ ⟨fb (vz 32 (-1)), true⟩ from E1.out.trans (by rw [Eb.out, Em.out]))
 refine zc rfl ((vint_val (0) A1 l1 c1 s1 _ L1.out C1 O1.out Y1.out (by rw [E1.out]; decide +kernel) (by rw [E1.out]; decide +kernel) (by decide) (by decide)).mono ?_)
 rintro e w24 ⟨rfl, hb⟩
 refine ⟨_, rfl, ?_⟩
 replace Oe := zQ Oe hb
 replace Op := zQ Op hb
 replace Om := zQ Om hb
 replace Ob := zQ Ob hb
 replace Oh := zQ Oh hb
 replace Ot := zQ Ot hb
 replace O1 := zQ O1 hb
 replace Be := zX Be hb
 replace Bp := zX Bp hb
 replace Bm := zX Bm hb
 replace Bb := zX Bb hb
 replace Bh := zX Bh hb
 replace Bt := zX Bt hb
 replace hU := zU hU hU.size hb
 clear hb O1 C1 L1 Y1
 refine z5 [(19, z_t), (18, .int .i64 0), (90, z_t), (89, .int .i64 0), (84, .tuple #[.int .i64 0, .bool true])] (ze (wp_seq (zs (wpl_r16 [(106, z_t), (105, z_f), (104, z_f), (103, z_f), (102, .int .i64 2), (101, z_f), (100, z_f), (99, z_f), (98, z_t), (97, z_f), (96, z_f), (95, z_f), (94, .int .i64 18), (93, z_f), (92, z_f), (91, z_t)] (by kernel_rfl) (z6 [(112, z_f), (111, z_f), (110, .int .i64 0), (109, z_f), (108, z_f), (107, z_f)] ?_)))))
 refine ze (zif (wp_skip (then_normal (wp_seq (region_R (n := 83) (N := 84) (by kernel_rfl) (by kernel_rfl) (by kernel_rfl) (by kernel_rfl) (by kernel_rfl) (by kernel_rfl) (fun _ _ _ _ _ h => h) ?_)))))
 intro F hQ
 have Be0 := Be
 have Bp0 := Bp
 have Bm0 := Bm
 have Bb0 := Bb
 have Bh0 := Bh
 have Bt0 := Bt
 refine zav (i := 0) (m' := 1) (v := .func (.func 11) #[] #[]) F hQ rfl rfl ?_
 refine zac (i := 1) (m' := 3) rfl rfl ((vof_any ⟨#[49, 120, 48, 48]⟩ _ (by decide)).mono ?_)
 rintro e w25 ⟨l1, s1, A1, c1, E1, rfl, C1, O1, hb⟩
 refine ⟨_, rfl, hb, ?_⟩
 replace hb : Below w24.heap.size w24 w25 := Below.trans ((Below.refl _ _).drew) hb
 replace Oe := zQ Oe hb
 replace Op := zQ Op hb
 replace Om := zQ Om hb
 replace Ob := zQ Ob hb
 replace Oh := zQ Oh hb
 replace Ot := zQ Ot hb
 replace Be := zX Be hb
 replace Bp := zX Bp hb
 replace Bm := zX Bm hb
 replace Bb := zX Bb hb
 replace Bh := zX Bh hb
 replace Bt := zX Bt hb
 replace O1 := hide O1.out.rd
 replace hU := zU hU hU.size hb
 clear hb
 have G1 := zGd E1 (gd_of (by decide +kernel))
 have L1 := zLe G1
 have Y1 := hide G1.by_
 clear G1
 refine zac (i := 2) (m' := 7) rfl rfl ((vof_any ⟨#[48, 49, 49, 48]⟩ _ (by decide)).mono ?_)
 rintro e w26 ⟨l2, s2, A2, c2, E2, rfl, C2, O2, hb⟩
 refine ⟨_, rfl, hb, ?_⟩
 replace Oe := zQ Oe hb
 replace Op := zQ Op hb
 replace Om := zQ Om hb
 replace Ob := zQ Ob hb
 replace Oh := zQ Oh hb
 replace Ot := zQ Ot hb
 replace O1 := zQ O1 hb
 replace Be := zX Be hb
 replace Bp := zX Bp hb
 replace Bm := zX Bm hb
 replace Bb := zX Bb hb
 replace Bh := zX Bh hb
 replace Bt := zX Bt hb
 replace O2 := hide O2.out.rd
 replace hU := zU hU hU.size hb
 clear hb
 have G2 := zGd E2 (gd_of (by decide +kernel))
 have L2 := zLe G2
 have Y2 := hide G2.by_
 clear G2
 refine zac (i := 3) (m' := 15) rfl rfl ((vAnd_any A1 A2 l1 l2 c1 c2 s1 s2 _ L1.out L2.out C1 C2 O1.out O2.out Y1.out Y2.out (HT.out.kept hU)).mono ?_)
 rintro e w27 ⟨l3, s3, A3, c3, E3, rfl, C3, O3, hb⟩
 refine ⟨_, rfl, hb, ?_⟩
 replace Oe := zQ Oe hb
 replace Op := zQ Op hb
 replace Om := zQ Om hb
 replace Ob := zQ Ob hb
 replace Oh := zQ Oh hb
 replace Ot := zQ Ot hb
 replace O1 := zQ O1 hb
 replace O2 := zQ O2 hb
 replace Be := zX Be hb
 replace Bp := zX Bp hb
 replace Bm := zX Bm hb
 replace Bb := zX Bb hb
 replace Bh := zX Bh hb
 replace Bt := zX Bt hb
 replace O3 := hide O3.out.rd
 replace hU := zU hU hU.size hb
 clear hb
 have G3 := zGd E3 ((by rw [E1.out, E2.out]; exact gd_of (by decide +kernel)))
 have L3 := zLe G3
 have Y3 := hide G3.by_
 clear G3
 replace E3 := hide (show (⟨l3, s3⟩ : Vc) = btw mAnd ⟨ofB ⟨#[49, 120, 48, 48]⟩, false⟩ ⟨ofB ⟨#[48, 49, 49, 48]⟩, false⟩ from E3.out.trans (by rw [E1.out, E2.out]))
 clear O1 C1 L1 Y1 O2 C2 L2 Y2
 refine zac (i := 4) (m' := 31) rfl rfl ((vof_any ⟨#[48, 120, 48, 48]⟩ _ (by decide)).mono ?_)
 rintro e w28 ⟨l4, s4, A4, c4, E4, rfl, C4, O4, hb⟩
 refine ⟨_, rfl, hb, ?_⟩
 replace Oe := zQ Oe hb
 replace Op := zQ Op hb
 replace Om := zQ Om hb
 replace Ob := zQ Ob hb
 replace Oh := zQ Oh hb
 replace Ot := zQ Ot hb
 replace O3 := zQ O3 hb
 replace Be := zX Be hb
 replace Bp := zX Bp hb
 replace Bm := zX Bm hb
 replace Bb := zX Bb hb
 replace Bh := zX Bh hb
 replace Bt := zX Bt hb
 replace O4 := hide O4.out.rd
 replace hU := zU hU hU.size hb
 clear hb
 have G4 := zGd E4 (gd_of (by decide +kernel))
 have L4 := zLe G4
 have Y4 := hide G4.by_
 clear G4
 refine zac (i := 5) (m' := 63) rfl rfl ((rsame_yes A3 A4 l3 l4 c3 c4 s3 s4 _ L3.out L4.out O3.out O4.out (by rw [E3.out, E4.out]; exact (sm_iff _ _).1 (by decide +kernel))).mono ?_)
 rintro e w29 ⟨rfl, hb⟩
 refine ⟨_, rfl, hb, ?_⟩
 replace Oe := zQ Oe hb
 replace Op := zQ Op hb
 replace Om := zQ Om hb
 replace Ob := zQ Ob hb
 replace Oh := zQ Oh hb
 replace Ot := zQ Ot hb
 replace O3 := zQ O3 hb
 replace O4 := zQ O4 hb
 replace Be := zX Be hb
 replace Bp := zX Bp hb
 replace Bm := zX Bm hb
 replace Bb := zX Bb hb
 replace Bh := zX Bh hb
 replace Bt := zX Bt hb
 replace hU := zU hU hU.size hb
 clear hb O3 C3 L3 Y3
 clear O4 C4 L4 Y4
 refine zav (i := 6) (m' := 127) (v := .bool true) F hQ rfl rfl (zav (i := 7) (m' := 255) (v := .func (.func 11) #[] #[]) F hQ rfl rfl ?_)
 refine zac (i := 8) (m' := 511) rfl rfl ((vof_any ⟨#[49, 49, 48, 48]⟩ _ (by decide)).mono ?_)
 rintro e w30 ⟨l1, s1, A1, c1, E1, rfl, C1, O1, hb⟩
 refine ⟨_, rfl, hb, ?_⟩
 replace Oe := zQ Oe hb
 replace Op := zQ Op hb
 replace Om := zQ Om hb
 replace Ob := zQ Ob hb
 replace Oh := zQ Oh hb
 replace Ot := zQ Ot hb
 replace Be := zX Be hb
 replace Bp := zX Bp hb
 replace Bm := zX Bm hb
 replace Bb := zX Bb hb
 replace Bh := zX Bh hb
 replace Bt := zX Bt hb
 replace O1 := hide O1.out.rd
 replace hU := zU hU hU.size hb
 clear hb
 have G1 := zGd E1 (gd_of (by decide +kernel))
 have L1 := zLe G1
 have Y1 := hide G1.by_
 clear G1
 refine zac (i := 9) (m' := 1023) rfl rfl ((vof_any ⟨#[48, 49, 48, 49]⟩ _ (by decide)).mono ?_)
 rintro e w31 ⟨l2, s2, A2, c2, E2, rfl, C2, O2, hb⟩
 refine ⟨_, rfl, hb, ?_⟩
 replace Oe := zQ Oe hb
 replace Op := zQ Op hb
 replace Om := zQ Om hb
 replace Ob := zQ Ob hb
 replace Oh := zQ Oh hb
 replace Ot := zQ Ot hb
 replace O1 := zQ O1 hb
 replace Be := zX Be hb
 replace Bp := zX Bp hb
 replace Bm := zX Bm hb
 replace Bb := zX Bb hb
 replace Bh := zX Bh hb
 replace Bt := zX Bt hb
 replace O2 := hide O2.out.rd
 replace hU := zU hU hU.size hb
 clear hb
 have G2 := zGd E2 (gd_of (by decide +kernel))
 have L2 := zLe G2
 have Y2 := hide G2.by_
 clear G2
 refine zac (i := 10) (m' := 2047) rfl rfl ((vAdd_any A1 A2 l1 l2 c1 c2 s1 s2 _ L1.out L2.out C1 C2 O1.out O2.out Y1.out Y2.out).mono ?_)
 rintro e w32 ⟨l3, s3, A3, c3, E3, rfl, C3, O3, hb⟩
 refine ⟨_, rfl, hb, ?_⟩
 replace Oe := zQ Oe hb
 replace Op := zQ Op hb
 replace Om := zQ Om hb
 replace Ob := zQ Ob hb
 replace Oh := zQ Oh hb
 replace Ot := zQ Ot hb
 replace O1 := zQ O1 hb
 replace O2 := zQ O2 hb
 replace Be := zX Be hb
 replace Bp := zX Bp hb
 replace Bm := zX Bm hb
 replace Bb := zX Bb hb
 replace Bh := zX Bh hb
 replace Bt := zX Bt hb
 replace O3 := hide O3.out.rd
 replace hU := zU hU hU.size hb
 clear hb
 have G3 := zGd E3 ((by rw [E1.out, E2.out]; exact gd_of (by decide +kernel)))
 have L3 := zLe G3
 have Y3 := hide G3.by_
 clear G3
 replace E3 := hide (show (⟨l3, s3⟩ : Vc) = vAdd ⟨ofB ⟨#[49, 49, 48, 48]⟩, false⟩ ⟨ofB ⟨#[48, 49, 48, 49]⟩, false⟩ from E3.out.trans (by rw [E1.out, E2.out]))
 clear O1 C1 L1 Y1 O2 C2 L2 Y2
 refine zac (i := 11) (m' := 4095) rfl rfl ((vof_any ⟨#[48, 48, 48, 49]⟩ _ (by decide)).mono ?_)
 rintro e w33 ⟨l4, s4, A4, c4, E4, rfl, C4, O4, hb⟩
 refine ⟨_, rfl, hb, ?_⟩
 replace Oe := zQ Oe hb
 replace Op := zQ Op hb
 replace Om := zQ Om hb
 replace Ob := zQ Ob hb
 replace Oh := zQ Oh hb
 replace Ot := zQ Ot hb
 replace O3 := zQ O3 hb
 replace Be := zX Be hb
 replace Bp := zX Bp hb
 replace Bm := zX Bm hb
 replace Bb := zX Bb hb
 replace Bh := zX Bh hb
 replace Bt := zX Bt hb
 replace O4 := hide O4.out.rd
 replace hU := zU hU hU.size hb
 clear hb
 have G4 := zGd E4 (gd_of (by decide +kernel))
 have L4 := zLe G4
 have Y4 := hide G4.by_
 clear G4
 refine zac (i := 12) (m' := 8191) rfl rfl ((rsame_yes A3 A4 l3 l4 c3 c4 s3 s4 _ L3.out L4.out O3.out O4.out (by rw [E3.out, E4.out]; exact (sm_iff _ _).1 (by decide +kernel))).mono ?_)
 rintro e w34 ⟨rfl, hb⟩
 refine ⟨_, rfl, hb, ?_⟩
 replace Oe := zQ Oe hb
 replace Op := zQ Op hb
 replace Om := zQ Om hb
 replace Ob := zQ Ob hb
 replace Oh := zQ Oh hb
 replace Ot := zQ Ot hb
 replace O3 := zQ O3 hb
 replace O4 := zQ O4 hb
 replace Be := zX Be hb
 replace Bp := zX Bp hb
 replace Bm := zX Bm hb
 replace Bb := zX Bb hb
 replace Bh := zX Bh hb
 replace Bt := zX Bt hb
 replace hU := zU hU hU.size hb
 clear hb O3 C3 L3 Y3
 clear O4 C4 L4 Y4
 refine zav (i := 13) (m' := 16383) (v := .bool true) F hQ rfl rfl (zav (i := 14) (m' := 32767) (v := .bool true) F hQ rfl rfl (zav (i := 15) (m' := 65535) (v := .func (.func 11) #[] #[]) F hQ rfl rfl ?_))
 refine zac (i := 16) (m' := 131071) rfl rfl ((vof_any ⟨#[49, 120, 48, 48]⟩ _ (by decide)).mono ?_)
 rintro e w35 ⟨l1, s1, A1, c1, E1, rfl, C1, O1, hb⟩
 refine ⟨_, rfl, hb, ?_⟩
 replace Oe := zQ Oe hb
 replace Op := zQ Op hb
 replace Om := zQ Om hb
 replace Ob := zQ Ob hb
 replace Oh := zQ Oh hb
 replace Ot := zQ Ot hb
 replace Be := zX Be hb
 replace Bp := zX Bp hb
 replace Bm := zX Bm hb
 replace Bb := zX Bb hb
 replace Bh := zX Bh hb
 replace Bt := zX Bt hb
 replace O1 := hide O1.out.rd
 replace hU := zU hU hU.size hb
 clear hb
 have G1 := zGd E1 (gd_of (by decide +kernel))
 have L1 := zLe G1
 have Y1 := hide G1.by_
 clear G1
 refine zac (i := 17) (m' := 262143) rfl rfl ((vof_any ⟨#[48, 48, 48, 49]⟩ _ (by decide)).mono ?_)
 rintro e w36 ⟨l2, s2, A2, c2, E2, rfl, C2, O2, hb⟩
 refine ⟨_, rfl, hb, ?_⟩
 replace Oe := zQ Oe hb
 replace Op := zQ Op hb
 replace Om := zQ Om hb
 replace Ob := zQ Ob hb
 replace Oh := zQ Oh hb
 replace Ot := zQ Ot hb
 replace O1 := zQ O1 hb
 replace Be := zX Be hb
 replace Bp := zX Bp hb
 replace Bm := zX Bm hb
 replace Bb := zX Bb hb
 replace Bh := zX Bh hb
 replace Bt := zX Bt hb
 replace O2 := hide O2.out.rd
 replace hU := zU hU hU.size hb
 clear hb
 have G2 := zGd E2 (gd_of (by decide +kernel))
 have L2 := zLe G2
 have Y2 := hide G2.by_
 clear G2
 refine zac (i := 18) (m' := 524287) rfl rfl ((vAdd_any A1 A2 l1 l2 c1 c2 s1 s2 _ L1.out L2.out C1 C2 O1.out O2.out Y1.out Y2.out).mono ?_)
 rintro e w37 ⟨l3, s3, A3, c3, E3, rfl, C3, O3, hb⟩
 refine ⟨_, rfl, hb, ?_⟩
 replace Oe := zQ Oe hb
 replace Op := zQ Op hb
 replace Om := zQ Om hb
 replace Ob := zQ Ob hb
 replace Oh := zQ Oh hb
 replace Ot := zQ Ot hb
 replace O1 := zQ O1 hb
 replace O2 := zQ O2 hb
 replace Be := zX Be hb
 replace Bp := zX Bp hb
 replace Bm := zX Bm hb
 replace Bb := zX Bb hb
 replace Bh := zX Bh hb
 replace Bt := zX Bt hb
 replace O3 := hide O3.out.rd
 replace hU := zU hU hU.size hb
 clear hb
 have G3 := zGd E3 ((by rw [E1.out, E2.out]; exact gd_of (by decide +kernel)))
 have L3 := zLe G3
 have Y3 := hide G3.by_
 clear G3
 replace E3 := hide (show (⟨l3, s3⟩ : Vc) = vAdd ⟨ofB ⟨#[49, 120, 48, 48]⟩, false⟩ ⟨ofB ⟨#[48, 48, 48, 49]⟩, false⟩ from E3.out.trans (by rw [E1.out, E2.out]))
 clear O1 C1 L1 Y1 O2 C2 L2 Y2
 refine zac (i := 19) (m' := 1048575) rfl rfl ((vof_any ⟨#[120, 120, 120, 120]⟩ _ (by decide)).mono ?_)
 rintro e w38 ⟨l4, s4, A4, c4, E4, rfl, C4, O4, hb⟩
 refine ⟨_, rfl, hb, ?_⟩
 replace Oe := zQ Oe hb
 replace Op := zQ Op hb
 replace Om := zQ Om hb
 replace Ob := zQ Ob hb
 replace Oh := zQ Oh hb
 replace Ot := zQ Ot hb
 replace O3 := zQ O3 hb
 replace Be := zX Be hb
 replace Bp := zX Bp hb
 replace Bm := zX Bm hb
 replace Bb := zX Bb hb
 replace Bh := zX Bh hb
 replace Bt := zX Bt hb
 replace O4 := hide O4.out.rd
 replace hU := zU hU hU.size hb
 clear hb
 have G4 := zGd E4 (gd_of (by decide +kernel))
 have L4 := zLe G4
 have Y4 := hide G4.by_
 clear G4
 refine zac (i := 20) (m' := 2097151) rfl rfl ((rsame_yes A3 A4 l3 l4 c3 c4 s3 s4 _ L3.out L4.out O3.out O4.out (by rw [E3.out, E4.out]; exact (sm_iff _ _).1 (by decide +kernel))).mono ?_)
 rintro e w39 ⟨rfl, hb⟩
 refine ⟨_, rfl, hb, ?_⟩
 replace Oe := zQ Oe hb
 replace Op := zQ Op hb
 replace Om := zQ Om hb
 replace Ob := zQ Ob hb
 replace Oh := zQ Oh hb
 replace Ot := zQ Ot hb
 replace O3 := zQ O3 hb
 replace O4 := zQ O4 hb
 replace Be := zX Be hb
 replace Bp := zX Bp hb
 replace Bm := zX Bm hb
 replace Bb := zX Bb hb
 replace Bh := zX Bh hb
 replace Bt := zX Bt hb
 replace hU := zU hU hU.size hb
 clear hb O3 C3 L3 Y3
 clear O4 C4 L4 Y4
 refine zav (i := 21) (m' := 4194303) (v := .bool true) F hQ rfl rfl (zav (i := 22) (m' := 8388607) (v := .bool true) F hQ rfl rfl (zav (i := 23) (m' := 16777215) (v := .func (.func 11) #[] #[]) F hQ rfl rfl ?_))
 refine zac (i := 24) (m' := 33554431) rfl rfl ((vof_any ⟨#[49, 48, 120, 48]⟩ _ (by decide)).mono ?_)
 rintro e w40 ⟨l1, s1, A1, c1, E1, rfl, C1, O1, hb⟩
 refine ⟨_, rfl, hb, ?_⟩
 replace Oe := zQ Oe hb
 replace Op := zQ Op hb
 replace Om := zQ Om hb
 replace Ob := zQ Ob hb
 replace Oh := zQ Oh hb
 replace Ot := zQ Ot hb
 replace Be := zX Be hb
 replace Bp := zX Bp hb
 replace Bm := zX Bm hb
 replace Bb := zX Bb hb
 replace Bh := zX Bh hb
 replace Bt := zX Bt hb
 replace O1 := hide O1.out.rd
 replace hU := zU hU hU.size hb
 clear hb
 have G1 := zGd E1 (gd_of (by decide +kernel))
 have L1 := zLe G1
 have Y1 := hide G1.by_
 clear G1
 refine zac (i := 25) (m' := 67108863) rfl rfl ((vof_any ⟨#[48, 48, 48, 48]⟩ _ (by decide)).mono ?_)
 rintro e w41 ⟨l2, s2, A2, c2, E2, rfl, C2, O2, hb⟩
 refine ⟨_, rfl, hb, ?_⟩
 replace Oe := zQ Oe hb
 replace Op := zQ Op hb
 replace Om := zQ Om hb
 replace Ob := zQ Ob hb
 replace Oh := zQ Oh hb
 replace Ot := zQ Ot hb
 replace O1 := zQ O1 hb
 replace Be := zX Be hb
 replace Bp := zX Bp hb
 replace Bm := zX Bm hb
 replace Bb := zX Bb hb
 replace Bh := zX Bh hb
 replace Bt := zX Bt hb
 replace O2 := hide O2.out.rd
 replace hU := zU hU hU.size hb
 clear hb
 have G2 := zGd E2 (gd_of (by decide +kernel))
 have L2 := zLe G2
 have Y2 := hide G2.by_
 clear G2
 refine zac (i := 26) (m' := 134217727) rfl rfl ((vEq_any A1 A2 l1 l2 c1 c2 s1 s2 _ L1.out L2.out C1 C2 O1.out O2.out Y1.out Y2.out (HT.out.kept hU)).mono ?_)
 rintro e w42 ⟨l3, s3, A3, c3, E3, rfl, C3, O3, hb⟩
 refine ⟨_, rfl, hb, ?_⟩
 replace Oe := zQ Oe hb
 replace Op := zQ Op hb
 replace Om := zQ Om hb
 replace Ob := zQ Ob hb
 replace Oh := zQ Oh hb
 replace Ot := zQ Ot hb
 replace O1 := zQ O1 hb
 replace O2 := zQ O2 hb
 replace Be := zX Be hb
 replace Bp := zX Bp hb
 replace Bm := zX Bm hb
 replace Bb := zX Bb hb
 replace Bh := zX Bh hb
 replace Bt := zX Bt hb
 replace O3 := hide O3.out.rd
 replace hU := zU hU hU.size hb
 clear hb
 have G3 := zGd E3 ((by rw [E1.out, E2.out]; exact gd_of (by decide +kernel)))
 have L3 := zLe G3
 have Y3 := hide G3.by_
 clear G3
 replace E3 := hide (show (⟨l3, s3⟩ : Vc) = vEq ⟨ofB ⟨#[49, 48, 120, 48]⟩, false⟩ ⟨ofB ⟨#[48, 48, 48, 48]⟩, false⟩ from E3.out.trans (by rw [E1.out, E2.out]))
 clear O1 C1 L1 Y1 O2 C2 L2 Y2
 refine zac (i := 27) (m' := 268435455) rfl rfl ((vof_any ⟨#[48]⟩ _ (by decide)).mono ?_)
 rintro e w43 ⟨l4, s4, A4, c4, E4, rfl, C4, O4, hb⟩
 refine ⟨_, rfl, hb, ?_⟩
 replace Oe := zQ Oe hb
 replace Op := zQ Op hb
 replace Om := zQ Om hb
 replace Ob := zQ Ob hb
 replace Oh := zQ Oh hb
 replace Ot := zQ Ot hb
 replace O3 := zQ O3 hb
 replace Be := zX Be hb
 replace Bp := zX Bp hb
 replace Bm := zX Bm hb
 replace Bb := zX Bb hb
 replace Bh := zX Bh hb
 replace Bt := zX Bt hb
 replace O4 := hide O4.out.rd
 replace hU := zU hU hU.size hb
 clear hb
 have G4 := zGd E4 (gd_of (by decide +kernel))
 have L4 := zLe G4
 have Y4 := hide G4.by_
 clear G4
 refine zac (i := 28) (m' := 536870911) rfl rfl ((rsame_yes A3 A4 l3 l4 c3 c4 s3 s4 _ L3.out L4.out O3.out O4.out (by rw [E3.out, E4.out]; exact (sm_iff _ _).1 (by decide +kernel))).mono ?_)
 rintro e w44 ⟨rfl, hb⟩
 refine ⟨_, rfl, hb, ?_⟩
 replace Oe := zQ Oe hb
 replace Op := zQ Op hb
 replace Om := zQ Om hb
 replace Ob := zQ Ob hb
 replace Oh := zQ Oh hb
 replace Ot := zQ Ot hb
 replace O3 := zQ O3 hb
 replace O4 := zQ O4 hb
 replace Be := zX Be hb
 replace Bp := zX Bp hb
 replace Bm := zX Bm hb
 replace Bb := zX Bb hb
 replace Bh := zX Bh hb
 replace Bt := zX Bt hb
 replace hU := zU hU hU.size hb
 clear hb O3 C3 L3 Y3
 clear O4 C4 L4 Y4
 refine zav (i := 29) (m' := 1073741823) (v := .bool true) F hQ rfl rfl (zav (i := 30) (m' := 2147483647) (v := .bool true) F hQ rfl rfl (zav (i := 31) (m' := 4294967295) (v := .func (.func 11) #[] #[]) F hQ rfl rfl ?_))
 refine zac (i := 32) (m' := 8589934591) rfl rfl ((vof_any ⟨#[48, 48, 120, 48]⟩ _ (by decide)).mono ?_)
 rintro e w45 ⟨l1, s1, A1, c1, E1, rfl, C1, O1, hb⟩
 refine ⟨_, rfl, hb, ?_⟩
 replace Oe := zQ Oe hb
 replace Op := zQ Op hb
 replace Om := zQ Om hb
 replace Ob := zQ Ob hb
 replace Oh := zQ Oh hb
 replace Ot := zQ Ot hb
 replace Be := zX Be hb
 replace Bp := zX Bp hb
 replace Bm := zX Bm hb
 replace Bb := zX Bb hb
 replace Bh := zX Bh hb
 replace Bt := zX Bt hb
 replace O1 := hide O1.out.rd
 replace hU := zU hU hU.size hb
 clear hb
 have G1 := zGd E1 (gd_of (by decide +kernel))
 have L1 := zLe G1
 have Y1 := hide G1.by_
 clear G1
 refine zac (i := 33) (m' := 17179869183) rfl rfl ((vof_any ⟨#[48, 48, 48, 48]⟩ _ (by decide)).mono ?_)
 rintro e w46 ⟨l2, s2, A2, c2, E2, rfl, C2, O2, hb⟩
 refine ⟨_, rfl, hb, ?_⟩
 replace Oe := zQ Oe hb
 replace Op := zQ Op hb
 replace Om := zQ Om hb
 replace Ob := zQ Ob hb
 replace Oh := zQ Oh hb
 replace Ot := zQ Ot hb
 replace O1 := zQ O1 hb
 replace Be := zX Be hb
 replace Bp := zX Bp hb
 replace Bm := zX Bm hb
 replace Bb := zX Bb hb
 replace Bh := zX Bh hb
 replace Bt := zX Bt hb
 replace O2 := hide O2.out.rd
 replace hU := zU hU hU.size hb
 clear hb
 have G2 := zGd E2 (gd_of (by decide +kernel))
 have L2 := zLe G2
 have Y2 := hide G2.by_
 clear G2
 refine zac (i := 34) (m' := 34359738367) rfl rfl ((vEq_any A1 A2 l1 l2 c1 c2 s1 s2 _ L1.out L2.out C1 C2 O1.out O2.out Y1.out Y2.out (HT.out.kept hU)).mono ?_)
 rintro e w47 ⟨l3, s3, A3, c3, E3, rfl, C3, O3, hb⟩
 refine ⟨_, rfl, hb, ?_⟩
 replace Oe := zQ Oe hb
 replace Op := zQ Op hb
 replace Om := zQ Om hb
 replace Ob := zQ Ob hb
 replace Oh := zQ Oh hb
 replace Ot := zQ Ot hb
 replace O1 := zQ O1 hb
 replace O2 := zQ O2 hb
 replace Be := zX Be hb
 replace Bp := zX Bp hb
 replace Bm := zX Bm hb
 replace Bb := zX Bb hb
 replace Bh := zX Bh hb
 replace Bt := zX Bt hb
 replace O3 := hide O3.out.rd
 replace hU := zU hU hU.size hb
 clear hb
 have G3 := zGd E3 ((by rw [E1.out, E2.out]; exact gd_of (by decide +kernel)))
 have L3 := zLe G3
 have Y3 := hide G3.by_
 clear G3
 replace E3 := hide (show (⟨l3, s3⟩ : Vc) = vEq ⟨ofB ⟨#[48, 48, 120, 48]⟩, false⟩ ⟨ofB ⟨#[48, 48, 48, 48]⟩, false⟩ from E3.out.trans (by rw [E1.out, E2.out]))
 clear O1 C1 L1 Y1 O2 C2 L2 Y2
 refine zac (i := 35) (m' := 68719476735) rfl rfl ((vof_any ⟨#[120]⟩ _ (by decide)).mono ?_)
 rintro e w48 ⟨l4, s4, A4, c4, E4, rfl, C4, O4, hb⟩
 refine ⟨_, rfl, hb, ?_⟩
 replace Oe := zQ Oe hb
 replace Op := zQ Op hb
 replace Om := zQ Om hb
 replace Ob := zQ Ob hb
 replace Oh := zQ Oh hb
 replace Ot := zQ Ot hb
 replace O3 := zQ O3 hb
 replace Be := zX Be hb
 replace Bp := zX Bp hb
 replace Bm := zX Bm hb
 replace Bb := zX Bb hb
 replace Bh := zX Bh hb
 replace Bt := zX Bt hb
 replace O4 := hide O4.out.rd
 replace hU := zU hU hU.size hb
 clear hb
 have G4 := zGd E4 (gd_of (by decide +kernel))
 have L4 := zLe G4
 have Y4 := hide G4.by_
 clear G4
 refine zac (i := 36) (m' := 137438953471) rfl rfl ((rsame_yes A3 A4 l3 l4 c3 c4 s3 s4 _ L3.out L4.out O3.out O4.out (by rw [E3.out, E4.out]; exact (sm_iff _ _).1 (by decide +kernel))).mono ?_)
 rintro e w49 ⟨rfl, hb⟩
 refine ⟨_, rfl, hb, ?_⟩
 replace Oe := zQ Oe hb
 replace Op := zQ Op hb
 replace Om := zQ Om hb
 replace Ob := zQ Ob hb
 replace Oh := zQ Oh hb
 replace Ot := zQ Ot hb
 replace O3 := zQ O3 hb
 replace O4 := zQ O4 hb
 replace Be := zX Be hb
 replace Bp := zX Bp hb
 replace Bm := zX Bm hb
 replace Bb := zX Bb hb
 replace Bh := zX Bh hb
 replace Bt := zX Bt hb
 replace hU := zU hU hU.size hb
 clear hb O3 C3 L3 Y3
 clear O4 C4 L4 Y4
 refine zav (i := 37) (m' := 274877906943) (v := .bool true) F hQ rfl rfl (zav (i := 38) (m' := 549755813887) (v := .bool true) F hQ rfl rfl (zav (i := 39) (m' := 1099511627775) (v := .func (.func 11) #[] #[]) F hQ rfl rfl ?_))
 refine zac (i := 40) (m' := 2199023255551) rfl rfl ((vof_any ⟨#[49, 120, 48, 48]⟩ _ (by decide)).mono ?_)
 rintro e w50 ⟨l1, s1, A1, c1, E1, rfl, C1, O1, hb⟩
 refine ⟨_, rfl, hb, ?_⟩
 replace Oe := zQ Oe hb
 replace Op := zQ Op hb
 replace Om := zQ Om hb
 replace Ob := zQ Ob hb
 replace Oh := zQ Oh hb
 replace Ot := zQ Ot hb
 replace Be := zX Be hb
 replace Bp := zX Bp hb
 replace Bm := zX Bm hb
 replace Bb := zX Bb hb
 replace Bh := zX Bh hb
 replace Bt := zX Bt hb
 replace O1 := hide O1.out.rd
 replace hU := zU hU hU.size hb
 clear hb
 have G1 := zGd E1 (gd_of (by decide +kernel))
 have L1 := zLe G1
 have Y1 := hide G1.by_
 clear G1
 refine zac (i := 41) (m' := 4398046511103) rfl rfl ((vof_any ⟨#[49, 120, 48, 48]⟩ _ (by decide)).mono ?_)
 rintro e w51 ⟨l2, s2, A2, c2, E2, rfl, C2, O2, hb⟩
 refine ⟨_, rfl, hb, ?_⟩
 replace Oe := zQ Oe hb
 replace Op := zQ Op hb
 replace Om := zQ Om hb
 replace Ob := zQ Ob hb
 replace Oh := zQ Oh hb
 replace Ot := zQ Ot hb
 replace O1 := zQ O1 hb
 replace Be := zX Be hb
 replace Bp := zX Bp hb
 replace Bm := zX Bm hb
 replace Bb := zX Bb hb
 replace Bh := zX Bh hb
 replace Bt := zX Bt hb
 replace O2 := hide O2.out.rd
 replace hU := zU hU hU.size hb
 clear hb
 have G2 := zGd E2 (gd_of (by decide +kernel))
 have L2 := zLe G2
 have Y2 := hide G2.by_
 clear G2
 refine zac (i := 42) (m' := 8796093022207) rfl rfl ((vCaseEq_any A1 A2 l1 l2 c1 c2 s1 s2 _ L1.out L2.out C1 C2 O1.out O2.out Y1.out Y2.out).mono ?_)
 rintro e w52 ⟨l3, s3, A3, c3, E3, rfl, C3, O3, hb⟩
 refine ⟨_, rfl, hb, ?_⟩
 replace Oe := zQ Oe hb
 replace Op := zQ Op hb
 replace Om := zQ Om hb
 replace Ob := zQ Ob hb
 replace Oh := zQ Oh hb
 replace Ot := zQ Ot hb
 replace O1 := zQ O1 hb
 replace O2 := zQ O2 hb
 replace Be := zX Be hb
 replace Bp := zX Bp hb
 replace Bm := zX Bm hb
 replace Bb := zX Bb hb
 replace Bh := zX Bh hb
 replace Bt := zX Bt hb
 replace O3 := hide O3.out.rd
 replace hU := zU hU hU.size hb
 clear hb
 have G3 := zGd E3 ((by rw [E1.out, E2.out]; exact gd_of (by decide +kernel)))
 have L3 := zLe G3
 have Y3 := hide G3.by_
 clear G3
 replace E3 := hide (show (⟨l3, s3⟩ : Vc) = vCase ⟨ofB ⟨#[49, 120, 48, 48]⟩, false⟩ ⟨ofB ⟨#[49, 120, 48, 48]⟩, false⟩ from E3.out.trans (by rw [E1.out, E2.out]))
 clear O1 C1 L1 Y1 O2 C2 L2 Y2
 refine zac (i := 43) (m' := 17592186044415) rfl rfl ((vof_any ⟨#[49]⟩ _ (by decide)).mono ?_)
 rintro e w53 ⟨l4, s4, A4, c4, E4, rfl, C4, O4, hb⟩
 refine ⟨_, rfl, hb, ?_⟩
 replace Oe := zQ Oe hb
 replace Op := zQ Op hb
 replace Om := zQ Om hb
 replace Ob := zQ Ob hb
 replace Oh := zQ Oh hb
 replace Ot := zQ Ot hb
 replace O3 := zQ O3 hb
 replace Be := zX Be hb
 replace Bp := zX Bp hb
 replace Bm := zX Bm hb
 replace Bb := zX Bb hb
 replace Bh := zX Bh hb
 replace Bt := zX Bt hb
 replace O4 := hide O4.out.rd
 replace hU := zU hU hU.size hb
 clear hb
 have G4 := zGd E4 (gd_of (by decide +kernel))
 have L4 := zLe G4
 have Y4 := hide G4.by_
 clear G4
 refine zac (i := 44) (m' := 35184372088831) rfl rfl ((rsame_yes A3 A4 l3 l4 c3 c4 s3 s4 _ L3.out L4.out O3.out O4.out (by rw [E3.out, E4.out]; exact (sm_iff _ _).1 (by decide +kernel))).mono ?_)
 rintro e w54 ⟨rfl, hb⟩
 refine ⟨_, rfl, hb, ?_⟩
 replace Oe := zQ Oe hb
 replace Op := zQ Op hb
 replace Om := zQ Om hb
 replace Ob := zQ Ob hb
 replace Oh := zQ Oh hb
 replace Ot := zQ Ot hb
 replace O3 := zQ O3 hb
 replace O4 := zQ O4 hb
 replace Be := zX Be hb
 replace Bp := zX Bp hb
 replace Bm := zX Bm hb
 replace Bb := zX Bb hb
 replace Bh := zX Bh hb
 replace Bt := zX Bt hb
 replace hU := zU hU hU.size hb
 clear hb O3 C3 L3 Y3
 clear O4 C4 L4 Y4
 refine zav (i := 45) (m' := 70368744177663) (v := .bool true) F hQ rfl rfl (zav (i := 46) (m' := 140737488355327) (v := .bool true) F hQ rfl rfl (zav (i := 47) (m' := 281474976710655) (v := .func (.func 11) #[] #[]) F hQ rfl rfl ?_))
 refine zac (i := 48) (m' := 562949953421311) rfl rfl ((vint4_any (-3) true _ (by decide) (by decide)).mono ?_)
 rintro e w55 ⟨l1, s1, A1, c1, E1, rfl, C1, O1, hb⟩
 refine ⟨_, rfl, hb, ?_⟩
 replace Oe := zQ Oe hb
 replace Op := zQ Op hb
 replace Om := zQ Om hb
 replace Ob := zQ Ob hb
 replace Oh := zQ Oh hb
 replace Ot := zQ Ot hb
 replace Be := zX Be hb
 replace Bp := zX Bp hb
 replace Bm := zX Bm hb
 replace Bb := zX Bb hb
 replace Bh := zX Bh hb
 replace Bt := zX Bt hb
 replace O1 := hide O1.out.rd
 replace hU := zU hU hU.size hb
 clear hb
 have G1 := zGd E1 (gd_of (by decide +kernel))
 have L1 := zLe G1
 have Y1 := hide G1.by_
 clear G1
 refine zac (i := 49) (m' := 1125899906842623) rfl rfl ((vint4_any 2 true _ (by decide) (by decide)).mono ?_)
 rintro e w56 ⟨l2, s2, A2, c2, E2, rfl, C2, O2, hb⟩
 refine ⟨_, rfl, hb, ?_⟩
 replace Oe := zQ Oe hb
 replace Op := zQ Op hb
 replace Om := zQ Om hb
 replace Ob := zQ Ob hb
 replace Oh := zQ Oh hb
 replace Ot := zQ Ot hb
 replace O1 := zQ O1 hb
 replace Be := zX Be hb
 replace Bp := zX Bp hb
 replace Bm := zX Bm hb
 replace Bb := zX Bb hb
 replace Bh := zX Bh hb
 replace Bt := zX Bt hb
 replace O2 := hide O2.out.rd
 replace hU := zU hU hU.size hb
 clear hb
 have G2 := zGd E2 (gd_of (by decide +kernel))
 have L2 := zLe G2
 have Y2 := hide G2.by_
 clear G2
 refine zac (i := 50) (m' := 2251799813685247) rfl rfl ((vDiv_any A1 A2 l1 l2 c1 c2 s1 s2 _ L1.out L2.out C1 C2 O1.out O2.out Y1.out Y2.out).mono ?_)
 rintro e w57 ⟨l3, s3, A3, c3, E3, rfl, C3, O3, hb⟩
 refine ⟨_, rfl, hb, ?_⟩
 replace Oe := zQ Oe hb
 replace Op := zQ Op hb
 replace Om := zQ Om hb
 replace Ob := zQ Ob hb
 replace Oh := zQ Oh hb
 replace Ot := zQ Ot hb
 replace O1 := zQ O1 hb
 replace O2 := zQ O2 hb
 replace Be := zX Be hb
 replace Bp := zX Bp hb
 replace Bm := zX Bm hb
 replace Bb := zX Bb hb
 replace Bh := zX Bh hb
 replace Bt := zX Bt hb
 replace O3 := hide O3.out.rd
 replace hU := zU hU hU.size hb
 clear hb
 have G3 := zGd E3 ((by rw [E1.out, E2.out]; exact gd_of (by decide +kernel)))
 have L3 := zLe G3
 have Y3 := hide G3.by_
 clear G3
 replace E3 := hide (show (⟨l3, s3⟩ : Vc) = vDiv ⟨fb (vz 4 (-3)), true⟩ ⟨fb (vz 4 2), true⟩ from E3.out.trans (by rw [E1.out, E2.out]))
 clear O1 C1 L1 Y1 O2 C2 L2 Y2
 refine zac (i := 51) (m' := 4503599627370495) rfl rfl ((vint4_any (-1) true _ (by decide) (by decide)).mono ?_)
 rintro e w58 ⟨l4, s4, A4, c4, E4, rfl, C4, O4, hb⟩
 refine ⟨_, rfl, hb, ?_⟩
 replace Oe := zQ Oe hb
 replace Op := zQ Op hb
 replace Om := zQ Om hb
 replace Ob := zQ Ob hb
 replace Oh := zQ Oh hb
 replace Ot := zQ Ot hb
 replace O3 := zQ O3 hb
 replace Be := zX Be hb
 replace Bp := zX Bp hb
 replace Bm := zX Bm hb
 replace Bb := zX Bb hb
 replace Bh := zX Bh hb
 replace Bt := zX Bt hb
 replace O4 := hide O4.out.rd
 replace hU := zU hU hU.size hb
 clear hb
 have G4 := zGd E4 (gd_of (by decide +kernel))
 have L4 := zLe G4
 have Y4 := hide G4.by_
 clear G4
 refine zac (i := 52) (m' := 9007199254740991) rfl rfl ((rsame_yes A3 A4 l3 l4 c3 c4 s3 s4 _ L3.out L4.out O3.out O4.out (by rw [E3.out, E4.out]; exact (sm_iff _ _).1 (by decide +kernel))).mono ?_)
 rintro e w59 ⟨rfl, hb⟩
 refine ⟨_, rfl, hb, ?_⟩
 replace Oe := zQ Oe hb
 replace Op := zQ Op hb
 replace Om := zQ Om hb
 replace Ob := zQ Ob hb
 replace Oh := zQ Oh hb
 replace Ot := zQ Ot hb
 replace O3 := zQ O3 hb
 replace O4 := zQ O4 hb
 replace Be := zX Be hb
 replace Bp := zX Bp hb
 replace Bm := zX Bm hb
 replace Bb := zX Bb hb
 replace Bh := zX Bh hb
 replace Bt := zX Bt hb
 replace hU := zU hU hU.size hb
 clear hb O3 C3 L3 Y3
 clear O4 C4 L4 Y4
 refine zav (i := 53) (m' := 18014398509481983) (v := .bool true) F hQ rfl rfl (zav (i := 54) (m' := 36028797018963967) (v := .bool true) F hQ rfl rfl (zav (i := 55) (m' := 72057594037927935) (v := .func (.func 11) #[] #[]) F hQ rfl rfl ?_))
 refine zac (i := 56) (m' := 144115188075855871) rfl rfl ((vsof_any ⟨#[49, 48, 48, 48]⟩ _ (by decide)).mono ?_)
 rintro e w60 ⟨l1, s1, A1, c1, E1, rfl, C1, O1, hb⟩
 refine ⟨_, rfl, hb, ?_⟩
 replace Oe := zQ Oe hb
 replace Op := zQ Op hb
 replace Om := zQ Om hb
 replace Ob := zQ Ob hb
 replace Oh := zQ Oh hb
 replace Ot := zQ Ot hb
 replace Be := zX Be hb
 replace Bp := zX Bp hb
 replace Bm := zX Bm hb
 replace Bb := zX Bb hb
 replace Bh := zX Bh hb
 replace Bt := zX Bt hb
 replace O1 := hide O1.out.rd
 replace hU := zU hU hU.size hb
 clear hb
 have G1 := zGd E1 (gd_of (by decide +kernel))
 have L1 := zLe G1
 have Y1 := hide G1.by_
 clear G1
 refine zac (i := 57) (m' := 288230376151711743) rfl rfl ((vof_any ⟨#[49]⟩ _ (by decide)).mono ?_)
 rintro e w61 ⟨l2, s2, A2, c2, E2, rfl, C2, O2, hb⟩
 refine ⟨_, rfl, hb, ?_⟩
 replace Oe := zQ Oe hb
 replace Op := zQ Op hb
 replace Om := zQ Om hb
 replace Ob := zQ Ob hb
 replace Oh := zQ Oh hb
 replace Ot := zQ Ot hb
 replace O1 := zQ O1 hb
 replace Be := zX Be hb
 replace Bp := zX Bp hb
 replace Bm := zX Bm hb
 replace Bb := zX Bb hb
 replace Bh := zX Bh hb
 replace Bt := zX Bt hb
 replace O2 := hide O2.out.rd
 replace hU := zU hU hU.size hb
 clear hb
 have G2 := zGd E2 (gd_of (by decide +kernel))
 have L2 := zLe G2
 have Y2 := hide G2.by_
 clear G2
 refine zac (i := 58) (m' := 576460752303423487) rfl rfl ((vAShr_any A1 A2 l1 l2 c1 c2 s1 s2 _ L1.out L2.out C1 C2 O1.out O2.out Y1.out Y2.out).mono ?_)
 rintro e w62 ⟨l3, s3, A3, c3, E3, rfl, C3, O3, hb⟩
 refine ⟨_, rfl, hb, ?_⟩
 replace Oe := zQ Oe hb
 replace Op := zQ Op hb
 replace Om := zQ Om hb
 replace Ob := zQ Ob hb
 replace Oh := zQ Oh hb
 replace Ot := zQ Ot hb
 replace O1 := zQ O1 hb
 replace O2 := zQ O2 hb
 replace Be := zX Be hb
 replace Bp := zX Bp hb
 replace Bm := zX Bm hb
 replace Bb := zX Bb hb
 replace Bh := zX Bh hb
 replace Bt := zX Bt hb
 replace O3 := hide O3.out.rd
 replace hU := zU hU hU.size hb
 clear hb
 have G3 := zGd E3 ((by rw [E1.out, E2.out]; exact gd_of (by decide +kernel)))
 have L3 := zLe G3
 have Y3 := hide G3.by_
 clear G3
 replace E3 := hide (show (⟨l3, s3⟩ : Vc) = shf mAShr ⟨ofB ⟨#[49, 48, 48, 48]⟩, true⟩ ⟨ofB ⟨#[49]⟩, false⟩ from E3.out.trans (by rw [E1.out, E2.out]))
 clear O1 C1 L1 Y1 O2 C2 L2 Y2
 refine zac (i := 59) (m' := 1152921504606846975) rfl rfl ((vsof_any ⟨#[49, 49, 48, 48]⟩ _ (by decide)).mono ?_)
 rintro e w63 ⟨l4, s4, A4, c4, E4, rfl, C4, O4, hb⟩
 refine ⟨_, rfl, hb, ?_⟩
 replace Oe := zQ Oe hb
 replace Op := zQ Op hb
 replace Om := zQ Om hb
 replace Ob := zQ Ob hb
 replace Oh := zQ Oh hb
 replace Ot := zQ Ot hb
 replace O3 := zQ O3 hb
 replace Be := zX Be hb
 replace Bp := zX Bp hb
 replace Bm := zX Bm hb
 replace Bb := zX Bb hb
 replace Bh := zX Bh hb
 replace Bt := zX Bt hb
 replace O4 := hide O4.out.rd
 replace hU := zU hU hU.size hb
 clear hb
 have G4 := zGd E4 (gd_of (by decide +kernel))
 have L4 := zLe G4
 have Y4 := hide G4.by_
 clear G4
 refine zac (i := 60) (m' := 2305843009213693951) rfl rfl ((rsame_yes A3 A4 l3 l4 c3 c4 s3 s4 _ L3.out L4.out O3.out O4.out (by rw [E3.out, E4.out]; exact (sm_iff _ _).1 (by decide +kernel))).mono ?_)
 rintro e w64 ⟨rfl, hb⟩
 refine ⟨_, rfl, hb, ?_⟩
 replace Oe := zQ Oe hb
 replace Op := zQ Op hb
 replace Om := zQ Om hb
 replace Ob := zQ Ob hb
 replace Oh := zQ Oh hb
 replace Ot := zQ Ot hb
 replace O3 := zQ O3 hb
 replace O4 := zQ O4 hb
 replace Be := zX Be hb
 replace Bp := zX Bp hb
 replace Bm := zX Bm hb
 replace Bb := zX Bb hb
 replace Bh := zX Bh hb
 replace Bt := zX Bt hb
 replace hU := zU hU hU.size hb
 clear hb O3 C3 L3 Y3
 clear O4 C4 L4 Y4
 refine zav (i := 61) (m' := 4611686018427387903) (v := .bool true) F hQ rfl rfl (zav (i := 62) (m' := 9223372036854775807) (v := .bool true) F hQ rfl rfl (zav (i := 63) (m' := 18446744073709551615) (v := .func (.func 11) #[] #[]) F hQ rfl rfl (anyR_ldvec (i := 64) (m' := 36893488147419103231) Bh0.out F hQ rfl rfl (by kernel_rfl) (by kernel_rfl) (by kernel_rfl) (by kernel_rfl) (by kernel_rfl) rfl (by kernel_rfl) ?_)))
 refine zac (i := 65) (m' := 73786976294838206463) rfl rfl ((vof_any ⟨#[49, 48, 48, 122, 49]⟩ _ (by decide)).mono ?_)
 rintro e w65 ⟨l1, s1, A1, c1, E1, rfl, C1, O1, hb⟩
 refine ⟨_, rfl, hb, ?_⟩
 replace Oe := zQ Oe hb
 replace Op := zQ Op hb
 replace Om := zQ Om hb
 replace Ob := zQ Ob hb
 replace Oh := zQ Oh hb
 replace Ot := zQ Ot hb
 replace Be := zX Be hb
 replace Bp := zX Bp hb
 replace Bm := zX Bm hb
 replace Bb := zX Bb hb
 replace Bh := zX Bh hb
 replace Bt := zX Bt hb
 replace O1 := hide O1.out.rd
 replace hU := zU hU hU.size hb
 clear hb
 have G1 := zGd E1 (gd_of (by decide +kernel))
 have L1 := zLe G1
 have Y1 := hide G1.by_
 clear G1
 refine zac (i := 66) (m' := 147573952589676412927) rfl rfl ((rsame_yes Ah A1 lh l1 ch c1 sh s1 _ Lh.out L1.out Oh.out O1.out (by rw [Eh.out, E1.out]; exact (sm_iff _ _).1 (by decide +kernel))).mono ?_)
 rintro e w66 ⟨rfl, hb⟩
 refine ⟨_, rfl, hb, ?_⟩
 replace Oe := zQ Oe hb
 replace Op := zQ Op hb
 replace Om := zQ Om hb
 replace Ob := zQ Ob hb
 replace Oh := zQ Oh hb
 replace Ot := zQ Ot hb
 replace O1 := zQ O1 hb
 replace Be := zX Be hb
 replace Bp := zX Bp hb
 replace Bm := zX Bm hb
 replace Bb := zX Bb hb
 replace Bh := zX Bh hb
 replace Bt := zX Bt hb
 replace hU := zU hU hU.size hb
 clear hb O1 C1 L1 Y1
 refine zav (i := 67) (m' := 295147905179352825855) (v := .bool true) F hQ rfl rfl (zav (i := 68) (m' := 590295810358705651711) (v := .bool true) F hQ rfl rfl (zav (i := 69) (m' := 1180591620717411303423) (v := .func (.func 11) #[] #[]) F hQ rfl rfl (anyR_ldvec (i := 70) (m' := 2361183241434822606847) Bt0.out F hQ rfl rfl (by kernel_rfl) (by kernel_rfl) (by kernel_rfl) (by kernel_rfl) (by kernel_rfl) rfl (by kernel_rfl) ?_)))
 refine zac (i := 71) (m' := 4722366482869645213695) rfl rfl ((vof_any ⟨#[120, 49, 48]⟩ _ (by decide)).mono ?_)
 rintro e w67 ⟨l1, s1, A1, c1, E1, rfl, C1, O1, hb⟩
 refine ⟨_, rfl, hb, ?_⟩
 replace Oe := zQ Oe hb
 replace Op := zQ Op hb
 replace Om := zQ Om hb
 replace Ob := zQ Ob hb
 replace Oh := zQ Oh hb
 replace Ot := zQ Ot hb
 replace Be := zX Be hb
 replace Bp := zX Bp hb
 replace Bm := zX Bm hb
 replace Bb := zX Bb hb
 replace Bh := zX Bh hb
 replace Bt := zX Bt hb
 replace O1 := hide O1.out.rd
 replace hU := zU hU hU.size hb
 clear hb
 have G1 := zGd E1 (gd_of (by decide +kernel))
 have L1 := zLe G1
 have Y1 := hide G1.by_
 clear G1
 refine zac (i := 72) (m' := 9444732965739290427391) rfl rfl ((rsame_yes At A1 lt l1 ct c1 st s1 _ Lt.out L1.out Ot.out O1.out (by rw [Et.out, E1.out]; exact (sm_iff _ _).1 (by decide +kernel))).mono ?_)
 rintro e w68 ⟨rfl, hb⟩
 refine ⟨_, rfl, hb, ?_⟩
 replace Oe := zQ Oe hb
 replace Op := zQ Op hb
 replace Om := zQ Om hb
 replace Ob := zQ Ob hb
 replace Oh := zQ Oh hb
 replace Ot := zQ Ot hb
 replace O1 := zQ O1 hb
 replace Be := zX Be hb
 replace Bp := zX Bp hb
 replace Bm := zX Bm hb
 replace Bb := zX Bb hb
 replace Bh := zX Bh hb
 replace Bt := zX Bt hb
 replace hU := zU hU hU.size hb
 clear hb O1 C1 L1 Y1
 refine zav (i := 73) (m' := 18889465931478580854783) (v := .bool true) F hQ rfl rfl (zav (i := 74) (m' := 37778931862957161709567) (v := .bool true) F hQ rfl rfl (zav (i := 75) (m' := 75557863725914323419135) (v := .func (.func 11) #[] #[]) F hQ rfl rfl ?_))
 refine zac (i := 76) (m' := 151115727451828646838271) rfl rfl ((vof_any ⟨#[120]⟩ _ (by decide)).mono ?_)
 rintro e w69 ⟨l0, s0, A0, c0, E0, rfl, C0, O0, hb⟩
 refine ⟨_, rfl, hb, ?_⟩
 replace Oe := zQ Oe hb
 replace Op := zQ Op hb
 replace Om := zQ Om hb
 replace Ob := zQ Ob hb
 replace Oh := zQ Oh hb
 replace Ot := zQ Ot hb
 replace Be := zX Be hb
 replace Bp := zX Bp hb
 replace Bm := zX Bm hb
 replace Bb := zX Bb hb
 replace Bh := zX Bh hb
 replace Bt := zX Bt hb
 replace O0 := hide O0.out.rd
 replace hU := zU hU hU.size hb
 clear hb
 have G0 := zGd E0 (gd_of (by decide +kernel))
 have L0 := zLe G0
 have Y0 := hide G0.by_
 clear G0
 refine zac (i := 77) (m' := 302231454903657293676543) rfl rfl ((vof_any ⟨#[49, 48, 49, 48]⟩ _ (by decide)).mono ?_)
 rintro e w70 ⟨l1, s1, A1, c1, E1, rfl, C1, O1, hb⟩
 refine ⟨_, rfl, hb, ?_⟩
 replace Oe := zQ Oe hb
 replace Op := zQ Op hb
 replace Om := zQ Om hb
 replace Ob := zQ Ob hb
 replace Oh := zQ Oh hb
 replace Ot := zQ Ot hb
 replace O0 := zQ O0 hb
 replace Be := zX Be hb
 replace Bp := zX Bp hb
 replace Bm := zX Bm hb
 replace Bb := zX Bb hb
 replace Bh := zX Bh hb
 replace Bt := zX Bt hb
 replace O1 := hide O1.out.rd
 replace hU := zU hU hU.size hb
 clear hb
 have G1 := zGd E1 (gd_of (by decide +kernel))
 have L1 := zLe G1
 have Y1 := hide G1.by_
 clear G1
 refine zac (i := 78) (m' := 604462909807314587353087) rfl rfl ((vof_any ⟨#[49, 48, 48, 49]⟩ _ (by decide)).mono ?_)
 rintro e w71 ⟨l2, s2, A2, c2, E2, rfl, C2, O2, hb⟩
 refine ⟨_, rfl, hb, ?_⟩
 replace Oe := zQ Oe hb
 replace Op := zQ Op hb
 replace Om := zQ Om hb
 replace Ob := zQ Ob hb
 replace Oh := zQ Oh hb
 replace Ot := zQ Ot hb
 replace O0 := zQ O0 hb
 replace O1 := zQ O1 hb
 replace Be := zX Be hb
 replace Bp := zX Bp hb
 replace Bm := zX Bm hb
 replace Bb := zX Bb hb
 replace Bh := zX Bh hb
 replace Bt := zX Bt hb
 replace O2 := hide O2.out.rd
 replace hU := zU hU hU.size hb
 clear hb
 have G2 := zGd E2 (gd_of (by decide +kernel))
 have L2 := zLe G2
 have Y2 := hide G2.by_
 clear G2
 refine zac (i := 79) (m' := 1208925819614629174706175) rfl rfl ((vCond_any A0 l0 c0 s0 A1 A2 l1 l2 c1 c2 s1 s2 _ L1.out L2.out C1 C2 O1.out O2.out Y1.out Y2.out L0.out C0 O0.out Y0.out (HT.out.kept hU)).mono ?_)
 rintro e w72 ⟨l3, s3, A3, c3, E3, rfl, C3, O3, hb⟩
 refine ⟨_, rfl, hb, ?_⟩
 replace Oe := zQ Oe hb
 replace Op := zQ Op hb
 replace Om := zQ Om hb
 replace Ob := zQ Ob hb
 replace Oh := zQ Oh hb
 replace Ot := zQ Ot hb
 replace O0 := zQ O0 hb
 replace O1 := zQ O1 hb
 replace O2 := zQ O2 hb
 replace Be := zX Be hb
 replace Bp := zX Bp hb
 replace Bm := zX Bm hb
 replace Bb := zX Bb hb
 replace Bh := zX Bh hb
 replace Bt := zX Bt hb
 replace O3 := hide O3.out.rd
 replace hU := zU hU hU.size hb
 clear hb
 have G3 := zGd E3 ((by rw [E0.out, E1.out, E2.out]; exact gd_of (by decide +kernel)))
 have L3 := zLe G3
 have Y3 := hide G3.by_
 clear G3
 replace E3 := hide (show (⟨l3, s3⟩ : Vc) = vCond ⟨ofB ⟨#[120]⟩, false⟩ ⟨ofB ⟨#[49, 48, 49, 48]⟩, false⟩ ⟨ofB ⟨#[49, 48, 48, 49]⟩, false⟩ from E3.out.trans (by rw [E0.out, E1.out, E2.out]))
 clear O0 C0 L0 Y0 O1 C1 L1 Y1
 clear O2 C2 L2 Y2
 refine zac (i := 80) (m' := 2417851639229258349412351) rfl rfl ((vof_any ⟨#[49, 48, 120, 120]⟩ _ (by decide)).mono ?_)
 rintro e w73 ⟨l4, s4, A4, c4, E4, rfl, C4, O4, hb⟩
 refine ⟨_, rfl, hb, ?_⟩
 replace Oe := zQ Oe hb
 replace Op := zQ Op hb
 replace Om := zQ Om hb
 replace Ob := zQ Ob hb
 replace Oh := zQ Oh hb
 replace Ot := zQ Ot hb
 replace O3 := zQ O3 hb
 replace Be := zX Be hb
 replace Bp := zX Bp hb
 replace Bm := zX Bm hb
 replace Bb := zX Bb hb
 replace Bh := zX Bh hb
 replace Bt := zX Bt hb
 replace O4 := hide O4.out.rd
 replace hU := zU hU hU.size hb
 clear hb
 have G4 := zGd E4 (gd_of (by decide +kernel))
 have L4 := zLe G4
 have Y4 := hide G4.by_
 clear G4
 refine zac (i := 81) (m' := 4835703278458516698824703) rfl rfl ((rsame_yes A3 A4 l3 l4 c3 c4 s3 s4 _ L3.out L4.out O3.out O4.out (by rw [E3.out, E4.out]; exact (sm_iff _ _).1 (by decide +kernel))).mono ?_)
 rintro e w74 ⟨rfl, hb⟩
 refine ⟨_, rfl, hb, ?_⟩
 replace Oe := zQ Oe hb
 replace Op := zQ Op hb
 replace Om := zQ Om hb
 replace Ob := zQ Ob hb
 replace Oh := zQ Oh hb
 replace Ot := zQ Ot hb
 replace O3 := zQ O3 hb
 replace O4 := zQ O4 hb
 replace Be := zX Be hb
 replace Bp := zX Bp hb
 replace Bm := zX Bm hb
 replace Bb := zX Bb hb
 replace Bh := zX Bh hb
 replace Bt := zX Bt hb
 replace hU := zU hU hU.size hb
 clear hb O3 C3 L3 Y3
 clear O4 C4 L4 Y4
 refine zav (i := 82) (m' := 9671406556917033397649407) (v := .bool true) F hQ rfl rfl (anyR_e (anyR_last (i := 83) (m' := 19342813113834066795298815) (v := .bool true) rfl rfl (by kernel_rfl) (by kernel_rfl) (by kernel_rfl) (by kernel_rfl) (by kernel_rfl) (anyE_done (by kernel_rfl) ?_)))
 clear F hQ Be0 Bp0 Bm0 Bb0 Bh0 Bt0
 refine then_normal (wp_ret ?_)
 refine (show bodyPost _ _ _ .ret _ _ from ret_sl (.bool true) rfl (by kernel_rfl) ?_)
 exact ⟨rfl, hU⟩
end
section
open Go Go.RowKit
set_option maxRecDepth 100000
set_option linter.unusedSimpArgs false
set_option linter.unusedVariables false
section
variable {P : Program} {ρ : Operand → Value} {o : Oper} {x y : Operand} {w : World} {t p : TypeId} {a b c : Int}
theorem wrap_id {c : Int} (h1 : -9223372036854775808 ≤ c) (h2 : c ≤ 9223372036854775807) : IntKind.wrap .i64 c = c := by
  simp only [IntKind.wrap, IntKind.bits, IntKind.signed]
  simp
  omega
theorem run_add (ho : o.op = .binOp .add t x y p) (hx : ρ x = .int .i64 a) (hy : ρ y = .int .i64 b) (hc : a + b = c) (h1 : -9223372036854775808 ≤ c) (h2 : c ≤ 9223372036854775807) : (execOp ρ o).run P w = .ok (.value (.int .i64 c)) w := by
  unfold execOp
  rw [ho]
  simp only [hx, hy]
  have e : (Value.int .i64 (IntKind.wrap .i64 (a + b))) = .int .i64 c := by rw [hc, wrap_id h1 h2]
  rw [← e]
  rfl
theorem run_sub (ho : o.op = .binOp .sub t x y p) (hx : ρ x = .int .i64 a) (hy : ρ y = .int .i64 b) (hc : a - b = c) (h1 : -9223372036854775808 ≤ c) (h2 : c ≤ 9223372036854775807) : (execOp ρ o).run P w = .ok (.value (.int .i64 c)) w := by
  unfold execOp
  rw [ho]
  simp only [hx, hy]
  have e : (Value.int .i64 (IntKind.wrap .i64 (a - b))) = .int .i64 c := by rw [hc, wrap_id h1 h2]
  rw [← e]
  rfl
theorem run_leq (ho : o.op = .binOp .leq t x y p) (hx : ρ x = .int .i64 a) (hy : ρ y = .int .i64 b) {q : Bool} (hc : decide (a ≤ b) = q) : (execOp ρ o).run P w = .ok (.value (.bool q)) w := by
  subst hc
  unfold execOp
  rw [ho]
  simp only [hx, hy]
  rfl
theorem run_eql (ho : o.op = .binOp .eql t x y p) (hx : ρ x = .int .i64 a) (hy : ρ y = .int .i64 b) {q : Bool} (hc : (a == b) = q) : (execOp ρ o).run P w = .ok (.value (.bool q)) w := by
  subst hc
  unfold execOp
  rw [ho]
  simp only [hx, hy]
  rfl
end
end
section
open Go Go.RowKit
set_option maxRecDepth 100000
set_option linter.unusedSimpArgs false
set_option linter.unusedVariables false
section
variable {P : Program} {Q : Exit → Act → World → Prop} {c : Code} {n : Nat}
/-- A loop of at most N rounds, with what holds ahead of the k-th. -/
theorem loop_inv {N : Nat} (I : Nat → Env → World → Prop) (hstep : ∀ k E w (next : Act → World → Prop), k ≤ N → I k E w → (∀ E' w', k < N → I (k + 1) E' w' → next (sl n E') w') → c.wp P (Exit.then next Q) (sl n E) w) :
    ∀ m k E w, k ≤ N → N < k + m → I k E w → Code.rounds P c Q m (sl n E) w
  | 0, k, E, w, h1, h2, _ => absurd h2 (by omega)
  | m + 1, k, E, w, h1, h2, hI => round_s (hstep k E w _ h1 hI fun E' w' hlt hI' => loop_inv I hstep m (k + 1) E' w' (by omega) (by omega) hI')
end
section
variable {P : Program} {ρ : Operand → Value} {o : Oper} {x y : Operand} {w : World} {t p : TypeId} {a b : Int}
theorem run_lss (ho : o.op = .binOp .lss t x y p) (hx : ρ x = .int .i64 a) (hy : ρ y = .int .i64 b) {q : Bool} (hc : decide (a < b) = q) : (execOp ρ o).run P w = .ok (.value (.bool q)) w := by
  subst hc
  unfold execOp
  rw [ho]
  simp only [hx, hy]
  rfl
theorem run_ix {A : Option Addr} {ad : Addr} {m cc k : Nat} (ho : o.op = .indexAddr 22 x y) (hx : ρ x = .slice A m cc) (hA : A = some ad) (hy : ρ y = .int .i64 k) (hk : k < m) : (execOp ρ o).run Tryz.prog w = .ok (.value (.pointer (some (ad.add k)))) w := by
  subst hA
  have h1 : (0 : Int) ≤ k := by omega
  have h2 : (k : Int) < m := by omega
  unfold execOp
  rw [ho]
  simp only [hx, hy]
  simp [go_sem, h1, h2, hk]
theorem run_ldbit {ad : Addr} {z : Int} (ho : o.op = .load 65 x) (hx : ρ x = .pointer (some ad)) (hc : w.cell? ad = some (.int .u8 z)) : (execOp ρ o).run Tryz.prog w = .ok (.value (.int .u8 z)) w := by
  unfold execOp
  rw [ho]
  simp only [hx]
  simp [go_sem, hc]
end
/-- The place of a bit, and the bit, at every world to come. -/
theorem RQ.bit {w : World} {A : Option Addr} {l : List Int} (h : RQ w A l) {i : Nat} (hi : i < l.length) : ∃ ad, A = some ad ∧ ∀ w', Below w.heap.size w w' → w'.cell? (ad.add i) = some (.int .u8 (qt l i)) := by
  obtain ⟨ad, e, hl, hc⟩ := h.at_ hi
  exact ⟨ad, e, fun w' hb => (hb.cell (p := ad.add i) (by rw [block_of_add]; exact hl)).trans hc⟩
end
section
open Go Go.RowKit
set_option maxRecDepth 100000
set_option linter.unusedSimpArgs false
set_option linter.unusedVariables false
/-- A block of the call's own whose cells are these. -/
structure Arr (N : Nat) (T : TypeId) (l : List Value) (w : World) : Prop where
  h : w.heap[N]? = some (.cells l.toArray T (0, 0))
theorem Arr.lt {N : Nat} {T : TypeId} {l : List Value} {w : World} (a : Arr N T l w) : N < w.heap.size := lt_of_block a.h
theorem Arr.kept {N : Nat} {T : TypeId} {l : List Value} {w w' : World} (a : Arr N T l w) (hb : Below w.heap.size w w') : Arr N T l w' := ⟨by rw [hb.block N a.lt]; exact a.h⟩
theorem Arr.cell {N i : Nat} {T : TypeId} {l : List Value} {w : World} {v : Value} (a : Arr N T l w) (hv : l[i]? = some v) : w.cell? ⟨N, i, none⟩ = some v := by
  rw [cell_of_row w N i _ _ _ a.h]
  simpa using hv
theorem Arr.free {N : Nat} {T : TypeId} {l : List Value} {w : World} (a : Arr N T l w) (i : Nat) : w.frozen? ⟨N, i, none⟩ = false := frozen_of_row w N i _ _ a.h
theorem Arr.set {N i : Nat} {T : TypeId} {l : List Value} {w : World} (a : Arr N T l w) (v : Value) : Arr N T (l.set i v) (w.setCell ⟨N, i, none⟩ v) := ⟨by
  rw [heap_setCell_same w N i _ _ _ a.h]
  simp⟩
theorem Arr.far {N M i : Nat} {T : TypeId} {l : List Value} {w : World} (a : Arr M T l w) (h : M ≠ N) (v : Value) : Arr M T l (w.setCell ⟨N, i, none⟩ v) := ⟨by
  rw [heap_setCell_other w ⟨N, i, none⟩ M v h]
  exact a.h⟩
theorem RQ.setAt {w : World} {N i : Nat} {AA : Option Addr} {l : List Int} {u : Value} (h : RQ w AA l) (hu : w.cell? ⟨N, i, none⟩ = some u) (hn : ∀ z, u ≠ .int .u8 z) (v : Value) : RQ (w.setCell ⟨N, i, none⟩ v) AA l := fun h0 => by
  obtain ⟨ad, e, hlt, hc⟩ := h h0
  refine ⟨ad, e, by simpa using hlt, fun j hj => ?_⟩
  have h1 := hc j hj
  rw [World.cell?_setCell_other _ _ _ _ (by
    intro k
    rw [← k, hu] at h1
    injection h1 with h1
    exact hn _ h1)]
  exact h1
/-- What a store into a block of the call's own leaves. -/
structure StN (N : Nat) (w V : World) : Prop where
  ne : ∀ {M : Nat} {T : TypeId} {l : List Value}, Arr M T l w → M ≠ N → Arr M T l V
  rq : ∀ {AA : Option Addr} {l : List Int}, RQ w AA l → RQ V AA l
  bel : ∀ {B : Nat}, B ≤ N → Below B w V
section
variable {P : Program} {Q : Exit → Act → World → Prop} {ops : Array Oper} {o : Oper} {rest : List Oper} {x y : Operand} {w W : World} {N m c n d j : Nat} {T : TypeId} {A : Option Addr} {s : Bool} {E : Env} {l l' : List Value} {ρ : Operand → Value} {u0 u1 : Value} {z z0 : Int} {k : IntKind}
theorem StN.set2 (a : Arr N T l w) (h0 : l[j]? = some u0) (h1 : l[j + 1]? = some u1) (n0 : ∀ z, u0 ≠ .int .u8 z) (n1 : ∀ z, u1 ≠ .int .u8 z) (v0 v1 : Value) : StN N w ((w.setCell ⟨N, j, none⟩ v0).setCell ⟨N, j + 1, none⟩ v1) where
  ne := fun b hne => (b.far hne _).far hne _
  rq := fun r => (r.setAt (a.cell h0) n0 v0).setAt (u := u1) ((a.set v0).cell (by rw [List.getElem?_set_ne (by omega)]; exact h1)) n1 v1
  bel := fun hb => ((Below.refl _ _).setCell (by exact hb) _).setCell (by exact hb) _
theorem StN.set1 (a : Arr N T l w) (h0 : l[j]? = some u0) (n0 : ∀ z, u0 ≠ .int .u8 z) (v0 : Value) : StN N w (w.setCell ⟨N, j, none⟩ v0) where
  ne := fun b hne => b.far hne _
  rq := fun r => r.setAt (a.cell h0) n0 v0
  bel := fun hb => (Below.refl _ _).setCell (by exact hb) _
theorem run_starr (ho : o.op = .store 24 x y) (hx : ρ x = .pointer (some ⟨N, j, none⟩)) (hy : ρ y = vagg A m c s) (a : Arr N T l w) (h0 : l[j]? = some u0) (h1 : l[j + 1]? = some u1) :
    (execOp ρ o).run Tryz.prog w = .ok .skip ((w.setCell ⟨N, j, none⟩ (.slice A m c)).setCell ⟨N, j + 1, none⟩ (.bool s)) := by
  have e0 := a.cell h0
  have e1 := a.cell h1
  have e2 := a.free j
  have e3 := a.free (j + 1)
  unfold execOp
  rw [ho]
  simp only [hx, hy]
  simp [go_sem, e0, e1, e2, e3]
theorem wpl_starr (j : Nat) (u0 u1 : Value) (l' : List Value) (a : Arr N T l w) (hd : o.dst = none) (hw : wnt ops n E o = true) (ho : o.op = .store 24 x y) (hx : evl n E x = .pointer (some ⟨N, j, none⟩)) (hy : evl n E y = vagg A m c s) (h0 : l[j]? = some u0) (h1 : l[j + 1]? = some u1) (n0 : ∀ z, u0 ≠ .int .u8 z) (n1 : ∀ z, u1 ≠ .int .u8 z) (hl : (l.set j (.slice A m c)).set (j + 1) (.bool s) = l')
    (h : ∀ V : World, StN N w V → Arr N T l' V → WL Tryz.prog ops Q rest n E V) : WL Tryz.prog ops Q (o :: rest) n E w :=
  wpl_none hd hw (run_starr ho hx hy a h0 h1) (h _ (StN.set2 a h0 h1 n0 n1 _ _) (by rw [← hl]; exact (a.set _).set _))
theorem run_sterr (ho : o.op = .store 43 x y) (hx : ρ x = .pointer (some ⟨N, j, none⟩)) (hy : ρ y = .int .i64 z) (a : Arr N T l w) (h0 : l[j]? = some (.int .i64 z0)) :
    (execOp ρ o).run Tryz.prog w = .ok .skip (w.setCell ⟨N, j, none⟩ (.int .i64 z)) := by
  have e0 := a.cell h0
  have e2 := a.free j
  unfold execOp
  rw [ho]
  simp only [hx, hy]
  simp [go_sem, e0, e2]
theorem run_ldarr (ho : o.op = .load 24 x) (hx : ρ x = .pointer (some ⟨N, j, none⟩)) (a : Arr N T l w) (h0 : l[j]? = some (.slice A m c)) (h1 : l[j + 1]? = some (.bool s)) :
    (execOp ρ o).run Tryz.prog w = .ok (.value (vagg A m c s)) w := by
  have e0 := a.cell h0
  have e1 := a.cell h1
  unfold execOp
  rw [ho]
  simp only [hx]
  simp [go_sem, e0, e1]
end
end
section
open Go.RowKit
set_option maxRecDepth 100000
set_option linter.unusedSimpArgs false
set_option linter.unusedVariables false
/-- Bits in a row of the call's own, whatever they are. -/
def Qls (B g : Nat) (w : World) (x : Option Addr × Nat × Nat × Bool) : Prop := 0 < x.2.1 → ∃ gi F, x.1 = some ⟨gi, 0, none⟩ ∧ B ≤ gi ∧ gi ≠ g ∧ RowQ w gi x.2.1 F
theorem Qls.stored {B g : Nat} {w : World} {x : Option Addr × Nat × Nat × Bool} (h : Qls B g w x) (gj k : Nat) (v : Int) : Qls B g (w.setCell ⟨gj, k, none⟩ (.int .u8 v)) x := fun hn => by
  obtain ⟨gi, F, e, h1, h2, h3⟩ := h hn
  by_cases hg : gi = gj
  · subst hg; exact ⟨gi, _, e, h1, h2, h3.set_ k v⟩
  · exact ⟨gi, F, e, h1, h2, h3.far (by simpa using hg) _⟩
structure SpQ (B g : Nat) (vs : List (Option Addr × Nat × Nat × Bool)) (w wr : World) : Prop where
  sls : ∀ i (h : i < vs.length), wr.cell? ⟨g, i * 2, none⟩ = some (.slice vs[i].1 vs[i].2.1 vs[i].2.2.1)
  bls : ∀ i (h : i < vs.length), Qls B g wr vs[i]
  bel : Below B w wr
theorem SpQ.stored {B g : Nat} {vs : List (Option Addr × Nat × Nat × Bool)} {w wr : World} (h : SpQ B g vs w wr) {gj k : Nat} (hB : B ≤ gj) (hg : gj ≠ g) (v : Int) : SpQ B g vs w (wr.setCell ⟨gj, k, none⟩ (.int .u8 v)) where
  sls := fun i hi => by
    rw [World.cell?_setCell_other _ _ _ _ (by intro e; injection e; omega)]
    exact h.sls i hi
  bls := fun i hi => (h.bls i hi).stored gj k v
  bel := h.bel.setCell (by simpa using hB) _
set_option maxHeartbeats 2000000 in
theorem vspoil_any (B g c : Nat) (vs : List (Option Addr × Nat × Nat × Bool)) (w : World) (hv : vs.length ≤ 8) (hs : ∀ i (h : i < vs.length), vs[i].2.1 ≤ 4096) (h : SpQ B g vs w w) :
    Calls Tryz.prog 13 #[.slice (some ⟨g, 0, none⟩) vs.length c] w fun e w' => e = .returned (.tuple #[]) ∧ Below B w w' := by
  have H := hide h
  have HS := hide hs
  clear h hs
  go_enter Tryz.func13, Tryz.ntmps13
  go_wp2
  go_loopw [2] (fun i wr => ∃ k : Nat, k ≤ vs.length ∧ i = .int .i64 k ∧ SpQ B g vs w wr) (fun i _ => vs.length - (intOf i).toNat)
  case atStart => exact ⟨0, Nat.zero_le _, rfl, H.out⟩
  case round =>
    obtain ⟨k, hk, rfl, hR⟩ := hrel
    have hRH := hide hR
    clear hR
    by_cases hlt : k < vs.length
    · have hn4 := HS.out k hlt
      obtain ⟨x, hx⟩ : ∃ x, x = vs[k] := ⟨_, rfl⟩
      obtain ⟨A, n, cn, sn⟩ := x
      rw [← hx] at hn4
      have hsl : Hid (∀ wr, SpQ B g vs w wr → wr.cell? ⟨g, k * 2, none⟩ = some (.slice A n cn)) := hide fun wr h => by have := h.sls k hlt; rw [← hx] at this; exact this
      have hbl : Hid (∀ wr, SpQ B g vs w wr → Qls B g wr (A, n, cn, sn)) := hide fun wr h => by have := h.bls k hlt; rw [← hx] at this; exact this
      clear hx
      simp only at hn4
      go_wp2
      go_loopw [3] (fun i wr => ∃ m : Nat, m ≤ n ∧ i = .int .i64 m ∧ SpQ B g vs w wr) (fun i _ => n - (intOf i).toNat)
      case atStart => exact ⟨0, Nat.zero_le _, rfl, hRH.out⟩
      case round =>
        clear hRH
        obtain ⟨m, hm, rfl, hR⟩ := hrel
        have hRH := hide hR
        clear hR
        have hc := hsl.out _ hRH.out
        by_cases hmn : m < n
        · obtain ⟨gi, F, he, h1, h2, h3⟩ := hbl.out _ hRH.out (by simpa using Nat.lt_of_le_of_lt (Nat.zero_le _) hmn)
          simp only at he
          subst he
          have hcc := h3.cell (i := m) hmn
          have hff := h3.free m
          clear h3
          go_wp2
          go_roundw
          case rel => exact ⟨m + 1, by omega, by go_num, hRH.out.stored h1 h2 _⟩
          case measure => simp [intOf]; omega
        · go_wp2
          go_roundw
          case rel => exact ⟨k + 1, by omega, by go_num, hRH.out⟩
          case measure => simp [intOf]; omega
    · go_wp2
      go_end0
      exact ⟨rfl, hRH.out.bel⟩
end
section
open Go Go.RowKit
set_option maxRecDepth 100000
set_option linter.unusedSimpArgs false
set_option linter.unusedVariables false
def av8 : List Value := [.slice none 0 0, .bool false, .slice none 0 0, .bool false, .slice none 0 0, .bool false, .slice none 0 0, .bool false, .slice none 0 0, .bool false, .slice none 0 0, .bool false, .slice none 0 0, .bool false, .slice none 0 0, .bool false]
def ae8 : List Value := [.int .i64 0, .int .i64 0, .int .i64 0, .int .i64 0, .int .i64 0, .int .i64 0, .int .i64 0, .int .i64 0]
theorem OwQ.arr {B N : Nat} {w V : World} {A : Option Addr} {T : TypeId} {l : List Int} {L : List Value} {u : Value} (h : OwQ B w A l) (a : Arr N T L w) (hu : L[0]? = some u) (hn : ∀ z, u ≠ .int .u8 z) (hk : ∀ g, g ≠ N → V.heap[g]? = w.heap[g]?) : OwQ B V A l := fun h0 => by
  obtain ⟨g, e, hB, hr⟩ := h h0
  have hg : g ≠ N := fun e => by
    subst e
    have h1 := hr.cell h0
    rw [a.cell hu] at h1
    injection h1 with h1
    exact hn _ h1
  obtain ⟨cs, hc, hi⟩ := hr
  exact ⟨g, e, hB, cs, by rw [hk g hg]; exact hc, hi⟩
section
variable {P : Program} {Q : Exit → Act → World → Prop} {ops : Array Oper} {o : Oper} {rest : List Oper} {x y : Operand} {w W : World} {N m c n d j : Nat} {T : TypeId} {A : Option Addr} {s : Bool} {E : Env} {l l' : List Value} {ρ : Operand → Value} {u0 u1 : Value} {z z0 z1 z2 z3 z4 z5 z6 z7 : Int} {k : IntKind}
theorem run_al8 (ho : o.op = .alloc 42) : (execOp ρ o).run Tryz.prog w = .ok (.value (.pointer (some ⟨w.heap.size, 0, none⟩))) (w.alloc (.cells av8.toArray 42)) := by
  unfold execOp
  rw [ho]
  kernel_rfl
theorem run_ale8 (ho : o.op = .alloc 44) : (execOp ρ o).run Tryz.prog w = .ok (.value (.pointer (some ⟨w.heap.size, 0, none⟩))) (w.alloc (.cells ae8.toArray 44)) := by
  unfold execOp
  rw [ho]
  kernel_rfl
theorem wpl_al8 (hd : o.dst = some d) (hw : wnt ops n E o = true) (ho : o.op = .alloc 42)
    (h : ∀ (V : World) (N : Nat), Arr N 42 av8 V → w.heap.size ≤ N → Below w.heap.size w V → WL Tryz.prog ops Q rest n ((d, .pointer (some ⟨N, 0, none⟩)) :: E) V) : WL Tryz.prog ops Q (o :: rest) n E w :=
  wpl_val hd hw (run_al8 ho) (h _ _ ⟨heap_alloc_new w _⟩ (Nat.le_refl _) ((Below.refl _ _).alloc (Nat.le_refl _) _))
theorem wpl_ale8 (hd : o.dst = some d) (hw : wnt ops n E o = true) (ho : o.op = .alloc 44)
    (h : ∀ (V : World) (N : Nat), Arr N 44 ae8 V → w.heap.size ≤ N → Below w.heap.size w V → WL Tryz.prog ops Q rest n ((d, .pointer (some ⟨N, 0, none⟩)) :: E) V) : WL Tryz.prog ops Q (o :: rest) n E w :=
  wpl_val hd hw (run_ale8 ho) (h _ _ ⟨heap_alloc_new w _⟩ (Nat.le_refl _) ((Below.refl _ _).alloc (Nat.le_refl _) _))
theorem run_lde8 (ho : o.op = .load 44 x) (hx : ρ x = .pointer (some ⟨N, 0, none⟩)) (a : Arr N 44 [.int .i64 z0, .int .i64 z1, .int .i64 z2, .int .i64 z3, .int .i64 z4, .int .i64 z5, .int .i64 z6, .int .i64 z7] w) :
    (execOp ρ o).run Tryz.prog w = .ok (.value (.agg #[.int .i64 z0, .int .i64 z1, .int .i64 z2, .int .i64 z3, .int .i64 z4, .int .i64 z5, .int .i64 z6, .int .i64 z7])) w := by
  have c0 := a.cell (i := 0) rfl
  have c1 := a.cell (i := 1) rfl
  have c2 := a.cell (i := 2) rfl
  have c3 := a.cell (i := 3) rfl
  have c4 := a.cell (i := 4) rfl
  have c5 := a.cell (i := 5) rfl
  have c6 := a.cell (i := 6) rfl
  have c7 := a.cell (i := 7) rfl
  unfold execOp
  rw [ho]
  simp only [hx]
  simp [go_sem, c0, c1, c2, c3, c4, c5, c6, c7]
theorem run_neq8 {p : TypeId} (ho : o.op = .binOp .neq 44 x y p) (hx : ρ x = .agg #[.int .i64 z0, .int .i64 z0, .int .i64 z0, .int .i64 z1, .int .i64 z2, .int .i64 z3, .int .i64 z3, .int .i64 z4]) (hy : ρ y = .agg #[.int .i64 z0, .int .i64 z0, .int .i64 z0, .int .i64 z1, .int .i64 z2, .int .i64 z3, .int .i64 z3, .int .i64 z4])
    (h0 : z0 = 0 ∨ z0 = 12) (h1 : z1 = 0 ∨ z1 = 12) (h2 : z2 = 0 ∨ z2 = 1 ∨ z2 = 12) (h3 : z3 = 0 ∨ z3 = 1 ∨ z3 = 12) (h4 : z4 = 0 ∨ z4 = 12) : (execOp ρ o).run Tryz.prog w = .ok (.value (.bool false)) w := by
  unfold execOp
  rw [ho]
  simp only [hx, hy]
  clear ho hx hy
  rcases h0 with rfl | rfl <;> rcases h1 with rfl | rfl <;> rcases h2 with rfl | rfl | rfl <;> rcases h3 with rfl | rfl | rfl <;> rcases h4 with rfl | rfl <;> kernel_rfl
/-- As wpl_starr, with what it leaves of the other blocks. -/
theorem wpl_stark (j : Nat) (u0 u1 : Value) (l' : List Value) (a : Arr N T l w) (hd : o.dst = none) (hw : wnt ops n E o = true) (ho : o.op = .store 24 x y) (hx : evl n E x = .pointer (some ⟨N, j, none⟩)) (hy : evl n E y = vagg A m c s) (h0 : l[j]? = some u0) (h1 : l[j + 1]? = some u1) (n0 : ∀ z, u0 ≠ .int .u8 z) (n1 : ∀ z, u1 ≠ .int .u8 z) (hl : (l.set j (.slice A m c)).set (j + 1) (.bool s) = l')
    (h : ∀ V : World, StN N w V → (∀ g, g ≠ N → V.heap[g]? = w.heap[g]?) → Arr N T l' V → WL Tryz.prog ops Q rest n E V) : WL Tryz.prog ops Q (o :: rest) n E w :=
  wpl_none hd hw (run_starr ho hx hy a h0 h1) (h _ (StN.set2 a h0 h1 n0 n1 _ _) (fun g hg => by rw [heap_setCell_other _ _ _ _ hg, heap_setCell_other _ _ _ _ hg]) (by rw [← hl]; exact (a.set _).set _))
theorem wpl_sterk (j : Nat) (z z0 : Int) (l' : List Value) (a : Arr N T l w) (hd : o.dst = none) (hw : wnt ops n E o = true) (ho : o.op = .store 43 x y) (hx : evl n E x = .pointer (some ⟨N, j, none⟩)) (hy : evl n E y = .int .i64 z) (h0 : l[j]? = some (.int .i64 z0)) (hl : l.set j (.int .i64 z) = l')
    (h : ∀ V : World, StN N w V → (∀ g, g ≠ N → V.heap[g]? = w.heap[g]?) → Arr N T l' V → WL Tryz.prog ops Q rest n E V) : WL Tryz.prog ops Q (o :: rest) n E w :=
  wpl_none hd hw (run_sterr ho hx hy a h0) (h _ (StN.set1 a h0 (fun z e => by cases e) _) (fun g hg => by rw [heap_setCell_other _ _ _ _ hg]) (by rw [← hl]; exact a.set _))
end
end
section
open Go.RowKit
set_option maxRecDepth 100000
/-- The bits of a, with those of p laid from lo on: the first k of them, below M. -/
def ptd (a p : List Int) (lo : Int) (k : Nat) (M : Int) (i : Nat) : Int := if lo ≤ i ∧ (i : Int) < lo + k ∧ (i : Int) < M then qt p ((i : Int) - lo).toNat else qt a i
/-- What Put answers where the span is good. -/
def vPut (a b : Vc) (hi lo : Int) : Vc := ⟨ql (cnt a).b.length (ptd (cnt a).b (rsz (cnt b) (hi - lo + 1).toNat) lo (hi - lo + 1).toNat (hi + 1)), (cnt a).s⟩
theorem ptd_start {a p : List Int} {lo M : Int} {k : Nat} (h : M ≤ lo ∨ M ≤ 0) (i : Nat) : ptd a p lo k M i = qt a i := by
  unfold ptd
  rw [if_neg (by omega)]
theorem ptd_step {a p : List Int} {lo : Int} {k j : Nat} (h1 : lo ≤ j) (h2 : (j : Int) < lo + k) (i : Nat) :
    (if i = j then qt p ((j : Int) - lo).toNat else ptd a p lo k j i) = ptd a p lo k ((j : Int) + 1) i := by
  unfold ptd
  by_cases e : i = j
  · subst e
    rw [if_pos rfl, if_pos ⟨h1, h2, by omega⟩]
  · rw [if_neg e]
    by_cases c : lo ≤ (i : Int) ∧ (i : Int) < lo + k ∧ (i : Int) < j
    · rw [if_pos c, if_pos ⟨c.1, c.2.1, by omega⟩]
    · rw [if_neg c, if_neg (by omega)]
/-- Past the end of a, or past the last bit that is laid, nothing changes any more. -/
theorem ptd_end {a p : List Int} {lo M M' : Int} {k : Nat} (h : (a.length : Int) ≤ M ∨ lo + k ≤ M) (h' : (a.length : Int) ≤ M' ∨ lo + k ≤ M') (i : Nat) (hi : i < a.length) : ptd a p lo k M i = ptd a p lo k M' i := by
  unfold ptd
  by_cases c : lo ≤ (i : Int) ∧ (i : Int) < lo + k
  · rw [if_pos ⟨c.1, c.2, by omega⟩, if_pos ⟨c.1, c.2, by omega⟩]
  · rw [if_neg (fun e => c ⟨e.1, e.2.1⟩), if_neg (fun e => c ⟨e.1, e.2.1⟩)]
/-- What a loop leaves that stores into one row g of the call's own. -/
structure PutQ (w W : World) (g n : Nat) (F : Nat → Int) (wr : World) : Prop where
  row : RowQ wr g n F
  bel : Below w.heap.size w wr
  far : ∀ b, b ≠ g → wr.heap[b]? = W.heap[b]?
  size : wr.heap.size = W.heap.size
theorem PutQ.start {w W : World} {g n : Nat} {F : Nat → Int} (h : RowQ W g n F) (hb : Below w.heap.size w W) : PutQ w W g n F W := ⟨h, hb, fun _ _ => rfl, rfl⟩
theorem PutQ.congr {w W wr : World} {g n : Nat} {F G : Nat → Int} (h : PutQ w W g n F wr) (k : ∀ i, i < n → F i = G i) : PutQ w W g n G wr := ⟨h.row.congr k, h.bel, h.far, h.size⟩
theorem PutQ.step {w W wr : World} {g n : Nat} {F : Nat → Int} (h : PutQ w W g n F wr) (hg : w.heap.size ≤ g) (i : Nat) (v : Int) : PutQ w W g n (fun j => if j = i then v else F j) (wr.setCell ⟨g, i, none⟩ (.int .u8 v)) where
  row := h.row.set_ i v
  bel := h.bel.setCell (by exact hg) _
  far := fun b hb => by
    rw [← h.far b hb]
    exact heap_setCell_other wr ⟨g, i, none⟩ b _ hb
  size := by rw [← h.size]; simp
theorem PutQ.cell {w W wr : World} {g n : Nat} {F : Nat → Int} (h : PutQ w W g n F wr) {p : Addr} (hp : p.block ≠ g) : wr.cell? p = W.cell? p := by
  unfold World.cell?
  rw [h.far _ hp]
theorem PutQ.frozen {w W wr : World} {g n : Nat} {F : Nat → Int} (h : PutQ w W g n F wr) {p : Addr} (hp : p.block ≠ g) : wr.frozen? p = W.frozen? p := by
  unfold World.frozen?
  rw [h.far _ hp]
end
section
open Go.RowKit
set_option maxRecDepth 100000
set_option linter.unusedSimpArgs false
set_option linter.unusedVariables false
set_option maxHeartbeats 2000000 in
theorem vPut_any (hi lo : Int) (A B : Option Addr) (a b : List Int) (c d : Nat) (s t : Bool) (w : World) (ha : a.length ≤ 4096) (hb : b.length ≤ 4096) (hca : Hid (a.length ≤ c ∧ c ≤ maxLen)) (hcb : Hid (b.length ≤ d ∧ d ≤ maxLen)) (hA : RQ w A a) (hB : RQ w B b) (ya : By a) (yb : By b) (b1 : -9223372036854775808 ≤ lo) (b2 : hi ≤ 9223372036854775807) (b3 : -9223372036854775808 ≤ hi) (b4 : lo ≤ 9223372036854775807) :
    Calls Tryz.prog 31 #[.agg #[.slice A a.length c, .bool s], .int .i64 hi, .int .i64 lo, .agg #[.slice B b.length d, .bool t]] w (RetE (spn hi lo) (vPut ⟨a, s⟩ ⟨b, t⟩ hi lo) w) := by
  have HA := hide hA
  have HBB := hide hB
  have LA := hide ha
  have LB := hide hb
  have YA := hide ya
  have YB := hide yb
  clear hA hB ha hb ya yb
  have hcall := hide fun w => span_any hi lo w b1 b2 b3 b4
  obtain ⟨r, hr⟩ : ∃ r, r = spn hi lo := ⟨_, rfl⟩
  rw [← hr] at hcall ⊢
  have hfld := fld0
  by_cases h0 : r = 0
  · obtain ⟨g1, g2⟩ := spn_0.1 (hr.symm.trans h0)
    subst h0
    clear hr
    rw [if_pos rfl] at hcall
    obtain ⟨k, hk⟩ : ∃ k : Nat, hi - lo + 1 = k := ⟨(hi - lo + 1).toNat, by omega⟩
    have HV : Hid (vPut ⟨a, s⟩ ⟨b, t⟩ hi lo = ⟨ql (cnt ⟨a, s⟩).b.length (ptd (cnt ⟨a, s⟩).b (rsz (cnt ⟨b, t⟩) k) lo k (hi + 1)), (cnt ⟨a, s⟩).s⟩) := hide (by unfold vPut; rw [hk, Int.toNat_natCast])
    rw [HV.out]
    clear HV
    rw [hk] at hcall
    have hk2 : k ≤ 128 := by omega
    have hk1 : 1 ≤ k := by omega
    clear g1 g2
    go_enter Tryz.func31, Tryz.ntmps31
    go_wp2_with fail
    refine (hcall.out _).mono ?_
    rintro e w' ⟨rfl, rfl⟩
    go_wp2_with fail
    refine (counted_any A a c s w _ LA.out hca HA.out belo).mono ?_
    rintro e w1 ⟨l1, s1, A1, c1, E1, rfl, C1, O1, hb⟩
    replace O1 := hide (O1.out.lower (show w.heap.size + 3 ≤ _ by first | omega | (simp; omega) | (simp; done)))
    have hB1 : Below w.heap.size w w1 := Below.trans belo (hb.mono (by first | omega | (simp; done) | (simp; omega)))
    obtain ⟨kc1, kf1⟩ := bcell hb
    have hz1 := hb.size
    (try simp at hz1)
    have n1_0 : w.heap.size < w1.heap.size := by omega
    have n1_1 : w.heap.size + 1 < w1.heap.size := by omega
    have n1_2 : w.heap.size + 2 < w1.heap.size := by omega
    have r1_0 : w1.cell? ⟨w.heap.size + 2, 0, none⟩ = some (.slice none 0 0) := (kc1 _ _ (by first | assumption | (simp; done) | omega | (simp; omega))).trans (by first | assumption | (simp [go_sem]; done) | (simp; done))
    have g1_0 : w1.frozen? ⟨w.heap.size + 2, 0, none⟩ = false := (kf1 _ _ (by first | assumption | (simp; done) | omega | (simp; omega))).trans (by first | assumption | (simp [go_sem]; done) | (simp; done))
    have r1_1 : w1.cell? ⟨w.heap.size + 2, 1, none⟩ = some (.bool false) := (kc1 _ _ (by first | assumption | (simp; done) | omega | (simp; omega))).trans (by first | assumption | (simp [go_sem]; done) | (simp; done))
    have g1_1 : w1.frozen? ⟨w.heap.size + 2, 1, none⟩ = false := (kf1 _ _ (by first | assumption | (simp; done) | omega | (simp; omega))).trans (by first | assumption | (simp [go_sem]; done) | (simp; done))
    have m1_0 : w1.cell? ⟨w.heap.size + 1, 0, none⟩ = some (.slice B b.length d) := (kc1 _ _ (by first | assumption | (simp; done) | omega | (simp; omega))).trans (by first | assumption | (simp [go_sem]; done))
    have v1_0 : w1.frozen? ⟨w.heap.size + 1, 0, none⟩ = false := (kf1 _ _ (by first | assumption | (simp; done) | omega | (simp; omega))).trans (by first | assumption | (simp [go_sem]; done))
    have m1_1 : w1.cell? ⟨w.heap.size + 1, 1, none⟩ = some (.bool t) := (kc1 _ _ (by first | assumption | (simp; done) | omega | (simp; omega))).trans (by first | assumption | (simp [go_sem]; done))
    have v1_1 : w1.frozen? ⟨w.heap.size + 1, 1, none⟩ = false := (kf1 _ _ (by first | assumption | (simp; done) | omega | (simp; omega))).trans (by first | assumption | (simp [go_sem]; done))
    have m1_2 : w1.cell? ⟨w.heap.size, 0, none⟩ = some (.slice A a.length c) := (kc1 _ _ (by first | assumption | (simp; done) | omega | (simp; omega))).trans (by first | assumption | (simp [go_sem]; done))
    have v1_2 : w1.frozen? ⟨w.heap.size, 0, none⟩ = false := (kf1 _ _ (by first | assumption | (simp; done) | omega | (simp; omega))).trans (by first | assumption | (simp [go_sem]; done))
    have m1_3 : w1.cell? ⟨w.heap.size, 1, none⟩ = some (.bool s) := (kc1 _ _ (by first | assumption | (simp; done) | omega | (simp; omega))).trans (by first | assumption | (simp [go_sem]; done))
    have v1_3 : w1.frozen? ⟨w.heap.size, 1, none⟩ = false := (kf1 _ _ (by first | assumption | (simp; done) | omega | (simp; omega))).trans (by first | assumption | (simp [go_sem]; done))
    clear kc1 kf1
    clear hb
    have G1 : Gd l1 := by have h := cnt_gd (v := ⟨a, s⟩) YA.out; rw [← E1.out] at h; exact h
    have u1 := G1.le
    go_wp2_with fail
    obtain ⟨W1, hW⟩ : ∃ W, W = (w1.setCell ⟨w.heap.size, 0, none⟩ (.slice A1 l1.length c1)).setCell ⟨w.heap.size, 1, none⟩ (.bool s1) := ⟨_, rfl⟩
    rw [← hW]
    have f0 : ∀ p, W1.frozen? p = w1.frozen? p := fun p => by rw [hW]; simp
    have f1 : ∀ b o, b ≠ w.heap.size → W1.cell? ⟨b, o, none⟩ = w1.cell? ⟨b, o, none⟩ := fun b o h => by rw [hW, World.cell?_setCell_far _ _ _ _ (fun e => h e.symm), World.cell?_setCell_far _ _ _ _ (fun e => h e.symm)]
    have a0 : W1.cell? ⟨w.heap.size, 0, none⟩ = some (.slice A1 l1.length c1) := by rw [hW, World.cell?_setCell_other _ _ _ _ (by simp)]; exact World.cell?_setCell_same _ _ _ m1_2
    have a1 : W1.cell? ⟨w.heap.size, 1, none⟩ = some (.bool s1) := by rw [hW]; exact World.cell?_setCell_same _ _ _ ((World.cell?_setCell_other _ _ _ _ (by simp)).trans m1_3)
    have BW : Below w.heap.size w W1 := by rw [hW]; exact belo
    have sW : W1.heap.size = w1.heap.size := by rw [hW]; simp
    replace O1 := hide (show RG w.heap.size (w.heap.size + 3) W1 A1 l1 by rw [hW]; (repeat (first | with_reducible exact O1.out | with_reducible refine RG.setc ?_ (by first | (simp; done) | omega | (simp; omega)) (by first | (simp; done) | omega | (simp; omega)) _ | with_reducible refine RG.allc ?_ _ | with_reducible refine RG.drew ?_ | with_reducible refine RG.drewN ?_ _)))
    have N_0 : w.heap.size + 0 < W1.heap.size := by omega
    have N_1 : w.heap.size + 1 < W1.heap.size := by omega
    have N_2 : w.heap.size + 2 < W1.heap.size := by omega
    have R_0 := (f1 (w.heap.size + 2) 0 (by omega)).trans r1_0
    have S_0 := (f0 ⟨w.heap.size + 2, 0, none⟩).trans g1_0
    have T_0 := (f1 (w.heap.size + 1) 0 (by omega)).trans m1_0
    have U_0 := (f0 ⟨w.heap.size + 1, 0, none⟩).trans v1_0
    have Z_0 := (f0 ⟨w.heap.size, 0, none⟩).trans v1_2
    have R_1 := (f1 (w.heap.size + 2) 1 (by omega)).trans r1_1
    have S_1 := (f0 ⟨w.heap.size + 2, 1, none⟩).trans g1_1
    have T_1 := (f1 (w.heap.size + 1) 1 (by omega)).trans m1_1
    have U_1 := (f0 ⟨w.heap.size + 1, 1, none⟩).trans v1_1
    have Z_1 := (f0 ⟨w.heap.size, 1, none⟩).trans v1_3
    rw [Nat.add_zero] at N_0
    clear hW f0 f1 hB1 n1_0 n1_1 n1_2 r1_0 r1_1 g1_0 g1_1 m1_0 m1_1 m1_2 m1_3 v1_0 v1_1 v1_2 v1_3 hz1 sW
    refine (cloneq_q A1 l1 c1 _ (by omega) (by refine RG.rd (B0 := w.heap.size) (B1 := w.heap.size + 3) ?_; (repeat (first | with_reducible exact O1.out | with_reducible refine RG.setc ?_ (by first | (simp; done) | omega | (simp; omega)) (by first | (simp; done) | omega | (simp; omega)) _ | with_reducible refine RG.allc ?_ _ | with_reducible refine RG.drew ?_ | with_reducible refine RG.drewN ?_ _)))).mono ?_
    rintro e w2 ⟨l2, A2, c2, E2, rfl, C2, O2, hb⟩
    replace O1 := hide ((show RG w.heap.size (w.heap.size + 3) _ A1 l1 by (repeat (first | with_reducible exact O1.out | with_reducible refine RG.setc ?_ (by first | (simp; done) | omega | (simp; omega)) (by first | (simp; done) | omega | (simp; omega)) _ | with_reducible refine RG.allc ?_ _ | with_reducible refine RG.drew ?_ | with_reducible refine RG.drewN ?_ _))).kept hb)
    replace O2 := hide (O2.out.base (show w.heap.size + 3 ≤ _ by first | omega | (simp; omega) | (simp; done)))
    have hB2 : Below w.heap.size w w2 := Below.trans belo (hb.mono (by first | omega | (simp; done) | (simp; omega)))
    obtain ⟨kc2, kf2⟩ := bcell hb
    have hz2 := hb.size
    (try simp at hz2)
    have n2_0 : w.heap.size < w2.heap.size := by omega
    have n2_1 : w.heap.size + 1 < w2.heap.size := by omega
    have n2_2 : w.heap.size + 2 < w2.heap.size := by omega
    have r2_0 : w2.cell? ⟨w.heap.size + 2, 0, none⟩ = some (.slice none 0 0) := (kc2 _ _ (by first | assumption | (simp; done) | omega | (simp; omega))).trans (by first | assumption | (simp [go_sem]; done) | (simp; done))
    have g2_0 : w2.frozen? ⟨w.heap.size + 2, 0, none⟩ = false := (kf2 _ _ (by first | assumption | (simp; done) | omega | (simp; omega))).trans (by first | assumption | (simp [go_sem]; done) | (simp; done))
    have r2_1 : w2.cell? ⟨w.heap.size + 2, 1, none⟩ = some (.bool false) := (kc2 _ _ (by first | assumption | (simp; done) | omega | (simp; omega))).trans (by first | assumption | (simp [go_sem]; done) | (simp; done))
    have g2_1 : w2.frozen? ⟨w.heap.size + 2, 1, none⟩ = false := (kf2 _ _ (by first | assumption | (simp; done) | omega | (simp; omega))).trans (by first | assumption | (simp [go_sem]; done) | (simp; done))
    have m2_0 : w2.cell? ⟨w.heap.size + 1, 0, none⟩ = some (.slice B b.length d) := (kc2 _ _ (by first | assumption | (simp; done) | omega | (simp; omega))).trans (by first | assumption | (simp [go_sem]; done))
    have v2_0 : w2.frozen? ⟨w.heap.size + 1, 0, none⟩ = false := (kf2 _ _ (by first | assumption | (simp; done) | omega | (simp; omega))).trans (by first | assumption | (simp [go_sem]; done))
    have m2_1 : w2.cell? ⟨w.heap.size + 1, 1, none⟩ = some (.bool t) := (kc2 _ _ (by first | assumption | (simp; done) | omega | (simp; omega))).trans (by first | assumption | (simp [go_sem]; done))
    have v2_1 : w2.frozen? ⟨w.heap.size + 1, 1, none⟩ = false := (kf2 _ _ (by first | assumption | (simp; done) | omega | (simp; omega))).trans (by first | assumption | (simp [go_sem]; done))
    have m2_2 : w2.cell? ⟨w.heap.size, 0, none⟩ = some (.slice A1 l1.length c1) := (kc2 _ _ (by first | assumption | (simp; done) | omega | (simp; omega))).trans (by first | assumption | (simp [go_sem]; done))
    have v2_2 : w2.frozen? ⟨w.heap.size, 0, none⟩ = false := (kf2 _ _ (by first | assumption | (simp; done) | omega | (simp; omega))).trans (by first | assumption | (simp [go_sem]; done))
    have m2_3 : w2.cell? ⟨w.heap.size, 1, none⟩ = some (.bool s1) := (kc2 _ _ (by first | assumption | (simp; done) | omega | (simp; omega))).trans (by first | assumption | (simp [go_sem]; done))
    have v2_3 : w2.frozen? ⟨w.heap.size, 1, none⟩ = false := (kf2 _ _ (by first | assumption | (simp; done) | omega | (simp; omega))).trans (by first | assumption | (simp [go_sem]; done))
    clear kc2 kf2
    clear hb
    have p2 : 0 < l2.length := by rw [E2.out]; exact G1.pos
    go_wp2_with fail
    refine (counted_any B b d t w _ LB.out hcb HBB.out belo).mono ?_
    rintro e w3 ⟨l3, s3, A3, c3, E3, rfl, C3, O3, hb⟩
    replace O2 := hide ((show OwQ (w.heap.size + 3) _ A2 l2 by (repeat (first | with_reducible exact O2.out | with_reducible refine OwQ.far ?_ (by first | (simp; done) | omega | (simp; omega)) _ | with_reducible refine OwQ.allc ?_ _ | with_reducible refine OwQ.drew ?_ | with_reducible refine OwQ.drewN ?_ _))).kept hb)
    replace O1 := hide ((show RG w.heap.size (w.heap.size + 3) _ A1 l1 by (repeat (first | with_reducible exact O1.out | with_reducible refine RG.setc ?_ (by first | (simp; done) | omega | (simp; omega)) (by first | (simp; done) | omega | (simp; omega)) _ | with_reducible refine RG.allc ?_ _ | with_reducible refine RG.drew ?_ | with_reducible refine RG.drewN ?_ _))).kept hb)
    replace O3 := hide (O3.out.lower (show w.heap.size + 3 ≤ _ by first | omega | (simp; omega) | (simp; done)))
    have hB3 : Below w.heap.size w w3 := Below.trans belo (hb.mono (by first | omega | (simp; done) | (simp; omega)))
    obtain ⟨kc3, kf3⟩ := bcell hb
    have hz3 := hb.size
    (try simp at hz3)
    have n3_0 : w.heap.size < w3.heap.size := by omega
    have n3_1 : w.heap.size + 1 < w3.heap.size := by omega
    have n3_2 : w.heap.size + 2 < w3.heap.size := by omega
    have r3_0 : w3.cell? ⟨w.heap.size + 2, 0, none⟩ = some (.slice none 0 0) := (kc3 _ _ (by first | assumption | (simp; done) | omega | (simp; omega))).trans (by first | assumption | (simp [go_sem]; done) | (simp; done))
    have g3_0 : w3.frozen? ⟨w.heap.size + 2, 0, none⟩ = false := (kf3 _ _ (by first | assumption | (simp; done) | omega | (simp; omega))).trans (by first | assumption | (simp [go_sem]; done) | (simp; done))
    have r3_1 : w3.cell? ⟨w.heap.size + 2, 1, none⟩ = some (.bool false) := (kc3 _ _ (by first | assumption | (simp; done) | omega | (simp; omega))).trans (by first | assumption | (simp [go_sem]; done) | (simp; done))
    have g3_1 : w3.frozen? ⟨w.heap.size + 2, 1, none⟩ = false := (kf3 _ _ (by first | assumption | (simp; done) | omega | (simp; omega))).trans (by first | assumption | (simp [go_sem]; done) | (simp; done))
    have m3_0 : w3.cell? ⟨w.heap.size + 1, 0, none⟩ = some (.slice B b.length d) := (kc3 _ _ (by first | assumption | (simp; done) | omega | (simp; omega))).trans (by first | assumption | (simp [go_sem]; done))
    have v3_0 : w3.frozen? ⟨w.heap.size + 1, 0, none⟩ = false := (kf3 _ _ (by first | assumption | (simp; done) | omega | (simp; omega))).trans (by first | assumption | (simp [go_sem]; done))
    have m3_1 : w3.cell? ⟨w.heap.size + 1, 1, none⟩ = some (.bool t) := (kc3 _ _ (by first | assumption | (simp; done) | omega | (simp; omega))).trans (by first | assumption | (simp [go_sem]; done))
    have v3_1 : w3.frozen? ⟨w.heap.size + 1, 1, none⟩ = false := (kf3 _ _ (by first | assumption | (simp; done) | omega | (simp; omega))).trans (by first | assumption | (simp [go_sem]; done))
    have m3_2 : w3.cell? ⟨w.heap.size, 0, none⟩ = some (.slice A1 l1.length c1) := (kc3 _ _ (by first | assumption | (simp; done) | omega | (simp; omega))).trans (by first | assumption | (simp [go_sem]; done))
    have v3_2 : w3.frozen? ⟨w.heap.size, 0, none⟩ = false := (kf3 _ _ (by first | assumption | (simp; done) | omega | (simp; omega))).trans (by first | assumption | (simp [go_sem]; done))
    have m3_3 : w3.cell? ⟨w.heap.size, 1, none⟩ = some (.bool s1) := (kc3 _ _ (by first | assumption | (simp; done) | omega | (simp; omega))).trans (by first | assumption | (simp [go_sem]; done))
    have v3_3 : w3.frozen? ⟨w.heap.size, 1, none⟩ = false := (kf3 _ _ (by first | assumption | (simp; done) | omega | (simp; omega))).trans (by first | assumption | (simp [go_sem]; done))
    clear kc3 kf3
    clear hb
    have G3 : Gd l3 := by have h := cnt_gd (v := ⟨b, t⟩) YB.out; rw [← E3.out] at h; exact h
    have u3 := G3.le
    have p3 := G3.pos
    obtain ⟨g2, e2, hg2, hlt2⟩ := O2.out.lt p2
    go_wp2_with fail
    refine (resized_q A3 l3 c3 k s3 _ p3 (by omega) (by omega) (by refine RG.rd (B0 := w.heap.size) (B1 := w.heap.size + 3) ?_; (repeat (first | with_reducible exact O3.out | with_reducible refine RG.setc ?_ (by first | (simp; done) | omega | (simp; omega)) (by first | (simp; done) | omega | (simp; omega)) _ | with_reducible refine RG.allc ?_ _ | with_reducible refine RG.drew ?_ | with_reducible refine RG.drewN ?_ _)))).mono ?_
    rintro e w4 ⟨l4, A4, c4, E4, rfl, C4, O4, hb⟩
    replace O2 := hide ((show OwQ (w.heap.size + 3) _ A2 l2 by (repeat (first | with_reducible exact O2.out | with_reducible refine OwQ.far ?_ (by first | (simp; done) | omega | (simp; omega)) _ | with_reducible refine OwQ.allc ?_ _ | with_reducible refine OwQ.drew ?_ | with_reducible refine OwQ.drewN ?_ _))).kept hb)
    replace O1 := hide ((show RG w.heap.size (w.heap.size + 3) _ A1 l1 by (repeat (first | with_reducible exact O1.out | with_reducible refine RG.setc ?_ (by first | (simp; done) | omega | (simp; omega)) (by first | (simp; done) | omega | (simp; omega)) _ | with_reducible refine RG.allc ?_ _ | with_reducible refine RG.drew ?_ | with_reducible refine RG.drewN ?_ _))).kept hb)
    replace O3 := hide ((show RG w.heap.size (w.heap.size + 3) _ A3 l3 by (repeat (first | with_reducible exact O3.out | with_reducible refine RG.setc ?_ (by first | (simp; done) | omega | (simp; omega)) (by first | (simp; done) | omega | (simp; omega)) _ | with_reducible refine RG.allc ?_ _ | with_reducible refine RG.drew ?_ | with_reducible refine RG.drewN ?_ _))).kept hb)
    have e4 := hide (show l4 = rsz ⟨l3, s3⟩ k from E4.out)
    have q4 : l4.length = k := by rw [e4.out]; exact ql_length _ _
    obtain ⟨g4, e5, hg4, hlt4⟩ := O4.out.lt (by omega)
    have hne : g2 ≠ g4 := by omega
    replace O4 := hide (O4.out.base (show w.heap.size + 3 ≤ _ by first | omega | (simp; omega) | (simp; done)))
    have hB4 : Below w.heap.size w w4 := Below.trans belo (hb.mono (by first | omega | (simp; done) | (simp; omega)))
    obtain ⟨kc4, kf4⟩ := bcell hb
    have hz4 := hb.size
    (try simp at hz4)
    have n4_0 : w.heap.size < w4.heap.size := by omega
    have n4_1 : w.heap.size + 1 < w4.heap.size := by omega
    have n4_2 : w.heap.size + 2 < w4.heap.size := by omega
    have r4_0 : w4.cell? ⟨w.heap.size + 2, 0, none⟩ = some (.slice none 0 0) := (kc4 _ _ (by first | assumption | (simp; done) | omega | (simp; omega))).trans (by first | assumption | (simp [go_sem]; done) | (simp; done))
    have g4_0 : w4.frozen? ⟨w.heap.size + 2, 0, none⟩ = false := (kf4 _ _ (by first | assumption | (simp; done) | omega | (simp; omega))).trans (by first | assumption | (simp [go_sem]; done) | (simp; done))
    have r4_1 : w4.cell? ⟨w.heap.size + 2, 1, none⟩ = some (.bool false) := (kc4 _ _ (by first | assumption | (simp; done) | omega | (simp; omega))).trans (by first | assumption | (simp [go_sem]; done) | (simp; done))
    have g4_1 : w4.frozen? ⟨w.heap.size + 2, 1, none⟩ = false := (kf4 _ _ (by first | assumption | (simp; done) | omega | (simp; omega))).trans (by first | assumption | (simp [go_sem]; done) | (simp; done))
    have m4_0 : w4.cell? ⟨w.heap.size + 1, 0, none⟩ = some (.slice B b.length d) := (kc4 _ _ (by first | assumption | (simp; done) | omega | (simp; omega))).trans (by first | assumption | (simp [go_sem]; done))
    have v4_0 : w4.frozen? ⟨w.heap.size + 1, 0, none⟩ = false := (kf4 _ _ (by first | assumption | (simp; done) | omega | (simp; omega))).trans (by first | assumption | (simp [go_sem]; done))
    have m4_1 : w4.cell? ⟨w.heap.size + 1, 1, none⟩ = some (.bool t) := (kc4 _ _ (by first | assumption | (simp; done) | omega | (simp; omega))).trans (by first | assumption | (simp [go_sem]; done))
    have v4_1 : w4.frozen? ⟨w.heap.size + 1, 1, none⟩ = false := (kf4 _ _ (by first | assumption | (simp; done) | omega | (simp; omega))).trans (by first | assumption | (simp [go_sem]; done))
    have m4_2 : w4.cell? ⟨w.heap.size, 0, none⟩ = some (.slice A1 l1.length c1) := (kc4 _ _ (by first | assumption | (simp; done) | omega | (simp; omega))).trans (by first | assumption | (simp [go_sem]; done))
    have v4_2 : w4.frozen? ⟨w.heap.size, 0, none⟩ = false := (kf4 _ _ (by first | assumption | (simp; done) | omega | (simp; omega))).trans (by first | assumption | (simp [go_sem]; done))
    have m4_3 : w4.cell? ⟨w.heap.size, 1, none⟩ = some (.bool s1) := (kc4 _ _ (by first | assumption | (simp; done) | omega | (simp; omega))).trans (by first | assumption | (simp [go_sem]; done))
    have v4_3 : w4.frozen? ⟨w.heap.size, 1, none⟩ = false := (kf4 _ _ (by first | assumption | (simp; done) | omega | (simp; omega))).trans (by first | assumption | (simp [go_sem]; done))
    clear kc4 kf4
    clear hb
    obtain ⟨g2a, ea, hB2a, row2⟩ := O2.out p2
    obtain rfl : g2 = g2a := by rw [e2] at ea; injection ea with ea; injection ea
    obtain ⟨g4a, eb, hB4a, row4⟩ := O4.out (by omega)
    obtain rfl : g4 = g4a := by rw [e5] at eb; injection eb with eb; injection eb
    clear O1 O2 O3 O4 ea eb
    subst e2
    subst e5
    have el := E2.out.symm
    subst el
    have hcell : ∀ o : Nat, o < k → w4.cell? ⟨g4, o, none⟩ = some (.int .u8 (qt l4 o)) := fun o ho => row4.cell (by omega)
    have HR2 := hide row2
    have HC4 := hide hcell
    have HB4 := hide hB4
    clear row2 row4 hcell hB4 hB2 hB3 BW
    rcases (show 0 ≤ lo ∨ lo < 0 by omega) with hl | hl
    · obtain ⟨q, rfl⟩ : ∃ q : Nat, lo = q := ⟨lo.toNat, by omega⟩
      go_wp2_with fail
      go_loopw [14] (fun i wr => ∃ j : Nat, (q : Int) ≤ j ∧ i = .int .i64 j ∧ PutQ w w4 g2 l1.length (ptd l1 l4 q k j) wr) (fun i _ => l1.length - (intOf i).toNat)
      case atStart => exact ⟨q, by omega, rfl, (PutQ.start HR2.out HB4.out).congr fun i _ => (ptd_start (by omega) i).symm⟩
      case round =>
        obtain ⟨j, hj, rfl, hR⟩ := hrel
        have hRH := hide hR
        by_cases hlt : (j : Int) ≤ hi ∧ j < l1.length
        · obtain ⟨h5, h6⟩ := hlt
          obtain ⟨z, hz⟩ : ∃ z : Nat, (j : Int) - q = z := ⟨((j : Int) - q).toNat, by omega⟩
          have hzk : z < k := by omega
          have hzl : (z : Int) < (l4.length : Int) := by omega
          have hzn : z < l4.length := by omega
          have hz0 : (0 : Int) ≤ (j : Int) - q := by omega
          have hz1 : (j : Int) - q < (l4.length : Int) := by omega
          have hcp : wr.cell? ⟨g4, z, none⟩ = some (.int .u8 (qt l4 z)) := (hR.cell (p := ⟨g4, z, none⟩) (fun e => hne e.symm)).trans (HC4.out z hzk)
          have hcg : wr.cell? ⟨g2, j, none⟩ = some (.int .u8 (ptd l1 l4 q k j j)) := hR.row.cell h6
          have hfr : wr.frozen? ⟨g2, j, none⟩ = false := hR.row.free j
          clear hR
          rcases Classical.em ((l1.length : Int) - 1 < hi) with hmn | hmn
          all_goals
            go_wp2
            go_roundw
            case rel => exact ⟨j + 1, by omega, by go_num, (hRH.out.step (by omega) j _).congr fun i _ => by have e : z = ((j : Int) - q).toNat := (by omega); rw [e]; exact ptd_step (by omega) (by omega) i⟩
            case measure => simp [intOf]; omega
        · have hm1 : wr.cell? ⟨w.heap.size, 1, none⟩ = some (.bool s1) := (hR.cell (p := ⟨w.heap.size, 1, none⟩) (by show w.heap.size ≠ g2; omega)).trans m4_3
          have hr0 : wr.cell? ⟨w.heap.size + 2, 0, none⟩ = some (.slice none 0 0) := (hR.cell (p := ⟨w.heap.size + 2, 0, none⟩) (by show w.heap.size + 2 ≠ g2; omega)).trans r4_0
          have hr1 : wr.cell? ⟨w.heap.size + 2, 1, none⟩ = some (.bool false) := (hR.cell (p := ⟨w.heap.size + 2, 1, none⟩) (by show w.heap.size + 2 ≠ g2; omega)).trans r4_1
          have hs0 : wr.frozen? ⟨w.heap.size + 2, 0, none⟩ = false := (hR.frozen (p := ⟨w.heap.size + 2, 0, none⟩) (by show w.heap.size + 2 ≠ g2; omega)).trans g4_0
          have hs1 : wr.frozen? ⟨w.heap.size + 2, 1, none⟩ = false := (hR.frozen (p := ⟨w.heap.size + 2, 1, none⟩) (by show w.heap.size + 2 ≠ g2; omega)).trans g4_1
          have hBr : Below w.heap.size w wr := hR.bel
          have hsz : wr.heap.size = w4.heap.size := hR.size
          have OR : OwQ (w.heap.size + 3) wr (some ⟨g2, 0, none⟩) (ql l1.length (ptd l1 l4 q k (hi + 1))) := OwQ.of_row (by rw [ql_length]; exact hR.row.congr fun i hi2 => by rw [qt_ql_lt hi2]; exact ptd_end (by omega) (by omega) i hi2) (by omega)
          replace OR := hide OR
          clear hR
          have h5 : ¬ ((j : Int) ≤ hi ∧ (j : Int) ≤ (l1.length : Int) - 1) := by omega
          rcases Classical.em ((l1.length : Int) - 1 < hi) with hmn | hmn
          all_goals
            have h6 : ¬ ((j : Int) ≤ (if (l1.length : Int) - 1 < hi then (l1.length : Int) - 1 else hi)) := by split <;> omega
            first | rw [if_pos hmn] at h6 | rw [if_neg hmn] at h6
            clear hlt h5
            go_wp2
            refine bodyPost_ret (v := .tuple #[.agg #[.slice (some ⟨g2, 0, none⟩) l1.length c2, .bool s1], .int .i64 0]) (by simp [results, Tryz.results31, go_sem, *]) rfl ?_
            exact ⟨ql l1.length (ptd l1 l4 q k (hi + 1)), s1, some ⟨g2, 0, none⟩, c2, hide (by rw [if_pos rfl, ← E1.out, ← E3.out, ← e4.out]), by rw [ql_length], by rw [ql_length]; exact C2, hide (OwQ.base (B := w.heap.size + 3) (by (repeat (first | with_reducible exact OR.out | with_reducible refine OwQ.far ?_ (by first | (simp; done) | omega | (simp; omega)) _ | with_reducible refine OwQ.allc ?_ _ | with_reducible refine OwQ.drew ?_ | with_reducible refine OwQ.drewN ?_ _))) (by omega)), belo⟩
    · have hl2 := hl
      go_wp2_with fail
      go_loopw [14] (fun i wr => ∃ j : Nat, lo ≤ j ∧ i = .int .i64 j ∧ PutQ w w4 g2 l1.length (ptd l1 l4 lo k j) wr) (fun i _ => l1.length - (intOf i).toNat)
      case atStart => exact ⟨0, by omega, rfl, (PutQ.start HR2.out HB4.out).congr fun i _ => (ptd_start (by omega) i).symm⟩
      case round =>
        obtain ⟨j, hj, rfl, hR⟩ := hrel
        have hRH := hide hR
        by_cases hlt : (j : Int) ≤ hi ∧ j < l1.length
        · obtain ⟨h5, h6⟩ := hlt
          obtain ⟨z, hz⟩ : ∃ z : Nat, (j : Int) - lo = z := ⟨((j : Int) - lo).toNat, by omega⟩
          have hzk : z < k := by omega
          have hzl : (z : Int) < (l4.length : Int) := by omega
          have hzn : z < l4.length := by omega
          have hz0 : (0 : Int) ≤ (j : Int) - lo := by omega
          have hz1 : (j : Int) - lo < (l4.length : Int) := by omega
          have hcp : wr.cell? ⟨g4, z, none⟩ = some (.int .u8 (qt l4 z)) := (hR.cell (p := ⟨g4, z, none⟩) (fun e => hne e.symm)).trans (HC4.out z hzk)
          have hcg : wr.cell? ⟨g2, j, none⟩ = some (.int .u8 (ptd l1 l4 lo k j j)) := hR.row.cell h6
          have hfr : wr.frozen? ⟨g2, j, none⟩ = false := hR.row.free j
          clear hR
          rcases Classical.em ((l1.length : Int) - 1 < hi) with hmn | hmn
          all_goals
            go_wp2
            go_roundw
            case rel => exact ⟨j + 1, by omega, by go_num, (hRH.out.step (by omega) j _).congr fun i _ => by have e : z = ((j : Int) - lo).toNat := (by omega); rw [e]; exact ptd_step (by omega) (by omega) i⟩
            case measure => simp [intOf]; omega
        · have hm1 : wr.cell? ⟨w.heap.size, 1, none⟩ = some (.bool s1) := (hR.cell (p := ⟨w.heap.size, 1, none⟩) (by show w.heap.size ≠ g2; omega)).trans m4_3
          have hr0 : wr.cell? ⟨w.heap.size + 2, 0, none⟩ = some (.slice none 0 0) := (hR.cell (p := ⟨w.heap.size + 2, 0, none⟩) (by show w.heap.size + 2 ≠ g2; omega)).trans r4_0
          have hr1 : wr.cell? ⟨w.heap.size + 2, 1, none⟩ = some (.bool false) := (hR.cell (p := ⟨w.heap.size + 2, 1, none⟩) (by show w.heap.size + 2 ≠ g2; omega)).trans r4_1
          have hs0 : wr.frozen? ⟨w.heap.size + 2, 0, none⟩ = false := (hR.frozen (p := ⟨w.heap.size + 2, 0, none⟩) (by show w.heap.size + 2 ≠ g2; omega)).trans g4_0
          have hs1 : wr.frozen? ⟨w.heap.size + 2, 1, none⟩ = false := (hR.frozen (p := ⟨w.heap.size + 2, 1, none⟩) (by show w.heap.size + 2 ≠ g2; omega)).trans g4_1
          have hBr : Below w.heap.size w wr := hR.bel
          have hsz : wr.heap.size = w4.heap.size := hR.size
          have OR : OwQ (w.heap.size + 3) wr (some ⟨g2, 0, none⟩) (ql l1.length (ptd l1 l4 lo k (hi + 1))) := OwQ.of_row (by rw [ql_length]; exact hR.row.congr fun i hi2 => by rw [qt_ql_lt hi2]; exact ptd_end (by omega) (by omega) i hi2) (by omega)
          replace OR := hide OR
          clear hR
          have h5 : ¬ ((j : Int) ≤ hi ∧ (j : Int) ≤ (l1.length : Int) - 1) := by omega
          rcases Classical.em ((l1.length : Int) - 1 < hi) with hmn | hmn
          all_goals
            have h6 : ¬ ((j : Int) ≤ (if (l1.length : Int) - 1 < hi then (l1.length : Int) - 1 else hi)) := by split <;> omega
            first | rw [if_pos hmn] at h6 | rw [if_neg hmn] at h6
            clear hlt h5
            go_wp2
            refine bodyPost_ret (v := .tuple #[.agg #[.slice (some ⟨g2, 0, none⟩) l1.length c2, .bool s1], .int .i64 0]) (by simp [results, Tryz.results31, go_sem, *]) rfl ?_
            exact ⟨ql l1.length (ptd l1 l4 lo k (hi + 1)), s1, some ⟨g2, 0, none⟩, c2, hide (by rw [if_pos rfl, ← E1.out, ← E3.out, ← e4.out]), by rw [ql_length], by rw [ql_length]; exact C2, hide (OwQ.base (B := w.heap.size + 3) (by (repeat (first | with_reducible exact OR.out | with_reducible refine OwQ.far ?_ (by first | (simp; done) | omega | (simp; omega)) _ | with_reducible refine OwQ.allc ?_ _ | with_reducible refine OwQ.drew ?_ | with_reducible refine OwQ.drewN ?_ _))) (by omega)), belo⟩
  · rw [if_neg h0] at hcall
    go_enter Tryz.func31, Tryz.ntmps31
    go_wp2_with fail
    refine (hcall.out _).mono ?_
    rintro e w' ⟨rfl, rfl⟩
    go_wp2
    refine bodyPost_ret (v := .tuple #[.agg #[.slice none 0 0, .bool false], .int .i64 r]) (by simp [results, Tryz.results31, go_sem, *]) rfl ?_
    exact ⟨[], false, none, 0, hide (by rw [if_neg h0]; exact ⟨rfl, rfl⟩), rfl, hide ⟨Nat.le_refl _, by simp [maxLen]⟩, hide (fun h => absurd h (by simp)), belo⟩
end
section
open Go Go.RowKit
set_option maxRecDepth 100000
set_option linter.unusedSimpArgs false
set_option linter.unusedVariables false
section
variable {P : Program} {ops : Array Oper} {Q : Exit → Act → World → Prop} {S : World → Prop} {n fuel m k : Nat} {E : Env} {w : World}
def ganyE (P : Program) (ops : Array Oper) (Q : Exit → Act → World → Prop) (S : World → Prop) (n fuel m k : Nat) (E : Env) (w : World) : Prop :=
  anyT P .any ops Q S n fuel (lsm ops.size m) (sl k E) w
def ganyR (P : Program) (ops : Array Oper) (Q : Exit → Act → World → Prop) (S : World → Prop) (n fuel m k : Nat) (E : Env) (w : World) : Prop :=
  S w → HeadInv .any ops n (lsm ops.size m) → ganyE P ops Q S n fuel m k E w
theorem gregion {id n N k : Nat} {E : Env} {w : World} (S : World → Prop) (hm : P.follows .mixedOrders = true) (hN : ops.size = N) (ns : Region.noSelect ops = true) (sk : Region.sinkB .any ops n = true) (ch : Region.chainB .any ops n = true) (lt : Nat.blt n N = true) (hS : S w.drew)
    (hQ : ∀ c a d v w, Q (.panic c) (Act.put a (some d) v) w → Q (.panic c) a w) (h : Rg ops n → (∀ c a d v w, Q (.panic c) (Act.put a (some d) v) w → Q (.panic c) a w) → ganyR P ops Q S n N 0 k E w.drew) : (Code.region id ops true).wp P Q (sl k E) w := by
  refine region_anyT (S := S) (n := n) hm hS fun hS inv => ?_
  rw [lsm_zero] at inv ⊢
  subst hN
  exact h (Rg.of ns sk ch (Nat.le_of_ble_eq_true lt)) hQ hS inv
theorem gany_val {i d m' : Nat} {o : Oper} {v : Value} (F : Rg ops n) (hQ : ∀ c a d v w, Q (.panic c) (Act.put a (some d) v) w → Q (.panic c) a w) (hi : ops[i]? = some o) (hd : o.dst = some d) (hin : Nat.blt i n = true) (hf : freeB ops ops.size m i o = true) (hr : rdyB ops ops.size m i = true)
    (hw : wnt ops k E o = true) (hm : Nat.lor m (Nat.shiftLeft 1 i) = m') (hy : ∀ w', S w' → (execOp (evl k E) o).run P w' = .ok (.value v) w') (h : ganyR P ops Q S n fuel m' k ((d, v) :: E) w) : ganyR P ops Q S n (fuel + 1) m k E w := fun hS inv => by
  unfold ganyE
  have hin' : i < n := Nat.le_of_ble_eq_true hin
  refine anyT_takeR F hi hin' (freeB_spec hi hf) (by simpa using rdyB_iff.1 hr) inv (v := v) ?_ (Or.inl ⟨by rw [wanted_sl]; exact hw, fun w' hw' => by rw [eval_sl]; exact hy w' hw'⟩) hS fun inv' => ?_
  · intro c a w hq
    rw [hd] at hq
    exact hQ _ _ _ _ _ hq
  · rw [lsm_set, show m ||| 1 <<< i = m' from hm] at inv' ⊢
    rw [hd, put_sl]
    exact h hS inv'
/-- An operation's turn has come: what is left to show. -/
def GStep (P : Program) (ops : Array Oper) (Q : Exit → Act → World → Prop) (S : World → Prop) (n fuel m k : Nat) (E : Env) (w : World) (i : Nat) : Prop :=
  S w → HeadInv .any ops n (lsm ops.size m) → i ∈ Region.ready .any ops (lsm ops.size m) → wpOp P ops Q i (fun a' w' => (i < n → S w') ∧ anyT P .any ops Q S n fuel ((lsm ops.size m).setIfInBounds i true) a' w') (sl k E) w
theorem gany_one {i : Nat} (hr : onlyB ops ops.size m i = true) (h : GStep P ops Q S n fuel m k E w i) : ganyR P ops Q S n (fuel + 1) m k E w := fun hS inv => by
  unfold ganyE
  obtain ⟨h1, h2⟩ := onlyB_spec hr
  refine ⟨fun h0 => (by rw [h0] at h1; cases h1), fun j hj => ?_⟩
  obtain rfl := h2 j hj
  exact h hS inv hj
theorem gstep_val {i d m' : Nat} {o : Oper} {v : Value} {w' : World} (hi : ops[i]? = some o) (hd : o.dst = some d) (hin : Nat.blt i n = true) (hw : wnt ops k E o = true) (hm : Nat.lor m (Nat.shiftLeft 1 i) = m')
    (hr : (execOp (evl k E) o).run P w = .ok (.value v) w') (hb : S w → S w') (h : ganyR P ops Q S n fuel m' k ((d, v) :: E) w') : GStep P ops Q S n fuel m k E w i := fun hS inv hj => by
  have hin' : i < n := Nat.le_of_ble_eq_true hin
  refine wpOp_step hi fun K hK => ?_
  rw [wanted_sl, hw, if_pos rfl]
  unfold Oper.wp
  rw [eval_sl, hr, Oper.upon_value]
  have hS' := hb hS
  refine hK _ _ ⟨fun _ => hS', ?_⟩
  have inv' := inv.set hj hin'
  rw [lsm_set, show m ||| 1 <<< i = m' from hm] at inv' ⊢
  rw [hd, put_sl]
  exact h hS' inv'
theorem gany_e (h : ganyE P ops Q S n fuel m k E w) : ganyR P ops Q S n fuel m k E w := fun _ _ => h
/-- The forced end: an operation that yields nothing (a store). -/
theorem gany_none {i m' : Nat} {o : Oper} {w' : World} (hi : ops[i]? = some o) (hd : o.dst = none) (ho : onlyB ops ops.size m i = true) (hw : wnt ops k E o = true) (hm : Nat.lor m (Nat.shiftLeft 1 i) = m')
    (hin : Nat.ble n i = true) (hr : (execOp (evl k E) o).run P w = .ok .skip w') (h : ganyE P ops Q S n fuel m' k E w') : ganyE P ops Q S n (fuel + 1) m k E w := by
  unfold ganyE
  obtain ⟨h1, h2⟩ := onlyB_spec ho
  refine ⟨fun h0 => (by rw [h0] at h1; cases h1), fun j hj => ?_⟩
  obtain rfl := h2 j hj
  refine wpOp_step hi fun K hK => ?_
  rw [wanted_sl, hw, if_pos rfl]
  unfold Oper.wp
  rw [eval_sl, hr, Oper.upon_skip]
  have hge : n ≤ j := Nat.le_of_ble_eq_true hin
  refine hK _ _ ⟨fun h0 => absurd h0 (by omega), ?_⟩
  rw [lsm_set, show m ||| 1 <<< j = m' from hm, hd]
  exact h
theorem gany_done (hr : noneB ops ops.size m = true) (h : Q .normal (sl k E) w) : ganyE P ops Q S n fuel m k E w := anyT_done (noneB_spec hr) h _
end
/-- A slice of bits that may be appended to. -/
structure OwnV (B : Nat) (A : Option Addr) (l : List Int) (c : Nat) (w : World) : Prop where
  own : w.ownsRow B 65 1 (.slice A l.length c) l.length (l.map (Value.int .u8))
theorem OwnV.nil (w : World) (B : Nat) : OwnV B none [] 0 w := ⟨owq_nil w B⟩
theorem OwnV.kept {B : Nat} {A : Option Addr} {l : List Int} {c : Nat} {w w' : World} (h : OwnV B A l c w) (hb : Below w.heap.size w w') : OwnV B A l c w' := ⟨ownsRow_kept h.own hb⟩
theorem OwnV.open_ {B : Nat} {A : Option Addr} {l : List Int} {c : Nat} {w : World} (h : OwnV B A l c w) : Hid (l.length ≤ c ∧ c ≤ maxLen) ∧ Hid (OwQ B w A l) := by
  obtain ⟨A', c', e, h1, h2, h3⟩ := owq_open h.own
  injection e with e1 _ e2
  subst e1
  subst e2
  exact ⟨hide ⟨h1, h2⟩, hide h3⟩
section
variable {Q : Exit → Act → World → Prop} {ops : Array Oper} {o o2 : Oper} {rest : List Oper} {x y x0 : Operand} {w : World} {n d d2 k m fuel i m' B c N : Nat} {E : Env} {A : Option Addr} {l : List Int} {z : Int} {s : Bool} {S : World → Prop} {ρ : Operand → Value}
theorem run_bs1 (ho : o.op = .buildSlice 22 1 #[(0, x)]) (hx : ρ x = .int .u8 z) : (execOp ρ o).run Tryz.prog w = .ok (.value (.slice (some ⟨w.heap.size, 0, none⟩) 1 1)) (w.alloc (.cells #[.int .u8 z] 65)) := by
  unfold execOp
  rw [ho]
  simp [go_sem, hx]
/-- In a drawn region: a bit is made a slice, and the slice is appended. -/
theorem gstep_app (H : OwnV B A l c w) (W : World) (hB : B ≤ w.heap.size) (hl : l.length ≤ 4096) (hA : ∀ w', Below w.heap.size w w' → S w → S w') (hSB : ∀ v v', Below B v v' → S v → S v')
    {j j' : Nat} (hi : ops[i]? = some o) (hd : o.dst = some d) (hin : Nat.blt i n = true) (hw : wnt ops k E o = true) (hm : Nat.lor m (Nat.shiftLeft 1 i) = m') (ho : o.op = .buildSlice 22 1 #[(0, x0)]) (h0 : evl k E x0 = .int .u8 z)
    (hon : onlyB ops ops.size m' j = true) (hj : ops[j]? = some o2) (hd2 : o2.dst = some d2) (hjn : Nat.blt j n = true) (hg2 : o2.guard = none) (hm2 : Nat.lor m' (Nat.shiftLeft 1 j) = j') (ho2 : o2.op = .call { callee := .builtin .append, args := #[x, y], argTypes := #[22, 22] }) (hx : ∀ u : Value, evl k ((d, u) :: E) x = .slice A l.length c) (hy : ∀ u : Value, evl k ((d, u) :: E) y = u)
    (h : ∀ (V : World) (A' : Option Addr) (c' : Nat), OwnV B A' (l ++ [z]) c' V → Below B w V → ganyR Tryz.prog ops Q S n fuel j' k ((d2, .slice A' (l ++ [z]).length c') :: (d, .slice (some ⟨w.heap.size, 0, none⟩) 1 1) :: E) V) : GStep Tryz.prog ops Q S n (fuel + 1) m k E w i := by
  refine gstep_val hi hd hin hw hm (run_bs1 ho h0) (hA _ ((Below.refl _ _).alloc (Nat.le_refl _) _)) (gany_one hon ?_)
  intro hS inv hj2
  have hjn' : j < n := Nat.le_of_ble_eq_true hjn
  refine wpOp_step hj fun K hK => ?_
  have ha : Below B w (w.alloc (.cells #[.int .u8 z] 65)) := (Below.refl _ _).alloc hB _
  refine step_append_q hg2 x y ho2 B (.slice A l.length c) l.length l (by rw [eval_sl]; exact hx _) (H.own.alloc _) (some ⟨w.heap.size, 0, none⟩) 1 1 [z] (by rw [eval_sl]; exact hy _) rfl (one_rq _ _) (by simp; omega) (by simp; omega) ?_
  intro v' w3 hown hb
  obtain ⟨A', c', e, -, -, -⟩ := owq_open hown
  subst e
  have e1 : l.length + 1 = (l ++ [z]).length := by simp
  rw [e1] at hown
  have hS3 : S w3 := hSB _ _ hb hS
  refine hK _ _ ⟨fun _ => hS3, ?_⟩
  have inv' := inv.set hj2 hjn'
  rw [lsm_set, show m' ||| 1 <<< j = j' from hm2] at inv' ⊢
  rw [hd2, put_sl]
  exact h w3 A' c' ⟨hown⟩ (ha.trans hb) hS3 inv'
end
end
section
open Go Go.RowKit
set_option maxRecDepth 100000
set_option linter.unusedSimpArgs false
set_option linter.unusedVariables false
section
variable {Q : Exit → Act → World → Prop} {ops : Array Oper} {o : Oper} {rest : List Oper} {x y : Operand} {w W : World} {N n d m c : Nat} {s : Bool} {E : Env} {A : Option Addr}
theorem wpl_al (hd : o.dst = some d) (hw : wnt ops n E o = true) (ho : o.op = .alloc 24)
    (h : ∀ (V : World) (N : Nat), Box N none 0 0 false V → w.heap.size ≤ N → Below w.heap.size w V → WL Tryz.prog ops Q rest n ((d, .pointer (some ⟨N, 0, none⟩)) :: E) V) : WL Tryz.prog ops Q (o :: rest) n E w :=
  wpl_val hd hw (run_alvec ho) (h _ _ (Box.boxed w none 0 0 false) (Nat.le_refl _) ((Below.refl _ _).alloc (Nat.le_refl _) _))
theorem run_ldsg {ρ : Operand → Value} (ho : o.op = .load 4 x) (hx : ρ x = .pointer (some ⟨N, 1, none⟩)) (B : Box N A m c s w) : (execOp ρ o).run Tryz.prog w = .ok (.value (.bool s)) w := by
  have h1 := B.c1
  unfold execOp
  rw [ho]
  simp only [hx]
  simp [go_sem, h1]
theorem wpl_ldsg (B : Box N A m c s w) (hd : o.dst = some d) (hw : wnt ops n E o = true) (ho : o.op = .load 4 x) (hx : evl n E x = .pointer (some ⟨N, 1, none⟩))
    (h : WL Tryz.prog ops Q rest n ((d, .bool s) :: E) w) : WL Tryz.prog ops Q (o :: rest) n E w := wpl_val hd hw (run_ldsg ho hx B) h
theorem ret_box {fn : Func} {R : Ending → World → Prop} (B : Box N A m c s w) (hf : fn.results = #[.cell d 24]) (hv : (bif Nat.blt d n then lk E d else undef) = .pointer (some ⟨N, 0, none⟩)) (h : R (.returned (vagg A m c s)) w) : bodyPost Tryz.prog fn R .ret (sl n E) w := by
  refine bodyPost_ret (v := vagg A m c s) ?_ rfl h
  have h0 := B.c0
  have h1 := B.c1
  unfold results
  rw [hf]
  simp only [go_sem, List.mapM_toArray, List.mapM_cons, List.mapM_nil]
  have e := tmps_sl n E d
  rw [hv] at e
  rw [Array.getD_eq_getD_getElem?] at e
  simp [go_sem, e, h0, h1]
theorem OwQ.std {B m2 c2 : Nat} {A2 : Option Addr} {s2 : Bool} {V : World} {l : List Int} (h : OwQ B w A l) (hb : ∀ {B : Nat}, B ≤ N → Below B w V) (hN : N < B) (hk : ∀ g, g ≠ N → V.heap[g]? = w.heap[g]?) : OwQ B V A l := fun hn => by
  obtain ⟨g, e, hB, cs, hg, hc⟩ := h hn
  exact ⟨g, e, hB, cs, by rw [hk g (by omega)]; exact hg, hc⟩
end
end
section
open Go Go.RowKit
set_option maxRecDepth 100000
set_option linter.unusedSimpArgs false
set_option linter.unusedVariables false
theorem Box.keptB {N n c B : Nat} {A : Option Addr} {s : Bool} {w w' : World} (h : Box N A n c s w) (hb : Below B w w') (hN : N < B) : Box N A n c s w' :=
  ⟨Nat.lt_of_lt_of_le h.lt hb.size, (hb.cell (p := ⟨N, 0, none⟩) hN).trans h.c0, (hb.cell (p := ⟨N, 1, none⟩) hN).trans h.c1, (hb.frozen (p := ⟨N, 0, none⟩) hN).trans h.f0, (hb.frozen (p := ⟨N, 1, none⟩) hN).trans h.f1⟩
theorem Box.drew' {N n c : Nat} {A : Option Addr} {s : Bool} {w : World} (h : Box N A n c s w) : Box N A n c s w.drew := ⟨h.lt, h.c0, h.c1, h.f0, h.f1⟩
theorem OwnV.drew' {B : Nat} {A : Option Addr} {l : List Int} {c : Nat} {w : World} (h : OwnV B A l c w) : OwnV B A l c w.drew := ⟨h.own⟩
theorem RQ.bitB {wo W : World} {A : Option Addr} {l : List Int} (h : RQ wo A l) (hV : Below wo.heap.size wo W) {B : Nat} (hB : wo.heap.size ≤ B) {i : Nat} (hi : i < l.length) : ∃ ad, A = some ad ∧ ∀ w', Below B W w' → w'.cell? (ad.add i) = some (.int .u8 (qt l i)) := by
  obtain ⟨ad, e, hl, hc⟩ := h.at_ hi
  exact ⟨ad, e, fun w' hb => (hb.cell (p := ad.add i) (by rw [block_of_add]; omega)).trans ((hV.cell (p := ad.add i) (by rw [block_of_add]; exact hl)).trans hc)⟩
section
variable {Q : Exit → Act → World → Prop} {ops : Array Oper} {o o2 : Oper} {rest : List Oper} {x y x0 : Operand} {w W V wo : World} {n d d2 B N m c m2 c2 : Nat} {E : Env} {A A2 : Option Addr} {l l' : List Int} {z : Int} {s s2 : Bool} {ρ : Operand → Value}
theorem run_stsl (ho : o.op = .store 22 x y) (hx : ρ x = .pointer (some ⟨N, 0, none⟩)) (hy : ρ y = .slice A2 m2 c2) (b : Box N A m c s w) : (execOp ρ o).run Tryz.prog w = .ok .skip (w.setCell ⟨N, 0, none⟩ (.slice A2 m2 c2)) := by
  have h0 := b.c0
  have h2 := b.f0
  unfold execOp
  rw [ho]
  simp only [hx, hy]
  simp [go_sem, h0, h2]
theorem fit_next (hV : Below wo.heap.size wo W) (hno : wo.heap.size ≤ N) (b : Box N A m c s W) (hb : Below (N + 1) W V) (H : OwnV (N + 1) A2 (l ++ [z]) c2 V) (hl : l ++ [z] = l') :
    Below wo.heap.size wo (V.setCell ⟨N, 0, none⟩ (.slice A2 (l ++ [z]).length c2)) ∧ ∃ A c, Box N A l'.length c s (V.setCell ⟨N, 0, none⟩ (.slice A2 (l ++ [z]).length c2)) ∧ OwnV (N + 1) A l' c (V.setCell ⟨N, 0, none⟩ (.slice A2 (l ++ [z]).length c2)) := by
  subst hl
  have bV := b.keptB hb (Nat.lt_succ_self _)
  refine ⟨(hV.trans (hb.mono (by omega))).setCell (by exact hno) _, A2, c2, ⟨by simpa using bV.lt, cset_eq bV.c0, cset_ne (by simp) bV.c1, fset bV.f0, fset bV.f1⟩, ⟨ownsRow_setCell_below H.own (by simp) _⟩⟩
theorem wpl_app1q (H : OwnV B A l c w) (hB : B ≤ w.heap.size) (hl : l.length ≤ 4096) (hd : o.dst = some d) (hg : o.guard = none) (ho : o.op = .buildSlice 22 1 #[(0, x0)]) (h0 : evl n E x0 = .int .u8 z)
    (hd2 : o2.dst = some d2) (hg2 : o2.guard = none) (ho2 : o2.op = .call { callee := .builtin .append, args := #[x, y], argTypes := #[22, 22] }) (hx : ∀ u : Value, evl n ((d, u) :: E) x = .slice A l.length c) (hy : ∀ u : Value, evl n ((d, u) :: E) y = u)
    (h : ∀ (V : World) (A' : Option Addr) (c' : Nat), OwnV B A' (l ++ [z]) c' V → Below B w V → WL Tryz.prog ops Q rest n ((d2, .slice A' (l ++ [z]).length c') :: (d, .slice (some ⟨w.heap.size, 0, none⟩) 1 1) :: E) V) : WL Tryz.prog ops Q (o :: o2 :: rest) n E w :=
  wpl_val hd (by unfold wnt; rw [hg]) (run_bs1 ho h0) ⟨wpList_append_q _ hg2 x y ho2 B (.slice A l.length c) l.length l (by rw [eval_sl]; exact hx _) (H.own.alloc _) (some ⟨w.heap.size, 0, none⟩) 1 1 [z] (by rw [eval_sl]; exact hy _) rfl (one_rq _ _) (by simp; omega) (by simp; omega) (fun v' w' hown hb => by
    obtain ⟨A', c', e, -, -, -⟩ := owq_open hown
    subst e
    rw [hd2, put_sl]
    have e1 : l.length + 1 = (l ++ [z]).length := by simp
    rw [e1] at hown
    exact (h w' A' c' ⟨hown⟩ (((Below.refl _ _).alloc hB _).trans hb)).out)⟩
theorem wpl_stq (b : Box N A m c s w) (hd : o.dst = none) (hw : wnt ops n E o = true) (ho : o.op = .store 24 x y) (hx : evl n E x = .pointer (some ⟨N, 0, none⟩)) (hy : evl n E y = vagg A2 m2 c2 s2)
    (h : ∀ V : World, Box N A2 m2 c2 s2 V → (∀ g, g ≠ N → V.heap[g]? = w.heap[g]?) → (∀ {B : Nat}, B ≤ N → Below B w V) → WL Tryz.prog ops Q rest n E V) : WL Tryz.prog ops Q (o :: rest) n E w :=
  wpl_none hd hw (run_stbox ho hx hy b) (h _ b.st (fun g hg => by rw [heap_setCell_other _ _ _ _ hg, heap_setCell_other _ _ _ _ hg]) (fun hb => st_below hb))
end
end
section
open Go.RowKit
set_option maxRecDepth 100000
set_option linter.unusedSimpArgs false
set_option linter.unusedVariables false
theorem OwQ.low {B B' : Nat} {w : World} {A : Option Addr} {l : List Int} (h : OwQ B w A l) (hb : B' ≤ B) : OwQ B' w A l := fun hn => by
  obtain ⟨g, e, hB, hr⟩ := h hn
  exact ⟨g, e, by omega, hr⟩
set_option maxHeartbeats 4000000 in
theorem rfit_any (Aa : Option Addr) (la : List Int) (ca : Nat) (sa : Bool) (w : World) (ha : la.length ≤ 4096) (hca : Hid (la.length ≤ ca ∧ ca ≤ maxLen)) (hra : RQ w Aa la) (ya : By la) (n : Nat) (hn : n ≤ 4096) (h0 : 0 < la.length) :
    Calls Tryz.prog 103 #[.agg #[.slice Aa la.length ca, .bool sa], .int .i64 (n : Nat)] w (RetC (fun v => v = ⟨rsz ⟨la, sa⟩ n, sa⟩) w) := by
  have Oa := hide hra
  have La := hide ha
  have Ca := hca
  have Ya := hide ya
  clear ha hca hra ya
  obtain ⟨F, hF⟩ : ∃ F : Nat → Int, F = fun i => if i < la.length then qt la i else xt ⟨la, sa⟩ := ⟨_, rfl⟩
  have hF1 : ∀ i, i < la.length → F i = qt la i := fun i hi => by rw [hF]; exact if_pos hi
  have hF2 : ∀ i, la.length ≤ i → F i = xt ⟨la, sa⟩ := fun i hi => by rw [hF]; exact if_neg (by omega)
  have hR : ql n F = rsz ⟨la, sa⟩ n := by rw [hF]; rfl
  have hl4 := La.out
  obtain ⟨q, hq⟩ : ∃ q : Nat, q + 1 = la.length := ⟨la.length - 1, by omega⟩
  clear hF
  have hU : Below w.heap.size w w := Below.refl _ _
  refine calls_sl (l := [.agg #[.slice Aa la.length ca, .bool sa], .int .i64 ((n : Nat))]) 51 Tryz.func103 rfl (by kernel_rfl) (by simp) (wp_seq (reg_lit (wpl_boxvec (A := Aa) (m := la.length) (c := ca) (s := sa) rfl (by kernel_rfl) rfl (by kernel_rfl) ?_)))
  intro w1 Na Ba hNa hb
  replace Ba := hide Ba
  replace Oa := hide (RQ.below Oa.out hb)
  have hza : w.heap.size ≤ Na := Nat.le_trans hU.size hNa
  clear hNa
  replace hU := hU.trans (hb.mono hU.size)
  clear hb
  refine wpl_al rfl (by kernel_rfl) rfl ?_
  intro w2 Nr Br hNr hb
  replace Br := hide Br
  have near : Na ≠ Nr := by have := Ba.out.lt; omega
  replace Oa := hide (RQ.below Oa.out hb)
  replace Ba := hide (Box.kept Ba.out hb)
  have hzr : w.heap.size ≤ Nr := Nat.le_trans hU.size hNr
  clear hNr
  replace hU := hU.trans (hb.mono hU.size)
  clear hb
  refine sx_n (wpl_r1 [(7, .pointer (some ⟨Na, 1, none⟩))] (by kernel_rfl) (wpl_ldsg Ba.out rfl (by kernel_rfl) rfl (by kernel_rfl) (wpl_r1 [(9, .agg #[.slice none 0 0, .bool sa])] (by kernel_rfl) (wpl_made (A := none) (m := 0) (c := 0) (s := sa) rfl rfl rfl rfl rfl rfl (fun _ => by kernel_rfl) (fun _ => by kernel_rfl) ?_))))
  intro w1 No Bo hNo hV
  have hna : Na < No + 1 := by have := Ba.out.lt; omega
  have hnr : Nr < No + 1 := by have := Br.out.lt; omega
  refine wpl_end (then_normal (wp_seq (wp_seq (reg_lit (wpl_r1 [(6, .int .i64 0)] (by kernel_rfl) (wpl_end (then_normal ?_)))))))
  refine wp_block (loop_r (n + 1) ?_)
  refine loop_inv (N := n) (fun k E W => Kp [(6, .int .i64 (k : Nat)), (1, .int .i64 ((n : Nat))), (2, .pointer (some ⟨Na, 0, none⟩)), (4, .pointer (some ⟨Nr, 0, none⟩)), (5, .pointer (some ⟨No, 0, none⟩))] E ∧ Below w2.heap.size w2 W ∧ ∃ A c, Box No A (ql k F).length c sa W ∧ OwnV (No + 1) A (ql k F) c W) ?_ _ 0 _ _ (Nat.zero_le _) (by omega) ⟨Kp_c (by kernel_rfl) (Kp_c (by kernel_rfl) (Kp_c (by kernel_rfl) (Kp_c (by kernel_rfl) (Kp_c (by kernel_rfl) (Kp_n))))), hV, none, 0, Bo, OwnV.nil _ _⟩
  clear hV Bo
  intro k E W next hk hI hnext
  obtain ⟨hKp, hV, Ao, co, Bo, Ho⟩ := hI
  obtain ⟨lo, hlo⟩ : ∃ lo, lo = ql k F := ⟨_, rfl⟩
  rw [← hlo] at Bo Ho
  replace Bo := hide Bo
  replace Ho := hide Ho
  have hlk : lo.length = k := by rw [hlo, ql_length]
  have hlo4 : lo.length ≤ 4096 := by omega
  have hB : No + 1 ≤ W.heap.size := Bo.out.lt
  refine wp_keep _ hKp (fun X => ?_)
  clear hKp
  refine wp_seq (wp_seq ?_)
  rcases Nat.lt_or_ge k n with hlt | hge
  refine reg_lit (wpl_r2 [(11, .int .i64 ((n : Nat))), (10, .int .i64 ((k : Nat)))] (by kernel_rfl) (wpl_val rfl (by kernel_rfl) (run_lss (a := (k : Int)) (b := (n : Int)) rfl (by kernel_rfl) (by kernel_rfl) (decide_eq_true (by omega))) (wpl_end (then_normal (wp_ift (by kernel_rfl) (wp_skip (then_normal ?_)))))))
  refine wp_seq (wp_block (wp_seq ?_))
  rcases Nat.lt_or_ge k la.length with hka | hka
  refine reg_lit (wpl_r2 [(16, .pointer (some ⟨Na, 0, none⟩)), (15, .int .i64 ((k : Nat)))] (by kernel_rfl) ?_)
  refine wpl_ldsl (Ba.out.kept hV) rfl (by kernel_rfl) rfl (by kernel_rfl) ?_
  refine wpl_r1 [(18, .int .i64 ((la.length : Nat)))] (by kernel_rfl) (wpl_val rfl (by kernel_rfl) (run_lss (a := (k : Int)) (b := (la.length : Int)) rfl (by kernel_rfl) (by kernel_rfl) (decide_eq_true (by omega))) (wpl_end (then_normal (wp_ift (by kernel_rfl) ?_))))
  have hz : lo ++ [(qt la k)] = ql (k + 1) F := by rw [ql_snoc, ← hlo, hF1 k hka]
  obtain ⟨ad, hA, hc⟩ := RQ.bitB Oa.out hV (B := No + 1) (by omega) hka
  refine gregion (n := 10) (N := 11) (fun x => Below (No + 1) W x) (by kernel_rfl) (by kernel_rfl) (by kernel_rfl) (by kernel_rfl) (by kernel_rfl) (by kernel_rfl) (Below.refl _ _).drew (fun _ _ _ _ _ h => h) ?_
  intro Fr hQ
  refine gany_val (i := 0) (m' := 1) (v := .pointer (some ⟨No, 0, none⟩)) Fr hQ rfl rfl (by kernel_rfl) (by kernel_rfl) (by kernel_rfl) (by kernel_rfl) (by kernel_rfl) (fun _ hb => by kernel_rfl) ?_
  refine gany_val (i := 1) (m' := 3) (v := .slice Ao lo.length co) Fr hQ rfl rfl (by kernel_rfl) (by kernel_rfl) (by kernel_rfl) (by kernel_rfl) (by kernel_rfl) (fun _ hb => run_ldsl rfl (by kernel_rfl) (Box.keptB Bo.out hb (Nat.lt_succ_self _))) ?_
  refine gany_val (i := 2) (m' := 7) (v := .pointer (some ⟨Na, 0, none⟩)) Fr hQ rfl rfl (by kernel_rfl) (by kernel_rfl) (by kernel_rfl) (by kernel_rfl) (by kernel_rfl) (fun _ hb => by kernel_rfl) ?_
  refine gany_val (i := 3) (m' := 15) (v := .slice Aa la.length ca) Fr hQ rfl rfl (by kernel_rfl) (by kernel_rfl) (by kernel_rfl) (by kernel_rfl) (by kernel_rfl) (fun _ hb => run_ldsl rfl (by kernel_rfl) (Box.keptB (Ba.out.kept hV) hb hna)) ?_
  refine gany_val (i := 4) (m' := 31) (v := .int .i64 ((k : Nat))) Fr hQ rfl rfl (by kernel_rfl) (by kernel_rfl) (by kernel_rfl) (by kernel_rfl) (by kernel_rfl) (fun _ hb => by kernel_rfl) (gany_val (i := 5) (m' := 63) (v := .pointer (some (ad.add k))) Fr hQ rfl rfl (by kernel_rfl) (by kernel_rfl) (by kernel_rfl) (by kernel_rfl) (by kernel_rfl) (fun _ hb => run_ix (k := k) (m := la.length) (cc := ca) rfl (by kernel_rfl) hA (by kernel_rfl) hka) (gany_val (i := 6) (m' := 127) (v := .int .u8 ((qt la k))) Fr hQ rfl rfl (by kernel_rfl) (by kernel_rfl) (by kernel_rfl) (by kernel_rfl) (by kernel_rfl) (fun _ hb => run_ldbit rfl (by kernel_rfl) (hc _ hb)) (gany_one (i := 7) (by kernel_rfl) (gstep_app (j := 8) (m' := 255) (j' := 511) (z := (qt la k)) Ho.out.drew' W hB hlo4 (fun _ hb h => h.trans (hb.mono hB)) (fun _ _ hb h => h.trans hb) rfl rfl (by kernel_rfl) (by kernel_rfl) (by kernel_rfl) rfl (by kernel_rfl) (by kernel_rfl) rfl rfl (by kernel_rfl) rfl (by kernel_rfl) rfl (fun _ => by kernel_rfl) (fun _ => by kernel_rfl) ?_))))
  intro V A2 c2 Hv hb
  replace hb : Below (No + 1) W V := ((Below.refl _ _).drew).trans hb
  refine gany_val (i := 9) (m' := 1023) (v := .pointer (some ⟨No, 0, none⟩)) Fr hQ rfl rfl (by kernel_rfl) (by kernel_rfl) (by kernel_rfl) (by kernel_rfl) (by kernel_rfl) (fun _ hb => by kernel_rfl) (gany_e ?_)
  refine gany_none (i := 10) (m' := 2047) (w' := V.setCell ⟨No, 0, none⟩ (.slice A2 (lo ++ [(qt la k)]).length c2)) rfl rfl (by kernel_rfl) (by kernel_rfl) (by kernel_rfl) (by kernel_rfl) (run_stsl rfl (by kernel_rfl) (by kernel_rfl) (Bo.out.keptB hb (Nat.lt_succ_self _))) ?_
  refine gany_done (by kernel_rfl) ?_
  have HS := fit_next hV hNo Bo.out hb Hv hz
  clear Fr hQ
  refine block_normal (then_normal (reg_lit (wpl_r1 [(13, .int .i64 ((k : Nat)))] (by kernel_rfl) (wpl_val rfl (by kernel_rfl) (run_add (a := (k : Int)) (b := 1) (c := ((k + 1 : Int) : Int)) rfl (by kernel_rfl) (by kernel_rfl) (by omega) (by omega) (by omega)) (wpl_r1 [(6, .int .i64 (((k + 1 : Nat) : Int)))] (by kernel_rfl) (wpl_end ?_))))))
  refine then_normal (hnext _ _ hlt ⟨Kp_c (by kernel_rfl) (Kp_c (by kernel_rfl) (Kp_c (by kernel_rfl) (Kp_c (by kernel_rfl) (Kp_c (by kernel_rfl) (Kp_n))))), HS⟩)
  refine reg_lit (wpl_r2 [(16, .pointer (some ⟨Na, 0, none⟩)), (15, .int .i64 ((k : Nat)))] (by kernel_rfl) ?_)
  refine wpl_ldsl (Ba.out.kept hV) rfl (by kernel_rfl) rfl (by kernel_rfl) ?_
  refine wpl_r1 [(18, .int .i64 ((la.length : Nat)))] (by kernel_rfl) (wpl_val rfl (by kernel_rfl) (run_lss (a := (k : Int)) (b := (la.length : Int)) rfl (by kernel_rfl) (by kernel_rfl) (decide_eq_false (by omega))) (wpl_end (then_normal (wp_iff (by kernel_rfl) (wp_seq ?_)))))
  rcases Bool.eq_false_or_eq_true sa with hs | hs
  refine reg_lit (wpl_r1 [(30, .pointer (some ⟨Na, 1, none⟩))] (by kernel_rfl) ?_)
  refine wpl_ldsg (s := true) (by rw [← hs]; exact Ba.out.kept hV) rfl (by kernel_rfl) rfl (by kernel_rfl) ?_
  refine wpl_end (then_normal (wp_ift (by kernel_rfl) ?_))
  have hx : F k = qt la q := by rw [hF2 k hka]; unfold xt; simp only [hs, if_true]; rw [← hq]; rfl
  have hz : lo ++ [(qt la q)] = ql (k + 1) F := by rw [ql_snoc, ← hlo, hx]
  obtain ⟨ad, hA, hc⟩ := RQ.bitB Oa.out hV (B := No + 1) (by omega) (i := q) (by omega)
  refine gregion (n := 13) (N := 14) (fun x => Below (No + 1) W x) (by kernel_rfl) (by kernel_rfl) (by kernel_rfl) (by kernel_rfl) (by kernel_rfl) (by kernel_rfl) (Below.refl _ _).drew (fun _ _ _ _ _ h => h) ?_
  intro Fr hQ
  refine gany_val (i := 0) (m' := 1) (v := .pointer (some ⟨No, 0, none⟩)) Fr hQ rfl rfl (by kernel_rfl) (by kernel_rfl) (by kernel_rfl) (by kernel_rfl) (by kernel_rfl) (fun _ hb => by kernel_rfl) ?_
  refine gany_val (i := 1) (m' := 3) (v := .slice Ao lo.length co) Fr hQ rfl rfl (by kernel_rfl) (by kernel_rfl) (by kernel_rfl) (by kernel_rfl) (by kernel_rfl) (fun _ hb => run_ldsl rfl (by kernel_rfl) (Box.keptB Bo.out hb (Nat.lt_succ_self _))) ?_
  refine gany_val (i := 2) (m' := 7) (v := .pointer (some ⟨Na, 0, none⟩)) Fr hQ rfl rfl (by kernel_rfl) (by kernel_rfl) (by kernel_rfl) (by kernel_rfl) (by kernel_rfl) (fun _ hb => by kernel_rfl) ?_
  refine gany_val (i := 3) (m' := 15) (v := .slice Aa la.length ca) Fr hQ rfl rfl (by kernel_rfl) (by kernel_rfl) (by kernel_rfl) (by kernel_rfl) (by kernel_rfl) (fun _ hb => run_ldsl rfl (by kernel_rfl) (Box.keptB (Ba.out.kept hV) hb hna)) ?_
  refine gany_val (i := 4) (m' := 31) (v := .pointer (some ⟨Na, 0, none⟩)) Fr hQ rfl rfl (by kernel_rfl) (by kernel_rfl) (by kernel_rfl) (by kernel_rfl) (by kernel_rfl) (fun _ hb => by kernel_rfl) ?_
  refine gany_val (i := 5) (m' := 63) (v := .slice Aa la.length ca) Fr hQ rfl rfl (by kernel_rfl) (by kernel_rfl) (by kernel_rfl) (by kernel_rfl) (by kernel_rfl) (fun _ hb => run_ldsl rfl (by kernel_rfl) (Box.keptB (Ba.out.kept hV) hb hna)) ?_
  refine gany_val (i := 6) (m' := 127) (v := .int .i64 ((la.length : Nat))) Fr hQ rfl rfl (by kernel_rfl) (by kernel_rfl) (by kernel_rfl) (by kernel_rfl) (by kernel_rfl) (fun _ hb => by kernel_rfl) (gany_val (i := 7) (m' := 255) (v := .int .i64 ((q : Nat))) Fr hQ rfl rfl (by kernel_rfl) (by kernel_rfl) (by kernel_rfl) (by kernel_rfl) (by kernel_rfl) (fun _ hb => run_sub (a := (la.length : Int)) (b := 1) (c := (q : Int)) rfl (by kernel_rfl) (by kernel_rfl) (by omega) (by omega) (by omega)) (gany_val (i := 8) (m' := 511) (v := .pointer (some (ad.add q))) Fr hQ rfl rfl (by kernel_rfl) (by kernel_rfl) (by kernel_rfl) (by kernel_rfl) (by kernel_rfl) (fun _ hb => run_ix (k := q) (m := la.length) (cc := ca) rfl (by kernel_rfl) hA (by kernel_rfl) (by omega)) (gany_val (i := 9) (m' := 1023) (v := .int .u8 ((qt la q))) Fr hQ rfl rfl (by kernel_rfl) (by kernel_rfl) (by kernel_rfl) (by kernel_rfl) (by kernel_rfl) (fun _ hb => run_ldbit rfl (by kernel_rfl) (hc _ hb)) (gany_one (i := 10) (by kernel_rfl) (gstep_app (j := 11) (m' := 2047) (j' := 4095) (z := (qt la q)) Ho.out.drew' W hB hlo4 (fun _ hb h => h.trans (hb.mono hB)) (fun _ _ hb h => h.trans hb) rfl rfl (by kernel_rfl) (by kernel_rfl) (by kernel_rfl) rfl (by kernel_rfl) (by kernel_rfl) rfl rfl (by kernel_rfl) rfl (by kernel_rfl) rfl (fun _ => by kernel_rfl) (fun _ => by kernel_rfl) ?_)))))
  intro V A2 c2 Hv hb
  replace hb : Below (No + 1) W V := ((Below.refl _ _).drew).trans hb
  refine gany_val (i := 12) (m' := 8191) (v := .pointer (some ⟨No, 0, none⟩)) Fr hQ rfl rfl (by kernel_rfl) (by kernel_rfl) (by kernel_rfl) (by kernel_rfl) (by kernel_rfl) (fun _ hb => by kernel_rfl) (gany_e ?_)
  refine gany_none (i := 13) (m' := 16383) (w' := V.setCell ⟨No, 0, none⟩ (.slice A2 (lo ++ [(qt la q)]).length c2)) rfl rfl (by kernel_rfl) (by kernel_rfl) (by kernel_rfl) (by kernel_rfl) (run_stsl rfl (by kernel_rfl) (by kernel_rfl) (Bo.out.keptB hb (Nat.lt_succ_self _))) ?_
  refine gany_done (by kernel_rfl) ?_
  have HS := fit_next hV hNo Bo.out hb Hv hz
  clear Fr hQ
  refine block_normal (then_normal (reg_lit (wpl_r1 [(13, .int .i64 ((k : Nat)))] (by kernel_rfl) (wpl_val rfl (by kernel_rfl) (run_add (a := (k : Int)) (b := 1) (c := ((k + 1 : Int) : Int)) rfl (by kernel_rfl) (by kernel_rfl) (by omega) (by omega) (by omega)) (wpl_r1 [(6, .int .i64 (((k + 1 : Nat) : Int)))] (by kernel_rfl) (wpl_end ?_))))))
  refine then_normal (hnext _ _ hlt ⟨Kp_c (by kernel_rfl) (Kp_c (by kernel_rfl) (Kp_c (by kernel_rfl) (Kp_c (by kernel_rfl) (Kp_c (by kernel_rfl) (Kp_n))))), HS⟩)
  refine reg_lit (wpl_r1 [(30, .pointer (some ⟨Na, 1, none⟩))] (by kernel_rfl) ?_)
  refine wpl_ldsg (s := false) (by rw [← hs]; exact Ba.out.kept hV) rfl (by kernel_rfl) rfl (by kernel_rfl) ?_
  refine wpl_end (then_normal (wp_iff (by kernel_rfl) ?_))
  have hx : F k = 0 := by rw [hF2 k hka]; unfold xt; simp only [hs]; rfl
  have hz : lo ++ [0] = ql (k + 1) F := by rw [ql_snoc, ← hlo, hx]
  refine reg_lit (wpl_r1 [(45, .pointer (some ⟨No, 0, none⟩))] (by kernel_rfl) (wpl_ldsl Bo.out rfl (by kernel_rfl) rfl (by kernel_rfl) (wpl_app1q (z := 0) Ho.out hB hlo4 rfl rfl rfl (by kernel_rfl) rfl rfl rfl (fun _ => by kernel_rfl) (fun _ => by kernel_rfl) ?_)))
  intro V A2 c2 Hv hb
  refine wpl_r1 [(49, .pointer (some ⟨No, 0, none⟩))] (by kernel_rfl) ?_
  refine wpl_none (w' := V.setCell ⟨No, 0, none⟩ (.slice A2 (lo ++ [0]).length c2)) rfl (by kernel_rfl) (run_stsl rfl (by kernel_rfl) (by kernel_rfl) (Bo.out.keptB hb (Nat.lt_succ_self _))) ?_
  have HS := fit_next hV hNo Bo.out hb Hv hz
  refine wpl_end (block_normal (then_normal (reg_lit (wpl_r1 [(13, .int .i64 ((k : Nat)))] (by kernel_rfl) (wpl_val rfl (by kernel_rfl) (run_add (a := (k : Int)) (b := 1) (c := ((k + 1 : Int) : Int)) rfl (by kernel_rfl) (by kernel_rfl) (by omega) (by omega) (by omega)) (wpl_r1 [(6, .int .i64 (((k + 1 : Nat) : Int)))] (by kernel_rfl) (wpl_end ?_)))))))
  refine then_normal (hnext _ _ hlt ⟨Kp_c (by kernel_rfl) (Kp_c (by kernel_rfl) (Kp_c (by kernel_rfl) (Kp_c (by kernel_rfl) (Kp_c (by kernel_rfl) (Kp_n))))), HS⟩)
  refine reg_lit (wpl_r2 [(11, .int .i64 ((n : Nat))), (10, .int .i64 ((k : Nat)))] (by kernel_rfl) (wpl_val rfl (by kernel_rfl) (run_lss (a := (k : Int)) (b := (n : Int)) rfl (by kernel_rfl) (by kernel_rfl) (decide_eq_false (by omega))) (wpl_end (then_normal (wp_iff (by kernel_rfl) (wp_exit (then_exit ?_)))))))
  refine then_exit (exit_here (then_normal (wp_seq (reg_lit (wpl_ldvec Bo.out rfl (by kernel_rfl) rfl (by kernel_rfl) ?_)))))
  refine wpl_stq (A2 := Ao) (m2 := lo.length) (c2 := co) (s2 := sa) (Br.out.kept hV) rfl (by kernel_rfl) rfl (by kernel_rfl) (by kernel_rfl) ?_
  intro V Bq hkeep hbel
  refine wpl_end (then_normal (wp_ret (ret_box Bq rfl (by kernel_rfl) ?_)))
  obtain rfl : k = n := by omega
  exact ⟨lo, sa, Ao, co, hide (by rw [hlo, hR]), rfl, Ho.out.open_.1, hide (OwQ.low (OwQ.std (m2 := 0) (c2 := 0) (A2 := none) (s2 := false) Ho.out.open_.2.out hbel hnr hkeep) (by have := hU.size; omega)), (hU.trans (hV.mono hU.size)).trans (hbel hzr)⟩
end
section
open Go.RowKit
set_option maxRecDepth 100000
set_option linter.unusedSimpArgs false
set_option linter.unusedVariables false
/-- A slice of bools that may be appended to. -/
structure OwnB (B : Nat) (v : Value) (l : List Bool) (w : World) : Prop where
  own : w.ownsRow B 4 1 v l.length (l.map Value.bool)
theorem OwnB.kept {B : Nat} {v : Value} {l : List Bool} {w w' : World} (h : OwnB B v l w) (hb : Below w.heap.size w w') : OwnB B v l w' := ⟨ownsRow_kept h.own hb⟩
section
variable {P : Program} {Q : Exit → Act → World → Prop} {ops : Array Oper} {o o2 : Oper} {rest : List Oper} {x y : Operand} {w : World} {n d d2 : Nat} {E : Env} {ρ : Operand → Value}
end
end
section
open Go.RowKit
set_option maxRecDepth 100000
set_option linter.unusedSimpArgs false
set_option linter.unusedVariables false
section
variable {Q : Exit → Act → World → Prop} {ops : Array Oper} {o : Oper} {rest : List Oper} {x y : Operand} {w W : World} {A A2 : Option Addr} {N m c m2 c2 n d : Nat} {s s2 q : Bool} {E : Env}
end
theorem sep_of {B : Nat} {w w' : World} {A A2 : Option Addr} {l l2 : List Int} (h : OwQ B w A l) (k : OwQ w.heap.size w' A2 l2) (p : 0 < l.length) (q : 0 < l2.length) : Sep A A2 := fun g g2 e e2 => by
  obtain ⟨x, ex, hx, hr⟩ := h p
  obtain ⟨y, ey, hy, hr2⟩ := k q
  rw [e] at ex
  rw [e2] at ey
  injection ex with ex
  injection ex with ex
  injection ey with ey
  injection ey with ey
  have := hr.lt
  omega
end
section
open Go.RowKit
set_option maxRecDepth 100000
set_option linter.unusedSimpArgs false
set_option linter.unusedVariables false
theorem sg3 (s t : Bool) : s = false ∨ (s = true ∧ t = false) ∨ (s = true ∧ t = true) := by cases s <;> cases t <;> simp
end
section
open Go.RowKit
set_option maxRecDepth 100000
set_option linter.unusedSimpArgs false
set_option linter.unusedVariables false
theorem OwQ.box {B N m c : Nat} {w V : World} {A AA : Option Addr} {l : List Int} {s : Bool} (h : OwQ B w A l) (b : Box N AA m c s w) (hk : ∀ g, g ≠ N → V.heap[g]? = w.heap[g]?) : OwQ B V A l := fun hn => by
  obtain ⟨g, e, hB, hr⟩ := h hn
  have hg : g ≠ N := fun e => by
    subst e
    have h1 := hr.cell hn
    rw [b.c0] at h1
    cases h1
  refine ⟨g, e, hB, ?_⟩
  obtain ⟨cs, hc, hi⟩ := hr
  exact ⟨cs, by rw [hk g hg]; exact hc, hi⟩
theorem Box.off {N m c g n : Nat} {w : World} {AA : Option Addr} {s : Bool} {F : Nat → Int} (b : Box N AA m c s w) (hr : RowQ w g n F) (hn : 0 < n) : N ≠ g := fun e => by
  subst e
  have h1 := hr.cell hn
  rw [b.c0] at h1
  cases h1
theorem PutQ.box {w W wr : World} {g n N m c : Nat} {F : Nat → Int} {AA : Option Addr} {s : Bool} (h : PutQ w W g n F wr) (b : Box N AA m c s W) (hN : N ≠ g) : Box N AA m c s wr :=
  ⟨by rw [h.size]; exact b.lt, (h.cell (p := ⟨N, 0, none⟩) hN).trans b.c0, (h.cell (p := ⟨N, 1, none⟩) hN).trans b.c1, (h.frozen (p := ⟨N, 0, none⟩) hN).trans b.f0, (h.frozen (p := ⟨N, 1, none⟩) hN).trans b.f1⟩
theorem PutQ.drew {w W wr : World} {g n : Nat} {F : Nat → Int} (h : PutQ w W g n F wr) : PutQ w W g n F wr.drew := ⟨h.row, h.bel.trans ((Below.refl _ _).drew), h.far, h.size⟩
section
variable {Q : Exit → Act → World → Prop} {ops : Array Oper} {o : Oper} {rest : List Oper} {x y : Operand} {w W : World} {A A2 : Option Addr} {N m c m2 c2 n d : Nat} {s s2 q : Bool} {E : Env}
theorem wpl_stk (B : Box N A m c s w) (hd : o.dst = none) (hw : wnt ops n E o = true) (ho : o.op = .store 24 x y) (hx : evl n E x = .pointer (some ⟨N, 0, none⟩)) (hy : evl n E y = vagg A2 m2 c2 s2)
    (h : ∀ V : World, Std N A2 m2 c2 s2 w V → (∀ g, g ≠ N → V.heap[g]? = w.heap[g]?) → WL Tryz.prog ops Q rest n E V) : WL Tryz.prog ops Q (o :: rest) n E w :=
  wpl_none hd hw (run_stbox ho hx hy B) (h _ ⟨B.st, fun b hne => b.st_ne hne, fun r => r.st B, fun hb => st_below hb⟩ (fun g hg => by rw [heap_setCell_other _ _ _ _ hg, heap_setCell_other _ _ _ _ hg]))
theorem run_stbit {ρ : Operand → Value} {g i cnt_ : Nat} {F : Nat → Int} {z : Int} (ho : o.op = .store 65 x y) {p : Addr} (hx : ρ x = .pointer (some p)) (hp : p = ⟨g, i, none⟩) (hy : ρ y = .int .u8 z) (hr : RowQ w g cnt_ F) (hi : i < cnt_) :
    (execOp ρ o).run Tryz.prog w = .ok .skip (w.setCell ⟨g, i, none⟩ (.int .u8 z)) := by
  subst hp
  have h1 := hr.cell hi
  have h3 := hr.free i
  unfold execOp
  rw [ho]
  simp only [hx, hy]
  simp [go_sem, h1, h3]
theorem gstep_call {P : Program} {S : World → Prop} {k mk fuel i m' : Nat} {f : FuncId} {args : Array Value} {v : Value} (hi : ops[i]? = some o) (hd : o.dst = some d) (hin : Nat.blt i n = true) (hw : wnt ops k E o = true) (hm : Nat.lor mk (Nat.shiftLeft 1 i) = m')
    (hr : (execOp (evl k E) o).run P w = .ok (.enter f args) w) (hc : Calls P f args w fun e w' => e = .returned v ∧ w' = w) (h : ganyR P ops Q S n fuel m' k ((d, v) :: E) w) : GStep P ops Q S n fuel mk k E w i := fun hS inv hj => by
  have hin' : i < n := Nat.le_of_ble_eq_true hin
  refine wpOp_step hi fun K hK => ?_
  rw [wanted_sl, hw, if_pos rfl]
  unfold Oper.wp
  rw [eval_sl, hr, Oper.upon_enter]
  refine hc.mono ?_
  rintro e w' ⟨rfl, rfl⟩
  show K ((sl k E).put o.dst v) _
  refine hK _ _ ⟨fun _ => hS, ?_⟩
  have inv' := inv.set hj hin'
  rw [lsm_set, show mk ||| 1 <<< i = m' from hm] at inv' ⊢
  rw [hd, put_sl]
  exact h hS inv'
end
theorem own_of {w W0 W V : World} {g n N : Nat} {F : Nat → Int} {A : Option Addr} (h : PutQ w W0 g n F W) (hk : ∀ x, x ≠ N → V.heap[x]? = W.heap[x]?) (hN : N ≠ g) (eg : A = some ⟨g, 0, none⟩) (hg : w.heap.size ≤ g) : OwQ w.heap.size V A (ql n F) := fun _ => by
  obtain ⟨cs, hc, hi⟩ := h.row
  refine ⟨g, eg, hg, cs, by rw [hk g hN.symm]; exact hc, fun i h2 => ?_⟩
  rw [ql_length] at h2
  rw [hi i h2, qt_ql_lt h2]
end
section
open Go Go.RowKit
set_option maxRecDepth 100000
set_option linter.unusedSimpArgs false
set_option linter.unusedVariables false
theorem Rd.bitB {wo W : World} {A : Option Addr} {l : List Bool} (h : Rd wo A l) (hV : Below wo.heap.size wo W) {B : Nat} (hB : wo.heap.size ≤ B) {i : Nat} (hi : i < l.length) : ∃ ad, A = some ad ∧ ∀ w', Below B W w' → w'.cell? (ad.add i) = some (.bool (bt l i)) := by
  obtain ⟨ad, e, hl, hc⟩ := h (by omega)
  exact ⟨ad, e, fun w' hb => (hb.cell (p := ad.add i) (by rw [block_of_add]; omega)).trans ((hV.cell (p := ad.add i) (by rw [block_of_add]; exact hl)).trans (hc i hi))⟩
section
variable {P : Program} {ρ : Operand → Value} {o : Oper} {x y : Operand} {w : World} {t p : TypeId} {a b : Int}
theorem run_ixb {A : Option Addr} {ad : Addr} {m cc k : Nat} (ho : o.op = .indexAddr 82 x y) (hx : ρ x = .slice A m cc) (hA : A = some ad) (hy : ρ y = .int .i64 k) (hk : k < m) : (execOp ρ o).run Tryz.prog w = .ok (.value (.pointer (some (ad.add k)))) w := by
  subst hA
  have h1 : (0 : Int) ≤ k := by omega
  have h2 : (k : Int) < m := by omega
  unfold execOp
  rw [ho]
  simp only [hx, hy]
  simp [go_sem, h1, h2, hk]
theorem run_ldb {ad : Addr} {z : Bool} (ho : o.op = .load 4 x) (hx : ρ x = .pointer (some ad)) (hc : w.cell? ad = some (.bool z)) : (execOp ρ o).run Tryz.prog w = .ok (.value (.bool z)) w := by
  unfold execOp
  rw [ho]
  simp only [hx]
  simp [go_sem, hc]
theorem run_gtr (ho : o.op = .binOp .gtr t x y p) (hx : ρ x = .int .i64 a) (hy : ρ y = .int .i64 b) {q : Bool} (hc : decide (a > b) = q) : (execOp ρ o).run P w = .ok (.value (.bool q)) w := by
  subst hc
  unfold execOp
  rw [ho]
  simp only [hx, hy]
  rfl
theorem run_geq (ho : o.op = .binOp .geq t x y p) (hx : ρ x = .int .i64 a) (hy : ρ y = .int .i64 b) {q : Bool} (hc : decide (a ≥ b) = q) : (execOp ρ o).run P w = .ok (.value (.bool q)) w := by
  subst hc
  unfold execOp
  rw [ho]
  simp only [hx, hy]
  rfl
end
section
variable {P : Program} {Q : Exit → Act → World → Prop} {ops : Array Oper} {o o2 : Oper} {rest : List Oper} {x y x0 : Operand} {w W : World} {n d d2 k m fuel i m' B c N : Nat} {E : Env} {A : Option Addr} {l : List Int} {z : Int} {s : Bool} {S : World → Prop} {ρ : Operand → Value}
theorem gstep_callW {f : FuncId} {args : Array Value} (hi : ops[i]? = some o) (hd : o.dst = some d) (hin : Nat.blt i n = true) (hw : wnt ops k E o = true) (hm : Nat.lor m (Nat.shiftLeft 1 i) = m')
    (hr : (execOp (evl k E) o).run P w = .ok (.enter f args) w) (hc : Calls P f args w fun e w' => ∃ v, e = .returned v ∧ (S w → S w') ∧ ganyR P ops Q S n fuel m' k ((d, v) :: E) w') : GStep P ops Q S n fuel m k E w i := fun hS inv hj => by
  have hin' : i < n := Nat.le_of_ble_eq_true hin
  refine wpOp_step hi fun K hK => ?_
  rw [wanted_sl, hw, if_pos rfl]
  unfold Oper.wp
  rw [eval_sl, hr, Oper.upon_enter]
  refine hc.mono ?_
  rintro e w' ⟨v, rfl, hS', h⟩
  show K ((sl k E).put o.dst v) w'
  refine hK _ _ ⟨fun _ => hS' hS, ?_⟩
  have inv' := inv.set hj hin'
  rw [lsm_set, show m ||| 1 <<< i = m' from hm] at inv' ⊢
  rw [hd, put_sl]
  exact h (hS' hS) inv'
/-- In a drawn region: a slice of bits is appended. -/
theorem gstep_apps {A2 : Option Addr} {l2 : List Int} {c2 : Nat} (H : OwnV B A l c w) (hB : B ≤ w.heap.size) (hl : l.length + l2.length ≤ 16384) (hr2 : RQ w A2 l2) (hSB : ∀ v v', Below B v v' → S v → S v')
    (hi : ops[i]? = some o) (hd : o.dst = some d) (hin : Nat.blt i n = true) (hg : o.guard = none) (hm : Nat.lor m (Nat.shiftLeft 1 i) = m') (ho : o.op = .call { callee := .builtin .append, args := #[x, y], argTypes := #[22, 22] }) (hx : evl k E x = .slice A l.length c) (hy : evl k E y = .slice A2 l2.length c2)
    (h : ∀ (V : World) (A' : Option Addr) (c' : Nat), OwnV B A' (l ++ l2) c' V → Below B w V → ganyR Tryz.prog ops Q S n fuel m' k ((d, .slice A' (l ++ l2).length c') :: E) V) : GStep Tryz.prog ops Q S n fuel m k E w i := fun hS inv hj => by
  have hin' : i < n := Nat.le_of_ble_eq_true hin
  refine wpOp_step hi fun K hK => ?_
  refine step_append_q hg x y ho B (.slice A l.length c) l.length l (by rw [eval_sl]; exact hx) H.own A2 l2.length c2 l2 (by rw [eval_sl]; exact hy) rfl hr2 hl hB ?_
  intro v' w3 hown hb
  obtain ⟨A', c', e, -, -, -⟩ := owq_open hown
  subst e
  have e1 : l.length + l2.length = (l ++ l2).length := by simp
  rw [e1] at hown
  have hS3 : S w3 := hSB _ _ hb hS
  refine hK _ _ ⟨fun _ => hS3, ?_⟩
  have inv' := inv.set hj hin'
  rw [lsm_set, show m ||| 1 <<< i = m' from hm] at inv' ⊢
  rw [hd, put_sl]
  exact h w3 A' c' ⟨hown⟩ hb hS3 inv'
theorem Box.drewq {N n c : Nat} {A : Option Addr} {s : Bool} {w w' : World} (h : Box N A n c s w) (e : w' = w.drew) : Box N A n c s w' := by subst e; exact h.drew'
/-- Appending to bits of the call's own leaves other rows that read. -/
theorem RQ.keptB {w w' : World} {A : Option Addr} {l : List Int} {wo : World} (h : RQ wo A l) (h1 : Below wo.heap.size wo w) : RQ w A l := h.below h1
end
/-- What a round leaves that appends a slice. -/
theorem fit_nexts {wo W V : World} {N m c c2 : Nat} {A A2 : Option Addr} {s : Bool} {l' : List Int} (hV : Below wo.heap.size wo W) (hno : wo.heap.size ≤ N) (b : Box N A m c s W) (hb : Below (N + 1) W V) (H : OwnV (N + 1) A2 l' c2 V) :
    Below wo.heap.size wo (V.setCell ⟨N, 0, none⟩ (.slice A2 l'.length c2)) ∧ ∃ A c, Box N A l'.length c s (V.setCell ⟨N, 0, none⟩ (.slice A2 l'.length c2)) ∧ OwnV (N + 1) A l' c (V.setCell ⟨N, 0, none⟩ (.slice A2 l'.length c2)) := by
  have bV := b.keptB hb (Nat.lt_succ_self _)
  refine ⟨(hV.trans (hb.mono (by omega))).setCell (by exact hno) _, A2, c2, ⟨by simpa using bV.lt, cset_eq bV.c0, cset_ne (by simp) bV.c1, fset bV.f0, fset bV.f1⟩, ⟨ownsRow_setCell_below H.own (by simp) _⟩⟩
theorem run_ixv {ρ : Operand → Value} {o : Oper} {x y : Operand} {w : World} {g m cc k : Nat} (ho : o.op = .indexAddr 51 x y) (hx : ρ x = .slice (some ⟨g, 0, none⟩) m cc) (hy : ρ y = .int .i64 k) (hk : k < m) : (execOp ρ o).run Tryz.prog w = .ok (.value (.pointer (some ⟨g, k * 2, none⟩))) w := by
  have h1 : (0 : Int) ≤ k := by omega
  have h2 : (k : Int) < m := by omega
  unfold execOp
  rw [ho]
  simp only [hx, hy]
  simp [go_sem, h1, h2, hk]
theorem run_ldv {ρ : Operand → Value} {o : Oper} {x : Operand} {w : World} {g j m c : Nat} {A : Option Addr} {s : Bool} (ho : o.op = .load 24 x) (hx : ρ x = .pointer (some ⟨g, j, none⟩)) (h0 : w.cell? ⟨g, j, none⟩ = some (.slice A m c)) (h1 : w.cell? ⟨g, j + 1, none⟩ = some (.bool s)) :
    (execOp ρ o).run Tryz.prog w = .ok (.value (vagg A m c s)) w := by
  unfold execOp
  rw [ho]
  simp only [hx]
  simp [go_sem, h0, h1]
/-- The function answers a vector out of a block, and an error. -/
theorem ret_boxe {w : World} {N m c n d e : Nat} {A : Option Addr} {s : Bool} {E : Env} {z : Int} {fn : Func} {R : Ending → World → Prop} (B : Box N A m c s w) (hf : fn.results = #[.cell d 24, .tmp e])
    (hv : (bif Nat.blt d n then lk E d else undef) = .pointer (some ⟨N, 0, none⟩)) (hv' : (bif Nat.blt e n then lk E e else undef) = .int .i64 z) (h : R (.returned (.tuple #[vagg A m c s, .int .i64 z])) w) : bodyPost Tryz.prog fn R .ret (sl n E) w := by
  refine bodyPost_ret (v := .tuple #[vagg A m c s, .int .i64 z]) ?_ rfl h
  have h0 := B.c0
  have h1 := B.c1
  unfold results
  rw [hf]
  simp only [go_sem, List.mapM_toArray, List.mapM_cons, List.mapM_nil]
  have e1 := tmps_sl n E d
  rw [hv] at e1
  rw [Array.getD_eq_getD_getElem?] at e1
  have e2 := tmps_sl n E e
  rw [hv'] at e2
  rw [Array.getD_eq_getD_getElem?] at e2
  simp [go_sem, e1, e2, h0, h1]
/-- What fails: the empty vector. -/
theorem RetE.fail {e0 : Int} {v0 : Vc} {w w' : World} (h : e0 ≠ 0) (hb : Below w.heap.size w w') : RetE e0 v0 w (.returned (.tuple #[vagg none 0 0 false, .int .i64 e0])) w' :=
  ⟨[], false, none, 0, hide (by rw [if_neg h]; exact ⟨rfl, rfl⟩), rfl, hide ⟨Nat.le_refl _, by simp [maxLen]⟩, hide (fun h => absurd h (by simp)), hb⟩
/-- A vector's two cells. -/
def vcell (x : Va) : List Value := [.slice x.1 x.2.1.length x.2.2.1, .bool x.2.2.2]
def vcells (vs : List Va) : List Value := vs.flatMap vcell
/-- A row of vectors of the call's own that may be appended to. -/
structure OwnR (B : Nat) (v : Value) (vs : List Va) (w : World) : Prop where
  own : w.ownsRow B 24 2 v vs.length (vcells vs)
theorem OwnR.nil (w : World) (B : Nat) : OwnR B (.slice none 0 0) [] w := ⟨World.ownsRow_nil _ _ _ _⟩
theorem vec_info : (Tryz.prog.info? 24).map (fun i => (i.zero, i.size, i.bytes)) = some (some (.agg #[.slice none 0 0, .bool false]), 2, 32) := by kernel_rfl
theorem run_bsv {ρ : Operand → Value} {o : Oper} {x : Operand} {w : World} {A : Option Addr} {m c : Nat} {s : Bool} (ho : o.op = .buildSlice 51 1 #[(0, x)]) (hx : ρ x = vagg A m c s) :
    (execOp ρ o).run Tryz.prog w = .ok (.value (.slice (some ⟨w.heap.size, 0, none⟩) 1 1)) (w.alloc (.cells #[.slice A m c, .bool s] 24)) := by
  unfold execOp
  rw [ho]
  simp [go_sem, hx]
section
variable {Q : Exit → Act → World → Prop} {ops : Array Oper} {o o2 : Oper} {rest : List Oper} {x y x0 : Operand} {w : World} {n d d2 B : Nat} {E : Env} {vs : List Va} {u : Va} {v : Value}
theorem wpl_appv (H : OwnR B v vs w) (hB : B ≤ w.heap.size) (hl : vs.length ≤ 4096) (hd : o.dst = some d) (hg : o.guard = none) (ho : o.op = .buildSlice 51 1 #[(0, x0)]) (h0 : evl n E x0 = vagg u.1 u.2.1.length u.2.2.1 u.2.2.2)
    (hd2 : o2.dst = some d2) (hg2 : o2.guard = none) (ho2 : o2.op = .call { callee := .builtin .append, args := #[x, y], argTypes := #[51, 51] }) (hx : ∀ u : Value, evl n ((d, u) :: E) x = v) (hy : ∀ u : Value, evl n ((d, u) :: E) y = u)
    (h : ∀ (V : World) (v' : Value), OwnR B v' (vs ++ [u]) V → Below B w V → WL Tryz.prog ops Q rest n ((d2, v') :: (d, .slice (some ⟨w.heap.size, 0, none⟩) 1 1) :: E) V) : WL Tryz.prog ops Q (o :: o2 :: rest) n E w :=
  wpl_val hd (by unfold wnt; rw [hg]) (run_bsv ho h0) ⟨by
    obtain ⟨i0, hi, hz0, hz1, hz2⟩ := info_parts vec_info
    have ha : Below B w (w.alloc (.cells #[.slice u.1 u.2.1.length u.2.2.1, .bool u.2.2.2] 24)) := (Below.refl _ _).alloc hB _
    refine wpList_append_own _ hg2 x y 51 ho2 B 24 i0 _ 2 32 Tryz.underlying51 hi hz0 hz1 hz2 rfl (by omega) v vs.length (vcells vs) (by rw [eval_sl]; exact hx _) (H.own.alloc _) ⟨w.heap.size, 0, none⟩ 1 1 (vcell u) (by rw [eval_sl]; exact hy _) rfl ?_ ?_ (by simp only [maxLen]; omega) (by omega) (by simp; omega) ?_
    · intro j z hj
      rcases j with _ | _ | j
      · have e : z = .slice u.1 u.2.1.length u.2.2.1 := by simpa [vcell] using hj.symm
        subst e
        simp [go_sem]
      · have e : z = .bool u.2.2.2 := by simpa [vcell] using hj.symm
        subst e
        simp [go_sem]
      · simp [vcell] at hj
    · intro z hz
      simp only [vcell, List.mem_cons, List.mem_nil_iff, or_false] at hz
      rcases hz with rfl | rfl <;> rfl
    · intro v' w' hown hgr _
      have e1 : vs.length + 1 = (vs ++ [u]).length := by simp
      have e2 : vcells vs ++ vcell u = vcells (vs ++ [u]) := by simp [vcells]
      rw [e1, e2] at hown
      rw [hd2, put_sl]
      exact (h w' v' ⟨hown⟩ (ha.trans ((Below.refl _ _).grown hgr (by simp; omega) fun k hk => ((H.own.alloc (.cells #[.slice u.1 u.2.1.length u.2.2.1, .bool u.2.2.2] 24)).lt k hk).1))).out⟩
end
theorem vcells_get (vs : List Va) : ∀ i (h : i < vs.length), (vcells vs)[i * 2]? = some (.slice vs[i].1 vs[i].2.1.length vs[i].2.2.1) ∧ (vcells vs)[i * 2 + 1]? = some (.bool vs[i].2.2.2) := by
  induction vs with
  | nil => intro i h; simp at h
  | cons x l ih =>
    intro i h
    rcases i with _ | i
    · exact ⟨rfl, rfl⟩
    · have h1 := ih i (by simpa using h)
      have e0 : (i + 1) * 2 = i * 2 + 2 := by omega
      have e1 : vcells (x :: l) = .slice x.1 x.2.1.length x.2.2.1 :: .bool x.2.2.2 :: vcells l := rfl
      rw [e1, e0]
      exact h1
/-- What is owned, opened: a row of vectors. -/
theorem OwnR.row {B : Nat} {v : Value} {vs : List Va} {w : World} (h : OwnR B v vs w) (h0 : 0 < vs.length) : ∃ g c, v = .slice (some ⟨g, 0, none⟩) vs.length c ∧ B ≤ g ∧ g < w.heap.size ∧
    (∀ i (h : i < vs.length), w.cell? ⟨g, i * 2, none⟩ = some (.slice vs[i].1 vs[i].2.1.length vs[i].2.2.1)) ∧ (∀ i (h : i < vs.length), w.cell? ⟨g, i * 2 + 1, none⟩ = some (.bool vs[i].2.2.2)) := by
  rcases h.own.2 with ⟨_, h2⟩ | ⟨g, cap, cur, hv, hB, hg, hn, hc, hs, hx⟩
  · omega
  · have hat : ∀ j, j < vs.length * 2 → w.cell? ⟨g, j, none⟩ = (vcells vs)[j]? := fun j hj => by
      rw [cell_of_row w g j _ _ _ hg, ← hx, List.getElem?_take, if_pos hj, Array.getElem?_toList]
    refine ⟨g, cap, hv, hB, lt_of_block hg, fun i hi => ?_, fun i hi => ?_⟩
    · rw [hat _ (by omega)]; exact (vcells_get vs i hi).1
    · rw [hat _ (by omega)]; exact (vcells_get vs i hi).2
end
section
open Go.RowKit
set_option maxRecDepth 100000
set_option linter.unusedSimpArgs false
set_option linter.unusedVariables false
set_option maxHeartbeats 4000000 in
theorem rfromb_any (Al : Option Addr) (ll : List Bool) (cl : Nat) (s : Bool) (w : World) (hn : ll.length ≤ 4096) (hA : Rd w Al ll) :
    Calls Tryz.prog 98 #[.slice Al ll.length cl, .bool s] w (RetC (· = ⟨fb ll, s⟩) w) := by
  have HA := hide hA
  clear hA
  obtain ⟨F, hF⟩ : ∃ F : Nat → Int, F = fun i => mFrom (bt ll i) := ⟨_, rfl⟩
  have hFi : ∀ i, F i = mFrom (bt ll i) := fun i => by rw [hF]
  have hR : ql ll.length F = fb ll := by rw [hF]; rfl
  clear hF
  have hU : Below w.heap.size w w := Below.refl _ _
  refine calls_sl (l := [.slice Al ll.length cl, .bool s]) 26 Tryz.func98 rfl (by kernel_rfl) (by simp) (wp_seq (reg_lit (wpl_al rfl (by kernel_rfl) rfl ?_)))
  intro w1 Nr Br hNr hb
  replace Br := hide Br
  have hzr : w.heap.size ≤ Nr := Nat.le_trans hU.size hNr
  clear hNr
  replace hU := hU.trans (hb.mono hU.size)
  clear hb
  refine sx_n (wpl_r2 [(8, .agg #[.slice none 0 0, .bool s]), (7, .bool s)] (by kernel_rfl) (wpl_made (A := none) (m := 0) (c := 0) (s := s) rfl rfl rfl rfl rfl rfl (fun _ => by kernel_rfl) (fun _ => by kernel_rfl) ?_))
  intro wz No Bo hNo hV
  have hnr : Nr < No + 1 := by have := Br.out.lt; omega
  refine wpl_end (then_normal (wp_seq (wp_seq (reg_lit (wpl_r1 [(6, .int .i64 0)] (by kernel_rfl) (wpl_end (then_normal ?_)))))))
  refine wp_block (loop_r (ll.length + 1) ?_)
  refine loop_inv (N := ll.length) (fun k E W => Kp [(6, .int .i64 (k : Nat)), (0, .slice Al ll.length cl), (1, .bool s), (4, .pointer (some ⟨Nr, 0, none⟩)), (5, .pointer (some ⟨No, 0, none⟩))] E ∧ Below w1.heap.size w1 W ∧ ∃ A c, Box No A (ql k F).length c s W ∧ OwnV (No + 1) A (ql k F) c W) ?_ _ 0 _ _ (Nat.zero_le _) (by omega) ⟨Kp_c (by kernel_rfl) (Kp_c (by kernel_rfl) (Kp_c (by kernel_rfl) (Kp_c (by kernel_rfl) (Kp_c (by kernel_rfl) (Kp_n))))), hV, none, 0, Bo, OwnV.nil _ _⟩
  clear hV Bo
  intro k E W next hk hI hnext
  obtain ⟨hKp, hV, Ao, co, Bo, Ho⟩ := hI
  obtain ⟨lo, hlo⟩ : ∃ lo, lo = ql k F := ⟨_, rfl⟩
  rw [← hlo] at Bo Ho
  replace Bo := hide Bo
  replace Ho := hide Ho
  have hlk : lo.length = k := by rw [hlo, ql_length]
  have hlo4 : lo.length ≤ 4096 := by omega
  have hB : No + 1 ≤ W.heap.size := Bo.out.lt
  refine wp_keep _ hKp (fun X => ?_)
  clear hKp
  refine wp_seq (wp_seq ?_)
  rcases Nat.lt_or_ge k ll.length with hlt | hge
  refine reg_lit (wpl_r3 [(11, .int .i64 ((ll.length : Nat))), (10, .slice Al ll.length cl), (9, .int .i64 ((k : Nat)))] (by kernel_rfl) (wpl_val rfl (by kernel_rfl) (run_lss (a := (k : Int)) (b := (ll.length : Int)) rfl (by kernel_rfl) (by kernel_rfl) (decide_eq_true (by omega))) (wpl_end (then_normal (wp_ift (by kernel_rfl) (wp_skip (then_normal ?_)))))))
  refine wp_seq (wp_block ?_)
  have hz : lo ++ [mFrom (bt ll k)] = ql (k + 1) F := by rw [ql_snoc, ← hlo, hFi]
  obtain ⟨ad, hA, hc⟩ := Rd.bitB (HA.out.below hU) hV (B := No + 1) (by omega) hlt
  refine gregion (n := 10) (N := 11) (fun x => Below (No + 1) W x) (by kernel_rfl) (by kernel_rfl) (by kernel_rfl) (by kernel_rfl) (by kernel_rfl) (by kernel_rfl) (Below.refl _ _).drew (fun _ _ _ _ _ h => h) ?_
  intro Fr hQ
  refine gany_val (i := 0) (m' := 1) (v := .pointer (some ⟨No, 0, none⟩)) Fr hQ rfl rfl (by kernel_rfl) (by kernel_rfl) (by kernel_rfl) (by kernel_rfl) (by kernel_rfl) (fun _ hb => by kernel_rfl) ?_
  refine gany_val (i := 1) (m' := 3) (v := .slice Ao lo.length co) Fr hQ rfl rfl (by kernel_rfl) (by kernel_rfl) (by kernel_rfl) (by kernel_rfl) (by kernel_rfl) (fun _ hb => run_ldsl rfl (by kernel_rfl) (Box.keptB Bo.out hb (Nat.lt_succ_self _))) ?_
  refine gany_val (i := 2) (m' := 7) (v := .slice Al ll.length cl) Fr hQ rfl rfl (by kernel_rfl) (by kernel_rfl) (by kernel_rfl) (by kernel_rfl) (by kernel_rfl) (fun _ hb => by kernel_rfl) (gany_val (i := 3) (m' := 15) (v := .int .i64 ((k : Nat))) Fr hQ rfl rfl (by kernel_rfl) (by kernel_rfl) (by kernel_rfl) (by kernel_rfl) (by kernel_rfl) (fun _ hb => by kernel_rfl) (gany_val (i := 4) (m' := 31) (v := .pointer (some (ad.add (k : Nat)))) Fr hQ rfl rfl (by kernel_rfl) (by kernel_rfl) (by kernel_rfl) (by kernel_rfl) (by kernel_rfl) (fun _ hb => run_ixb (k := k) (m := ll.length) (cc := cl) rfl (by kernel_rfl) hA (by kernel_rfl) hlt) (gany_val (i := 5) (m' := 63) (v := .bool (bt ll k)) Fr hQ rfl rfl (by kernel_rfl) (by kernel_rfl) (by kernel_rfl) (by kernel_rfl) (by kernel_rfl) (fun _ hb => run_ldb rfl (by kernel_rfl) (hc _ hb)) (gany_one (i := 6) (by kernel_rfl) (gstep_call (m' := 127) rfl rfl (by kernel_rfl) (by kernel_rfl) (by kernel_rfl) (by kernel_rfl) (rfrom_q (bt ll k) _) (gany_one (i := 7) (by kernel_rfl) (gstep_app (j := 8) (m' := 255) (j' := 511) (z := (mFrom (bt ll k))) Ho.out.drew' W hB hlo4 (fun _ hb h => h.trans (hb.mono hB)) (fun _ _ hb h => h.trans hb) rfl rfl (by kernel_rfl) (by kernel_rfl) (by kernel_rfl) rfl (by kernel_rfl) (by kernel_rfl) rfl rfl (by kernel_rfl) rfl (by kernel_rfl) rfl (fun _ => by kernel_rfl) (fun _ => by kernel_rfl) ?_)))))))
  intro V A2 c2 Hv hb
  replace hb : Below (No + 1) W V := ((Below.refl _ _).drew).trans hb
  refine gany_val (i := 9) (m' := 1023) (v := .pointer (some ⟨No, 0, none⟩)) Fr hQ rfl rfl (by kernel_rfl) (by kernel_rfl) (by kernel_rfl) (by kernel_rfl) (by kernel_rfl) (fun _ hb => by kernel_rfl) (gany_e ?_)
  refine gany_none (i := 10) (m' := 2047) (w' := V.setCell ⟨No, 0, none⟩ (.slice A2 (lo ++ [(mFrom (bt ll k))]).length c2)) rfl rfl (by kernel_rfl) (by kernel_rfl) (by kernel_rfl) (by kernel_rfl) (run_stsl rfl (by kernel_rfl) (by kernel_rfl) (Bo.out.keptB hb (Nat.lt_succ_self _))) ?_
  refine gany_done (by kernel_rfl) ?_
  have HS := fit_next hV hNo Bo.out hb Hv hz
  clear Fr hQ
  refine block_normal (then_normal (reg_lit (wpl_r1 [(13, .int .i64 ((k : Nat)))] (by kernel_rfl) (wpl_val rfl (by kernel_rfl) (run_add (a := (k : Int)) (b := 1) (c := ((k + 1 : Int) : Int)) rfl (by kernel_rfl) (by kernel_rfl) (by omega) (by omega) (by omega)) (wpl_r1 [(6, .int .i64 (((k + 1 : Nat) : Int)))] (by kernel_rfl) (wpl_end ?_))))))
  refine then_normal (hnext _ _ hlt ⟨Kp_c (by kernel_rfl) (Kp_c (by kernel_rfl) (Kp_c (by kernel_rfl) (Kp_c (by kernel_rfl) (Kp_c (by kernel_rfl) (Kp_n))))), HS⟩)
  refine reg_lit (wpl_r3 [(11, .int .i64 ((ll.length : Nat))), (10, .slice Al ll.length cl), (9, .int .i64 ((k : Nat)))] (by kernel_rfl) (wpl_val rfl (by kernel_rfl) (run_lss (a := (k : Int)) (b := (ll.length : Int)) rfl (by kernel_rfl) (by kernel_rfl) (decide_eq_false (by omega))) (wpl_end (then_normal (wp_iff (by kernel_rfl) (wp_exit (then_exit ?_)))))))
  refine then_exit (exit_here (then_normal (wp_seq (reg_lit (wpl_ldvec Bo.out rfl (by kernel_rfl) rfl (by kernel_rfl) ?_)))))
  refine wpl_stq (A2 := Ao) (m2 := lo.length) (c2 := co) (s2 := s) (Br.out.kept hV) rfl (by kernel_rfl) rfl (by kernel_rfl) (by kernel_rfl) ?_
  intro V Bq hkeep hbel
  refine wpl_end (then_normal (wp_ret (ret_box Bq rfl (by kernel_rfl) ?_)))
  obtain rfl : k = ll.length := by omega
  exact ⟨lo, s, Ao, co, hide (by rw [hlo, hR]), rfl, Ho.out.open_.1, hide (OwQ.low (OwQ.std (m2 := 0) (c2 := 0) (A2 := none) (s2 := false) Ho.out.open_.2.out hbel hnr hkeep) (by have := hU.size; omega)), (hU.trans (hV.mono hU.size)).trans (hbel hzr)⟩
set_option maxHeartbeats 4000000 in
theorem runknown_any (n : Int) (s : Bool) (w : World) :
    Calls Tryz.prog 22 #[.int .i64 n, .bool s] w (RetE (if 1 ≤ n ∧ n ≤ 128 then 0 else 12) (xs n.toNat s) w) := by
  have hU : Below w.heap.size w w := Below.refl _ _
  refine calls_sl (l := [.int .i64 n, .bool s]) 16 Tryz.func22 rfl (by kernel_rfl) (by simp) (wp_seq (reg_lit (wpl_al rfl (by kernel_rfl) rfl ?_)))
  intro w1 Nu Bu hNu hb
  replace Bu := hide Bu
  have hzu : w.heap.size ≤ Nu := Nat.le_trans hU.size hNu
  clear hNu
  replace hU := hU.trans (hb.mono hU.size)
  clear hb
  refine wpl_r1 [(5, .int .i64 0)] (by kernel_rfl) (wpl_end (then_normal (wp_seq (wp_seq ?_))))
  rcases Int.lt_or_le n 1 with hn | hn
  rw [if_neg (show ¬(1 ≤ n ∧ n ≤ 128) by omega)]
  refine reg_lit (wpl_r1 [(6, .int .i64 n)] (by kernel_rfl) (wpl_val rfl (by kernel_rfl) (run_lss (a := n) (b := 1) rfl (by kernel_rfl) (by kernel_rfl) (decide_eq_true hn)) (wpl_r4 [(11, .bool true), (10, undef), (9, undef), (8, .bool true)] (by kernel_rfl) (wpl_end (then_normal (wp_ift (by kernel_rfl) (wp_seq ?_)))))))
  refine reg_lit (wpl_r1 [(12, .agg #[.slice none 0 0, .bool false])] (by kernel_rfl) (wpl_stk Bu.out rfl (by kernel_rfl) rfl (by kernel_rfl) (A2 := none) (m2 := 0) (c2 := 0) (s2 := false) (by kernel_rfl) ?_))
  intro w2 hst hkeep
  replace Bu := hide hst.box
  replace hU := hU.trans (hst.bel hzu)
  clear hst hkeep
  refine wpl_r1 [(5, .int .i64 12)] (by kernel_rfl) (wpl_end (then_normal (wp_ret (ret_boxe (z := 12) Bu.out rfl (by kernel_rfl) (by kernel_rfl) ?_))))
  exact RetE.fail (e0 := 12) (by decide) hU
  rcases Int.lt_or_le 128 n with hm | hm
  rw [if_neg (show ¬(1 ≤ n ∧ n ≤ 128) by omega)]
  refine reg_lit (wpl_r1 [(6, .int .i64 n)] (by kernel_rfl) (wpl_val rfl (by kernel_rfl) (run_lss (a := n) (b := 1) rfl (by kernel_rfl) (by kernel_rfl) (decide_eq_false (by omega))) (wpl_r2 [(9, .int .i64 n), (8, .bool false)] (by kernel_rfl) (wpl_val rfl (by kernel_rfl) (run_gtr (a := n) (b := 128) rfl (by kernel_rfl) (by kernel_rfl) (decide_eq_true hm)) (wpl_r1 [(11, .bool true)] (by kernel_rfl) (wpl_end (then_normal ?_)))))))
  refine wp_ift (by kernel_rfl) (wp_seq (reg_lit (wpl_r1 [(12, .agg #[.slice none 0 0, .bool false])] (by kernel_rfl) (wpl_stk Bu.out rfl (by kernel_rfl) rfl (by kernel_rfl) (A2 := none) (m2 := 0) (c2 := 0) (s2 := false) (by kernel_rfl) ?_))))
  intro w3 hst hkeep
  replace Bu := hide hst.box
  replace hU := hU.trans (hst.bel hzu)
  clear hst hkeep
  refine wpl_r1 [(5, .int .i64 12)] (by kernel_rfl) (wpl_end (then_normal (wp_ret (ret_boxe (z := 12) Bu.out rfl (by kernel_rfl) (by kernel_rfl) ?_))))
  exact RetE.fail (e0 := 12) (by decide) hU
  rw [if_pos (show 1 ≤ n ∧ n ≤ 128 from ⟨hn, by omega⟩)]
  obtain ⟨K, rfl⟩ : ∃ K : Nat, n = K := ⟨n.toNat, by omega⟩
  rw [Int.toNat_natCast]
  refine reg_lit (wpl_r1 [(6, .int .i64 ((K : Nat)))] (by kernel_rfl) (wpl_val rfl (by kernel_rfl) (run_lss (a := (K : Int)) (b := 1) rfl (by kernel_rfl) (by kernel_rfl) (decide_eq_false (by omega))) (wpl_r2 [(9, .int .i64 ((K : Nat))), (8, .bool false)] (by kernel_rfl) (wpl_val rfl (by kernel_rfl) (run_gtr (a := (K : Int)) (b := 128) rfl (by kernel_rfl) (by kernel_rfl) (decide_eq_false (by omega))) (wpl_r1 [(11, .bool false)] (by kernel_rfl) (wpl_end (then_normal ?_)))))))
  refine wp_iff (by kernel_rfl) (wp_skip (then_normal (wp_seq (reg_lit (wpl_r2 [(14, .bool s), (13, .int .i64 ((K : Nat)))] (by kernel_rfl) ?_)))))
  refine wpl_call rfl (by kernel_rfl) (by kernel_rfl) ((rfill_any 2 K s _ (by omega)).mono ?_)
  rintro e w4 ⟨lv, sv, Av, cv, Ev, rfl, Cv, Ov, hb⟩
  refine ⟨_, rfl, ?_⟩
  have k0 : w.heap.size ≤ w1.heap.size := hU.size
  replace Bu := hide (Box.kept Bu.out hb)
  replace hU := hU.trans (hb.mono hU.size)
  clear hb
  have Gv : Gd lv := by have h := congrArg Vc.b Ev.out; dsimp only at h; rw [h]; exact (gd_xs (n := K) (s := s) (by omega) (by omega))
  have Lv := hide (show lv.length ≤ 4096 from Nat.le_trans Gv.le (by decide))
  have Yv := hide Gv.by_
  clear Gv
  replace Ov := hide (OwQ.base Ov.out k0)
  clear k0
  refine wpl_stk Bu.out rfl (by kernel_rfl) rfl (by kernel_rfl) (A2 := Av) (m2 := lv.length) (c2 := cv) (s2 := sv) (by kernel_rfl) ?_
  intro w5 hst hkeep
  replace Ov := hide (OwQ.box Ov.out Bu.out hkeep)
  replace Bu := hide hst.box
  replace hU := hU.trans (hst.bel hzu)
  clear hst hkeep
  refine wpl_r1 [(5, .int .i64 0)] (by kernel_rfl) (wpl_end (then_normal (wp_ret (ret_boxe (z := 0) Bu.out rfl (by kernel_rfl) (by kernel_rfl) ?_))))
  exact ⟨lv, sv, Av, cv, hide (by rw [if_pos rfl]; exact Ev.out), rfl, Cv, Ov, hU⟩
set_option maxHeartbeats 4000000 in
theorem rfromint_any (z n : Int) (s : Bool) (w : World) (h1 : -9223372036854775808 ≤ z) (h2 : z ≤ 9223372036854775807) :
    Calls Tryz.prog 20 #[.int .i64 z, .int .i64 n, .bool s] w (RetE (if 1 ≤ n ∧ n ≤ 128 then 0 else 12) ⟨fb (vz n.toNat z), s⟩ w) := by
  have hU : Below w.heap.size w w := Below.refl _ _
  refine calls_sl (l := [.int .i64 z, .int .i64 n, .bool s]) 26 Tryz.func20 rfl (by kernel_rfl) (by simp) (wp_seq (reg_lit (wpl_al rfl (by kernel_rfl) rfl ?_)))
  intro w1 Nu Bu hNu hb
  replace Bu := hide Bu
  have hzu : w.heap.size ≤ Nu := Nat.le_trans hU.size hNu
  clear hNu
  replace hU := hU.trans (hb.mono hU.size)
  clear hb
  refine wpl_r1 [(7, .int .i64 0)] (by kernel_rfl) (wpl_end (then_normal (wp_seq (wp_seq ?_))))
  rcases Int.lt_or_le n 1 with hn | hn
  rw [if_neg (show ¬(1 ≤ n ∧ n ≤ 128) by omega)]
  refine reg_lit (wpl_r1 [(10, .int .i64 n)] (by kernel_rfl) (wpl_val rfl (by kernel_rfl) (run_lss (a := n) (b := 1) rfl (by kernel_rfl) (by kernel_rfl) (decide_eq_true hn)) (wpl_r4 [(15, .bool true), (14, undef), (13, undef), (12, .bool true)] (by kernel_rfl) (wpl_end (then_normal (wp_ift (by kernel_rfl) (wp_seq ?_)))))))
  refine reg_lit (wpl_r1 [(16, .agg #[.slice none 0 0, .bool false])] (by kernel_rfl) (wpl_stk Bu.out rfl (by kernel_rfl) rfl (by kernel_rfl) (A2 := none) (m2 := 0) (c2 := 0) (s2 := false) (by kernel_rfl) ?_))
  intro w2 hst hkeep
  replace Bu := hide hst.box
  replace hU := hU.trans (hst.bel hzu)
  clear hst hkeep
  refine wpl_r1 [(7, .int .i64 12)] (by kernel_rfl) (wpl_end (then_normal (wp_ret (ret_boxe (z := 12) Bu.out rfl (by kernel_rfl) (by kernel_rfl) ?_))))
  exact RetE.fail (e0 := 12) (by decide) hU
  rcases Int.lt_or_le 128 n with hm | hm
  rw [if_neg (show ¬(1 ≤ n ∧ n ≤ 128) by omega)]
  refine reg_lit (wpl_r1 [(10, .int .i64 n)] (by kernel_rfl) (wpl_val rfl (by kernel_rfl) (run_lss (a := n) (b := 1) rfl (by kernel_rfl) (by kernel_rfl) (decide_eq_false (by omega))) (wpl_r2 [(13, .int .i64 n), (12, .bool false)] (by kernel_rfl) (wpl_val rfl (by kernel_rfl) (run_gtr (a := n) (b := 128) rfl (by kernel_rfl) (by kernel_rfl) (decide_eq_true hm)) (wpl_r1 [(15, .bool true)] (by kernel_rfl) (wpl_end (then_normal ?_)))))))
  refine wp_ift (by kernel_rfl) (wp_seq (reg_lit (wpl_r1 [(16, .agg #[.slice none 0 0, .bool false])] (by kernel_rfl) (wpl_stk Bu.out rfl (by kernel_rfl) rfl (by kernel_rfl) (A2 := none) (m2 := 0) (c2 := 0) (s2 := false) (by kernel_rfl) ?_))))
  intro w3 hst hkeep
  replace Bu := hide hst.box
  replace hU := hU.trans (hst.bel hzu)
  clear hst hkeep
  refine wpl_r1 [(7, .int .i64 12)] (by kernel_rfl) (wpl_end (then_normal (wp_ret (ret_boxe (z := 12) Bu.out rfl (by kernel_rfl) (by kernel_rfl) ?_))))
  exact RetE.fail (e0 := 12) (by decide) hU
  rw [if_pos (show 1 ≤ n ∧ n ≤ 128 from ⟨hn, by omega⟩)]
  obtain ⟨K, rfl⟩ : ∃ K : Nat, n = K := ⟨n.toNat, by omega⟩
  rw [Int.toNat_natCast]
  refine reg_lit (wpl_r1 [(10, .int .i64 ((K : Nat)))] (by kernel_rfl) (wpl_val rfl (by kernel_rfl) (run_lss (a := (K : Int)) (b := 1) rfl (by kernel_rfl) (by kernel_rfl) (decide_eq_false (by omega))) (wpl_r2 [(13, .int .i64 ((K : Nat))), (12, .bool false)] (by kernel_rfl) (wpl_val rfl (by kernel_rfl) (run_gtr (a := (K : Int)) (b := 128) rfl (by kernel_rfl) (by kernel_rfl) (decide_eq_false (by omega))) (wpl_r1 [(15, .bool false)] (by kernel_rfl) (wpl_end (then_normal ?_)))))))
  refine wp_iff (by kernel_rfl) (wp_skip (then_normal (wp_seq (reg_lit (wpl_r2 [(19, .int .i64 ((K : Nat))), (18, .int .i64 z)] (by kernel_rfl) ?_)))))
  refine wpl_call rfl (by kernel_rfl) (by kernel_rfl) ((rfrom_any z K _ (by omega) h1 h2).mono ?_)
  rintro e w4 ⟨ll, Al, cl, El, rfl, Cl, Ol, hb⟩
  refine ⟨_, rfl, ?_⟩
  replace Bu := hide (Box.kept Bu.out hb)
  replace hU := hU.trans (hb.mono hU.size)
  clear hb
  have hll : ll.length = K := by rw [El.out, vz_length]
  refine wpl_r5 [(9, .int .i64 0), (8, .slice Al ll.length cl), (22, .int .i64 0), (21, .slice Al ll.length cl), (17, .tuple #[.slice Al ll.length cl, .int .i64 0])] (by kernel_rfl) (sx_n (wpl_r2 [(24, .bool s), (23, .slice Al ll.length cl)] (by kernel_rfl) ?_))
  refine wpl_call rfl (by kernel_rfl) (by kernel_rfl) ((rfromb_any Al ll cl s _ (by omega) Ol.out.rd).mono ?_)
  rintro e w5 ⟨lv, sv, Av, cv, Ev, rfl, Cv, Ov, hb⟩
  refine ⟨_, rfl, ?_⟩
  have k0 : w.heap.size ≤ w4.heap.size := hU.size
  replace Bu := hide (Box.kept Bu.out hb)
  replace hU := hU.trans (hb.mono hU.size)
  clear hb
  have Gv : Gd lv := by have h := congrArg Vc.b Ev.out; dsimp only at h; rw [h]; exact (gd_fb (n := ll) (by omega) (by omega))
  have Lv := hide (show lv.length ≤ 4096 from Nat.le_trans Gv.le (by decide))
  have Yv := hide Gv.by_
  clear Gv
  replace Ov := hide (OwQ.base Ov.out k0)
  clear k0
  rw [El.out] at Ev
  refine wpl_stk Bu.out rfl (by kernel_rfl) rfl (by kernel_rfl) (A2 := Av) (m2 := lv.length) (c2 := cv) (s2 := sv) (by kernel_rfl) ?_
  intro w6 hst hkeep
  replace Ov := hide (OwQ.box Ov.out Bu.out hkeep)
  replace Bu := hide hst.box
  replace hU := hU.trans (hst.bel hzu)
  clear hst hkeep
  refine wpl_r1 [(7, .int .i64 0)] (by kernel_rfl) (wpl_end (then_normal (wp_ret (ret_boxe (z := 0) Bu.out rfl (by kernel_rfl) (by kernel_rfl) ?_))))
  exact ⟨lv, sv, Av, cv, hide (by rw [if_pos rfl]; exact Ev.out), rfl, Cv, Ov, hU⟩
set_option maxHeartbeats 4000000 in
theorem rresize_any (n : Int) (Aa : Option Addr) (la : List Int) (ca : Nat) (sa : Bool) (w : World) (ha : la.length ≤ 4096) (hca : Hid (la.length ≤ ca ∧ ca ≤ maxLen)) (hra : RQ w Aa la) (ya : By la) :
    Calls Tryz.prog 24 #[.agg #[.slice Aa la.length ca, .bool sa], .int .i64 n] w (RetE (if 1 ≤ n ∧ n ≤ 128 then 0 else 12) ⟨rsz (cnt ⟨la, sa⟩) n.toNat, (cnt ⟨la, sa⟩).s⟩ w) := by
  have Oa := hide hra
  have La := hide ha
  have Ca := hca
  have Ya := hide ya
  clear ha hca hra ya
  have hU : Below w.heap.size w w := Below.refl _ _
  refine calls_sl (l := [.agg #[.slice Aa la.length ca, .bool sa], .int .i64 n]) 17 Tryz.func24 rfl (by kernel_rfl) (by simp) (wp_seq (reg_lit (wpl_boxvec (A := Aa) (m := la.length) (c := ca) (s := sa) rfl (by kernel_rfl) rfl (by kernel_rfl) ?_)))
  intro w1 Na Ba hNa hb
  replace Ba := hide Ba
  replace Oa := hide (RQ.below Oa.out hb)
  have hza : w.heap.size ≤ Na := Nat.le_trans hU.size hNa
  clear hNa
  replace hU := hU.trans (hb.mono hU.size)
  clear hb
  refine wpl_al rfl (by kernel_rfl) rfl ?_
  intro w2 Nu Bu hNu hb
  replace Bu := hide Bu
  have neau : Na ≠ Nu := by have := Ba.out.lt; omega
  replace Oa := hide (RQ.below Oa.out hb)
  replace Ba := hide (Box.kept Ba.out hb)
  have hzu : w.heap.size ≤ Nu := Nat.le_trans hU.size hNu
  clear hNu
  replace hU := hU.trans (hb.mono hU.size)
  clear hb
  refine wpl_r1 [(5, .int .i64 0)] (by kernel_rfl) (wpl_end (then_normal (wp_seq (wp_seq ?_))))
  rcases Int.lt_or_le n 1 with hn | hn
  rw [if_neg (show ¬(1 ≤ n ∧ n ≤ 128) by omega)]
  refine reg_lit (wpl_r1 [(6, .int .i64 n)] (by kernel_rfl) (wpl_val rfl (by kernel_rfl) (run_lss (a := n) (b := 1) rfl (by kernel_rfl) (by kernel_rfl) (decide_eq_true hn)) (wpl_r4 [(11, .bool true), (10, undef), (9, undef), (8, .bool true)] (by kernel_rfl) (wpl_end (then_normal (wp_ift (by kernel_rfl) (wp_seq ?_)))))))
  refine reg_lit (wpl_r1 [(12, .agg #[.slice none 0 0, .bool false])] (by kernel_rfl) (wpl_stk Bu.out rfl (by kernel_rfl) rfl (by kernel_rfl) (A2 := none) (m2 := 0) (c2 := 0) (s2 := false) (by kernel_rfl) ?_))
  intro w3 hst hkeep
  replace Oa := hide (hst.rq Oa.out)
  replace Ba := hide (hst.ne Ba.out (by first | exact neau | exact (Ne.symm neua)))
  replace Bu := hide hst.box
  replace hU := hU.trans (hst.bel hzu)
  clear hst hkeep
  refine wpl_r1 [(5, .int .i64 12)] (by kernel_rfl) (wpl_end (then_normal (wp_ret (ret_boxe (z := 12) Bu.out rfl (by kernel_rfl) (by kernel_rfl) ?_))))
  exact RetE.fail (e0 := 12) (by decide) hU
  rcases Int.lt_or_le 128 n with hm | hm
  rw [if_neg (show ¬(1 ≤ n ∧ n ≤ 128) by omega)]
  refine reg_lit (wpl_r1 [(6, .int .i64 n)] (by kernel_rfl) (wpl_val rfl (by kernel_rfl) (run_lss (a := n) (b := 1) rfl (by kernel_rfl) (by kernel_rfl) (decide_eq_false (by omega))) (wpl_r2 [(9, .int .i64 n), (8, .bool false)] (by kernel_rfl) (wpl_val rfl (by kernel_rfl) (run_gtr (a := n) (b := 128) rfl (by kernel_rfl) (by kernel_rfl) (decide_eq_true hm)) (wpl_r1 [(11, .bool true)] (by kernel_rfl) (wpl_end (then_normal ?_)))))))
  refine wp_ift (by kernel_rfl) (wp_seq (reg_lit (wpl_r1 [(12, .agg #[.slice none 0 0, .bool false])] (by kernel_rfl) (wpl_stk Bu.out rfl (by kernel_rfl) rfl (by kernel_rfl) (A2 := none) (m2 := 0) (c2 := 0) (s2 := false) (by kernel_rfl) ?_))))
  intro w4 hst hkeep
  replace Oa := hide (hst.rq Oa.out)
  replace Ba := hide (hst.ne Ba.out (by first | exact neau | exact (Ne.symm neua)))
  replace Bu := hide hst.box
  replace hU := hU.trans (hst.bel hzu)
  clear hst hkeep
  refine wpl_r1 [(5, .int .i64 12)] (by kernel_rfl) (wpl_end (then_normal (wp_ret (ret_boxe (z := 12) Bu.out rfl (by kernel_rfl) (by kernel_rfl) ?_))))
  exact RetE.fail (e0 := 12) (by decide) hU
  rw [if_pos (show 1 ≤ n ∧ n ≤ 128 from ⟨hn, by omega⟩)]
  obtain ⟨K, rfl⟩ : ∃ K : Nat, n = K := ⟨n.toNat, by omega⟩
  rw [Int.toNat_natCast]
  refine reg_lit (wpl_r1 [(6, .int .i64 ((K : Nat)))] (by kernel_rfl) (wpl_val rfl (by kernel_rfl) (run_lss (a := (K : Int)) (b := 1) rfl (by kernel_rfl) (by kernel_rfl) (decide_eq_false (by omega))) (wpl_r2 [(9, .int .i64 ((K : Nat))), (8, .bool false)] (by kernel_rfl) (wpl_val rfl (by kernel_rfl) (run_gtr (a := (K : Int)) (b := 128) rfl (by kernel_rfl) (by kernel_rfl) (decide_eq_false (by omega))) (wpl_r1 [(11, .bool false)] (by kernel_rfl) (wpl_end (then_normal ?_)))))))
  refine wp_iff (by kernel_rfl) (wp_skip (then_normal (wp_seq (reg_lit (wpl_ldvec Ba.out rfl (by kernel_rfl) rfl (by kernel_rfl) ?_)))))
  refine wpl_call rfl (by kernel_rfl) (by kernel_rfl) ((rnorm_any' Aa la ca sa _ La.out Ca Oa.out Ya.out).mono ?_)
  rintro e w5 ⟨l1, s1, A1, c1, E1, rfl, C1, O1, hb⟩
  refine ⟨_, rfl, ?_⟩
  replace Oa := hide (RQ.below Oa.out hb)
  replace Ba := hide (Box.kept Ba.out hb)
  replace Bu := hide (Box.kept Bu.out hb)
  replace O1 := hide O1.out.rd
  replace hU := hU.trans (hb.mono hU.size)
  clear hb
  have G1 : Gd l1 := by have h := congrArg Vc.b E1.out; dsimp only at h; rw [h]; exact (cnt_gd (v := ⟨la, sa⟩) Ya.out)
  have L1 := hide (show l1.length ≤ 4096 from Nat.le_trans G1.le (by decide))
  have Y1 := hide G1.by_
  clear G1
  have HG1 := hide (show Gd l1 by have h := congrArg Vc.b E1.out; dsimp only at h; rw [h]; exact cnt_gd (v := ⟨la, sa⟩) Ya.out)
  refine wpl_r1 [(15, .int .i64 ((K : Nat)))] (by kernel_rfl) ?_
  refine wpl_call rfl (by kernel_rfl) (by kernel_rfl) ((rfit_any A1 l1 c1 s1 _ L1.out C1 O1.out Y1.out K (by omega) HG1.out.pos).mono ?_)
  rintro e w6 ⟨lv, sv, Av, cv, Ev, rfl, Cv, Ov, hb⟩
  refine ⟨_, rfl, ?_⟩
  have k0 : w.heap.size ≤ w5.heap.size := hU.size
  replace Oa := hide (RQ.below Oa.out hb)
  replace O1 := hide (RQ.below O1.out hb)
  replace Ba := hide (Box.kept Ba.out hb)
  replace Bu := hide (Box.kept Bu.out hb)
  replace hU := hU.trans (hb.mono hU.size)
  clear hb
  have Gv : Gd lv := by have h := congrArg Vc.b Ev.out; dsimp only at h; rw [h]; exact (gd_rsz (v := ⟨l1, s1⟩) HG1.out (by omega) (by omega))
  have Lv := hide (show lv.length ≤ 4096 from Nat.le_trans Gv.le (by decide))
  have Yv := hide Gv.by_
  clear Gv
  replace Ov := hide (OwQ.base Ov.out k0)
  clear k0
  rw [E1.out] at Ev
  have hs1 : s1 = (cnt ⟨la, sa⟩).s := congrArg Vc.s E1.out
  replace Ev : Hid ((⟨lv, sv⟩ : Vc) = ⟨rsz (cnt ⟨la, sa⟩) K, (cnt ⟨la, sa⟩).s⟩) := hide (by rw [← hs1]; exact Ev.out)
  refine wpl_stk Bu.out rfl (by kernel_rfl) rfl (by kernel_rfl) (A2 := Av) (m2 := lv.length) (c2 := cv) (s2 := sv) (by kernel_rfl) ?_
  intro w7 hst hkeep
  replace Oa := hide (hst.rq Oa.out)
  replace O1 := hide (hst.rq O1.out)
  replace Ov := hide (OwQ.box Ov.out Bu.out hkeep)
  replace Ba := hide (hst.ne Ba.out (by first | exact neau | exact (Ne.symm neua)))
  replace Bu := hide hst.box
  replace hU := hU.trans (hst.bel hzu)
  clear hst hkeep
  refine wpl_r1 [(5, .int .i64 0)] (by kernel_rfl) (wpl_end (then_normal (wp_ret (ret_boxe (z := 0) Bu.out rfl (by kernel_rfl) (by kernel_rfl) ?_))))
  exact ⟨lv, sv, Av, cv, hide (by rw [if_pos rfl]; exact Ev.out), rfl, Cv, Ov, hU⟩
end
section
open Go.RowKit
set_option maxRecDepth 100000
theorem cats_rep (v : Vc) (k : Nat) : cats (List.replicate k v) = ql ((cnt v).b.length * k) fun i => qt (cnt v).b (i % (cnt v).b.length) := by
  induction k with
  | zero => rfl
  | succ k ih =>
    have e : cats (List.replicate (k + 1) v) = cats (List.replicate k v) ++ (cnt v).b := by rw [List.replicate_succ, cats_cons]
    rw [e, ih]
    refine eq_ql (by rw [List.length_append, ql_length, Nat.mul_succ]) fun i hi => ?_
    rw [qt_app, ql_length]
    by_cases h : i < (cnt v).b.length * k
    · rw [if_pos h, qt_ql_lt h]
    · rw [if_neg h]
      obtain ⟨j, hj⟩ : ∃ j, i = (cnt v).b.length * k + j := ⟨i - (cnt v).b.length * k, by omega⟩
      have h3 : j < (cnt v).b.length := by rw [Nat.mul_succ] at hi; omega
      rw [hj, Nat.mul_add_mod, Nat.mod_eq_of_lt h3, Nat.add_sub_cancel_left]
theorem cte_rep (v : Vc) (n : Int) (h1 : 1 ≤ n) (hp : 0 < (cnt v).b.length) : cte (List.replicate (min n.toNat 200) v) = rpe n (cnt v).b.length := by
  unfold cte rpe
  obtain ⟨L, hL⟩ : ∃ L, L = (cnt v).b.length := ⟨_, rfl⟩
  have hn : List.replicate (min n.toNat 200) v ≠ [] := by
    intro h
    have := congrArg List.length h
    simp at this
    omega
  rw [if_neg hn, cats_rep, ql_length, ← hL, if_neg (show ¬ n < 1 by omega)]
  rw [← hL] at hp
  have h3 : ((128 : Int) / L < n) ↔ 128 < L * min n.toNat 200 := by
    have e : ((128 / L : Nat) : Int) = 128 / (L : Int) := by simp
    rw [← e]
    have h4 : 128 / L < n.toNat ↔ 128 < n.toNat * L := Nat.div_lt_iff_lt_mul hp
    constructor
    · intro h
      have h5 : 128 < n.toNat * L := h4.1 (by omega)
      rcases Nat.le_total n.toNat 200 with q | q
      · rw [Nat.min_eq_left q, Nat.mul_comm]; exact h5
      · rw [Nat.min_eq_right q]
        have := Nat.mul_le_mul_right 200 hp
        omega
    · intro h
      have h5 : 128 < n.toNat * L := by
        have : L * min n.toNat 200 ≤ L * n.toNat := Nat.mul_le_mul_left _ (Nat.min_le_left _ _)
        rw [Nat.mul_comm n.toNat]
        omega
      have := h4.2 h5
      omega
  by_cases c : 128 < L * min n.toNat 200
  · rw [if_pos c, if_pos (h3.2 c)]
  · rw [if_neg c, if_neg (fun h => c (h3.1 h))]
theorem rep_min {v : Vc} {n : Int} (h1 : 1 ≤ n) (hp : 0 < (cnt v).b.length) (h : rpe n (cnt v).b.length = 0) : min n.toNat 200 = n.toNat := by
  unfold rpe at h
  rw [if_neg (by omega)] at h
  have q : ¬ ((128 : Int) / (cnt v).b.length < n) := fun q => by rw [if_pos q] at h; cases h
  have h3 : (128 : Int) / (cnt v).b.length ≤ 128 := Int.ediv_le_self _ (by decide)
  omega
/-- Where nothing is laid, nothing changes. -/
theorem ptd_skip {a p : List Int} {lo M : Int} {K : Nat} (h : M < 0 ∨ (a.length : Int) ≤ M) (i : Nat) (hi : i < a.length) : ptd a p lo K M i = ptd a p lo K (M + 1) i := by
  unfold ptd
  by_cases c : lo ≤ (i : Int) ∧ (i : Int) < lo + K ∧ (i : Int) < M
  · rw [if_pos c, if_pos ⟨c.1, c.2.1, by omega⟩]
  · rw [if_neg c, if_neg (by omega)]
theorem ptd_skips {a p : List Int} {lo : Int} {K k : Nat} (h : lo + (k : Int) < 0 ∨ (a.length : Int) ≤ lo + (k : Int)) (i : Nat) (hi : i < a.length) : ptd a p lo K (lo + (k : Int)) i = ptd a p lo K (lo + ((k + 1 : Nat) : Int)) i := by
  rw [ptd_skip h i hi, show lo + ((k + 1 : Nat) : Int) = lo + (k : Int) + 1 by omega]
theorem ptd_next {a p : List Int} {lo : Int} {K k j : Nat} (hj : lo + (k : Int) = j) (hk : k < K) (i : Nat) : (if i = j then qt p k else ptd a p lo K (lo + (k : Int)) i) = ptd a p lo K (lo + ((k + 1 : Nat) : Int)) i := by
  have h := ptd_step (a := a) (p := p) (lo := lo) (k := K) (j := j) (by omega) (by omega) i
  rw [show ((j : Int) - lo).toNat = k by omega] at h
  rw [hj, show lo + ((k + 1 : Nat) : Int) = (j : Int) + 1 by omega]
  exact h
end
end Go.Proofs.YtbcpeagannjgpaaGreatDoor
