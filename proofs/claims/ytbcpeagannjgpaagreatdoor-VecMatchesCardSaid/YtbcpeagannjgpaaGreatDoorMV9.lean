/-
  Texts of MV joined (VecAW, VecRJ, VecVM, QT, VecXX, Post).
-/
import Derived.Test.YtbcpeagannjgpaaGreatDoorRows
import Derived.Test.YtbcpeagannjgpaaGreatDoorTie
import Derived.ProofKit
import Derived.LaidMore
import Derived.OpenShut
import Derived.Stop.Joined
import Derived.Stop.LaidErr
import Derived.Lib.LaidTab
import Derived.Deep.Slices
import Derived.Deep.Fields
import Derived.Lib.SmallJoins
import Derived.ChangeSame
import Derived.ChangeSlices
import Derived.Carry
import Derived.WideKeyArgs
import Derived.Test.YtbcpeagannjgpaaGreatDoorMV8
set_option linter.unusedVariables false
set_option linter.unusedSimpArgs false
set_option linter.unusedSectionVars false
namespace Go.Proofs.YtbcpeagannjgpaaGreatDoor
section
open Go.RowKit
set_option maxRecDepth 100000
set_option linter.unusedSimpArgs false
set_option linter.unusedVariables false
set_option maxHeartbeats 4000000 in
theorem vawake_any (w : World) (ht : Tabs w) : Calls Tryz.prog 8 #[] w (Mk (.bool true) w) := by
 have HT := hide ht
 clear ht
 have hU : Below w.heap.size w w := Below.refl _ _
 refine calls_sl (l := []) 196 Tryz.func8 rfl kr (by simp) (zs (z1 [(0, z_f)] (sx_n (z1 [(1, .func (.func 11) #[] #[])] (sx_n ?_)))))
 refine zc rfl ((vfrom_q 5 8 true _ (by decide) (by decide) (by decide) (by decide)).mono ?_)
 rintro e w1 ⟨le, se, Ae, ce, Ee, rfl, Ce, Oe, hb⟩
 refine ⟨_, rfl, ?_⟩
 replace Ee := hide (ret_e0 Ee.out)
 replace Oe := hide Oe.out.rd
 replace hU := zU hU hU.size hb
 clear hb
 have Ge := zGd Ee (gd_of (by decide +kernel))
 have Le := zLe Ge
 have Ye := hide Ge.by_
 clear Ge
 refine z3 [(23, .int .i64 0), (22, .agg #[.slice Ae le.length ce, .bool se]), (20, .tuple #[.agg #[.slice Ae le.length ce, .bool se], .int .i64 0])] (zm (A := Ae) (m := le.length) (c := ce) (s := se) rfl rfl rfl ?_)
 intro w2 Ne Be hNe hb
 replace Be := hide Be
 replace Oe := zQ Oe hb
 have hze : w.heap.size ≤ Ne := Nat.le_trans hU.size hNe
 clear hNe
 replace hU := zU hU hU.size hb
 clear hb
 refine z1 [(3, .int .i64 0)] (sx_n ?_)
 refine zc rfl ((vfrom_q 5 8 false _ (by decide) (by decide) (by decide) (by decide)).mono ?_)
 rintro e w3 ⟨lp, sp, Ap, cp, Ep, rfl, Cp, Op, hb⟩
 refine ⟨_, rfl, ?_⟩
 replace Oe := zQ Oe hb
 replace Be := zX Be hb
 replace Ep := hide (ret_e0 Ep.out)
 replace Op := hide Op.out.rd
 replace hU := zU hU hU.size hb
 clear hb
 have Gp := zGd Ep (gd_of (by decide +kernel))
 have Lp := zLe Gp
 have Yp := hide Gp.by_
 clear Gp
 refine z3 [(27, .int .i64 0), (26, .agg #[.slice Ap lp.length cp, .bool sp]), (24, .tuple #[.agg #[.slice Ap lp.length cp, .bool sp], .int .i64 0])] (zm (A := Ap) (m := lp.length) (c := cp) (s := sp) rfl rfl rfl ?_)
 intro w4 Np Bp hNp hb
 replace Bp := hide Bp
 replace Oe := zQ Oe hb
 replace Op := zQ Op hb
 replace Be := zX Be hb
 have hzp : w.heap.size ≤ Np := Nat.le_trans hU.size hNp
 clear hNp
 replace hU := zU hU hU.size hb
 clear hb
 refine z1 [(5, .int .i64 0)] (sx_n ?_)
 refine zc rfl ((vfrom_q (-1) 32 true _ (by decide) (by decide) (by decide) (by decide)).mono ?_)
 rintro e w5 ⟨lm, sm, Am, cm, Em, rfl, Cm, Om, hb⟩
 refine ⟨_, rfl, ?_⟩
 replace Oe := zQ Oe hb
 replace Op := zQ Op hb
 replace Be := zX Be hb
 replace Bp := zX Bp hb
 replace Em := hide (ret_e0 Em.out)
 replace Om := hide Om.out.rd
 replace hU := zU hU hU.size hb
 clear hb
 have Gm := zGd Em (gd_of (by decide +kernel))
 have Lm := zLe Gm
 have Ym := hide Gm.by_
 clear Gm
 refine z3 [(31, .int .i64 0), (30, .agg #[.slice Am lm.length cm, .bool sm]), (28, .tuple #[.agg #[.slice Am lm.length cm, .bool sm], .int .i64 0])] (zm (A := Am) (m := lm.length) (c := cm) (s := sm) rfl rfl rfl ?_)
 intro w6 Nm Bm hNm hb
 replace Bm := hide Bm
 replace Oe := zQ Oe hb
 replace Op := zQ Op hb
 replace Om := zQ Om hb
 replace Be := zX Be hb
 replace Bp := zX Bp hb
 have hzm : w.heap.size ≤ Nm := Nat.le_trans hU.size hNm
 clear hNm
 replace hU := zU hU hU.size hb
 clear hb
 refine z1 [(7, .int .i64 0)] (sx_n ?_)
 refine zc rfl ((vfrom_q 2 32 true _ (by decide) (by decide) (by decide) (by decide)).mono ?_)
 rintro e w7 ⟨lb, sb, Ab, cb, Eb, rfl, Cb, Ob, hb⟩
 refine ⟨_, rfl, ?_⟩
 replace Oe := zQ Oe hb
 replace Op := zQ Op hb
 replace Om := zQ Om hb
 replace Be := zX Be hb
 replace Bp := zX Bp hb
 replace Bm := zX Bm hb
 replace Eb := hide (ret_e0 Eb.out)
 replace Ob := hide Ob.out.rd
 replace hU := zU hU hU.size hb
 clear hb
 have Gb := zGd Eb (gd_of (by decide +kernel))
 have Lb := zLe Gb
 have Yb := hide Gb.by_
 clear Gb
 refine z3 [(35, .int .i64 0), (34, .agg #[.slice Ab lb.length cb, .bool sb]), (32, .tuple #[.agg #[.slice Ab lb.length cb, .bool sb], .int .i64 0])] (zm (A := Ab) (m := lb.length) (c := cb) (s := sb) rfl rfl rfl ?_)
 intro w8 Nb Bb hNb hb
 replace Bb := hide Bb
 replace Oe := zQ Oe hb
 replace Op := zQ Op hb
 replace Om := zQ Om hb
 replace Ob := zQ Ob hb
 replace Be := zX Be hb
 replace Bp := zX Bp hb
 replace Bm := zX Bm hb
 have hzb : w.heap.size ≤ Nb := Nat.le_trans hU.size hNb
 clear hNb
 replace hU := zU hU hU.size hb
 clear hb
 refine z1 [(9, .int .i64 0)] (sx_n ?_)
 refine zc rfl ((vof_any ⟨#[49, 48]⟩ _ (by decide)).mono ?_)
 rintro e w9 ⟨l1, s1, A1, c1, E1, rfl, C1, O1, hb⟩
 refine ⟨_, rfl, ?_⟩
 replace Oe := zQ Oe hb
 replace Op := zQ Op hb
 replace Om := zQ Om hb
 replace Ob := zQ Ob hb
 replace Be := zX Be hb
 replace Bp := zX Bp hb
 replace Bm := zX Bm hb
 replace Bb := zX Bb hb
 replace O1 := hide O1.out.rd
 replace hU := zU hU hU.size hb
 clear hb
 have G1 := zGd E1 (gd_of (by decide +kernel))
 have L1 := zLe G1
 have Y1 := hide G1.by_
 clear G1
 refine zc rfl ((vof_any ⟨#[48, 122, 49]⟩ _ (by decide)).mono ?_)
 rintro e w10 ⟨l2, s2, A2, c2, E2, rfl, C2, O2, hb⟩
 refine ⟨_, rfl, ?_⟩
 replace Oe := zQ Oe hb
 replace Op := zQ Op hb
 replace Om := zQ Om hb
 replace Ob := zQ Ob hb
 replace O1 := zQ O1 hb
 replace Be := zX Be hb
 replace Bp := zX Bp hb
 replace Bm := zX Bm hb
 replace Bb := zX Bb hb
 replace O2 := hide O2.out.rd
 replace hU := zU hU hU.size hb
 clear hb
 have G2 := zGd E2 (gd_of (by decide +kernel))
 have L2 := zLe G2
 have Y2 := hide G2.by_
 clear G2
 refine wpl_bs2 rfl kr rfl (A0 := A1) (l0 := l1) (c0 := c1) (s0 := s1) (A1 := A2) (l1 := l2) (c1 := c2) (s1 := s2) kr kr O1.out Y1.out L1.out C1 O2.out Y2.out L2.out C2 ?_
 intro w11 NV11 RV11 hlV11 hNV11 hb
 replace RV11 := hide RV11
 replace Oe := zQ Oe hb
 replace Op := zQ Op hb
 replace Om := zQ Om hb
 replace Ob := zQ Ob hb
 replace O1 := zQ O1 hb
 replace O2 := zQ O2 hb
 replace Be := zX Be hb
 replace Bp := zX Bp hb
 replace Bm := zX Bm hb
 replace Bb := zX Bb hb
 replace hU := zU hU hU.size hb
 clear hb hNV11
 refine zc rfl ((vConcat_e0 NV11 2 [(A1, l1, c1, s1), (A2, l2, c2, s2)] _ hlV11 (by simp) (by simp) RV11.out (by show cte [⟨l1, s1⟩, ⟨l2, s2⟩] = 0; rw [E1.out, E2.out]; decide +kernel)).mono ?_)
 rintro e w12 ⟨lh, sh, Ah, ch, Eh, rfl, Ch, Oh, hb⟩
 refine ⟨_, rfl, ?_⟩
 replace Oe := zQ Oe hb
 replace Op := zQ Op hb
 replace Om := zQ Om hb
 replace Ob := zQ Ob hb
 replace O1 := zQ O1 hb
 replace O2 := zQ O2 hb
 replace Be := zX Be hb
 replace Bp := zX Bp hb
 replace Bm := zX Bm hb
 replace Bb := zX Bb hb
 replace Eh := hide (ret_e0 Eh.out)
 replace Oh := hide Oh.out.rd
 replace hU := zU hU hU.size hb
 clear hb
 have Gh := zGd Eh ((by show Gd (cats [⟨l1, s1⟩, ⟨l2, s2⟩]); rw [E1.out, E2.out]; exact gd_of (by decide +kernel)))
 have Lh := zLe Gh
 have Yh := hide Gh.by_
 clear Gh
 replace Eh := hide (show (⟨lh, sh⟩ : Vc) = ⟨cats [⟨ofB ⟨#[49, 48]⟩, false⟩, ⟨ofB ⟨#[48, 122, 49]⟩, false⟩], false⟩ from Eh.out.trans (by show (⟨cats [⟨l1, s1⟩, ⟨l2, s2⟩], false⟩ : Vc) = _; rw [E1.out, E2.out]))
 clear RV11 O1 C1 L1 Y1
 clear O2 C2 L2 Y2
 refine z3 [(42, .int .i64 0), (41, .agg #[.slice Ah lh.length ch, .bool sh]), (36, .tuple #[.agg #[.slice Ah lh.length ch, .bool sh], .int .i64 0])] (zm (A := Ah) (m := lh.length) (c := ch) (s := sh) rfl rfl rfl ?_)
 intro w13 Nh Bh hNh hb
 replace Bh := hide Bh
 replace Oe := zQ Oe hb
 replace Op := zQ Op hb
 replace Om := zQ Om hb
 replace Ob := zQ Ob hb
 replace Oh := zQ Oh hb
 replace Be := zX Be hb
 replace Bp := zX Bp hb
 replace Bm := zX Bm hb
 replace Bb := zX Bb hb
 have hzh : w.heap.size ≤ Nh := Nat.le_trans hU.size hNh
 clear hNh
 replace hU := zU hU hU.size hb
 clear hb
 refine z1 [(11, .int .i64 0)] (sx_n ?_)
 refine zc rfl ((vof_any ⟨#[49, 48, 49, 49]⟩ _ (by decide)).mono ?_)
 rintro e w14 ⟨l1, s1, A1, c1, E1, rfl, C1, O1, hb⟩
 refine ⟨_, rfl, ?_⟩
 replace Oe := zQ Oe hb
 replace Op := zQ Op hb
 replace Om := zQ Om hb
 replace Ob := zQ Ob hb
 replace Oh := zQ Oh hb
 replace Be := zX Be hb
 replace Bp := zX Bp hb
 replace Bm := zX Bm hb
 replace Bb := zX Bb hb
 replace Bh := zX Bh hb
 replace O1 := hide O1.out.rd
 replace hU := zU hU hU.size hb
 clear hb
 have G1 := zGd E1 (gd_of (by decide +kernel))
 have L1 := zLe G1
 have Y1 := hide G1.by_
 clear G1
 refine zc rfl ((vSlice_e0 4 2 A1 l1 c1 s1 _ L1.out C1 O1.out Y1.out (by decide) (by decide) (by decide) (by decide) (by decide)).mono ?_)
 rintro e w15 ⟨lt, st, At, ct, Et, rfl, Ct, Ot, hb⟩
 refine ⟨_, rfl, ?_⟩
 replace Oe := zQ Oe hb
 replace Op := zQ Op hb
 replace Om := zQ Om hb
 replace Ob := zQ Ob hb
 replace Oh := zQ Oh hb
 replace O1 := zQ O1 hb
 replace Be := zX Be hb
 replace Bp := zX Bp hb
 replace Bm := zX Bm hb
 replace Bb := zX Bb hb
 replace Bh := zX Bh hb
 replace Et := hide (ret_e0 Et.out)
 replace Ot := hide Ot.out.rd
 replace hU := zU hU hU.size hb
 clear hb
 have Gt := zGd Et ((by rw [E1.out]; exact gd_of (by decide +kernel)))
 have Lt := zLe Gt
 have Yt := hide Gt.by_
 clear Gt
 replace Et := hide (show (⟨lt, st⟩ : Vc) = ⟨wdw (cnt ⟨ofB ⟨#[49, 48, 49, 49]⟩, false⟩).b 2 (4 - 2 + 1 : Int).toNat 2, false⟩ from Et.out.trans (by rw [E1.out]))
 clear O1 C1 L1 Y1
 refine z3 [(47, .int .i64 0), (46, .agg #[.slice At lt.length ct, .bool st]), (43, .tuple #[.agg #[.slice At lt.length ct, .bool st], .int .i64 0])] (zm (A := At) (m := lt.length) (c := ct) (s := st) rfl rfl rfl ?_)
 intro w16 Nt Bt hNt hb
 replace Bt := hide Bt
 replace Oe := zQ Oe hb
 replace Op := zQ Op hb
 replace Om := zQ Om hb
 replace Ob := zQ Ob hb
 replace Oh := zQ Oh hb
 replace Ot := zQ Ot hb
 replace Be := zX Be hb
 replace Bp := zX Bp hb
 replace Bm := zX Bm hb
 replace Bb := zX Bb hb
 replace Bh := zX Bh hb
 have hzt : w.heap.size ≤ Nt := Nat.le_trans hU.size hNt
 clear hNt
 replace hU := zU hU hU.size hb
 clear hb
 refine z1 [(13, .int .i64 0)] (ze (wp_seq (zs (wpl_r16 [(63, .int .i64 0), (62, z_f), (61, z_f), (60, z_f), (59, .int .i64 0), (58, z_f), (57, z_f), (56, z_f), (55, .int .i64 0), (54, z_f), (53, z_f), (52, z_f), (51, .int .i64 0), (50, z_f), (49, z_f), (48, .int .i64 0)] kr (z6 [(69, z_f), (68, z_f), (67, .int .i64 0), (66, z_f), (65, z_f), (64, z_f)] ?_)))))
 refine ze (zif (wp_skip (then_normal (wp_seq (region_R (n := 8) (N := 9) kr kr kr kr kr kr (fun _ _ _ _ _ h => h) ?_)))))
 intro F hQ
 have Be0 := Be
 have Bp0 := Bp
 have Bm0 := Bm
 have Bb0 := Bb
 have Bh0 := Bh
 have Bt0 := Bt
 refine anyR_ldvec (i := 1) (m' := 2) Bp0.out F hQ rfl rfl kr kr kr kr kr rfl kr ?_
 refine zac (i := 0) (m' := 3) rfl rfl ((vsof_any ⟨#[49, 49, 48, 49]⟩ _ (by decide)).mono ?_)
 rintro e w17 ⟨l1, s1, A1, c1, E1, rfl, C1, O1, hb⟩
 refine ⟨_, rfl, hb, ?_⟩
 replace hb : Below w16.heap.size w16 w17 := Below.trans ((Below.refl _ _).drew) hb
 replace Oe := zQ Oe hb
 replace Op := zQ Op hb
 replace Om := zQ Om hb
 replace Ob := zQ Ob hb
 replace Oh := zQ Oh hb
 replace Ot := zQ Ot hb
 replace Be := zX Be hb
 replace Bp := zX Bp hb
 replace Bm := zX Bm hb
 replace Bb := zX Bb hb
 replace Bh := zX Bh hb
 replace Bt := zX Bt hb
 replace O1 := hide O1.out.rd
 replace hU := zU hU hU.size hb
 clear hb
 have G1 := zGd E1 (gd_of (by decide +kernel))
 have L1 := zLe G1
 have Y1 := hide G1.by_
 clear G1
 refine zac (i := 2) (m' := 7) rfl rfl ((vAdd_any A1 Ap l1 lp c1 cp s1 sp _ L1.out Lp.out C1 Cp O1.out Op.out Y1.out Yp.out).mono ?_)
 rintro e w18 ⟨l2, s2, A2, c2, E2, rfl, C2, O2, hb⟩
 refine ⟨_, rfl, hb, ?_⟩
 replace Oe := zQ Oe hb
 replace Op := zQ Op hb
 replace Om := zQ Om hb
 replace Ob := zQ Ob hb
 replace Oh := zQ Oh hb
 replace Ot := zQ Ot hb
 replace O1 := zQ O1 hb
 replace Be := zX Be hb
 replace Bp := zX Bp hb
 replace Bm := zX Bm hb
 replace Bb := zX Bb hb
 replace Bh := zX Bh hb
 replace Bt := zX Bt hb
 replace O2 := hide O2.out.rd
 replace hU := zU hU hU.size hb
 clear hb
 have G2 := zGd E2 ((by rw [E1.out, Ep.out]; exact gd_of (by decide +kernel)))
 have L2 := zLe G2
 have Y2 := hide G2.by_
 clear G2
 replace E2 := hide (show (⟨l2, s2⟩ : Vc) = vAdd ⟨ofB ⟨#[49, 49, 48, 49]⟩, true⟩ ⟨fb (vz 8 5), false⟩ from E2.out.trans (by rw [E1.out, Ep.out]))
 clear O1 C1 L1 Y1
 refine zac (i := 3) (m' := 15) rfl rfl ((vint_val (18) A2 l2 c2 s2 _ L2.out C2 O2.out Y2.out (by rw [E2.out]; decide +kernel) (by rw [E2.out]; decide +kernel) (by decide) (by decide)).mono ?_)
 rintro e w19 ⟨rfl, hb⟩
 refine ⟨_, rfl, hb, ?_⟩
 replace Oe := zQ Oe hb
 replace Op := zQ Op hb
 replace Om := zQ Om hb
 replace Ob := zQ Ob hb
 replace Oh := zQ Oh hb
 replace Ot := zQ Ot hb
 replace O2 := zQ O2 hb
 replace Be := zX Be hb
 replace Bp := zX Bp hb
 replace Bm := zX Bm hb
 replace Bb := zX Bb hb
 replace Bh := zX Bh hb
 replace Bt := zX Bt hb
 replace hU := zU hU hU.size hb
 clear hb O2 C2 L2 Y2
 refine zav (i := 4) (m' := 31) (v := .tuple #[.int .i64 18, .bool true]) F hQ rfl rfl (zav (i := 5) (m' := 63) (v := .int .i64 18) F hQ rfl rfl (zav (i := 6) (m' := 127) (v := .bool true) F hQ rfl rfl (zav (i := 7) (m' := 255) (v := .int .i64 18) F hQ rfl rfl (anyR_e (anyR_last (i := 8) (m' := 511) (v := .bool true) rfl rfl kr kr kr kr kr (anyE_done kr ?_))))))
 clear F hQ Be0 Bp0 Bm0 Bb0 Bh0 Bt0
 refine then_normal (wp_seq (region_R (n := 8) (N := 9) kr kr kr kr kr kr (fun _ _ _ _ _ h => h) ?_))
 intro F hQ
 have Be0 := Be
 have Bp0 := Bp
 have Bm0 := Bm
 have Bb0 := Bb
 have Bh0 := Bh
 have Bt0 := Bt
 refine anyR_ldvec (i := 1) (m' := 2) Be0.out F hQ rfl rfl kr kr kr kr kr rfl kr ?_
 refine zac (i := 0) (m' := 3) rfl rfl ((vsof_any ⟨#[49, 49, 48, 49]⟩ _ (by decide)).mono ?_)
 rintro e w20 ⟨l1, s1, A1, c1, E1, rfl, C1, O1, hb⟩
 refine ⟨_, rfl, hb, ?_⟩
 replace hb : Below w19.heap.size w19 w20 := Below.trans ((Below.refl _ _).drew) hb
 replace Oe := zQ Oe hb
 replace Op := zQ Op hb
 replace Om := zQ Om hb
 replace Ob := zQ Ob hb
 replace Oh := zQ Oh hb
 replace Ot := zQ Ot hb
 replace Be := zX Be hb
 replace Bp := zX Bp hb
 replace Bm := zX Bm hb
 replace Bb := zX Bb hb
 replace Bh := zX Bh hb
 replace Bt := zX Bt hb
 replace O1 := hide O1.out.rd
 replace hU := zU hU hU.size hb
 clear hb
 have G1 := zGd E1 (gd_of (by decide +kernel))
 have L1 := zLe G1
 have Y1 := hide G1.by_
 clear G1
 refine zac (i := 2) (m' := 7) rfl rfl ((vAdd_any A1 Ae l1 le c1 ce s1 se _ L1.out Le.out C1 Ce O1.out Oe.out Y1.out Ye.out).mono ?_)
 rintro e w21 ⟨l2, s2, A2, c2, E2, rfl, C2, O2, hb⟩
 refine ⟨_, rfl, hb, ?_⟩
 replace Oe := zQ Oe hb
 replace Op := zQ Op hb
 replace Om := zQ Om hb
 replace Ob := zQ Ob hb
 replace Oh := zQ Oh hb
 replace Ot := zQ Ot hb
 replace O1 := zQ O1 hb
 replace Be := zX Be hb
 replace Bp := zX Bp hb
 replace Bm := zX Bm hb
 replace Bb := zX Bb hb
 replace Bh := zX Bh hb
 replace Bt := zX Bt hb
 replace O2 := hide O2.out.rd
 replace hU := zU hU hU.size hb
 clear hb
 have G2 := zGd E2 ((by rw [E1.out, Ee.out]; exact gd_of (by decide +kernel)))
 have L2 := zLe G2
 have Y2 := hide G2.by_
 clear G2
 replace E2 := hide (show (⟨l2, s2⟩ : Vc) = vAdd ⟨ofB ⟨#[49, 49, 48, 49]⟩, true⟩ ⟨fb (vz 8 5), true⟩ from E2.out.trans (by rw [E1.out, Ee.out]))
 clear O1 C1 L1 Y1
 refine zac (i := 3) (m' := 15) rfl rfl ((vint_val (2) A2 l2 c2 s2 _ L2.out C2 O2.out Y2.out (by rw [E2.out]; decide +kernel) (by rw [E2.out]; decide +kernel) (by decide) (by decide)).mono ?_)
 rintro e w22 ⟨rfl, hb⟩
 refine ⟨_, rfl, hb, ?_⟩
 replace Oe := zQ Oe hb
 replace Op := zQ Op hb
 replace Om := zQ Om hb
 replace Ob := zQ Ob hb
 replace Oh := zQ Oh hb
 replace Ot := zQ Ot hb
 replace O2 := zQ O2 hb
 replace Be := zX Be hb
 replace Bp := zX Bp hb
 replace Bm := zX Bm hb
 replace Bb := zX Bb hb
 replace Bh := zX Bh hb
 replace Bt := zX Bt hb
 replace hU := zU hU hU.size hb
 clear hb O2 C2 L2 Y2
 refine zav (i := 4) (m' := 31) (v := .tuple #[.int .i64 2, .bool true]) F hQ rfl rfl (zav (i := 5) (m' := 63) (v := .int .i64 2) F hQ rfl rfl (zav (i := 6) (m' := 127) (v := .bool true) F hQ rfl rfl (zav (i := 7) (m' := 255) (v := .int .i64 2) F hQ rfl rfl (anyR_e (anyR_last (i := 8) (m' := 511) (v := .bool true) rfl rfl kr kr kr kr kr (anyE_done kr ?_))))))
 clear F hQ Be0 Bp0 Bm0 Bb0 Bh0 Bt0
 refine then_normal (zs (zv Bb.out rfl rfl (zv Bm.out rfl rfl ?_)))
 refine zc rfl ((vPow_any Ab Am lb lm cb cm sb sm _ Lb.out Lm.out Cb Cm Ob.out Om.out Yb.out Ym.out (HT.out.kept hU)).mono ?_)
 rintro e w23 ⟨l1, s1, A1, c1, E1, rfl, C1, O1, hb⟩
 refine ⟨_, rfl, ?_⟩
 replace Oe := zQ Oe hb
 replace Op := zQ Op hb
 replace Om := zQ Om hb
 replace Ob := zQ Ob hb
 replace Oh := zQ Oh hb
 replace Ot := zQ Ot hb
 replace Be := zX Be hb
 replace Bp := zX Bp hb
 replace Bm := zX Bm hb
 replace Bb := zX Bb hb
 replace Bh := zX Bh hb
 replace Bt := zX Bt hb
 replace O1 := hide O1.out.rd
 replace hU := zU hU hU.size hb
 clear hb
 have G1 := zGd E1 ((by rw [Eb.out, Em.out]; exact gd_of (by decide +kernel)))
 have L1 := zLe G1
 have Y1 := hide G1.by_
 clear G1
 replace E1 := hide (show (⟨l1, s1⟩ : Vc) = vPow ⟨fb (vz 32 2), true⟩ ⟨fb (vz 32 (-1)), true⟩ from E1.out.trans (by rw [Eb.out, Em.out]))
 refine zc rfl ((vint_val (0) A1 l1 c1 s1 _ L1.out C1 O1.out Y1.out (by rw [E1.out]; decide +kernel) (by rw [E1.out]; decide +kernel) (by decide) (by decide)).mono ?_)
 rintro e w24 ⟨rfl, hb⟩
 refine ⟨_, rfl, ?_⟩
 replace Oe := zQ Oe hb
 replace Op := zQ Op hb
 replace Om := zQ Om hb
 replace Ob := zQ Ob hb
 replace Oh := zQ Oh hb
 replace Ot := zQ Ot hb
 replace O1 := zQ O1 hb
 replace Be := zX Be hb
 replace Bp := zX Bp hb
 replace Bm := zX Bm hb
 replace Bb := zX Bb hb
 replace Bh := zX Bh hb
 replace Bt := zX Bt hb
 replace hU := zU hU hU.size hb
 clear hb O1 C1 L1 Y1
 refine z5 [(19, z_t), (18, .int .i64 0), (90, z_t), (89, .int .i64 0), (84, .tuple #[.int .i64 0, .bool true])] (ze (wp_seq (zs (wpl_r16 [(106, z_t), (105, z_f), (104, z_f), (103, z_f), (102, .int .i64 2), (101, z_f), (100, z_f), (99, z_f), (98, z_t), (97, z_f), (96, z_f), (95, z_f), (94, .int .i64 18), (93, z_f), (92, z_f), (91, z_t)] kr (z6 [(112, z_f), (111, z_f), (110, .int .i64 0), (109, z_f), (108, z_f), (107, z_f)] ?_)))))
 refine ze (zif (wp_skip (then_normal (wp_seq (region_R (n := 83) (N := 84) kr kr kr kr kr kr (fun _ _ _ _ _ h => h) ?_)))))
 intro F hQ
 have Be0 := Be
 have Bp0 := Bp
 have Bm0 := Bm
 have Bb0 := Bb
 have Bh0 := Bh
 have Bt0 := Bt
 refine zav (i := 0) (m' := 1) (v := .func (.func 11) #[] #[]) F hQ rfl rfl ?_
 refine zac (i := 1) (m' := 3) rfl rfl ((vof_any ⟨#[49, 120, 48, 48]⟩ _ (by decide)).mono ?_)
 rintro e w25 ⟨l1, s1, A1, c1, E1, rfl, C1, O1, hb⟩
 refine ⟨_, rfl, hb, ?_⟩
 replace hb : Below w24.heap.size w24 w25 := Below.trans ((Below.refl _ _).drew) hb
 replace Oe := zQ Oe hb
 replace Op := zQ Op hb
 replace Om := zQ Om hb
 replace Ob := zQ Ob hb
 replace Oh := zQ Oh hb
 replace Ot := zQ Ot hb
 replace Be := zX Be hb
 replace Bp := zX Bp hb
 replace Bm := zX Bm hb
 replace Bb := zX Bb hb
 replace Bh := zX Bh hb
 replace Bt := zX Bt hb
 replace O1 := hide O1.out.rd
 replace hU := zU hU hU.size hb
 clear hb
 have G1 := zGd E1 (gd_of (by decide +kernel))
 have L1 := zLe G1
 have Y1 := hide G1.by_
 clear G1
 refine zac (i := 2) (m' := 7) rfl rfl ((vof_any ⟨#[48, 49, 49, 48]⟩ _ (by decide)).mono ?_)
 rintro e w26 ⟨l2, s2, A2, c2, E2, rfl, C2, O2, hb⟩
 refine ⟨_, rfl, hb, ?_⟩
 replace Oe := zQ Oe hb
 replace Op := zQ Op hb
 replace Om := zQ Om hb
 replace Ob := zQ Ob hb
 replace Oh := zQ Oh hb
 replace Ot := zQ Ot hb
 replace O1 := zQ O1 hb
 replace Be := zX Be hb
 replace Bp := zX Bp hb
 replace Bm := zX Bm hb
 replace Bb := zX Bb hb
 replace Bh := zX Bh hb
 replace Bt := zX Bt hb
 replace O2 := hide O2.out.rd
 replace hU := zU hU hU.size hb
 clear hb
 have G2 := zGd E2 (gd_of (by decide +kernel))
 have L2 := zLe G2
 have Y2 := hide G2.by_
 clear G2
 refine zac (i := 3) (m' := 15) rfl rfl ((vAnd_any A1 A2 l1 l2 c1 c2 s1 s2 _ L1.out L2.out C1 C2 O1.out O2.out Y1.out Y2.out (HT.out.kept hU)).mono ?_)
 rintro e w27 ⟨l3, s3, A3, c3, E3, rfl, C3, O3, hb⟩
 refine ⟨_, rfl, hb, ?_⟩
 replace Oe := zQ Oe hb
 replace Op := zQ Op hb
 replace Om := zQ Om hb
 replace Ob := zQ Ob hb
 replace Oh := zQ Oh hb
 replace Ot := zQ Ot hb
 replace O1 := zQ O1 hb
 replace O2 := zQ O2 hb
 replace Be := zX Be hb
 replace Bp := zX Bp hb
 replace Bm := zX Bm hb
 replace Bb := zX Bb hb
 replace Bh := zX Bh hb
 replace Bt := zX Bt hb
 replace O3 := hide O3.out.rd
 replace hU := zU hU hU.size hb
 clear hb
 have G3 := zGd E3 ((by rw [E1.out, E2.out]; exact gd_of (by decide +kernel)))
 have L3 := zLe G3
 have Y3 := hide G3.by_
 clear G3
 replace E3 := hide (show (⟨l3, s3⟩ : Vc) = btw mAnd ⟨ofB ⟨#[49, 120, 48, 48]⟩, false⟩ ⟨ofB ⟨#[48, 49, 49, 48]⟩, false⟩ from E3.out.trans (by rw [E1.out, E2.out]))
 clear O1 C1 L1 Y1 O2 C2 L2 Y2
 refine zac (i := 4) (m' := 31) rfl rfl ((vof_any ⟨#[48, 120, 48, 48]⟩ _ (by decide)).mono ?_)
 rintro e w28 ⟨l4, s4, A4, c4, E4, rfl, C4, O4, hb⟩
 refine ⟨_, rfl, hb, ?_⟩
 replace Oe := zQ Oe hb
 replace Op := zQ Op hb
 replace Om := zQ Om hb
 replace Ob := zQ Ob hb
 replace Oh := zQ Oh hb
 replace Ot := zQ Ot hb
 replace O3 := zQ O3 hb
 replace Be := zX Be hb
 replace Bp := zX Bp hb
 replace Bm := zX Bm hb
 replace Bb := zX Bb hb
 replace Bh := zX Bh hb
 replace Bt := zX Bt hb
 replace O4 := hide O4.out.rd
 replace hU := zU hU hU.size hb
 clear hb
 have G4 := zGd E4 (gd_of (by decide +kernel))
 have L4 := zLe G4
 have Y4 := hide G4.by_
 clear G4
 refine zac (i := 5) (m' := 63) rfl rfl ((rsame_yes A3 A4 l3 l4 c3 c4 s3 s4 _ L3.out L4.out O3.out O4.out (by rw [E3.out, E4.out]; exact (sm_iff _ _).1 (by decide +kernel))).mono ?_)
 rintro e w29 ⟨rfl, hb⟩
 refine ⟨_, rfl, hb, ?_⟩
 replace Oe := zQ Oe hb
 replace Op := zQ Op hb
 replace Om := zQ Om hb
 replace Ob := zQ Ob hb
 replace Oh := zQ Oh hb
 replace Ot := zQ Ot hb
 replace O3 := zQ O3 hb
 replace O4 := zQ O4 hb
 replace Be := zX Be hb
 replace Bp := zX Bp hb
 replace Bm := zX Bm hb
 replace Bb := zX Bb hb
 replace Bh := zX Bh hb
 replace Bt := zX Bt hb
 replace hU := zU hU hU.size hb
 clear hb O3 C3 L3 Y3
 clear O4 C4 L4 Y4
 refine zav (i := 6) (m' := 127) (v := .bool true) F hQ rfl rfl (zav (i := 7) (m' := 255) (v := .func (.func 11) #[] #[]) F hQ rfl rfl ?_)
 refine zac (i := 8) (m' := 511) rfl rfl ((vof_any ⟨#[49, 49, 48, 48]⟩ _ (by decide)).mono ?_)
 rintro e w30 ⟨l1, s1, A1, c1, E1, rfl, C1, O1, hb⟩
 refine ⟨_, rfl, hb, ?_⟩
 replace Oe := zQ Oe hb
 replace Op := zQ Op hb
 replace Om := zQ Om hb
 replace Ob := zQ Ob hb
 replace Oh := zQ Oh hb
 replace Ot := zQ Ot hb
 replace Be := zX Be hb
 replace Bp := zX Bp hb
 replace Bm := zX Bm hb
 replace Bb := zX Bb hb
 replace Bh := zX Bh hb
 replace Bt := zX Bt hb
 replace O1 := hide O1.out.rd
 replace hU := zU hU hU.size hb
 clear hb
 have G1 := zGd E1 (gd_of (by decide +kernel))
 have L1 := zLe G1
 have Y1 := hide G1.by_
 clear G1
 refine zac (i := 9) (m' := 1023) rfl rfl ((vof_any ⟨#[48, 49, 48, 49]⟩ _ (by decide)).mono ?_)
 rintro e w31 ⟨l2, s2, A2, c2, E2, rfl, C2, O2, hb⟩
 refine ⟨_, rfl, hb, ?_⟩
 replace Oe := zQ Oe hb
 replace Op := zQ Op hb
 replace Om := zQ Om hb
 replace Ob := zQ Ob hb
 replace Oh := zQ Oh hb
 replace Ot := zQ Ot hb
 replace O1 := zQ O1 hb
 replace Be := zX Be hb
 replace Bp := zX Bp hb
 replace Bm := zX Bm hb
 replace Bb := zX Bb hb
 replace Bh := zX Bh hb
 replace Bt := zX Bt hb
 replace O2 := hide O2.out.rd
 replace hU := zU hU hU.size hb
 clear hb
 have G2 := zGd E2 (gd_of (by decide +kernel))
 have L2 := zLe G2
 have Y2 := hide G2.by_
 clear G2
 refine zac (i := 10) (m' := 2047) rfl rfl ((vAdd_any A1 A2 l1 l2 c1 c2 s1 s2 _ L1.out L2.out C1 C2 O1.out O2.out Y1.out Y2.out).mono ?_)
 rintro e w32 ⟨l3, s3, A3, c3, E3, rfl, C3, O3, hb⟩
 refine ⟨_, rfl, hb, ?_⟩
 replace Oe := zQ Oe hb
 replace Op := zQ Op hb
 replace Om := zQ Om hb
 replace Ob := zQ Ob hb
 replace Oh := zQ Oh hb
 replace Ot := zQ Ot hb
 replace O1 := zQ O1 hb
 replace O2 := zQ O2 hb
 replace Be := zX Be hb
 replace Bp := zX Bp hb
 replace Bm := zX Bm hb
 replace Bb := zX Bb hb
 replace Bh := zX Bh hb
 replace Bt := zX Bt hb
 replace O3 := hide O3.out.rd
 replace hU := zU hU hU.size hb
 clear hb
 have G3 := zGd E3 ((by rw [E1.out, E2.out]; exact gd_of (by decide +kernel)))
 have L3 := zLe G3
 have Y3 := hide G3.by_
 clear G3
 replace E3 := hide (show (⟨l3, s3⟩ : Vc) = vAdd ⟨ofB ⟨#[49, 49, 48, 48]⟩, false⟩ ⟨ofB ⟨#[48, 49, 48, 49]⟩, false⟩ from E3.out.trans (by rw [E1.out, E2.out]))
 clear O1 C1 L1 Y1 O2 C2 L2 Y2
 refine zac (i := 11) (m' := 4095) rfl rfl ((vof_any ⟨#[48, 48, 48, 49]⟩ _ (by decide)).mono ?_)
 rintro e w33 ⟨l4, s4, A4, c4, E4, rfl, C4, O4, hb⟩
 refine ⟨_, rfl, hb, ?_⟩
 replace Oe := zQ Oe hb
 replace Op := zQ Op hb
 replace Om := zQ Om hb
 replace Ob := zQ Ob hb
 replace Oh := zQ Oh hb
 replace Ot := zQ Ot hb
 replace O3 := zQ O3 hb
 replace Be := zX Be hb
 replace Bp := zX Bp hb
 replace Bm := zX Bm hb
 replace Bb := zX Bb hb
 replace Bh := zX Bh hb
 replace Bt := zX Bt hb
 replace O4 := hide O4.out.rd
 replace hU := zU hU hU.size hb
 clear hb
 have G4 := zGd E4 (gd_of (by decide +kernel))
 have L4 := zLe G4
 have Y4 := hide G4.by_
 clear G4
 refine zac (i := 12) (m' := 8191) rfl rfl ((rsame_yes A3 A4 l3 l4 c3 c4 s3 s4 _ L3.out L4.out O3.out O4.out (by rw [E3.out, E4.out]; exact (sm_iff _ _).1 (by decide +kernel))).mono ?_)
 rintro e w34 ⟨rfl, hb⟩
 refine ⟨_, rfl, hb, ?_⟩
 replace Oe := zQ Oe hb
 replace Op := zQ Op hb
 replace Om := zQ Om hb
 replace Ob := zQ Ob hb
 replace Oh := zQ Oh hb
 replace Ot := zQ Ot hb
 replace O3 := zQ O3 hb
 replace O4 := zQ O4 hb
 replace Be := zX Be hb
 replace Bp := zX Bp hb
 replace Bm := zX Bm hb
 replace Bb := zX Bb hb
 replace Bh := zX Bh hb
 replace Bt := zX Bt hb
 replace hU := zU hU hU.size hb
 clear hb O3 C3 L3 Y3
 clear O4 C4 L4 Y4
 refine zav (i := 13) (m' := 16383) (v := .bool true) F hQ rfl rfl (zav (i := 14) (m' := 32767) (v := .bool true) F hQ rfl rfl (zav (i := 15) (m' := 65535) (v := .func (.func 11) #[] #[]) F hQ rfl rfl ?_))
 refine zac (i := 16) (m' := 131071) rfl rfl ((vof_any ⟨#[49, 120, 48, 48]⟩ _ (by decide)).mono ?_)
 rintro e w35 ⟨l1, s1, A1, c1, E1, rfl, C1, O1, hb⟩
 refine ⟨_, rfl, hb, ?_⟩
 replace Oe := zQ Oe hb
 replace Op := zQ Op hb
 replace Om := zQ Om hb
 replace Ob := zQ Ob hb
 replace Oh := zQ Oh hb
 replace Ot := zQ Ot hb
 replace Be := zX Be hb
 replace Bp := zX Bp hb
 replace Bm := zX Bm hb
 replace Bb := zX Bb hb
 replace Bh := zX Bh hb
 replace Bt := zX Bt hb
 replace O1 := hide O1.out.rd
 replace hU := zU hU hU.size hb
 clear hb
 have G1 := zGd E1 (gd_of (by decide +kernel))
 have L1 := zLe G1
 have Y1 := hide G1.by_
 clear G1
 refine zac (i := 17) (m' := 262143) rfl rfl ((vof_any ⟨#[48, 48, 48, 49]⟩ _ (by decide)).mono ?_)
 rintro e w36 ⟨l2, s2, A2, c2, E2, rfl, C2, O2, hb⟩
 refine ⟨_, rfl, hb, ?_⟩
 replace Oe := zQ Oe hb
 replace Op := zQ Op hb
 replace Om := zQ Om hb
 replace Ob := zQ Ob hb
 replace Oh := zQ Oh hb
 replace Ot := zQ Ot hb
 replace O1 := zQ O1 hb
 replace Be := zX Be hb
 replace Bp := zX Bp hb
 replace Bm := zX Bm hb
 replace Bb := zX Bb hb
 replace Bh := zX Bh hb
 replace Bt := zX Bt hb
 replace O2 := hide O2.out.rd
 replace hU := zU hU hU.size hb
 clear hb
 have G2 := zGd E2 (gd_of (by decide +kernel))
 have L2 := zLe G2
 have Y2 := hide G2.by_
 clear G2
 refine zac (i := 18) (m' := 524287) rfl rfl ((vAdd_any A1 A2 l1 l2 c1 c2 s1 s2 _ L1.out L2.out C1 C2 O1.out O2.out Y1.out Y2.out).mono ?_)
 rintro e w37 ⟨l3, s3, A3, c3, E3, rfl, C3, O3, hb⟩
 refine ⟨_, rfl, hb, ?_⟩
 replace Oe := zQ Oe hb
 replace Op := zQ Op hb
 replace Om := zQ Om hb
 replace Ob := zQ Ob hb
 replace Oh := zQ Oh hb
 replace Ot := zQ Ot hb
 replace O1 := zQ O1 hb
 replace O2 := zQ O2 hb
 replace Be := zX Be hb
 replace Bp := zX Bp hb
 replace Bm := zX Bm hb
 replace Bb := zX Bb hb
 replace Bh := zX Bh hb
 replace Bt := zX Bt hb
 replace O3 := hide O3.out.rd
 replace hU := zU hU hU.size hb
 clear hb
 have G3 := zGd E3 ((by rw [E1.out, E2.out]; exact gd_of (by decide +kernel)))
 have L3 := zLe G3
 have Y3 := hide G3.by_
 clear G3
 replace E3 := hide (show (⟨l3, s3⟩ : Vc) = vAdd ⟨ofB ⟨#[49, 120, 48, 48]⟩, false⟩ ⟨ofB ⟨#[48, 48, 48, 49]⟩, false⟩ from E3.out.trans (by rw [E1.out, E2.out]))
 clear O1 C1 L1 Y1 O2 C2 L2 Y2
 refine zac (i := 19) (m' := 1048575) rfl rfl ((vof_any ⟨#[120, 120, 120, 120]⟩ _ (by decide)).mono ?_)
 rintro e w38 ⟨l4, s4, A4, c4, E4, rfl, C4, O4, hb⟩
 refine ⟨_, rfl, hb, ?_⟩
 replace Oe := zQ Oe hb
 replace Op := zQ Op hb
 replace Om := zQ Om hb
 replace Ob := zQ Ob hb
 replace Oh := zQ Oh hb
 replace Ot := zQ Ot hb
 replace O3 := zQ O3 hb
 replace Be := zX Be hb
 replace Bp := zX Bp hb
 replace Bm := zX Bm hb
 replace Bb := zX Bb hb
 replace Bh := zX Bh hb
 replace Bt := zX Bt hb
 replace O4 := hide O4.out.rd
 replace hU := zU hU hU.size hb
 clear hb
 have G4 := zGd E4 (gd_of (by decide +kernel))
 have L4 := zLe G4
 have Y4 := hide G4.by_
 clear G4
 refine zac (i := 20) (m' := 2097151) rfl rfl ((rsame_yes A3 A4 l3 l4 c3 c4 s3 s4 _ L3.out L4.out O3.out O4.out (by rw [E3.out, E4.out]; exact (sm_iff _ _).1 (by decide +kernel))).mono ?_)
 rintro e w39 ⟨rfl, hb⟩
 refine ⟨_, rfl, hb, ?_⟩
 replace Oe := zQ Oe hb
 replace Op := zQ Op hb
 replace Om := zQ Om hb
 replace Ob := zQ Ob hb
 replace Oh := zQ Oh hb
 replace Ot := zQ Ot hb
 replace O3 := zQ O3 hb
 replace O4 := zQ O4 hb
 replace Be := zX Be hb
 replace Bp := zX Bp hb
 replace Bm := zX Bm hb
 replace Bb := zX Bb hb
 replace Bh := zX Bh hb
 replace Bt := zX Bt hb
 replace hU := zU hU hU.size hb
 clear hb O3 C3 L3 Y3
 clear O4 C4 L4 Y4
 refine zav (i := 21) (m' := 4194303) (v := .bool true) F hQ rfl rfl (zav (i := 22) (m' := 8388607) (v := .bool true) F hQ rfl rfl (zav (i := 23) (m' := 16777215) (v := .func (.func 11) #[] #[]) F hQ rfl rfl ?_))
 refine zac (i := 24) (m' := 33554431) rfl rfl ((vof_any ⟨#[49, 48, 120, 48]⟩ _ (by decide)).mono ?_)
 rintro e w40 ⟨l1, s1, A1, c1, E1, rfl, C1, O1, hb⟩
 refine ⟨_, rfl, hb, ?_⟩
 replace Oe := zQ Oe hb
 replace Op := zQ Op hb
 replace Om := zQ Om hb
 replace Ob := zQ Ob hb
 replace Oh := zQ Oh hb
 replace Ot := zQ Ot hb
 replace Be := zX Be hb
 replace Bp := zX Bp hb
 replace Bm := zX Bm hb
 replace Bb := zX Bb hb
 replace Bh := zX Bh hb
 replace Bt := zX Bt hb
 replace O1 := hide O1.out.rd
 replace hU := zU hU hU.size hb
 clear hb
 have G1 := zGd E1 (gd_of (by decide +kernel))
 have L1 := zLe G1
 have Y1 := hide G1.by_
 clear G1
 refine zac (i := 25) (m' := 67108863) rfl rfl ((vof_any ⟨#[48, 48, 48, 48]⟩ _ (by decide)).mono ?_)
 rintro e w41 ⟨l2, s2, A2, c2, E2, rfl, C2, O2, hb⟩
 refine ⟨_, rfl, hb, ?_⟩
 replace Oe := zQ Oe hb
 replace Op := zQ Op hb
 replace Om := zQ Om hb
 replace Ob := zQ Ob hb
 replace Oh := zQ Oh hb
 replace Ot := zQ Ot hb
 replace O1 := zQ O1 hb
 replace Be := zX Be hb
 replace Bp := zX Bp hb
 replace Bm := zX Bm hb
 replace Bb := zX Bb hb
 replace Bh := zX Bh hb
 replace Bt := zX Bt hb
 replace O2 := hide O2.out.rd
 replace hU := zU hU hU.size hb
 clear hb
 have G2 := zGd E2 (gd_of (by decide +kernel))
 have L2 := zLe G2
 have Y2 := hide G2.by_
 clear G2
 refine zac (i := 26) (m' := 134217727) rfl rfl ((vEq_any A1 A2 l1 l2 c1 c2 s1 s2 _ L1.out L2.out C1 C2 O1.out O2.out Y1.out Y2.out (HT.out.kept hU)).mono ?_)
 rintro e w42 ⟨l3, s3, A3, c3, E3, rfl, C3, O3, hb⟩
 refine ⟨_, rfl, hb, ?_⟩
 replace Oe := zQ Oe hb
 replace Op := zQ Op hb
 replace Om := zQ Om hb
 replace Ob := zQ Ob hb
 replace Oh := zQ Oh hb
 replace Ot := zQ Ot hb
 replace O1 := zQ O1 hb
 replace O2 := zQ O2 hb
 replace Be := zX Be hb
 replace Bp := zX Bp hb
 replace Bm := zX Bm hb
 replace Bb := zX Bb hb
 replace Bh := zX Bh hb
 replace Bt := zX Bt hb
 replace O3 := hide O3.out.rd
 replace hU := zU hU hU.size hb
 clear hb
 have G3 := zGd E3 ((by rw [E1.out, E2.out]; exact gd_of (by decide +kernel)))
 have L3 := zLe G3
 have Y3 := hide G3.by_
 clear G3
 replace E3 := hide (show (⟨l3, s3⟩ : Vc) = vEq ⟨ofB ⟨#[49, 48, 120, 48]⟩, false⟩ ⟨ofB ⟨#[48, 48, 48, 48]⟩, false⟩ from E3.out.trans (by rw [E1.out, E2.out]))
 clear O1 C1 L1 Y1 O2 C2 L2 Y2
 refine zac (i := 27) (m' := 268435455) rfl rfl ((vof_any ⟨#[48]⟩ _ (by decide)).mono ?_)
 rintro e w43 ⟨l4, s4, A4, c4, E4, rfl, C4, O4, hb⟩
 refine ⟨_, rfl, hb, ?_⟩
 replace Oe := zQ Oe hb
 replace Op := zQ Op hb
 replace Om := zQ Om hb
 replace Ob := zQ Ob hb
 replace Oh := zQ Oh hb
 replace Ot := zQ Ot hb
 replace O3 := zQ O3 hb
 replace Be := zX Be hb
 replace Bp := zX Bp hb
 replace Bm := zX Bm hb
 replace Bb := zX Bb hb
 replace Bh := zX Bh hb
 replace Bt := zX Bt hb
 replace O4 := hide O4.out.rd
 replace hU := zU hU hU.size hb
 clear hb
 have G4 := zGd E4 (gd_of (by decide +kernel))
 have L4 := zLe G4
 have Y4 := hide G4.by_
 clear G4
 refine zac (i := 28) (m' := 536870911) rfl rfl ((rsame_yes A3 A4 l3 l4 c3 c4 s3 s4 _ L3.out L4.out O3.out O4.out (by rw [E3.out, E4.out]; exact (sm_iff _ _).1 (by decide +kernel))).mono ?_)
 rintro e w44 ⟨rfl, hb⟩
 refine ⟨_, rfl, hb, ?_⟩
 replace Oe := zQ Oe hb
 replace Op := zQ Op hb
 replace Om := zQ Om hb
 replace Ob := zQ Ob hb
 replace Oh := zQ Oh hb
 replace Ot := zQ Ot hb
 replace O3 := zQ O3 hb
 replace O4 := zQ O4 hb
 replace Be := zX Be hb
 replace Bp := zX Bp hb
 replace Bm := zX Bm hb
 replace Bb := zX Bb hb
 replace Bh := zX Bh hb
 replace Bt := zX Bt hb
 replace hU := zU hU hU.size hb
 clear hb O3 C3 L3 Y3
 clear O4 C4 L4 Y4
 refine zav (i := 29) (m' := 1073741823) (v := .bool true) F hQ rfl rfl (zav (i := 30) (m' := 2147483647) (v := .bool true) F hQ rfl rfl (zav (i := 31) (m' := 4294967295) (v := .func (.func 11) #[] #[]) F hQ rfl rfl ?_))
 refine zac (i := 32) (m' := 8589934591) rfl rfl ((vof_any ⟨#[48, 48, 120, 48]⟩ _ (by decide)).mono ?_)
 rintro e w45 ⟨l1, s1, A1, c1, E1, rfl, C1, O1, hb⟩
 refine ⟨_, rfl, hb, ?_⟩
 replace Oe := zQ Oe hb
 replace Op := zQ Op hb
 replace Om := zQ Om hb
 replace Ob := zQ Ob hb
 replace Oh := zQ Oh hb
 replace Ot := zQ Ot hb
 replace Be := zX Be hb
 replace Bp := zX Bp hb
 replace Bm := zX Bm hb
 replace Bb := zX Bb hb
 replace Bh := zX Bh hb
 replace Bt := zX Bt hb
 replace O1 := hide O1.out.rd
 replace hU := zU hU hU.size hb
 clear hb
 have G1 := zGd E1 (gd_of (by decide +kernel))
 have L1 := zLe G1
 have Y1 := hide G1.by_
 clear G1
 refine zac (i := 33) (m' := 17179869183) rfl rfl ((vof_any ⟨#[48, 48, 48, 48]⟩ _ (by decide)).mono ?_)
 rintro e w46 ⟨l2, s2, A2, c2, E2, rfl, C2, O2, hb⟩
 refine ⟨_, rfl, hb, ?_⟩
 replace Oe := zQ Oe hb
 replace Op := zQ Op hb
 replace Om := zQ Om hb
 replace Ob := zQ Ob hb
 replace Oh := zQ Oh hb
 replace Ot := zQ Ot hb
 replace O1 := zQ O1 hb
 replace Be := zX Be hb
 replace Bp := zX Bp hb
 replace Bm := zX Bm hb
 replace Bb := zX Bb hb
 replace Bh := zX Bh hb
 replace Bt := zX Bt hb
 replace O2 := hide O2.out.rd
 replace hU := zU hU hU.size hb
 clear hb
 have G2 := zGd E2 (gd_of (by decide +kernel))
 have L2 := zLe G2
 have Y2 := hide G2.by_
 clear G2
 refine zac (i := 34) (m' := 34359738367) rfl rfl ((vEq_any A1 A2 l1 l2 c1 c2 s1 s2 _ L1.out L2.out C1 C2 O1.out O2.out Y1.out Y2.out (HT.out.kept hU)).mono ?_)
 rintro e w47 ⟨l3, s3, A3, c3, E3, rfl, C3, O3, hb⟩
 refine ⟨_, rfl, hb, ?_⟩
 replace Oe := zQ Oe hb
 replace Op := zQ Op hb
 replace Om := zQ Om hb
 replace Ob := zQ Ob hb
 replace Oh := zQ Oh hb
 replace Ot := zQ Ot hb
 replace O1 := zQ O1 hb
 replace O2 := zQ O2 hb
 replace Be := zX Be hb
 replace Bp := zX Bp hb
 replace Bm := zX Bm hb
 replace Bb := zX Bb hb
 replace Bh := zX Bh hb
 replace Bt := zX Bt hb
 replace O3 := hide O3.out.rd
 replace hU := zU hU hU.size hb
 clear hb
 have G3 := zGd E3 ((by rw [E1.out, E2.out]; exact gd_of (by decide +kernel)))
 have L3 := zLe G3
 have Y3 := hide G3.by_
 clear G3
 replace E3 := hide (show (⟨l3, s3⟩ : Vc) = vEq ⟨ofB ⟨#[48, 48, 120, 48]⟩, false⟩ ⟨ofB ⟨#[48, 48, 48, 48]⟩, false⟩ from E3.out.trans (by rw [E1.out, E2.out]))
 clear O1 C1 L1 Y1 O2 C2 L2 Y2
 refine zac (i := 35) (m' := 68719476735) rfl rfl ((vof_any ⟨#[120]⟩ _ (by decide)).mono ?_)
 rintro e w48 ⟨l4, s4, A4, c4, E4, rfl, C4, O4, hb⟩
 refine ⟨_, rfl, hb, ?_⟩
 replace Oe := zQ Oe hb
 replace Op := zQ Op hb
 replace Om := zQ Om hb
 replace Ob := zQ Ob hb
 replace Oh := zQ Oh hb
 replace Ot := zQ Ot hb
 replace O3 := zQ O3 hb
 replace Be := zX Be hb
 replace Bp := zX Bp hb
 replace Bm := zX Bm hb
 replace Bb := zX Bb hb
 replace Bh := zX Bh hb
 replace Bt := zX Bt hb
 replace O4 := hide O4.out.rd
 replace hU := zU hU hU.size hb
 clear hb
 have G4 := zGd E4 (gd_of (by decide +kernel))
 have L4 := zLe G4
 have Y4 := hide G4.by_
 clear G4
 refine zac (i := 36) (m' := 137438953471) rfl rfl ((rsame_yes A3 A4 l3 l4 c3 c4 s3 s4 _ L3.out L4.out O3.out O4.out (by rw [E3.out, E4.out]; exact (sm_iff _ _).1 (by decide +kernel))).mono ?_)
 rintro e w49 ⟨rfl, hb⟩
 refine ⟨_, rfl, hb, ?_⟩
 replace Oe := zQ Oe hb
 replace Op := zQ Op hb
 replace Om := zQ Om hb
 replace Ob := zQ Ob hb
 replace Oh := zQ Oh hb
 replace Ot := zQ Ot hb
 replace O3 := zQ O3 hb
 replace O4 := zQ O4 hb
 replace Be := zX Be hb
 replace Bp := zX Bp hb
 replace Bm := zX Bm hb
 replace Bb := zX Bb hb
 replace Bh := zX Bh hb
 replace Bt := zX Bt hb
 replace hU := zU hU hU.size hb
 clear hb O3 C3 L3 Y3
 clear O4 C4 L4 Y4
 refine zav (i := 37) (m' := 274877906943) (v := .bool true) F hQ rfl rfl (zav (i := 38) (m' := 549755813887) (v := .bool true) F hQ rfl rfl (zav (i := 39) (m' := 1099511627775) (v := .func (.func 11) #[] #[]) F hQ rfl rfl ?_))
 refine zac (i := 40) (m' := 2199023255551) rfl rfl ((vof_any ⟨#[49, 120, 48, 48]⟩ _ (by decide)).mono ?_)
 rintro e w50 ⟨l1, s1, A1, c1, E1, rfl, C1, O1, hb⟩
 refine ⟨_, rfl, hb, ?_⟩
 replace Oe := zQ Oe hb
 replace Op := zQ Op hb
 replace Om := zQ Om hb
 replace Ob := zQ Ob hb
 replace Oh := zQ Oh hb
 replace Ot := zQ Ot hb
 replace Be := zX Be hb
 replace Bp := zX Bp hb
 replace Bm := zX Bm hb
 replace Bb := zX Bb hb
 replace Bh := zX Bh hb
 replace Bt := zX Bt hb
 replace O1 := hide O1.out.rd
 replace hU := zU hU hU.size hb
 clear hb
 have G1 := zGd E1 (gd_of (by decide +kernel))
 have L1 := zLe G1
 have Y1 := hide G1.by_
 clear G1
 refine zac (i := 41) (m' := 4398046511103) rfl rfl ((vof_any ⟨#[49, 120, 48, 48]⟩ _ (by decide)).mono ?_)
 rintro e w51 ⟨l2, s2, A2, c2, E2, rfl, C2, O2, hb⟩
 refine ⟨_, rfl, hb, ?_⟩
 replace Oe := zQ Oe hb
 replace Op := zQ Op hb
 replace Om := zQ Om hb
 replace Ob := zQ Ob hb
 replace Oh := zQ Oh hb
 replace Ot := zQ Ot hb
 replace O1 := zQ O1 hb
 replace Be := zX Be hb
 replace Bp := zX Bp hb
 replace Bm := zX Bm hb
 replace Bb := zX Bb hb
 replace Bh := zX Bh hb
 replace Bt := zX Bt hb
 replace O2 := hide O2.out.rd
 replace hU := zU hU hU.size hb
 clear hb
 have G2 := zGd E2 (gd_of (by decide +kernel))
 have L2 := zLe G2
 have Y2 := hide G2.by_
 clear G2
 refine zac (i := 42) (m' := 8796093022207) rfl rfl ((vCaseEq_any A1 A2 l1 l2 c1 c2 s1 s2 _ L1.out L2.out C1 C2 O1.out O2.out Y1.out Y2.out).mono ?_)
 rintro e w52 ⟨l3, s3, A3, c3, E3, rfl, C3, O3, hb⟩
 refine ⟨_, rfl, hb, ?_⟩
 replace Oe := zQ Oe hb
 replace Op := zQ Op hb
 replace Om := zQ Om hb
 replace Ob := zQ Ob hb
 replace Oh := zQ Oh hb
 replace Ot := zQ Ot hb
 replace O1 := zQ O1 hb
 replace O2 := zQ O2 hb
 replace Be := zX Be hb
 replace Bp := zX Bp hb
 replace Bm := zX Bm hb
 replace Bb := zX Bb hb
 replace Bh := zX Bh hb
 replace Bt := zX Bt hb
 replace O3 := hide O3.out.rd
 replace hU := zU hU hU.size hb
 clear hb
 have G3 := zGd E3 ((by rw [E1.out, E2.out]; exact gd_of (by decide +kernel)))
 have L3 := zLe G3
 have Y3 := hide G3.by_
 clear G3
 replace E3 := hide (show (⟨l3, s3⟩ : Vc) = vCase ⟨ofB ⟨#[49, 120, 48, 48]⟩, false⟩ ⟨ofB ⟨#[49, 120, 48, 48]⟩, false⟩ from E3.out.trans (by rw [E1.out, E2.out]))
 clear O1 C1 L1 Y1 O2 C2 L2 Y2
 refine zac (i := 43) (m' := 17592186044415) rfl rfl ((vof_any ⟨#[49]⟩ _ (by decide)).mono ?_)
 rintro e w53 ⟨l4, s4, A4, c4, E4, rfl, C4, O4, hb⟩
 refine ⟨_, rfl, hb, ?_⟩
 replace Oe := zQ Oe hb
 replace Op := zQ Op hb
 replace Om := zQ Om hb
 replace Ob := zQ Ob hb
 replace Oh := zQ Oh hb
 replace Ot := zQ Ot hb
 replace O3 := zQ O3 hb
 replace Be := zX Be hb
 replace Bp := zX Bp hb
 replace Bm := zX Bm hb
 replace Bb := zX Bb hb
 replace Bh := zX Bh hb
 replace Bt := zX Bt hb
 replace O4 := hide O4.out.rd
 replace hU := zU hU hU.size hb
 clear hb
 have G4 := zGd E4 (gd_of (by decide +kernel))
 have L4 := zLe G4
 have Y4 := hide G4.by_
 clear G4
 refine zac (i := 44) (m' := 35184372088831) rfl rfl ((rsame_yes A3 A4 l3 l4 c3 c4 s3 s4 _ L3.out L4.out O3.out O4.out (by rw [E3.out, E4.out]; exact (sm_iff _ _).1 (by decide +kernel))).mono ?_)
 rintro e w54 ⟨rfl, hb⟩
 refine ⟨_, rfl, hb, ?_⟩
 replace Oe := zQ Oe hb
 replace Op := zQ Op hb
 replace Om := zQ Om hb
 replace Ob := zQ Ob hb
 replace Oh := zQ Oh hb
 replace Ot := zQ Ot hb
 replace O3 := zQ O3 hb
 replace O4 := zQ O4 hb
 replace Be := zX Be hb
 replace Bp := zX Bp hb
 replace Bm := zX Bm hb
 replace Bb := zX Bb hb
 replace Bh := zX Bh hb
 replace Bt := zX Bt hb
 replace hU := zU hU hU.size hb
 clear hb O3 C3 L3 Y3
 clear O4 C4 L4 Y4
 refine zav (i := 45) (m' := 70368744177663) (v := .bool true) F hQ rfl rfl (zav (i := 46) (m' := 140737488355327) (v := .bool true) F hQ rfl rfl (zav (i := 47) (m' := 281474976710655) (v := .func (.func 11) #[] #[]) F hQ rfl rfl ?_))
 refine zac (i := 48) (m' := 562949953421311) rfl rfl ((vint4_any (-3) true _ (by decide) (by decide)).mono ?_)
 rintro e w55 ⟨l1, s1, A1, c1, E1, rfl, C1, O1, hb⟩
 refine ⟨_, rfl, hb, ?_⟩
 replace Oe := zQ Oe hb
 replace Op := zQ Op hb
 replace Om := zQ Om hb
 replace Ob := zQ Ob hb
 replace Oh := zQ Oh hb
 replace Ot := zQ Ot hb
 replace Be := zX Be hb
 replace Bp := zX Bp hb
 replace Bm := zX Bm hb
 replace Bb := zX Bb hb
 replace Bh := zX Bh hb
 replace Bt := zX Bt hb
 replace O1 := hide O1.out.rd
 replace hU := zU hU hU.size hb
 clear hb
 have G1 := zGd E1 (gd_of (by decide +kernel))
 have L1 := zLe G1
 have Y1 := hide G1.by_
 clear G1
 refine zac (i := 49) (m' := 1125899906842623) rfl rfl ((vint4_any 2 true _ (by decide) (by decide)).mono ?_)
 rintro e w56 ⟨l2, s2, A2, c2, E2, rfl, C2, O2, hb⟩
 refine ⟨_, rfl, hb, ?_⟩
 replace Oe := zQ Oe hb
 replace Op := zQ Op hb
 replace Om := zQ Om hb
 replace Ob := zQ Ob hb
 replace Oh := zQ Oh hb
 replace Ot := zQ Ot hb
 replace O1 := zQ O1 hb
 replace Be := zX Be hb
 replace Bp := zX Bp hb
 replace Bm := zX Bm hb
 replace Bb := zX Bb hb
 replace Bh := zX Bh hb
 replace Bt := zX Bt hb
 replace O2 := hide O2.out.rd
 replace hU := zU hU hU.size hb
 clear hb
 have G2 := zGd E2 (gd_of (by decide +kernel))
 have L2 := zLe G2
 have Y2 := hide G2.by_
 clear G2
 refine zac (i := 50) (m' := 2251799813685247) rfl rfl ((vDiv_any A1 A2 l1 l2 c1 c2 s1 s2 _ L1.out L2.out C1 C2 O1.out O2.out Y1.out Y2.out).mono ?_)
 rintro e w57 ⟨l3, s3, A3, c3, E3, rfl, C3, O3, hb⟩
 refine ⟨_, rfl, hb, ?_⟩
 replace Oe := zQ Oe hb
 replace Op := zQ Op hb
 replace Om := zQ Om hb
 replace Ob := zQ Ob hb
 replace Oh := zQ Oh hb
 replace Ot := zQ Ot hb
 replace O1 := zQ O1 hb
 replace O2 := zQ O2 hb
 replace Be := zX Be hb
 replace Bp := zX Bp hb
 replace Bm := zX Bm hb
 replace Bb := zX Bb hb
 replace Bh := zX Bh hb
 replace Bt := zX Bt hb
 replace O3 := hide O3.out.rd
 replace hU := zU hU hU.size hb
 clear hb
 have G3 := zGd E3 ((by rw [E1.out, E2.out]; exact gd_of (by decide +kernel)))
 have L3 := zLe G3
 have Y3 := hide G3.by_
 clear G3
 replace E3 := hide (show (⟨l3, s3⟩ : Vc) = vDiv ⟨fb (vz 4 (-3)), true⟩ ⟨fb (vz 4 2), true⟩ from E3.out.trans (by rw [E1.out, E2.out]))
 clear O1 C1 L1 Y1 O2 C2 L2 Y2
 refine zac (i := 51) (m' := 4503599627370495) rfl rfl ((vint4_any (-1) true _ (by decide) (by decide)).mono ?_)
 rintro e w58 ⟨l4, s4, A4, c4, E4, rfl, C4, O4, hb⟩
 refine ⟨_, rfl, hb, ?_⟩
 replace Oe := zQ Oe hb
 replace Op := zQ Op hb
 replace Om := zQ Om hb
 replace Ob := zQ Ob hb
 replace Oh := zQ Oh hb
 replace Ot := zQ Ot hb
 replace O3 := zQ O3 hb
 replace Be := zX Be hb
 replace Bp := zX Bp hb
 replace Bm := zX Bm hb
 replace Bb := zX Bb hb
 replace Bh := zX Bh hb
 replace Bt := zX Bt hb
 replace O4 := hide O4.out.rd
 replace hU := zU hU hU.size hb
 clear hb
 have G4 := zGd E4 (gd_of (by decide +kernel))
 have L4 := zLe G4
 have Y4 := hide G4.by_
 clear G4
 refine zac (i := 52) (m' := 9007199254740991) rfl rfl ((rsame_yes A3 A4 l3 l4 c3 c4 s3 s4 _ L3.out L4.out O3.out O4.out (by rw [E3.out, E4.out]; exact (sm_iff _ _).1 (by decide +kernel))).mono ?_)
 rintro e w59 ⟨rfl, hb⟩
 refine ⟨_, rfl, hb, ?_⟩
 replace Oe := zQ Oe hb
 replace Op := zQ Op hb
 replace Om := zQ Om hb
 replace Ob := zQ Ob hb
 replace Oh := zQ Oh hb
 replace Ot := zQ Ot hb
 replace O3 := zQ O3 hb
 replace O4 := zQ O4 hb
 replace Be := zX Be hb
 replace Bp := zX Bp hb
 replace Bm := zX Bm hb
 replace Bb := zX Bb hb
 replace Bh := zX Bh hb
 replace Bt := zX Bt hb
 replace hU := zU hU hU.size hb
 clear hb O3 C3 L3 Y3
 clear O4 C4 L4 Y4
 refine zav (i := 53) (m' := 18014398509481983) (v := .bool true) F hQ rfl rfl (zav (i := 54) (m' := 36028797018963967) (v := .bool true) F hQ rfl rfl (zav (i := 55) (m' := 72057594037927935) (v := .func (.func 11) #[] #[]) F hQ rfl rfl ?_))
 refine zac (i := 56) (m' := 144115188075855871) rfl rfl ((vsof_any ⟨#[49, 48, 48, 48]⟩ _ (by decide)).mono ?_)
 rintro e w60 ⟨l1, s1, A1, c1, E1, rfl, C1, O1, hb⟩
 refine ⟨_, rfl, hb, ?_⟩
 replace Oe := zQ Oe hb
 replace Op := zQ Op hb
 replace Om := zQ Om hb
 replace Ob := zQ Ob hb
 replace Oh := zQ Oh hb
 replace Ot := zQ Ot hb
 replace Be := zX Be hb
 replace Bp := zX Bp hb
 replace Bm := zX Bm hb
 replace Bb := zX Bb hb
 replace Bh := zX Bh hb
 replace Bt := zX Bt hb
 replace O1 := hide O1.out.rd
 replace hU := zU hU hU.size hb
 clear hb
 have G1 := zGd E1 (gd_of (by decide +kernel))
 have L1 := zLe G1
 have Y1 := hide G1.by_
 clear G1
 refine zac (i := 57) (m' := 288230376151711743) rfl rfl ((vof_any ⟨#[49]⟩ _ (by decide)).mono ?_)
 rintro e w61 ⟨l2, s2, A2, c2, E2, rfl, C2, O2, hb⟩
 refine ⟨_, rfl, hb, ?_⟩
 replace Oe := zQ Oe hb
 replace Op := zQ Op hb
 replace Om := zQ Om hb
 replace Ob := zQ Ob hb
 replace Oh := zQ Oh hb
 replace Ot := zQ Ot hb
 replace O1 := zQ O1 hb
 replace Be := zX Be hb
 replace Bp := zX Bp hb
 replace Bm := zX Bm hb
 replace Bb := zX Bb hb
 replace Bh := zX Bh hb
 replace Bt := zX Bt hb
 replace O2 := hide O2.out.rd
 replace hU := zU hU hU.size hb
 clear hb
 have G2 := zGd E2 (gd_of (by decide +kernel))
 have L2 := zLe G2
 have Y2 := hide G2.by_
 clear G2
 refine zac (i := 58) (m' := 576460752303423487) rfl rfl ((vAShr_any A1 A2 l1 l2 c1 c2 s1 s2 _ L1.out L2.out C1 C2 O1.out O2.out Y1.out Y2.out).mono ?_)
 rintro e w62 ⟨l3, s3, A3, c3, E3, rfl, C3, O3, hb⟩
 refine ⟨_, rfl, hb, ?_⟩
 replace Oe := zQ Oe hb
 replace Op := zQ Op hb
 replace Om := zQ Om hb
 replace Ob := zQ Ob hb
 replace Oh := zQ Oh hb
 replace Ot := zQ Ot hb
 replace O1 := zQ O1 hb
 replace O2 := zQ O2 hb
 replace Be := zX Be hb
 replace Bp := zX Bp hb
 replace Bm := zX Bm hb
 replace Bb := zX Bb hb
 replace Bh := zX Bh hb
 replace Bt := zX Bt hb
 replace O3 := hide O3.out.rd
 replace hU := zU hU hU.size hb
 clear hb
 have G3 := zGd E3 ((by rw [E1.out, E2.out]; exact gd_of (by decide +kernel)))
 have L3 := zLe G3
 have Y3 := hide G3.by_
 clear G3
 replace E3 := hide (show (⟨l3, s3⟩ : Vc) = shf mAShr ⟨ofB ⟨#[49, 48, 48, 48]⟩, true⟩ ⟨ofB ⟨#[49]⟩, false⟩ from E3.out.trans (by rw [E1.out, E2.out]))
 clear O1 C1 L1 Y1 O2 C2 L2 Y2
 refine zac (i := 59) (m' := 1152921504606846975) rfl rfl ((vsof_any ⟨#[49, 49, 48, 48]⟩ _ (by decide)).mono ?_)
 rintro e w63 ⟨l4, s4, A4, c4, E4, rfl, C4, O4, hb⟩
 refine ⟨_, rfl, hb, ?_⟩
 replace Oe := zQ Oe hb
 replace Op := zQ Op hb
 replace Om := zQ Om hb
 replace Ob := zQ Ob hb
 replace Oh := zQ Oh hb
 replace Ot := zQ Ot hb
 replace O3 := zQ O3 hb
 replace Be := zX Be hb
 replace Bp := zX Bp hb
 replace Bm := zX Bm hb
 replace Bb := zX Bb hb
 replace Bh := zX Bh hb
 replace Bt := zX Bt hb
 replace O4 := hide O4.out.rd
 replace hU := zU hU hU.size hb
 clear hb
 have G4 := zGd E4 (gd_of (by decide +kernel))
 have L4 := zLe G4
 have Y4 := hide G4.by_
 clear G4
 refine zac (i := 60) (m' := 2305843009213693951) rfl rfl ((rsame_yes A3 A4 l3 l4 c3 c4 s3 s4 _ L3.out L4.out O3.out O4.out (by rw [E3.out, E4.out]; exact (sm_iff _ _).1 (by decide +kernel))).mono ?_)
 rintro e w64 ⟨rfl, hb⟩
 refine ⟨_, rfl, hb, ?_⟩
 replace Oe := zQ Oe hb
 replace Op := zQ Op hb
 replace Om := zQ Om hb
 replace Ob := zQ Ob hb
 replace Oh := zQ Oh hb
 replace Ot := zQ Ot hb
 replace O3 := zQ O3 hb
 replace O4 := zQ O4 hb
 replace Be := zX Be hb
 replace Bp := zX Bp hb
 replace Bm := zX Bm hb
 replace Bb := zX Bb hb
 replace Bh := zX Bh hb
 replace Bt := zX Bt hb
 replace hU := zU hU hU.size hb
 clear hb O3 C3 L3 Y3
 clear O4 C4 L4 Y4
 refine zav (i := 61) (m' := 4611686018427387903) (v := .bool true) F hQ rfl rfl (zav (i := 62) (m' := 9223372036854775807) (v := .bool true) F hQ rfl rfl (zav (i := 63) (m' := 18446744073709551615) (v := .func (.func 11) #[] #[]) F hQ rfl rfl (anyR_ldvec (i := 64) (m' := 36893488147419103231) Bh0.out F hQ rfl rfl kr kr kr kr kr rfl kr ?_)))
 refine zac (i := 65) (m' := 73786976294838206463) rfl rfl ((vof_any ⟨#[49, 48, 48, 122, 49]⟩ _ (by decide)).mono ?_)
 rintro e w65 ⟨l1, s1, A1, c1, E1, rfl, C1, O1, hb⟩
 refine ⟨_, rfl, hb, ?_⟩
 replace Oe := zQ Oe hb
 replace Op := zQ Op hb
 replace Om := zQ Om hb
 replace Ob := zQ Ob hb
 replace Oh := zQ Oh hb
 replace Ot := zQ Ot hb
 replace Be := zX Be hb
 replace Bp := zX Bp hb
 replace Bm := zX Bm hb
 replace Bb := zX Bb hb
 replace Bh := zX Bh hb
 replace Bt := zX Bt hb
 replace O1 := hide O1.out.rd
 replace hU := zU hU hU.size hb
 clear hb
 have G1 := zGd E1 (gd_of (by decide +kernel))
 have L1 := zLe G1
 have Y1 := hide G1.by_
 clear G1
 refine zac (i := 66) (m' := 147573952589676412927) rfl rfl ((rsame_yes Ah A1 lh l1 ch c1 sh s1 _ Lh.out L1.out Oh.out O1.out (by rw [Eh.out, E1.out]; exact (sm_iff _ _).1 (by decide +kernel))).mono ?_)
 rintro e w66 ⟨rfl, hb⟩
 refine ⟨_, rfl, hb, ?_⟩
 replace Oe := zQ Oe hb
 replace Op := zQ Op hb
 replace Om := zQ Om hb
 replace Ob := zQ Ob hb
 replace Oh := zQ Oh hb
 replace Ot := zQ Ot hb
 replace O1 := zQ O1 hb
 replace Be := zX Be hb
 replace Bp := zX Bp hb
 replace Bm := zX Bm hb
 replace Bb := zX Bb hb
 replace Bh := zX Bh hb
 replace Bt := zX Bt hb
 replace hU := zU hU hU.size hb
 clear hb O1 C1 L1 Y1
 refine zav (i := 67) (m' := 295147905179352825855) (v := .bool true) F hQ rfl rfl (zav (i := 68) (m' := 590295810358705651711) (v := .bool true) F hQ rfl rfl (zav (i := 69) (m' := 1180591620717411303423) (v := .func (.func 11) #[] #[]) F hQ rfl rfl (anyR_ldvec (i := 70) (m' := 2361183241434822606847) Bt0.out F hQ rfl rfl kr kr kr kr kr rfl kr ?_)))
 refine zac (i := 71) (m' := 4722366482869645213695) rfl rfl ((vof_any ⟨#[120, 49, 48]⟩ _ (by decide)).mono ?_)
 rintro e w67 ⟨l1, s1, A1, c1, E1, rfl, C1, O1, hb⟩
 refine ⟨_, rfl, hb, ?_⟩
 replace Oe := zQ Oe hb
 replace Op := zQ Op hb
 replace Om := zQ Om hb
 replace Ob := zQ Ob hb
 replace Oh := zQ Oh hb
 replace Ot := zQ Ot hb
 replace Be := zX Be hb
 replace Bp := zX Bp hb
 replace Bm := zX Bm hb
 replace Bb := zX Bb hb
 replace Bh := zX Bh hb
 replace Bt := zX Bt hb
 replace O1 := hide O1.out.rd
 replace hU := zU hU hU.size hb
 clear hb
 have G1 := zGd E1 (gd_of (by decide +kernel))
 have L1 := zLe G1
 have Y1 := hide G1.by_
 clear G1
 refine zac (i := 72) (m' := 9444732965739290427391) rfl rfl ((rsame_yes At A1 lt l1 ct c1 st s1 _ Lt.out L1.out Ot.out O1.out (by rw [Et.out, E1.out]; exact (sm_iff _ _).1 (by decide +kernel))).mono ?_)
 rintro e w68 ⟨rfl, hb⟩
 refine ⟨_, rfl, hb, ?_⟩
 replace Oe := zQ Oe hb
 replace Op := zQ Op hb
 replace Om := zQ Om hb
 replace Ob := zQ Ob hb
 replace Oh := zQ Oh hb
 replace Ot := zQ Ot hb
 replace O1 := zQ O1 hb
 replace Be := zX Be hb
 replace Bp := zX Bp hb
 replace Bm := zX Bm hb
 replace Bb := zX Bb hb
 replace Bh := zX Bh hb
 replace Bt := zX Bt hb
 replace hU := zU hU hU.size hb
 clear hb O1 C1 L1 Y1
 refine zav (i := 73) (m' := 18889465931478580854783) (v := .bool true) F hQ rfl rfl (zav (i := 74) (m' := 37778931862957161709567) (v := .bool true) F hQ rfl rfl (zav (i := 75) (m' := 75557863725914323419135) (v := .func (.func 11) #[] #[]) F hQ rfl rfl ?_))
 refine zac (i := 76) (m' := 151115727451828646838271) rfl rfl ((vof_any ⟨#[120]⟩ _ (by decide)).mono ?_)
 rintro e w69 ⟨l0, s0, A0, c0, E0, rfl, C0, O0, hb⟩
 refine ⟨_, rfl, hb, ?_⟩
 replace Oe := zQ Oe hb
 replace Op := zQ Op hb
 replace Om := zQ Om hb
 replace Ob := zQ Ob hb
 replace Oh := zQ Oh hb
 replace Ot := zQ Ot hb
 replace Be := zX Be hb
 replace Bp := zX Bp hb
 replace Bm := zX Bm hb
 replace Bb := zX Bb hb
 replace Bh := zX Bh hb
 replace Bt := zX Bt hb
 replace O0 := hide O0.out.rd
 replace hU := zU hU hU.size hb
 clear hb
 have G0 := zGd E0 (gd_of (by decide +kernel))
 have L0 := zLe G0
 have Y0 := hide G0.by_
 clear G0
 refine zac (i := 77) (m' := 302231454903657293676543) rfl rfl ((vof_any ⟨#[49, 48, 49, 48]⟩ _ (by decide)).mono ?_)
 rintro e w70 ⟨l1, s1, A1, c1, E1, rfl, C1, O1, hb⟩
 refine ⟨_, rfl, hb, ?_⟩
 replace Oe := zQ Oe hb
 replace Op := zQ Op hb
 replace Om := zQ Om hb
 replace Ob := zQ Ob hb
 replace Oh := zQ Oh hb
 replace Ot := zQ Ot hb
 replace O0 := zQ O0 hb
 replace Be := zX Be hb
 replace Bp := zX Bp hb
 replace Bm := zX Bm hb
 replace Bb := zX Bb hb
 replace Bh := zX Bh hb
 replace Bt := zX Bt hb
 replace O1 := hide O1.out.rd
 replace hU := zU hU hU.size hb
 clear hb
 have G1 := zGd E1 (gd_of (by decide +kernel))
 have L1 := zLe G1
 have Y1 := hide G1.by_
 clear G1
 refine zac (i := 78) (m' := 604462909807314587353087) rfl rfl ((vof_any ⟨#[49, 48, 48, 49]⟩ _ (by decide)).mono ?_)
 rintro e w71 ⟨l2, s2, A2, c2, E2, rfl, C2, O2, hb⟩
 refine ⟨_, rfl, hb, ?_⟩
 replace Oe := zQ Oe hb
 replace Op := zQ Op hb
 replace Om := zQ Om hb
 replace Ob := zQ Ob hb
 replace Oh := zQ Oh hb
 replace Ot := zQ Ot hb
 replace O0 := zQ O0 hb
 replace O1 := zQ O1 hb
 replace Be := zX Be hb
 replace Bp := zX Bp hb
 replace Bm := zX Bm hb
 replace Bb := zX Bb hb
 replace Bh := zX Bh hb
 replace Bt := zX Bt hb
 replace O2 := hide O2.out.rd
 replace hU := zU hU hU.size hb
 clear hb
 have G2 := zGd E2 (gd_of (by decide +kernel))
 have L2 := zLe G2
 have Y2 := hide G2.by_
 clear G2
 refine zac (i := 79) (m' := 1208925819614629174706175) rfl rfl ((vCond_any A0 l0 c0 s0 A1 A2 l1 l2 c1 c2 s1 s2 _ L1.out L2.out C1 C2 O1.out O2.out Y1.out Y2.out L0.out C0 O0.out Y0.out (HT.out.kept hU)).mono ?_)
 rintro e w72 ⟨l3, s3, A3, c3, E3, rfl, C3, O3, hb⟩
 refine ⟨_, rfl, hb, ?_⟩
 replace Oe := zQ Oe hb
 replace Op := zQ Op hb
 replace Om := zQ Om hb
 replace Ob := zQ Ob hb
 replace Oh := zQ Oh hb
 replace Ot := zQ Ot hb
 replace O0 := zQ O0 hb
 replace O1 := zQ O1 hb
 replace O2 := zQ O2 hb
 replace Be := zX Be hb
 replace Bp := zX Bp hb
 replace Bm := zX Bm hb
 replace Bb := zX Bb hb
 replace Bh := zX Bh hb
 replace Bt := zX Bt hb
 replace O3 := hide O3.out.rd
 replace hU := zU hU hU.size hb
 clear hb
 have G3 := zGd E3 ((by rw [E0.out, E1.out, E2.out]; exact gd_of (by decide +kernel)))
 have L3 := zLe G3
 have Y3 := hide G3.by_
 clear G3
 replace E3 := hide (show (⟨l3, s3⟩ : Vc) = vCond ⟨ofB ⟨#[120]⟩, false⟩ ⟨ofB ⟨#[49, 48, 49, 48]⟩, false⟩ ⟨ofB ⟨#[49, 48, 48, 49]⟩, false⟩ from E3.out.trans (by rw [E0.out, E1.out, E2.out]))
 clear O0 C0 L0 Y0 O1 C1 L1 Y1
 clear O2 C2 L2 Y2
 refine zac (i := 80) (m' := 2417851639229258349412351) rfl rfl ((vof_any ⟨#[49, 48, 120, 120]⟩ _ (by decide)).mono ?_)
 rintro e w73 ⟨l4, s4, A4, c4, E4, rfl, C4, O4, hb⟩
 refine ⟨_, rfl, hb, ?_⟩
 replace Oe := zQ Oe hb
 replace Op := zQ Op hb
 replace Om := zQ Om hb
 replace Ob := zQ Ob hb
 replace Oh := zQ Oh hb
 replace Ot := zQ Ot hb
 replace O3 := zQ O3 hb
 replace Be := zX Be hb
 replace Bp := zX Bp hb
 replace Bm := zX Bm hb
 replace Bb := zX Bb hb
 replace Bh := zX Bh hb
 replace Bt := zX Bt hb
 replace O4 := hide O4.out.rd
 replace hU := zU hU hU.size hb
 clear hb
 have G4 := zGd E4 (gd_of (by decide +kernel))
 have L4 := zLe G4
 have Y4 := hide G4.by_
 clear G4
 refine zac (i := 81) (m' := 4835703278458516698824703) rfl rfl ((rsame_yes A3 A4 l3 l4 c3 c4 s3 s4 _ L3.out L4.out O3.out O4.out (by rw [E3.out, E4.out]; exact (sm_iff _ _).1 (by decide +kernel))).mono ?_)
 rintro e w74 ⟨rfl, hb⟩
 refine ⟨_, rfl, hb, ?_⟩
 replace Oe := zQ Oe hb
 replace Op := zQ Op hb
 replace Om := zQ Om hb
 replace Ob := zQ Ob hb
 replace Oh := zQ Oh hb
 replace Ot := zQ Ot hb
 replace O3 := zQ O3 hb
 replace O4 := zQ O4 hb
 replace Be := zX Be hb
 replace Bp := zX Bp hb
 replace Bm := zX Bm hb
 replace Bb := zX Bb hb
 replace Bh := zX Bh hb
 replace Bt := zX Bt hb
 replace hU := zU hU hU.size hb
 clear hb O3 C3 L3 Y3
 clear O4 C4 L4 Y4
 refine zav (i := 82) (m' := 9671406556917033397649407) (v := .bool true) F hQ rfl rfl (anyR_e (anyR_last (i := 83) (m' := 19342813113834066795298815) (v := .bool true) rfl rfl kr kr kr kr kr (anyE_done kr ?_)))
 clear F hQ Be0 Bp0 Bm0 Bb0 Bh0 Bt0
 refine then_normal (wp_ret ?_)
 refine (show bodyPost _ _ _ .ret _ _ from ret_sl (.bool true) rfl kr ?_)
 exact ⟨rfl, hU⟩
end
section
open Go Go.RowKit
set_option maxRecDepth 100000
set_option linter.unusedSimpArgs false
set_option linter.unusedVariables false
theorem mAnd_1 (x : Int) : mAnd 1 x = mBuf x := by
  unfold mAnd mBuf
  by_cases h0 : x = 0
  · simp [h0]
  · by_cases h1 : x = 1
    · simp [h1]
    · simp [h0, h1]
theorem rcE_rd (la lb : List Int) (N : Nat) : ∀ n, n < N → rcE la lb (n + 1) = rd mAnd (ql N fun i => mEq (qt la i) (qt lb i)) n
  | 0, h => by
    show mAnd 1 (mEq (qt la 0) (qt lb 0)) = mBuf (qt (ql N fun i => mEq (qt la i) (qt lb i)) 0)
    rw [qt_ql_lt h, mAnd_1]
  | n + 1, h => by
    show mAnd (rcE la lb (n + 1)) (mEq (qt la (n + 1)) (qt lb (n + 1))) = mAnd (rd mAnd _ n) (qt _ (n + 1))
    rw [rcE_rd la lb N n (by omega), qt_ql_lt h]
theorem rcE_eq {a b : Vc} (ya : By a.b) (yb : By b.b) : rcE (blA a b) (blB a b) (blA a b).length = red mAnd (btw mEq a b) := by
  obtain ⟨h0, h1⟩ := wd_bd ya yb
  have ga := gd_blA ya yb
  have gb := gd_blB ya yb
  obtain ⟨q, hq⟩ : ∃ q, wd a b = q + 1 := ⟨wd a b - 1, by omega⟩
  have hc : cnt (btw mEq a b) = ⟨ql (q + 1) fun i => mEq (qt (blA a b) i) (qt (blB a b) i), sg a b⟩ := by
    rw [cnt_btw ya yb fun i _ => by have := mEq_3 (qt (blA a b) i) (qt (blB a b) i); omega]
    unfold btw
    rw [hq]
  rw [red_at hc (q := q) (by rw [ql_length]), blA_length, hq]
  exact rcE_rd _ _ _ q (by omega)
theorem rcS_iff (la lb : List Int) : ∀ n, rcS la lb n = true ↔ ∀ i, i < n → qt la i = qt lb i
  | 0 => ⟨fun _ i hi => absurd hi (by omega), fun _ => rfl⟩
  | n + 1 => by
    show (rcS la lb n && (qt la n == qt lb n)) = true ↔ _
    rw [Bool.and_eq_true, rcS_iff la lb n, beq_iff_eq]
    constructor
    · rintro ⟨h1, h2⟩ i hi
      rcases Nat.lt_succ_iff_lt_or_eq.1 hi with h | h
      · exact h1 i h
      · rw [h]; exact h2
    · intro h
      exact ⟨fun i hi => h i (by omega), h n (by omega)⟩
theorem rcS_eq {a b : Vc} (ya : By a.b) (yb : By b.b) : rcS (blA a b) (blB a b) (blA a b).length = mtc mSame a b := by
  have ga := gd_blA ya yb
  have gb := gd_blB ya yb
  refine Bool.eq_iff_iff.2 ?_
  rw [rcS_iff, mtc_iff, blA_length]
  constructor
  · intro h i hi
    rw [h i hi]; unfold mSame; simp
  · intro h i hi
    have h2 := of_decide_eq_true (h i hi)
    rwa [bst_v3 (ga.bd i).2, bst_v3 (gb.bd i).2] at h2
theorem mNot_from (b : Bool) : mNot (mFrom b) = mFrom (!b) := by cases b <;> rfl
section
variable {a b : Vc} (ya : By a.b) (yb : By b.b)
include ya yb
theorem bin_eq : binV 27 a b = vEq a b := by rw [binV_cmp (by decide)]; show sgl (rcE _ _ _) = sgl _; rw [rcE_eq ya yb]
theorem bin_ne : binV 28 a b = sgl (mNot (red mAnd (btw mEq a b))) := by rw [binV_cmp (by decide)]; show sgl (mNot (rcE _ _ _)) = _; rw [rcE_eq ya yb]
theorem bin_ceq : binV 29 a b = vCase a b := by rw [binV_cmp (by decide)]; show sgl (mFrom (rcS _ _ _)) = sgl _; rw [rcS_eq ya yb]
theorem bin_cne : binV 30 a b = sgl (mNot (mFrom (mtc mSame a b))) := by rw [binV_cmp (by decide)]; show sgl (mFrom (!rcS _ _ _)) = _; rw [rcS_eq ya yb, mNot_from]
end
theorem bin_ar (f : List Bool → List Bool → Bool → Option (List Bool)) (op : Int) (a b : Vc) (h : binV op a b = arL f (blA a b) (blB a b) (sg a b)) : binV op a b = ar f a b := by rw [h, ar_arL]
theorem RetC.to {x y : Vc} {w w' : World} {e : Ending} (h : RetC (· = x) w e w') (k : y = x) : RetC (· = y) w e w' := by rw [k]; exact h
theorem one_op (k : Nat) (hk : k < oneT.length) : oneT[k].1 = 12 ∨ oneT[k].1 = 13 ∨ oneT[k].1 = 14 ∨ oneT[k].1 = 15 ∨ oneT[k].1 = 16 ∨ oneT[k].1 = 17 ∨ oneT[k].1 = 18 ∨ oneT[k].1 = 19 ∨ oneT[k].1 = 20 := by
  have h : ∀ p ∈ oneT, p.1 = 12 ∨ p.1 = 13 ∨ p.1 = 14 ∨ p.1 = 15 ∨ p.1 = 16 ∨ p.1 = 17 ∨ p.1 = 18 ∨ p.1 = 19 ∨ p.1 = 20 := by decide
  exact h _ (List.getElem_mem hk)
theorem two_op (k : Nat) (hk : k < twoT.length) : twoT[k].1 = 26 ∨ (41 ≤ twoT[k].1 ∧ twoT[k].1 ≤ 44) ∨ twoT[k].1 = 35 ∨ twoT[k].1 = 36 ∨ (37 ≤ twoT[k].1 ∧ twoT[k].1 ≤ 40) ∨ (21 ≤ twoT[k].1 ∧ twoT[k].1 ≤ 25) ∨ (27 ≤ twoT[k].1 ∧ twoT[k].1 ≤ 34) := by
  have h : ∀ p ∈ twoT, p.1 = 26 ∨ (41 ≤ p.1 ∧ p.1 ≤ 44) ∨ p.1 = 35 ∨ p.1 = 36 ∨ (37 ≤ p.1 ∧ p.1 ≤ 40) ∨ (21 ≤ p.1 ∧ p.1 ≤ 25) ∨ (27 ≤ p.1 ∧ p.1 ≤ 34) := by decide
  exact h _ (List.getElem_mem hk)
set_option maxHeartbeats 2000000 in
theorem one_call (k : Nat) (hk : k < oneT.length) (z : Int) (F : Nat) (hz : oneT[k].1 = z) (hF : oneT[k].2 = F) (A : Option Addr) (a : List Int) (c : Nat) (s : Bool) (w : World) (ha : a.length ≤ 4096) (hca : Hid (a.length ≤ c ∧ c ≤ maxLen)) (hA : RQ w A a) (ya : By a) (T : Tabs w) :
    Calls Tryz.prog F #[.agg #[.slice A a.length c, .bool s]] w (RetC (· = unV z ⟨a, s⟩) w) := by
  subst hz hF
  have hk' : k < 9 := hk
  rcases k with _ | _ | _ | _ | _ | _ | _ | _ | _ | k
  · exact (vNot_any A a c s w ha hca hA ya T).mono fun _ _ h => h
  · exact (vNeg_any A a c s w ha hca hA ya).mono fun _ _ h => h
  · exact (vLNot_any A a c s w ha hca hA ya T).mono fun _ _ h => h
  · exact (vRedAnd_any A a c s w ha hca hA ya T).mono fun _ _ h => h
  · exact (vRedOr_any A a c s w ha hca hA ya T).mono fun _ _ h => h
  · exact (vRedXor_any A a c s w ha hca hA ya T).mono fun _ _ h => h
  · exact (vRedNand_any A a c s w ha hca hA ya T).mono fun _ _ h => h
  · exact (vRedNor_any A a c s w ha hca hA ya T).mono fun _ _ h => h
  · exact (vRedXnor_any A a c s w ha hca hA ya T).mono fun _ _ h => h
  · omega
set_option maxHeartbeats 4000000 in
theorem two_call (k : Nat) (hk : k < twoT.length) (z : Int) (F : Nat) (hz : twoT[k].1 = z) (hF : twoT[k].2 = F) (A B : Option Addr) (a b : List Int) (c d : Nat) (s t : Bool) (w : World) (ha : a.length ≤ 4096) (hb : b.length ≤ 4096) (hca : Hid (a.length ≤ c ∧ c ≤ maxLen)) (hcb : Hid (b.length ≤ d ∧ d ≤ maxLen)) (hA : RQ w A a) (hB : RQ w B b) (ya : By a) (yb : By b) (T : Tabs w) :
    Calls Tryz.prog F #[.agg #[.slice A a.length c, .bool s], .agg #[.slice B b.length d, .bool t]] w (RetC (· = binV z ⟨a, s⟩ ⟨b, t⟩) w) := by
  subst hz hF
  have hk' : k < 24 := hk
  rcases k with _ | _ | _ | _ | _ | _ | _ | _ | _ | _ | _ | _ | _ | _ | _ | _ | _ | _ | _ | _ | _ | _ | _ | _ | k
  · exact (vAnd_any A B a b c d s t w ha hb hca hcb hA hB ya yb T).mono fun _ _ h => h.to rfl
  · exact (vOr_any A B a b c d s t w ha hb hca hcb hA hB ya yb T).mono fun _ _ h => h.to rfl
  · exact (vXor_any A B a b c d s t w ha hb hca hcb hA hB ya yb T).mono fun _ _ h => h.to rfl
  · exact (vXnor_any A B a b c d s t w ha hb hca hcb hA hB ya yb T).mono fun _ _ h => h.to rfl
  · exact (vAdd_any A B a b c d s t w ha hb hca hcb hA hB ya yb).mono fun _ _ h => h.to (bin_ar fAdd 21 _ _ rfl)
  · exact (vSub_any A B a b c d s t w ha hb hca hcb hA hB ya yb).mono fun _ _ h => h.to (bin_ar fSub 22 _ _ rfl)
  · exact (vMul_any A B a b c d s t w ha hb hca hcb hA hB ya yb).mono fun _ _ h => h.to (bin_ar fMul 23 _ _ rfl)
  · exact (vDiv_any A B a b c d s t w ha hb hca hcb hA hB ya yb).mono fun _ _ h => h.to (bin_ar fDiv 24 _ _ rfl)
  · exact (vMod_any A B a b c d s t w ha hb hca hcb hA hB ya yb).mono fun _ _ h => h.to (bin_ar fMod 25 _ _ rfl)
  · exact (vPow_any A B a b c d s t w ha hb hca hcb hA hB ya yb T).mono fun _ _ h => h.to rfl
  · exact (vEq_any A B a b c d s t w ha hb hca hcb hA hB ya yb T).mono fun _ _ h => h.to (bin_eq ya yb)
  · exact (vNe_any A B a b c d s t w ha hb hca hcb hA hB ya yb T).mono fun _ _ h => h.to (bin_ne ya yb)
  · exact (vLt_any A B a b c d s t w ha hb hca hcb hA hB ya yb).mono fun _ _ h => h.to rfl
  · exact (vLe_any A B a b c d s t w ha hb hca hcb hA hB ya yb).mono fun _ _ h => h.to rfl
  · exact (vGt_any A B a b c d s t w ha hb hca hcb hA hB ya yb).mono fun _ _ h => h.to rfl
  · exact (vGe_any A B a b c d s t w ha hb hca hcb hA hB ya yb).mono fun _ _ h => h.to rfl
  · exact (vLAnd_any A B a b c d s t w ha hb hca hcb hA hB ya yb T).mono fun _ _ h => h.to rfl
  · exact (vLOr_any A B a b c d s t w ha hb hca hcb hA hB ya yb T).mono fun _ _ h => h.to rfl
  · exact (vShl_any A B a b c d s t w ha hb hca hcb hA hB ya yb).mono fun _ _ h => h.to rfl
  · exact (vShr_any A B a b c d s t w ha hb hca hcb hA hB ya yb).mono fun _ _ h => h.to rfl
  · exact (vAShl_any A B a b c d s t w ha hb hca hcb hA hB ya yb).mono fun _ _ h => h.to rfl
  · exact (vAShr_any A B a b c d s t w ha hb hca hcb hA hB ya yb).mono fun _ _ h => h.to rfl
  · exact (vCaseEq_any A B a b c d s t w ha hb hca hcb hA hB ya yb).mono fun _ _ h => h.to (bin_ceq ya yb)
  · exact (vCaseNe_any A B a b c d s t w ha hb hca hcb hA hB ya yb T).mono fun _ _ h => h.to (bin_cne ya yb)
  · omega
section
variable {Q : Exit → Act → World → Prop} {ops : Array Oper} {o : Oper} {rest : List Oper} {x y : Operand} {w : World} {N n d k m cc F : Nat} {E : Env} {z : Int} {ρ : Operand → Value}
theorem run_ixone (ho : o.op = .indexAddr 28 x y) (hx : ρ x = .slice (some ⟨N, 0, none⟩) m cc) (hy : ρ y = .int .i64 k) (hk : k < m) : (execOp ρ o).run Tryz.prog w = .ok (.value (.pointer (some ⟨N, k * 2, none⟩))) w := by
  have h1 : (0 : Int) ≤ k := by omega
  have h2 : (k : Int) < m := by omega
  unfold execOp
  rw [ho]
  simp only [hx, hy]
  simp [go_sem, h1, h2, hk]
theorem run_ixtwo (ho : o.op = .indexAddr 35 x y) (hx : ρ x = .slice (some ⟨N, 0, none⟩) m cc) (hy : ρ y = .int .i64 k) (hk : k < m) : (execOp ρ o).run Tryz.prog w = .ok (.value (.pointer (some ⟨N, k * 2, none⟩))) w := by
  have h1 : (0 : Int) ≤ k := by omega
  have h2 : (k : Int) < m := by omega
  unfold execOp
  rw [ho]
  simp only [hx, hy]
  simp [go_sem, h1, h2, hk]
theorem wpl_ldone' (T : One N w) (k : Nat) (hk : k < oneT.length) (hz : oneT[k].1 = z) (hF : oneT[k].2 = F) (hd : o.dst = some d) (hw : wnt ops n E o = true) (ho : o.op = .load 31 x) (hx : evl n E x = .pointer (some ⟨N, k * 2, none⟩))
    (h : WL Tryz.prog ops Q rest n ((d, .agg #[.int .u8 z, .func (.func F) #[] #[]]) :: E) w) : WL Tryz.prog ops Q (o :: rest) n E w := by
  subst hz hF
  exact wpl_ldone T k hk hd hw ho hx h
theorem wpl_ldtwo' (T : Two N w) (k : Nat) (hk : k < twoT.length) (hz : twoT[k].1 = z) (hF : twoT[k].2 = F) (hd : o.dst = some d) (hw : wnt ops n E o = true) (ho : o.op = .load 39 x) (hx : evl n E x = .pointer (some ⟨N, k * 2, none⟩))
    (h : WL Tryz.prog ops Q rest n ((d, .agg #[.int .u8 z, .func (.func F) #[] #[]]) :: E) w) : WL Tryz.prog ops Q (o :: rest) n E w := by
  subst hz hF
  exact wpl_ldtwo T k hk hd hw ho hx h
end
theorem callone (k : Nat) (hk : k < oneT.length) (F : Nat) (hF : oneT[k].2 = F) (args : Array Value) (w : World) : (callFunc F args).run Tryz.prog w = .ok (.enter F args) w := by
  subst hF
  have hk' : k < 9 := hk
  rcases k with _ | _ | _ | _ | _ | _ | _ | _ | _ | k
  · show (callFunc 65 args).run Tryz.prog w = .ok (.enter 65 args) w
    kernel_rfl
  · show (callFunc 60 args).run Tryz.prog w = .ok (.enter 60 args) w
    kernel_rfl
  · show (callFunc 56 args).run Tryz.prog w = .ok (.enter 56 args) w
    kernel_rfl
  · show (callFunc 66 args).run Tryz.prog w = .ok (.enter 66 args) w
    kernel_rfl
  · show (callFunc 67 args).run Tryz.prog w = .ok (.enter 67 args) w
    kernel_rfl
  · show (callFunc 68 args).run Tryz.prog w = .ok (.enter 68 args) w
    kernel_rfl
  · show (callFunc 69 args).run Tryz.prog w = .ok (.enter 69 args) w
    kernel_rfl
  · show (callFunc 70 args).run Tryz.prog w = .ok (.enter 70 args) w
    kernel_rfl
  · show (callFunc 71 args).run Tryz.prog w = .ok (.enter 71 args) w
    kernel_rfl
  · omega
theorem calltwo (k : Nat) (hk : k < twoT.length) (F : Nat) (hF : twoT[k].2 = F) (args : Array Value) (w : World) : (callFunc F args).run Tryz.prog w = .ok (.enter F args) w := by
  subst hF
  have hk' : k < 24 := hk
  rcases k with _ | _ | _ | _ | _ | _ | _ | _ | _ | _ | _ | _ | _ | _ | _ | _ | _ | _ | _ | _ | _ | _ | _ | _ | k
  · show (callFunc 40 args).run Tryz.prog w = .ok (.enter 40 args) w
    kernel_rfl
  · show (callFunc 41 args).run Tryz.prog w = .ok (.enter 41 args) w
    kernel_rfl
  · show (callFunc 42 args).run Tryz.prog w = .ok (.enter 42 args) w
    kernel_rfl
  · show (callFunc 43 args).run Tryz.prog w = .ok (.enter 43 args) w
    kernel_rfl
  · show (callFunc 37 args).run Tryz.prog w = .ok (.enter 37 args) w
    kernel_rfl
  · show (callFunc 38 args).run Tryz.prog w = .ok (.enter 38 args) w
    kernel_rfl
  · show (callFunc 39 args).run Tryz.prog w = .ok (.enter 39 args) w
    kernel_rfl
  · show (callFunc 44 args).run Tryz.prog w = .ok (.enter 44 args) w
    kernel_rfl
  · show (callFunc 45 args).run Tryz.prog w = .ok (.enter 45 args) w
    kernel_rfl
  · show (callFunc 63 args).run Tryz.prog w = .ok (.enter 63 args) w
    kernel_rfl
  · show (callFunc 51 args).run Tryz.prog w = .ok (.enter 51 args) w
    kernel_rfl
  · show (callFunc 52 args).run Tryz.prog w = .ok (.enter 52 args) w
    kernel_rfl
  · show (callFunc 47 args).run Tryz.prog w = .ok (.enter 47 args) w
    kernel_rfl
  · show (callFunc 48 args).run Tryz.prog w = .ok (.enter 48 args) w
    kernel_rfl
  · show (callFunc 49 args).run Tryz.prog w = .ok (.enter 49 args) w
    kernel_rfl
  · show (callFunc 50 args).run Tryz.prog w = .ok (.enter 50 args) w
    kernel_rfl
  · show (callFunc 54 args).run Tryz.prog w = .ok (.enter 54 args) w
    kernel_rfl
  · show (callFunc 55 args).run Tryz.prog w = .ok (.enter 55 args) w
    kernel_rfl
  · show (callFunc 58 args).run Tryz.prog w = .ok (.enter 58 args) w
    kernel_rfl
  · show (callFunc 81 args).run Tryz.prog w = .ok (.enter 81 args) w
    kernel_rfl
  · show (callFunc 82 args).run Tryz.prog w = .ok (.enter 82 args) w
    kernel_rfl
  · show (callFunc 59 args).run Tryz.prog w = .ok (.enter 59 args) w
    kernel_rfl
  · show (callFunc 53 args).run Tryz.prog w = .ok (.enter 53 args) w
    kernel_rfl
  · show (callFunc 83 args).run Tryz.prog w = .ok (.enter 83 args) w
    kernel_rfl
  · omega
structure Bel (W w : World) : Prop where
  h : Below W.heap.size W w
theorem Bel.start (W : World) : Bel W W := ⟨Below.refl _ _⟩
theorem Bel.kept {W w w' : World} (h : Bel W w) (hb : Below w.heap.size w w') : Bel W w' := ⟨h.h.trans (hb.mono h.h.size)⟩
theorem matchZ_w (q : Bool) (A B : Option Addr) (a b : List Int) (c d : Nat) (s t : Bool) (w : World) (ha : a.length ≤ 4096) (hb : b.length ≤ 4096) (hca : Hid (a.length ≤ c ∧ c ≤ maxLen)) (hcb : Hid (b.length ≤ d ∧ d ≤ maxLen)) (hA : RQ w A a) (hB : RQ w B b) (ya : By a) (yb : By b) (h : mtc alZ ⟨a, s⟩ ⟨b, t⟩ = q) :
    Calls Tryz.prog 16 #[.agg #[.slice A a.length c, .bool s], .agg #[.slice B b.length d, .bool t]] w (Mk (.bool q) w) := by
  rw [← h]; exact vMatchZ_any A B a b c d s t w ha hb hca hcb hA hB ya yb
theorem matchX_w (q : Bool) (A B : Option Addr) (a b : List Int) (c d : Nat) (s t : Bool) (w : World) (ha : a.length ≤ 4096) (hb : b.length ≤ 4096) (hca : Hid (a.length ≤ c ∧ c ≤ maxLen)) (hcb : Hid (b.length ≤ d ∧ d ≤ maxLen)) (hA : RQ w A a) (hB : RQ w B b) (ya : By a) (yb : By b) (h : mtc alX ⟨a, s⟩ ⟨b, t⟩ = q) :
    Calls Tryz.prog 18 #[.agg #[.slice A a.length c, .bool s], .agg #[.slice B b.length d, .bool t]] w (Mk (.bool q) w) := by
  rw [← h]; exact vMatchX_any A B a b c d s t w ha hb hca hcb hA hB ya yb
theorem rmatchz_w (q : Bool) (A B : Option Addr) (a b : List Int) (c d : Nat) (s t : Bool) (w : World) (ha : a.length ≤ 4096) (hb : b.length ≤ 4096) (hca : Hid (a.length ≤ c ∧ c ≤ maxLen)) (hcb : Hid (b.length ≤ d ∧ d ≤ maxLen)) (hA : RQ w A a) (hB : RQ w B b) (ya : By a) (yb : By b) (h : mtc alZ ⟨a, s⟩ ⟨b, t⟩ = q) :
    Calls Tryz.prog 17 #[.agg #[.slice A a.length c, .bool s], .agg #[.slice B b.length d, .bool t], .bool false] w (Mk (.bool q) w) := by
  rw [← h]; exact rmatch_z A a c s B b d t w ha hb hca hcb hA hB ya yb
theorem rmatchx_w (q : Bool) (A B : Option Addr) (a b : List Int) (c d : Nat) (s t : Bool) (w : World) (ha : a.length ≤ 4096) (hb : b.length ≤ 4096) (hca : Hid (a.length ≤ c ∧ c ≤ maxLen)) (hcb : Hid (b.length ≤ d ∧ d ≤ maxLen)) (hA : RQ w A a) (hB : RQ w B b) (ya : By a) (yb : By b) (h : mtc alX ⟨a, s⟩ ⟨b, t⟩ = q) :
    Calls Tryz.prog 17 #[.agg #[.slice A a.length c, .bool s], .agg #[.slice B b.length d, .bool t], .bool true] w (Mk (.bool q) w) := by
  rw [← h]; exact rmatch_x A a c s B b d t w ha hb hca hcb hA hB ya yb
theorem gm_un {op : Int} {a : Vc} (ha : By a.b) : Gd (unV op a).b := by
  unfold unV
  split
  · exact gm_neg ha
  split
  · exact gm_3 (mNot_3 _)
  split
  · exact gm_red mAnd_3
  split
  · exact gm_red mOr_3
  split
  · exact gm_red mXor_3
  split
  · exact gm_3 (mNot_3 _)
  split
  · exact gm_3 (mNot_3 _)
  split
  · exact gm_3 (mNot_3 _)
  exact gm_not ha
theorem rcmpV_bd {op : Int} {la lb : List Int} {s : Bool} (h : 0 < la.length) : 0 ≤ rcmpV op la lb s ∧ rcmpV op la lb s ≤ 3 := by
  have hE : rcE la lb la.length = 0 ∨ rcE la lb la.length = 1 ∨ rcE la lb la.length = 2 := by
    obtain ⟨q, hq⟩ : ∃ q, la.length = q + 1 := ⟨la.length - 1, by omega⟩
    rw [hq]; exact mAnd_3 _ _
  have hR : ∀ f : Int → Bool, 0 ≤ rcR f la lb s ∧ rcR f la lb s ≤ 3 := fun f => by unfold rcR; split; exact mFrom_bd _; decide
  unfold rcmpV
  (repeat' split) <;> first | exact bd_3 hE | exact bd_3 (mNot_3 _) | exact mFrom_bd _ | exact hR _
theorem gm_bin {op : Int} {a b : Vc} (hop : op = 26 ∨ (41 ≤ op ∧ op ≤ 44) ∨ op = 35 ∨ op = 36 ∨ (37 ≤ op ∧ op ≤ 40) ∨ (21 ≤ op ∧ op ≤ 25) ∨ (27 ≤ op ∧ op ≤ 34)) (ha : By a.b) (hb : By b.b) : Gd (binV op a b).b := by
  have hsh : Gd (shfV op a b).b := by unfold shfV; (repeat' split) <;> first | exact gm_shf ha gmm_shl | exact gm_shf ha gmm_shr | exact gm_shf ha gmm_ashr
  have har : Gd (arV op (blA a b) (blB a b) (sg a b)).b := by
    unfold arV
    rw [← ar_arL, ← ar_arL, ← ar_arL, ← ar_arL, ← ar_arL]
    (repeat' split) <;> first | exact gm_ar ha hb hlen_add | exact gm_ar ha hb hlen_sub | exact gm_ar ha hb hlen_mul | exact gm_ar ha hb hlen_div | exact gm_ar ha hb hlen_mod
  have hc := rcmpV_bd (op := op) (lb := blB a b) (s := sg a b) (gd_blA ha hb).pos
  rcases hop with h | h | h | h | h | h | h
  · subst h; show Gd (vPow a b).b; exact gm_pow ha
  · rw [binV_shf h]; exact hsh
  · subst h; show Gd (sgl (mAnd (tr a) (tr b))).b; exact gm_3 (mAnd_3 _ _)
  · subst h; show Gd (sgl (mOr (tr a) (tr b))).b; exact gm_3 (mOr_3 _ _)
  · rcases (show op = 37 ∨ op = 38 ∨ op = 39 ∨ op = 40 by omega) with rfl | rfl | rfl | rfl
    · show Gd (btw mAnd a b).b; exact gm_btw ha hb mAnd_3
    · show Gd (btw mOr a b).b; exact gm_btw ha hb mOr_3
    · show Gd (btw mXor a b).b; exact gm_btw ha hb mXor_3
    · show Gd (btw mEq a b).b; exact gm_btw ha hb mEq_3
  · rw [binV_ar h]; exact har
  · rw [binV_cmp h]; exact gm_sgl hc
end
section
open Go.RowKit
set_option maxRecDepth 100000
set_option linter.unusedSimpArgs false
set_option linter.unusedVariables false
set_option maxHeartbeats 8000000 in
theorem VecMatches_long (Aa : Option Addr) (la : List Int) (ca : Nat) (sa : Bool) (Ab : Option Addr) (lb : List Int) (cb : Nat) (sb : Bool) (w : World) (ma : la.length ≤ maxLen) (ra : RQ w Aa la) (ya : By la) (pa : Hid (la.length ≤ ca ∧ ca ≤ maxLen)) (mb : lb.length ≤ maxLen) (rb : RQ w Ab lb) (yb : By lb) (pb : Hid (lb.length ≤ cb ∧ cb ≤ maxLen)) (tn : Tab1 4 mNot w) (tb : Tab1 5 mBuf w) (ta : Tab2 1 mAnd w) (tO : Tab2 2 mOr w) (tx : Tab2 3 mXor w) (tg : Tab2 0 mAgree w) (hl : Hid (∃ i, ∃ h : i < 2, 140 < [(Aa, la.length, ca, sa), (Ab, lb.length, cb, sb)][i].2.1)) : Calls Tryz.prog 3 #[.agg #[.slice Aa la.length ca, .bool sa], .agg #[.slice Ab lb.length cb, .bool sb]] w (Mk (.bool true) w) := by
  have hm : Hid (∀ i (h : i < 2), [(Aa, la.length, ca, sa), (Ab, lb.length, cb, sb)][i].2.1 ≤ maxLen) := hide fun i h => by rcases i with _ | _ | i <;> first | assumption | omega
  clear ma mb
  have Oa := hide ra
  have Ya := hide ya
  have Ca := pa
  have Ob := hide rb
  have Yb := hide yb
  have Cb := pb
  clear ra ya
  clear rb yb
  have HT := hide (show Tabs w from ⟨tn, tb, ta, tO, tx, tg⟩)
  clear tn tb ta tO tx tg
  have hU : Below w.heap.size w w := Below.refl _ _
  refine calls_sl (l := [.agg #[.slice Aa la.length ca, .bool sa], .agg #[.slice Ab lb.length cb, .bool sb]]) 100 Tryz.func3 rfl kr (by simp) (wp_seq (reg_lit (wpl_boxvec (A := Aa) (m := la.length) (c := ca) (s := sa) rfl kr rfl kr ?_)))
  intro w1 Na Ba hNa hb
  replace Ba := hide Ba
  have hza : w.heap.size ≤ Na := Nat.le_trans hU.size hNa
  clear hNa
  replace hU := kU hU hb
  clear hb
  refine wpl_boxvec (A := Ab) (m := lb.length) (c := cb) (s := sb) rfl kr rfl kr ?_
  intro w2 Nb Bb hNb hb
  replace Bb := hide Bb
  replace Ba := kB Ba hb
  have hzb : w.heap.size ≤ Nb := Nat.le_trans hU.size hNb
  clear hNb
  replace hU := kU hU hb
  clear hb
  refine wpl_r1 [(4, .bool false)] kr (wpl_end (then_normal (wp_seq (wp_seq (reg_lit (wpl_ldvec Ba.out rfl kr rfl kr (wpl_ldvec Bb.out rfl kr rfl kr ?_)))))))
  refine wpl_bsL2 rfl kr rfl (A0 := Aa) (m0 := la.length) (c0 := ca) (s0 := sa) (A1 := Ab) (m1 := lb.length) (c1 := cb) (s1 := sb) kr kr ?_
  intro w3 NV3 RV3 hb
  replace RV3 := hide RV3
  replace Ba := kB Ba hb
  replace Bb := kB Bb hb
  replace hU := kU hU hb
  clear hb
  refine wpl_call rfl kr kr ((vlong_yes NV3 2 [(Aa, la.length, ca, sa), (Ab, lb.length, cb, sb)] _ (by simp) RV3.out hl.out hm.out).mono ?_)
  rintro e w' ⟨rfl, rfl⟩
  refine ⟨_, rfl, ?_⟩
  refine wpl_end (then_normal (wp_ift kr (wp_seq (reg_lit ?_))))
  refine wpl_call rfl kr kr ((vawake_any _ (HT.out.kept hU)).mono ?_)
  rintro e w4 ⟨rfl, hb⟩
  refine ⟨_, rfl, ?_⟩
  replace Ba := kB Ba hb
  replace Bb := kB Bb hb
  replace hU := kU hU hb
  clear hb
  refine wpl_r1 [(4, .bool true)] kr (wpl_end (then_normal (wp_ret ?_)))
  refine (show bodyPost _ _ _ .ret _ _ from ret_sl (.bool true) rfl kr ?_)
  exact ⟨rfl, hU⟩
set_option maxHeartbeats 64000000 in
theorem VecMatches_short (Aa : Option Addr) (la : List Int) (ca : Nat) (sa : Bool) (Ab : Option Addr) (lb : List Int) (cb : Nat) (sb : Bool) (w : World) (ma : la.length ≤ maxLen) (ra : RQ w Aa la) (ya : By la) (pa : Hid (la.length ≤ ca ∧ ca ≤ maxLen)) (mb : lb.length ≤ maxLen) (rb : RQ w Ab lb) (yb : By lb) (pb : Hid (lb.length ≤ cb ∧ cb ≤ maxLen)) (tn : Tab1 4 mNot w) (tb : Tab1 5 mBuf w) (ta : Tab2 1 mAnd w) (tO : Tab2 2 mOr w) (tx : Tab2 3 mXor w) (tg : Tab2 0 mAgree w) (hs : Hid (∀ i (h : i < 2), [(Aa, la.length, ca, sa), (Ab, lb.length, cb, sb)][i].2.1 ≤ 140)) : Calls Tryz.prog 3 #[.agg #[.slice Aa la.length ca, .bool sa], .agg #[.slice Ab lb.length cb, .bool sb]] w (Mk (.bool true) w) := by
  have La : Hid (la.length ≤ 4096) := hide (Nat.le_trans (hs.out 0 (by decide)) (by decide))
  have Lb : Hid (lb.length ≤ 4096) := hide (Nat.le_trans (hs.out 1 (by decide)) (by decide))
  clear ma mb
  have Oa := hide ra
  have Ya := hide ya
  have Ca := pa
  have Ob := hide rb
  have Yb := hide yb
  have Cb := pb
  clear ra ya
  clear rb yb
  have HT := hide (show Tabs w from ⟨tn, tb, ta, tO, tx, tg⟩)
  clear tn tb ta tO tx tg
  have hU : Below w.heap.size w w := Below.refl _ _
  refine calls_sl (l := [.agg #[.slice Aa la.length ca, .bool sa], .agg #[.slice Ab lb.length cb, .bool sb]]) 100 Tryz.func3 rfl kr (by simp) (wp_seq (reg_lit (wpl_boxvec (A := Aa) (m := la.length) (c := ca) (s := sa) rfl kr rfl kr ?_)))
  intro w1 Na Ba hNa hb
  replace Ba := hide Ba
  replace Oa := kQ Oa hb
  replace Ob := kQ Ob hb
  have hza : w.heap.size ≤ Na := Nat.le_trans hU.size hNa
  clear hNa
  replace hU := kU hU hb
  clear hb
  refine wpl_boxvec (A := Ab) (m := lb.length) (c := cb) (s := sb) rfl kr rfl kr ?_
  intro w2 Nb Bb hNb hb
  replace Bb := hide Bb
  have neab : Na ≠ Nb := by have := Ba.out.lt; omega
  replace Oa := kQ Oa hb
  replace Ob := kQ Ob hb
  replace Ba := kB Ba hb
  have hzb : w.heap.size ≤ Nb := Nat.le_trans hU.size hNb
  clear hNb
  replace hU := kU hU hb
  clear hb
  refine wpl_r1 [(4, .bool false)] kr (wpl_end (then_normal (wp_seq (wp_seq (reg_lit (wpl_ldvec Ba.out rfl kr rfl kr (wpl_ldvec Bb.out rfl kr rfl kr ?_)))))))
  refine wpl_bsL2 rfl kr rfl (A0 := Aa) (m0 := la.length) (c0 := ca) (s0 := sa) (A1 := Ab) (m1 := lb.length) (c1 := cb) (s1 := sb) kr kr ?_
  intro w3 NV3 RV3 hb
  replace RV3 := hide RV3
  replace Oa := kQ Oa hb
  replace Ob := kQ Ob hb
  replace Ba := kB Ba hb
  replace Bb := kB Bb hb
  replace hU := kU hU hb
  clear hb
  refine wpl_call rfl kr kr ((vlong_no NV3 2 [(Aa, la.length, ca, sa), (Ab, lb.length, cb, sb)] _ (by simp) RV3.out hs.out).mono ?_)
  rintro e w' ⟨rfl, rfl⟩
  refine ⟨_, rfl, ?_⟩
  clear RV3
  refine wpl_end (then_normal (wp_iff kr (wp_skip (then_normal (wp_seq ?_)))))
  refine wp_cutK (α := (List Int × Bool × Option Addr × Nat) × (List Int × Bool × Option Addr × Nat) × (Nat) × (Nat)) (fun ((lx, sx, Ax, cx), (ly, sy, Ay, cy), Nu, Nv) => [(0, .agg #[.slice Aa la.length ca, .bool sa]), (1, .agg #[.slice Ab lb.length cb, .bool sb]), (2, .pointer (some ⟨Na, 0, none⟩)), (3, .pointer (some ⟨Nb, 0, none⟩)), (4, .bool false), (14, .agg #[.slice Aa la.length ca, .bool sa]), (15, .agg #[.slice Ab lb.length cb, .bool sb]), (16, .slice (some ⟨NV3, 0, none⟩) 2 2), (17, .bool false), (19, .agg #[.slice Aa la.length ca, .bool sa]), (21, .agg #[.slice Ab lb.length cb, .bool sb]), (20, .agg #[.slice Ax lx.length cx, .bool sx]), (22, .agg #[.slice Ay ly.length cy, .bool sy]), (5, .pointer (some ⟨Nu, 0, none⟩)), (6, .pointer (some ⟨Nv, 0, none⟩))]) (fun ((lx, sx, Ax, cx), (ly, sy, Ay, cy), Nu, Nv) W => Below w.heap.size w W ∧ Hid (RQ W Aa la) ∧ Hid (RQ W Ab lb) ∧ Hid ((⟨lx, sx⟩ : Vc) = ⟨la, sa⟩) ∧ Hid (RQ W Ax lx) ∧ Hid (lx.length ≤ cx ∧ cx ≤ maxLen) ∧ Hid (lx.length ≤ 4096) ∧ Hid (By lx) ∧ Hid ((⟨ly, sy⟩ : Vc) = ⟨lb, sb⟩) ∧ Hid (RQ W Ay ly) ∧ Hid (ly.length ≤ cy ∧ cy ≤ maxLen) ∧ Hid (ly.length ≤ 4096) ∧ Hid (By ly) ∧ Hid (Box Na Aa la.length ca sa W) ∧ Hid (Box Nb Ab lb.length cb sb W) ∧ Hid (Box Nu Ax lx.length cx sx W) ∧ Hid (Box Nv Ay ly.length cy sy W) ∧ w.heap.size ≤ Nu ∧ w.heap.size ≤ Nv) ?_ ?_
  refine region_R (n := 6) (N := 8) kr kr kr kr kr kr (fun _ _ _ _ _ h => h) ?_
  intro F hQ
  have Ba0 := Ba
  have Bb0 := Bb
  refine anyR_ldvec (i := 0) (m' := 1) Ba0.out F hQ rfl rfl kr kr kr kr kr rfl kr (anyR_ldvec (i := 2) (m' := 5) Bb0.out F hQ rfl rfl kr kr kr kr kr rfl kr ?_)
  refine anyR_split [1, 4, 5] kr rfl ⟨?_, ?_, ?_, trivial⟩
  refine stepR_call (i := 1) (m' := 7) rfl rfl kr kr kr kr ((vown_any Aa la ca sa _ La.out Ca (by exact Oa.out) Ya.out).mono ?_)
  rintro e w4 ⟨lx, sx, Ax, cx, Ex, rfl, Cx, Ox, hb⟩
  refine ⟨_, rfl, hb, ?_⟩
  replace hb : Below w3.heap.size w3 w4 := Below.trans ((Below.refl _ _).drew) hb
  replace Oa := kQ Oa hb
  replace Ob := kQ Ob hb
  replace Ba := kB Ba hb
  replace Bb := kB Bb hb
  replace Ox := hide Ox.out.rd
  replace hU := kU hU hb
  clear hb
  have g : By lx ∧ lx.length ≤ 4096 := by have h := congrArg Vc.b Ex.out; dsimp only at h; rw [h]; exact ⟨Ya.out, La.out⟩
  have Lx := hide g.2
  have Yx := hide g.1
  clear g
  refine anyR_split [3, 4, 5] kr rfl ⟨?_, ?_, ?_, trivial⟩
  refine stepR_call (i := 3) (m' := 15) rfl rfl kr kr kr kr ((vown_any Ab lb cb sb _ Lb.out Cb Ob.out Yb.out).mono ?_)
  rintro e w5 ⟨ly, sy, Ay, cy, Ey, rfl, Cy, Oy, hb⟩
  refine ⟨_, rfl, hb, ?_⟩
  replace Oa := kQ Oa hb
  replace Ob := kQ Ob hb
  replace Ox := kQ Ox hb
  replace Ba := kB Ba hb
  replace Bb := kB Bb hb
  replace Oy := hide Oy.out.rd
  replace hU := kU hU hb
  clear hb
  have g : By ly ∧ ly.length ≤ 4096 := by have h := congrArg Vc.b Ey.out; dsimp only at h; rw [h]; exact ⟨Yb.out, Lb.out⟩
  have Ly := hide g.2
  have Yy := hide g.1
  clear g
  refine anyR_split [4, 5] kr rfl ⟨?_, ?_, trivial⟩
  refine stepR_al (i := 4) (m' := 31) rfl rfl kr kr kr rfl ?_
  intro w6 Nu Bu hNu hb
  replace Bu := hide Bu
  have neau : Na ≠ Nu := by have := Ba.out.lt; omega
  have nebu : Nb ≠ Nu := by have := Bb.out.lt; omega
  replace Oa := kQ Oa hb
  replace Ob := kQ Ob hb
  replace Ox := kQ Ox hb
  replace Oy := kQ Oy hb
  replace Ba := kB Ba hb
  replace Bb := kB Bb hb
  have hzu : w.heap.size ≤ Nu := Nat.le_trans hU.size hNu
  clear hNu
  replace hU := kU hU hb
  clear hb
  refine anyR_split [5] kr rfl ⟨?_, trivial⟩
  refine stepR_al (i := 5) (m' := 63) rfl rfl kr kr kr rfl ?_
  intro w7 Nv Bv hNv hb
  replace Bv := hide Bv
  have neav : Na ≠ Nv := by have := Ba.out.lt; omega
  have nebv : Nb ≠ Nv := by have := Bb.out.lt; omega
  have neuv : Nu ≠ Nv := by have := Bu.out.lt; omega
  replace Oa := kQ Oa hb
  replace Ob := kQ Ob hb
  replace Ox := kQ Ox hb
  replace Oy := kQ Oy hb
  replace Ba := kB Ba hb
  replace Bb := kB Bb hb
  replace Bu := kB Bu hb
  have hzv : w.heap.size ≤ Nv := Nat.le_trans hU.size hNv
  clear hNv
  replace hU := kU hU hb
  clear hb
  refine anyR_e (anyE_st (i := 6) (m' := 127) Bu.out rfl rfl kr kr kr kr rfl kr (A2 := Ax) (m2 := lx.length) (c2 := cx) (s2 := sx) kr ?_)
  intro w8 hst
  replace Oa := kS hst Oa
  replace Ob := kS hst Ob
  replace Ox := kS hst Ox
  replace Oy := kS hst Oy
  replace Ba := hide (hst.ne Ba.out (by first | exact neau | exact (Ne.symm neua) | assumption | (exact Ne.symm (by assumption)) | omega))
  replace Bb := hide (hst.ne Bb.out (by first | exact nebu | exact (Ne.symm neub) | assumption | (exact Ne.symm (by assumption)) | omega))
  replace Bv := hide (hst.ne Bv.out (by first | exact nevu | exact (Ne.symm neuv) | assumption | (exact Ne.symm (by assumption)) | omega))
  replace Bu := hide hst.box
  replace hU := hU.trans (hst.bel hzu)
  clear hst
  refine anyE_st (i := 7) (m' := 255) Bv.out rfl rfl kr kr kr kr rfl kr (A2 := Ay) (m2 := ly.length) (c2 := cy) (s2 := sy) kr ?_
  intro w9 hst
  replace Oa := kS hst Oa
  replace Ob := kS hst Ob
  replace Ox := kS hst Ox
  replace Oy := kS hst Oy
  replace Ba := hide (hst.ne Ba.out (by first | exact neav | exact (Ne.symm neva) | assumption | (exact Ne.symm (by assumption)) | omega))
  replace Bb := hide (hst.ne Bb.out (by first | exact nebv | exact (Ne.symm nevb) | assumption | (exact Ne.symm (by assumption)) | omega))
  replace Bu := hide (hst.ne Bu.out (by first | exact neuv | exact (Ne.symm nevu) | assumption | (exact Ne.symm (by assumption)) | omega))
  replace Bv := hide hst.box
  replace hU := hU.trans (hst.bel hzv)
  clear hst
  refine anyE_done kr ?_
  refine then_normal ⟨((lx, sx, Ax, cx), (ly, sy, Ay, cy), Nu, Nv), _, rfl, Kp_c kr (Kp_c kr (Kp_c kr (Kp_c kr (Kp_c kr (Kp_c kr (Kp_c kr (Kp_c kr (Kp_c kr (Kp_c kr (Kp_c kr (Kp_c kr (Kp_c kr (Kp_c kr (Kp_c kr (Kp_n))))))))))))))), ?_⟩
  dsimp only
  exact ⟨hU, Oa, Ob, Ex, Ox, Cx, Lx, Yx, Ey, Oy, Cy, Ly, Yy, Ba, Bb, Bu, Bv, hzu, hzv⟩
  refine stepR_al (i := 5) (m' := 47) rfl rfl kr kr kr rfl ?_
  intro w10 Nv Bv hNv hb
  replace Bv := hide Bv
  have neav : Na ≠ Nv := by have := Ba.out.lt; omega
  have nebv : Nb ≠ Nv := by have := Bb.out.lt; omega
  replace Oa := kQ Oa hb
  replace Ob := kQ Ob hb
  replace Ox := kQ Ox hb
  replace Oy := kQ Oy hb
  replace Ba := kB Ba hb
  replace Bb := kB Bb hb
  have hzv : w.heap.size ≤ Nv := Nat.le_trans hU.size hNv
  clear hNv
  replace hU := kU hU hb
  clear hb
  refine anyR_split [4] kr rfl ⟨?_, trivial⟩
  refine stepR_al (i := 4) (m' := 63) rfl rfl kr kr kr rfl ?_
  intro w11 Nu Bu hNu hb
  replace Bu := hide Bu
  have neau : Na ≠ Nu := by have := Ba.out.lt; omega
  have nebu : Nb ≠ Nu := by have := Bb.out.lt; omega
  have nevu : Nv ≠ Nu := by have := Bv.out.lt; omega
  replace Oa := kQ Oa hb
  replace Ob := kQ Ob hb
  replace Ox := kQ Ox hb
  replace Oy := kQ Oy hb
  replace Ba := kB Ba hb
  replace Bb := kB Bb hb
  replace Bv := kB Bv hb
  have hzu : w.heap.size ≤ Nu := Nat.le_trans hU.size hNu
  clear hNu
  replace hU := kU hU hb
  clear hb
  refine anyR_e (anyE_st (i := 6) (m' := 127) Bu.out rfl rfl kr kr kr kr rfl kr (A2 := Ax) (m2 := lx.length) (c2 := cx) (s2 := sx) kr ?_)
  intro w12 hst
  replace Oa := kS hst Oa
  replace Ob := kS hst Ob
  replace Ox := kS hst Ox
  replace Oy := kS hst Oy
  replace Ba := hide (hst.ne Ba.out (by first | exact neau | exact (Ne.symm neua) | assumption | (exact Ne.symm (by assumption)) | omega))
  replace Bb := hide (hst.ne Bb.out (by first | exact nebu | exact (Ne.symm neub) | assumption | (exact Ne.symm (by assumption)) | omega))
  replace Bv := hide (hst.ne Bv.out (by first | exact nevu | exact (Ne.symm neuv) | assumption | (exact Ne.symm (by assumption)) | omega))
  replace Bu := hide hst.box
  replace hU := hU.trans (hst.bel hzu)
  clear hst
  refine anyE_st (i := 7) (m' := 255) Bv.out rfl rfl kr kr kr kr rfl kr (A2 := Ay) (m2 := ly.length) (c2 := cy) (s2 := sy) kr ?_
  intro w13 hst
  replace Oa := kS hst Oa
  replace Ob := kS hst Ob
  replace Ox := kS hst Ox
  replace Oy := kS hst Oy
  replace Ba := hide (hst.ne Ba.out (by first | exact neav | exact (Ne.symm neva) | assumption | (exact Ne.symm (by assumption)) | omega))
  replace Bb := hide (hst.ne Bb.out (by first | exact nebv | exact (Ne.symm nevb) | assumption | (exact Ne.symm (by assumption)) | omega))
  replace Bu := hide (hst.ne Bu.out (by first | exact neuv | exact (Ne.symm nevu) | assumption | (exact Ne.symm (by assumption)) | omega))
  replace Bv := hide hst.box
  replace hU := hU.trans (hst.bel hzv)
  clear hst
  refine anyE_done kr ?_
  refine then_normal ⟨((lx, sx, Ax, cx), (ly, sy, Ay, cy), Nu, Nv), _, rfl, Kp_c kr (Kp_c kr (Kp_c kr (Kp_c kr (Kp_c kr (Kp_c kr (Kp_c kr (Kp_c kr (Kp_c kr (Kp_c kr (Kp_c kr (Kp_c kr (Kp_c kr (Kp_c kr (Kp_c kr (Kp_n))))))))))))))), ?_⟩
  dsimp only
  exact ⟨hU, Oa, Ob, Ex, Ox, Cx, Lx, Yx, Ey, Oy, Cy, Ly, Yy, Ba, Bb, Bu, Bv, hzu, hzv⟩
  refine stepR_al (i := 4) (m' := 23) rfl rfl kr kr kr rfl ?_
  intro w14 Nu Bu hNu hb
  replace Bu := hide Bu
  have neau : Na ≠ Nu := by have := Ba.out.lt; omega
  have nebu : Nb ≠ Nu := by have := Bb.out.lt; omega
  replace Oa := kQ Oa hb
  replace Ob := kQ Ob hb
  replace Ox := kQ Ox hb
  replace Ba := kB Ba hb
  replace Bb := kB Bb hb
  have hzu : w.heap.size ≤ Nu := Nat.le_trans hU.size hNu
  clear hNu
  replace hU := kU hU hb
  clear hb
  refine anyR_split [3, 5] kr rfl ⟨?_, ?_, trivial⟩
  refine stepR_call (i := 3) (m' := 31) rfl rfl kr kr kr kr ((vown_any Ab lb cb sb _ Lb.out Cb Ob.out Yb.out).mono ?_)
  rintro e w15 ⟨ly, sy, Ay, cy, Ey, rfl, Cy, Oy, hb⟩
  refine ⟨_, rfl, hb, ?_⟩
  replace Oa := kQ Oa hb
  replace Ob := kQ Ob hb
  replace Ox := kQ Ox hb
  replace Ba := kB Ba hb
  replace Bb := kB Bb hb
  replace Bu := kB Bu hb
  replace Oy := hide Oy.out.rd
  replace hU := kU hU hb
  clear hb
  have g : By ly ∧ ly.length ≤ 4096 := by have h := congrArg Vc.b Ey.out; dsimp only at h; rw [h]; exact ⟨Yb.out, Lb.out⟩
  have Ly := hide g.2
  have Yy := hide g.1
  clear g
  refine anyR_split [5] kr rfl ⟨?_, trivial⟩
  refine stepR_al (i := 5) (m' := 63) rfl rfl kr kr kr rfl ?_
  intro w16 Nv Bv hNv hb
  replace Bv := hide Bv
  have neav : Na ≠ Nv := by have := Ba.out.lt; omega
  have nebv : Nb ≠ Nv := by have := Bb.out.lt; omega
  have neuv : Nu ≠ Nv := by have := Bu.out.lt; omega
  replace Oa := kQ Oa hb
  replace Ob := kQ Ob hb
  replace Ox := kQ Ox hb
  replace Oy := kQ Oy hb
  replace Ba := kB Ba hb
  replace Bb := kB Bb hb
  replace Bu := kB Bu hb
  have hzv : w.heap.size ≤ Nv := Nat.le_trans hU.size hNv
  clear hNv
  replace hU := kU hU hb
  clear hb
  refine anyR_e (anyE_st (i := 6) (m' := 127) Bu.out rfl rfl kr kr kr kr rfl kr (A2 := Ax) (m2 := lx.length) (c2 := cx) (s2 := sx) kr ?_)
  intro w17 hst
  replace Oa := kS hst Oa
  replace Ob := kS hst Ob
  replace Ox := kS hst Ox
  replace Oy := kS hst Oy
  replace Ba := hide (hst.ne Ba.out (by first | exact neau | exact (Ne.symm neua) | assumption | (exact Ne.symm (by assumption)) | omega))
  replace Bb := hide (hst.ne Bb.out (by first | exact nebu | exact (Ne.symm neub) | assumption | (exact Ne.symm (by assumption)) | omega))
  replace Bv := hide (hst.ne Bv.out (by first | exact nevu | exact (Ne.symm neuv) | assumption | (exact Ne.symm (by assumption)) | omega))
  replace Bu := hide hst.box
  replace hU := hU.trans (hst.bel hzu)
  clear hst
  refine anyE_st (i := 7) (m' := 255) Bv.out rfl rfl kr kr kr kr rfl kr (A2 := Ay) (m2 := ly.length) (c2 := cy) (s2 := sy) kr ?_
  intro w18 hst
  replace Oa := kS hst Oa
  replace Ob := kS hst Ob
  replace Ox := kS hst Ox
  replace Oy := kS hst Oy
  replace Ba := hide (hst.ne Ba.out (by first | exact neav | exact (Ne.symm neva) | assumption | (exact Ne.symm (by assumption)) | omega))
  replace Bb := hide (hst.ne Bb.out (by first | exact nebv | exact (Ne.symm nevb) | assumption | (exact Ne.symm (by assumption)) | omega))
  replace Bu := hide (hst.ne Bu.out (by first | exact neuv | exact (Ne.symm nevu) | assumption | (exact Ne.symm (by assumption)) | omega))
  replace Bv := hide hst.box
  replace hU := hU.trans (hst.bel hzv)
  clear hst
  refine anyE_done kr ?_
  refine then_normal ⟨((lx, sx, Ax, cx), (ly, sy, Ay, cy), Nu, Nv), _, rfl, Kp_c kr (Kp_c kr (Kp_c kr (Kp_c kr (Kp_c kr (Kp_c kr (Kp_c kr (Kp_c kr (Kp_c kr (Kp_c kr (Kp_c kr (Kp_c kr (Kp_c kr (Kp_c kr (Kp_c kr (Kp_n))))))))))))))), ?_⟩
  dsimp only
  exact ⟨hU, Oa, Ob, Ex, Ox, Cx, Lx, Yx, Ey, Oy, Cy, Ly, Yy, Ba, Bb, Bu, Bv, hzu, hzv⟩
  refine stepR_al (i := 5) (m' := 55) rfl rfl kr kr kr rfl ?_
  intro w19 Nv Bv hNv hb
  replace Bv := hide Bv
  have neav : Na ≠ Nv := by have := Ba.out.lt; omega
  have nebv : Nb ≠ Nv := by have := Bb.out.lt; omega
  have neuv : Nu ≠ Nv := by have := Bu.out.lt; omega
  replace Oa := kQ Oa hb
  replace Ob := kQ Ob hb
  replace Ox := kQ Ox hb
  replace Ba := kB Ba hb
  replace Bb := kB Bb hb
  replace Bu := kB Bu hb
  have hzv : w.heap.size ≤ Nv := Nat.le_trans hU.size hNv
  clear hNv
  replace hU := kU hU hb
  clear hb
  refine anyR_call (i := 3) (m' := 63) rfl rfl kr kr kr kr kr ((vown_any Ab lb cb sb _ Lb.out Cb Ob.out Yb.out).mono ?_)
  rintro e w20 ⟨ly, sy, Ay, cy, Ey, rfl, Cy, Oy, hb⟩
  refine ⟨_, rfl, hb, ?_⟩
  replace Oa := kQ Oa hb
  replace Ob := kQ Ob hb
  replace Ox := kQ Ox hb
  replace Ba := kB Ba hb
  replace Bb := kB Bb hb
  replace Bu := kB Bu hb
  replace Bv := kB Bv hb
  replace Oy := hide Oy.out.rd
  replace hU := kU hU hb
  clear hb
  have g : By ly ∧ ly.length ≤ 4096 := by have h := congrArg Vc.b Ey.out; dsimp only at h; rw [h]; exact ⟨Yb.out, Lb.out⟩
  have Ly := hide g.2
  have Yy := hide g.1
  clear g
  refine anyR_e (anyE_st (i := 6) (m' := 127) Bu.out rfl rfl kr kr kr kr rfl kr (A2 := Ax) (m2 := lx.length) (c2 := cx) (s2 := sx) kr ?_)
  intro w21 hst
  replace Oa := kS hst Oa
  replace Ob := kS hst Ob
  replace Ox := kS hst Ox
  replace Oy := kS hst Oy
  replace Ba := hide (hst.ne Ba.out (by first | exact neau | exact (Ne.symm neua) | assumption | (exact Ne.symm (by assumption)) | omega))
  replace Bb := hide (hst.ne Bb.out (by first | exact nebu | exact (Ne.symm neub) | assumption | (exact Ne.symm (by assumption)) | omega))
  replace Bv := hide (hst.ne Bv.out (by first | exact nevu | exact (Ne.symm neuv) | assumption | (exact Ne.symm (by assumption)) | omega))
  replace Bu := hide hst.box
  replace hU := hU.trans (hst.bel hzu)
  clear hst
  refine anyE_st (i := 7) (m' := 255) Bv.out rfl rfl kr kr kr kr rfl kr (A2 := Ay) (m2 := ly.length) (c2 := cy) (s2 := sy) kr ?_
  intro w22 hst
  replace Oa := kS hst Oa
  replace Ob := kS hst Ob
  replace Ox := kS hst Ox
  replace Oy := kS hst Oy
  replace Ba := hide (hst.ne Ba.out (by first | exact neav | exact (Ne.symm neva) | assumption | (exact Ne.symm (by assumption)) | omega))
  replace Bb := hide (hst.ne Bb.out (by first | exact nebv | exact (Ne.symm nevb) | assumption | (exact Ne.symm (by assumption)) | omega))
  replace Bu := hide (hst.ne Bu.out (by first | exact neuv | exact (Ne.symm nevu) | assumption | (exact Ne.symm (by assumption)) | omega))
  replace Bv := hide hst.box
  replace hU := hU.trans (hst.bel hzv)
  clear hst
  refine anyE_done kr ?_
  refine then_normal ⟨((lx, sx, Ax, cx), (ly, sy, Ay, cy), Nu, Nv), _, rfl, Kp_c kr (Kp_c kr (Kp_c kr (Kp_c kr (Kp_c kr (Kp_c kr (Kp_c kr (Kp_c kr (Kp_c kr (Kp_c kr (Kp_c kr (Kp_c kr (Kp_c kr (Kp_c kr (Kp_c kr (Kp_n))))))))))))))), ?_⟩
  dsimp only
  exact ⟨hU, Oa, Ob, Ex, Ox, Cx, Lx, Yx, Ey, Oy, Cy, Ly, Yy, Ba, Bb, Bu, Bv, hzu, hzv⟩
  refine stepR_al (i := 5) (m' := 39) rfl rfl kr kr kr rfl ?_
  intro w23 Nv Bv hNv hb
  replace Bv := hide Bv
  have neav : Na ≠ Nv := by have := Ba.out.lt; omega
  have nebv : Nb ≠ Nv := by have := Bb.out.lt; omega
  replace Oa := kQ Oa hb
  replace Ob := kQ Ob hb
  replace Ox := kQ Ox hb
  replace Ba := kB Ba hb
  replace Bb := kB Bb hb
  have hzv : w.heap.size ≤ Nv := Nat.le_trans hU.size hNv
  clear hNv
  replace hU := kU hU hb
  clear hb
  refine anyR_split [3, 4] kr rfl ⟨?_, ?_, trivial⟩
  refine stepR_call (i := 3) (m' := 47) rfl rfl kr kr kr kr ((vown_any Ab lb cb sb _ Lb.out Cb Ob.out Yb.out).mono ?_)
  rintro e w24 ⟨ly, sy, Ay, cy, Ey, rfl, Cy, Oy, hb⟩
  refine ⟨_, rfl, hb, ?_⟩
  replace Oa := kQ Oa hb
  replace Ob := kQ Ob hb
  replace Ox := kQ Ox hb
  replace Ba := kB Ba hb
  replace Bb := kB Bb hb
  replace Bv := kB Bv hb
  replace Oy := hide Oy.out.rd
  replace hU := kU hU hb
  clear hb
  have g : By ly ∧ ly.length ≤ 4096 := by have h := congrArg Vc.b Ey.out; dsimp only at h; rw [h]; exact ⟨Yb.out, Lb.out⟩
  have Ly := hide g.2
  have Yy := hide g.1
  clear g
  refine anyR_split [4] kr rfl ⟨?_, trivial⟩
  refine stepR_al (i := 4) (m' := 63) rfl rfl kr kr kr rfl ?_
  intro w25 Nu Bu hNu hb
  replace Bu := hide Bu
  have neau : Na ≠ Nu := by have := Ba.out.lt; omega
  have nebu : Nb ≠ Nu := by have := Bb.out.lt; omega
  have nevu : Nv ≠ Nu := by have := Bv.out.lt; omega
  replace Oa := kQ Oa hb
  replace Ob := kQ Ob hb
  replace Ox := kQ Ox hb
  replace Oy := kQ Oy hb
  replace Ba := kB Ba hb
  replace Bb := kB Bb hb
  replace Bv := kB Bv hb
  have hzu : w.heap.size ≤ Nu := Nat.le_trans hU.size hNu
  clear hNu
  replace hU := kU hU hb
  clear hb
  refine anyR_e (anyE_st (i := 6) (m' := 127) Bu.out rfl rfl kr kr kr kr rfl kr (A2 := Ax) (m2 := lx.length) (c2 := cx) (s2 := sx) kr ?_)
  intro w26 hst
  replace Oa := kS hst Oa
  replace Ob := kS hst Ob
  replace Ox := kS hst Ox
  replace Oy := kS hst Oy
  replace Ba := hide (hst.ne Ba.out (by first | exact neau | exact (Ne.symm neua) | assumption | (exact Ne.symm (by assumption)) | omega))
  replace Bb := hide (hst.ne Bb.out (by first | exact nebu | exact (Ne.symm neub) | assumption | (exact Ne.symm (by assumption)) | omega))
  replace Bv := hide (hst.ne Bv.out (by first | exact nevu | exact (Ne.symm neuv) | assumption | (exact Ne.symm (by assumption)) | omega))
  replace Bu := hide hst.box
  replace hU := hU.trans (hst.bel hzu)
  clear hst
  refine anyE_st (i := 7) (m' := 255) Bv.out rfl rfl kr kr kr kr rfl kr (A2 := Ay) (m2 := ly.length) (c2 := cy) (s2 := sy) kr ?_
  intro w27 hst
  replace Oa := kS hst Oa
  replace Ob := kS hst Ob
  replace Ox := kS hst Ox
  replace Oy := kS hst Oy
  replace Ba := hide (hst.ne Ba.out (by first | exact neav | exact (Ne.symm neva) | assumption | (exact Ne.symm (by assumption)) | omega))
  replace Bb := hide (hst.ne Bb.out (by first | exact nebv | exact (Ne.symm nevb) | assumption | (exact Ne.symm (by assumption)) | omega))
  replace Bu := hide (hst.ne Bu.out (by first | exact neuv | exact (Ne.symm nevu) | assumption | (exact Ne.symm (by assumption)) | omega))
  replace Bv := hide hst.box
  replace hU := hU.trans (hst.bel hzv)
  clear hst
  refine anyE_done kr ?_
  refine then_normal ⟨((lx, sx, Ax, cx), (ly, sy, Ay, cy), Nu, Nv), _, rfl, Kp_c kr (Kp_c kr (Kp_c kr (Kp_c kr (Kp_c kr (Kp_c kr (Kp_c kr (Kp_c kr (Kp_c kr (Kp_c kr (Kp_c kr (Kp_c kr (Kp_c kr (Kp_c kr (Kp_c kr (Kp_n))))))))))))))), ?_⟩
  dsimp only
  exact ⟨hU, Oa, Ob, Ex, Ox, Cx, Lx, Yx, Ey, Oy, Cy, Ly, Yy, Ba, Bb, Bu, Bv, hzu, hzv⟩
  refine stepR_al (i := 4) (m' := 55) rfl rfl kr kr kr rfl ?_
  intro w28 Nu Bu hNu hb
  replace Bu := hide Bu
  have neau : Na ≠ Nu := by have := Ba.out.lt; omega
  have nebu : Nb ≠ Nu := by have := Bb.out.lt; omega
  have nevu : Nv ≠ Nu := by have := Bv.out.lt; omega
  replace Oa := kQ Oa hb
  replace Ob := kQ Ob hb
  replace Ox := kQ Ox hb
  replace Ba := kB Ba hb
  replace Bb := kB Bb hb
  replace Bv := kB Bv hb
  have hzu : w.heap.size ≤ Nu := Nat.le_trans hU.size hNu
  clear hNu
  replace hU := kU hU hb
  clear hb
  refine anyR_call (i := 3) (m' := 63) rfl rfl kr kr kr kr kr ((vown_any Ab lb cb sb _ Lb.out Cb Ob.out Yb.out).mono ?_)
  rintro e w29 ⟨ly, sy, Ay, cy, Ey, rfl, Cy, Oy, hb⟩
  refine ⟨_, rfl, hb, ?_⟩
  replace Oa := kQ Oa hb
  replace Ob := kQ Ob hb
  replace Ox := kQ Ox hb
  replace Ba := kB Ba hb
  replace Bb := kB Bb hb
  replace Bv := kB Bv hb
  replace Bu := kB Bu hb
  replace Oy := hide Oy.out.rd
  replace hU := kU hU hb
  clear hb
  have g : By ly ∧ ly.length ≤ 4096 := by have h := congrArg Vc.b Ey.out; dsimp only at h; rw [h]; exact ⟨Yb.out, Lb.out⟩
  have Ly := hide g.2
  have Yy := hide g.1
  clear g
  refine anyR_e (anyE_st (i := 6) (m' := 127) Bu.out rfl rfl kr kr kr kr rfl kr (A2 := Ax) (m2 := lx.length) (c2 := cx) (s2 := sx) kr ?_)
  intro w30 hst
  replace Oa := kS hst Oa
  replace Ob := kS hst Ob
  replace Ox := kS hst Ox
  replace Oy := kS hst Oy
  replace Ba := hide (hst.ne Ba.out (by first | exact neau | exact (Ne.symm neua) | assumption | (exact Ne.symm (by assumption)) | omega))
  replace Bb := hide (hst.ne Bb.out (by first | exact nebu | exact (Ne.symm neub) | assumption | (exact Ne.symm (by assumption)) | omega))
  replace Bv := hide (hst.ne Bv.out (by first | exact nevu | exact (Ne.symm neuv) | assumption | (exact Ne.symm (by assumption)) | omega))
  replace Bu := hide hst.box
  replace hU := hU.trans (hst.bel hzu)
  clear hst
  refine anyE_st (i := 7) (m' := 255) Bv.out rfl rfl kr kr kr kr rfl kr (A2 := Ay) (m2 := ly.length) (c2 := cy) (s2 := sy) kr ?_
  intro w31 hst
  replace Oa := kS hst Oa
  replace Ob := kS hst Ob
  replace Ox := kS hst Ox
  replace Oy := kS hst Oy
  replace Ba := hide (hst.ne Ba.out (by first | exact neav | exact (Ne.symm neva) | assumption | (exact Ne.symm (by assumption)) | omega))
  replace Bb := hide (hst.ne Bb.out (by first | exact nebv | exact (Ne.symm nevb) | assumption | (exact Ne.symm (by assumption)) | omega))
  replace Bu := hide (hst.ne Bu.out (by first | exact neuv | exact (Ne.symm nevu) | assumption | (exact Ne.symm (by assumption)) | omega))
  replace Bv := hide hst.box
  replace hU := hU.trans (hst.bel hzv)
  clear hst
  refine anyE_done kr ?_
  refine then_normal ⟨((lx, sx, Ax, cx), (ly, sy, Ay, cy), Nu, Nv), _, rfl, Kp_c kr (Kp_c kr (Kp_c kr (Kp_c kr (Kp_c kr (Kp_c kr (Kp_c kr (Kp_c kr (Kp_c kr (Kp_c kr (Kp_c kr (Kp_c kr (Kp_c kr (Kp_c kr (Kp_c kr (Kp_n))))))))))))))), ?_⟩
  dsimp only
  exact ⟨hU, Oa, Ob, Ex, Ox, Cx, Lx, Yx, Ey, Oy, Cy, Ly, Yy, Ba, Bb, Bu, Bv, hzu, hzv⟩
  refine stepR_al (i := 4) (m' := 21) rfl rfl kr kr kr rfl ?_
  intro w32 Nu Bu hNu hb
  replace Bu := hide Bu
  replace hb : Below w3.heap.size w3 w32 := Below.trans ((Below.refl _ _).drew) hb
  replace hNu : w3.heap.size ≤ Nu := hNu
  have neau : Na ≠ Nu := by have := Ba.out.lt; omega
  have nebu : Nb ≠ Nu := by have := Bb.out.lt; omega
  replace Oa := kQ Oa hb
  replace Ob := kQ Ob hb
  replace Ba := kB Ba hb
  replace Bb := kB Bb hb
  have hzu : w.heap.size ≤ Nu := Nat.le_trans hU.size hNu
  clear hNu
  replace hU := kU hU hb
  clear hb
  refine anyR_split [1, 5] kr rfl ⟨?_, ?_, trivial⟩
  refine stepR_call (i := 1) (m' := 23) rfl rfl kr kr kr kr ((vown_any Aa la ca sa _ La.out Ca Oa.out Ya.out).mono ?_)
  rintro e w33 ⟨lx, sx, Ax, cx, Ex, rfl, Cx, Ox, hb⟩
  refine ⟨_, rfl, hb, ?_⟩
  replace Oa := kQ Oa hb
  replace Ob := kQ Ob hb
  replace Ba := kB Ba hb
  replace Bb := kB Bb hb
  replace Bu := kB Bu hb
  replace Ox := hide Ox.out.rd
  replace hU := kU hU hb
  clear hb
  have g : By lx ∧ lx.length ≤ 4096 := by have h := congrArg Vc.b Ex.out; dsimp only at h; rw [h]; exact ⟨Ya.out, La.out⟩
  have Lx := hide g.2
  have Yx := hide g.1
  clear g
  refine anyR_split [3, 5] kr rfl ⟨?_, ?_, trivial⟩
  refine stepR_call (i := 3) (m' := 31) rfl rfl kr kr kr kr ((vown_any Ab lb cb sb _ Lb.out Cb Ob.out Yb.out).mono ?_)
  rintro e w34 ⟨ly, sy, Ay, cy, Ey, rfl, Cy, Oy, hb⟩
  refine ⟨_, rfl, hb, ?_⟩
  replace Oa := kQ Oa hb
  replace Ob := kQ Ob hb
  replace Ox := kQ Ox hb
  replace Ba := kB Ba hb
  replace Bb := kB Bb hb
  replace Bu := kB Bu hb
  replace Oy := hide Oy.out.rd
  replace hU := kU hU hb
  clear hb
  have g : By ly ∧ ly.length ≤ 4096 := by have h := congrArg Vc.b Ey.out; dsimp only at h; rw [h]; exact ⟨Yb.out, Lb.out⟩
  have Ly := hide g.2
  have Yy := hide g.1
  clear g
  refine anyR_split [5] kr rfl ⟨?_, trivial⟩
  refine stepR_al (i := 5) (m' := 63) rfl rfl kr kr kr rfl ?_
  intro w35 Nv Bv hNv hb
  replace Bv := hide Bv
  have neav : Na ≠ Nv := by have := Ba.out.lt; omega
  have nebv : Nb ≠ Nv := by have := Bb.out.lt; omega
  have neuv : Nu ≠ Nv := by have := Bu.out.lt; omega
  replace Oa := kQ Oa hb
  replace Ob := kQ Ob hb
  replace Ox := kQ Ox hb
  replace Oy := kQ Oy hb
  replace Ba := kB Ba hb
  replace Bb := kB Bb hb
  replace Bu := kB Bu hb
  have hzv : w.heap.size ≤ Nv := Nat.le_trans hU.size hNv
  clear hNv
  replace hU := kU hU hb
  clear hb
  refine anyR_e (anyE_st (i := 6) (m' := 127) Bu.out rfl rfl kr kr kr kr rfl kr (A2 := Ax) (m2 := lx.length) (c2 := cx) (s2 := sx) kr ?_)
  intro w36 hst
  replace Oa := kS hst Oa
  replace Ob := kS hst Ob
  replace Ox := kS hst Ox
  replace Oy := kS hst Oy
  replace Ba := hide (hst.ne Ba.out (by first | exact neau | exact (Ne.symm neua) | assumption | (exact Ne.symm (by assumption)) | omega))
  replace Bb := hide (hst.ne Bb.out (by first | exact nebu | exact (Ne.symm neub) | assumption | (exact Ne.symm (by assumption)) | omega))
  replace Bv := hide (hst.ne Bv.out (by first | exact nevu | exact (Ne.symm neuv) | assumption | (exact Ne.symm (by assumption)) | omega))
  replace Bu := hide hst.box
  replace hU := hU.trans (hst.bel hzu)
  clear hst
  refine anyE_st (i := 7) (m' := 255) Bv.out rfl rfl kr kr kr kr rfl kr (A2 := Ay) (m2 := ly.length) (c2 := cy) (s2 := sy) kr ?_
  intro w37 hst
  replace Oa := kS hst Oa
  replace Ob := kS hst Ob
  replace Ox := kS hst Ox
  replace Oy := kS hst Oy
  replace Ba := hide (hst.ne Ba.out (by first | exact neav | exact (Ne.symm neva) | assumption | (exact Ne.symm (by assumption)) | omega))
  replace Bb := hide (hst.ne Bb.out (by first | exact nebv | exact (Ne.symm nevb) | assumption | (exact Ne.symm (by assumption)) | omega))
  replace Bu := hide (hst.ne Bu.out (by first | exact neuv | exact (Ne.symm nevu) | assumption | (exact Ne.symm (by assumption)) | omega))
  replace Bv := hide hst.box
  replace hU := hU.trans (hst.bel hzv)
  clear hst
  refine anyE_done kr ?_
  refine then_normal ⟨((lx, sx, Ax, cx), (ly, sy, Ay, cy), Nu, Nv), _, rfl, Kp_c kr (Kp_c kr (Kp_c kr (Kp_c kr (Kp_c kr (Kp_c kr (Kp_c kr (Kp_c kr (Kp_c kr (Kp_c kr (Kp_c kr (Kp_c kr (Kp_c kr (Kp_c kr (Kp_c kr (Kp_n))))))))))))))), ?_⟩
  dsimp only
  exact ⟨hU, Oa, Ob, Ex, Ox, Cx, Lx, Yx, Ey, Oy, Cy, Ly, Yy, Ba, Bb, Bu, Bv, hzu, hzv⟩
  refine stepR_al (i := 5) (m' := 55) rfl rfl kr kr kr rfl ?_
  intro w38 Nv Bv hNv hb
  replace Bv := hide Bv
  have neav : Na ≠ Nv := by have := Ba.out.lt; omega
  have nebv : Nb ≠ Nv := by have := Bb.out.lt; omega
  have neuv : Nu ≠ Nv := by have := Bu.out.lt; omega
  replace Oa := kQ Oa hb
  replace Ob := kQ Ob hb
  replace Ox := kQ Ox hb
  replace Ba := kB Ba hb
  replace Bb := kB Bb hb
  replace Bu := kB Bu hb
  have hzv : w.heap.size ≤ Nv := Nat.le_trans hU.size hNv
  clear hNv
  replace hU := kU hU hb
  clear hb
  refine anyR_call (i := 3) (m' := 63) rfl rfl kr kr kr kr kr ((vown_any Ab lb cb sb _ Lb.out Cb Ob.out Yb.out).mono ?_)
  rintro e w39 ⟨ly, sy, Ay, cy, Ey, rfl, Cy, Oy, hb⟩
  refine ⟨_, rfl, hb, ?_⟩
  replace Oa := kQ Oa hb
  replace Ob := kQ Ob hb
  replace Ox := kQ Ox hb
  replace Ba := kB Ba hb
  replace Bb := kB Bb hb
  replace Bu := kB Bu hb
  replace Bv := kB Bv hb
  replace Oy := hide Oy.out.rd
  replace hU := kU hU hb
  clear hb
  have g : By ly ∧ ly.length ≤ 4096 := by have h := congrArg Vc.b Ey.out; dsimp only at h; rw [h]; exact ⟨Yb.out, Lb.out⟩
  have Ly := hide g.2
  have Yy := hide g.1
  clear g
  refine anyR_e (anyE_st (i := 6) (m' := 127) Bu.out rfl rfl kr kr kr kr rfl kr (A2 := Ax) (m2 := lx.length) (c2 := cx) (s2 := sx) kr ?_)
  intro w40 hst
  replace Oa := kS hst Oa
  replace Ob := kS hst Ob
  replace Ox := kS hst Ox
  replace Oy := kS hst Oy
  replace Ba := hide (hst.ne Ba.out (by first | exact neau | exact (Ne.symm neua) | assumption | (exact Ne.symm (by assumption)) | omega))
  replace Bb := hide (hst.ne Bb.out (by first | exact nebu | exact (Ne.symm neub) | assumption | (exact Ne.symm (by assumption)) | omega))
  replace Bv := hide (hst.ne Bv.out (by first | exact nevu | exact (Ne.symm neuv) | assumption | (exact Ne.symm (by assumption)) | omega))
  replace Bu := hide hst.box
  replace hU := hU.trans (hst.bel hzu)
  clear hst
  refine anyE_st (i := 7) (m' := 255) Bv.out rfl rfl kr kr kr kr rfl kr (A2 := Ay) (m2 := ly.length) (c2 := cy) (s2 := sy) kr ?_
  intro w41 hst
  replace Oa := kS hst Oa
  replace Ob := kS hst Ob
  replace Ox := kS hst Ox
  replace Oy := kS hst Oy
  replace Ba := hide (hst.ne Ba.out (by first | exact neav | exact (Ne.symm neva) | assumption | (exact Ne.symm (by assumption)) | omega))
  replace Bb := hide (hst.ne Bb.out (by first | exact nebv | exact (Ne.symm nevb) | assumption | (exact Ne.symm (by assumption)) | omega))
  replace Bu := hide (hst.ne Bu.out (by first | exact neuv | exact (Ne.symm nevu) | assumption | (exact Ne.symm (by assumption)) | omega))
  replace Bv := hide hst.box
  replace hU := hU.trans (hst.bel hzv)
  clear hst
  refine anyE_done kr ?_
  refine then_normal ⟨((lx, sx, Ax, cx), (ly, sy, Ay, cy), Nu, Nv), _, rfl, Kp_c kr (Kp_c kr (Kp_c kr (Kp_c kr (Kp_c kr (Kp_c kr (Kp_c kr (Kp_c kr (Kp_c kr (Kp_c kr (Kp_c kr (Kp_c kr (Kp_c kr (Kp_c kr (Kp_c kr (Kp_n))))))))))))))), ?_⟩
  dsimp only
  exact ⟨hU, Oa, Ob, Ex, Ox, Cx, Lx, Yx, Ey, Oy, Cy, Ly, Yy, Ba, Bb, Bu, Bv, hzu, hzv⟩
  refine stepR_al (i := 5) (m' := 53) rfl rfl kr kr kr rfl ?_
  intro w42 Nv Bv hNv hb
  replace Bv := hide Bv
  have neav : Na ≠ Nv := by have := Ba.out.lt; omega
  have nebv : Nb ≠ Nv := by have := Bb.out.lt; omega
  have neuv : Nu ≠ Nv := by have := Bu.out.lt; omega
  replace Oa := kQ Oa hb
  replace Ob := kQ Ob hb
  replace Ba := kB Ba hb
  replace Bb := kB Bb hb
  replace Bu := kB Bu hb
  have hzv : w.heap.size ≤ Nv := Nat.le_trans hU.size hNv
  clear hNv
  replace hU := kU hU hb
  clear hb
  refine anyR_call (i := 1) (m' := 55) rfl rfl kr kr kr kr kr ((vown_any Aa la ca sa _ La.out Ca Oa.out Ya.out).mono ?_)
  rintro e w43 ⟨lx, sx, Ax, cx, Ex, rfl, Cx, Ox, hb⟩
  refine ⟨_, rfl, hb, ?_⟩
  replace Oa := kQ Oa hb
  replace Ob := kQ Ob hb
  replace Ba := kB Ba hb
  replace Bb := kB Bb hb
  replace Bu := kB Bu hb
  replace Bv := kB Bv hb
  replace Ox := hide Ox.out.rd
  replace hU := kU hU hb
  clear hb
  have g : By lx ∧ lx.length ≤ 4096 := by have h := congrArg Vc.b Ex.out; dsimp only at h; rw [h]; exact ⟨Ya.out, La.out⟩
  have Lx := hide g.2
  have Yx := hide g.1
  clear g
  refine anyR_call (i := 3) (m' := 63) rfl rfl kr kr kr kr kr ((vown_any Ab lb cb sb _ Lb.out Cb Ob.out Yb.out).mono ?_)
  rintro e w44 ⟨ly, sy, Ay, cy, Ey, rfl, Cy, Oy, hb⟩
  refine ⟨_, rfl, hb, ?_⟩
  replace Oa := kQ Oa hb
  replace Ob := kQ Ob hb
  replace Ox := kQ Ox hb
  replace Ba := kB Ba hb
  replace Bb := kB Bb hb
  replace Bu := kB Bu hb
  replace Bv := kB Bv hb
  replace Oy := hide Oy.out.rd
  replace hU := kU hU hb
  clear hb
  have g : By ly ∧ ly.length ≤ 4096 := by have h := congrArg Vc.b Ey.out; dsimp only at h; rw [h]; exact ⟨Yb.out, Lb.out⟩
  have Ly := hide g.2
  have Yy := hide g.1
  clear g
  refine anyR_e (anyE_st (i := 6) (m' := 127) Bu.out rfl rfl kr kr kr kr rfl kr (A2 := Ax) (m2 := lx.length) (c2 := cx) (s2 := sx) kr ?_)
  intro w45 hst
  replace Oa := kS hst Oa
  replace Ob := kS hst Ob
  replace Ox := kS hst Ox
  replace Oy := kS hst Oy
  replace Ba := hide (hst.ne Ba.out (by first | exact neau | exact (Ne.symm neua) | assumption | (exact Ne.symm (by assumption)) | omega))
  replace Bb := hide (hst.ne Bb.out (by first | exact nebu | exact (Ne.symm neub) | assumption | (exact Ne.symm (by assumption)) | omega))
  replace Bv := hide (hst.ne Bv.out (by first | exact nevu | exact (Ne.symm neuv) | assumption | (exact Ne.symm (by assumption)) | omega))
  replace Bu := hide hst.box
  replace hU := hU.trans (hst.bel hzu)
  clear hst
  refine anyE_st (i := 7) (m' := 255) Bv.out rfl rfl kr kr kr kr rfl kr (A2 := Ay) (m2 := ly.length) (c2 := cy) (s2 := sy) kr ?_
  intro w46 hst
  replace Oa := kS hst Oa
  replace Ob := kS hst Ob
  replace Ox := kS hst Ox
  replace Oy := kS hst Oy
  replace Ba := hide (hst.ne Ba.out (by first | exact neav | exact (Ne.symm neva) | assumption | (exact Ne.symm (by assumption)) | omega))
  replace Bb := hide (hst.ne Bb.out (by first | exact nebv | exact (Ne.symm nevb) | assumption | (exact Ne.symm (by assumption)) | omega))
  replace Bu := hide (hst.ne Bu.out (by first | exact neuv | exact (Ne.symm nevu) | assumption | (exact Ne.symm (by assumption)) | omega))
  replace Bv := hide hst.box
  replace hU := hU.trans (hst.bel hzv)
  clear hst
  refine anyE_done kr ?_
  refine then_normal ⟨((lx, sx, Ax, cx), (ly, sy, Ay, cy), Nu, Nv), _, rfl, Kp_c kr (Kp_c kr (Kp_c kr (Kp_c kr (Kp_c kr (Kp_c kr (Kp_c kr (Kp_c kr (Kp_c kr (Kp_c kr (Kp_c kr (Kp_c kr (Kp_c kr (Kp_c kr (Kp_c kr (Kp_n))))))))))))))), ?_⟩
  dsimp only
  exact ⟨hU, Oa, Ob, Ex, Ox, Cx, Lx, Yx, Ey, Oy, Cy, Ly, Yy, Ba, Bb, Bu, Bv, hzu, hzv⟩
  refine stepR_al (i := 5) (m' := 37) rfl rfl kr kr kr rfl ?_
  intro w47 Nv Bv hNv hb
  replace Bv := hide Bv
  replace hb : Below w3.heap.size w3 w47 := Below.trans ((Below.refl _ _).drew) hb
  replace hNv : w3.heap.size ≤ Nv := hNv
  have neav : Na ≠ Nv := by have := Ba.out.lt; omega
  have nebv : Nb ≠ Nv := by have := Bb.out.lt; omega
  replace Oa := kQ Oa hb
  replace Ob := kQ Ob hb
  replace Ba := kB Ba hb
  replace Bb := kB Bb hb
  have hzv : w.heap.size ≤ Nv := Nat.le_trans hU.size hNv
  clear hNv
  replace hU := kU hU hb
  clear hb
  refine anyR_split [1, 4] kr rfl ⟨?_, ?_, trivial⟩
  refine stepR_call (i := 1) (m' := 39) rfl rfl kr kr kr kr ((vown_any Aa la ca sa _ La.out Ca Oa.out Ya.out).mono ?_)
  rintro e w48 ⟨lx, sx, Ax, cx, Ex, rfl, Cx, Ox, hb⟩
  refine ⟨_, rfl, hb, ?_⟩
  replace Oa := kQ Oa hb
  replace Ob := kQ Ob hb
  replace Ba := kB Ba hb
  replace Bb := kB Bb hb
  replace Bv := kB Bv hb
  replace Ox := hide Ox.out.rd
  replace hU := kU hU hb
  clear hb
  have g : By lx ∧ lx.length ≤ 4096 := by have h := congrArg Vc.b Ex.out; dsimp only at h; rw [h]; exact ⟨Ya.out, La.out⟩
  have Lx := hide g.2
  have Yx := hide g.1
  clear g
  refine anyR_split [3, 4] kr rfl ⟨?_, ?_, trivial⟩
  refine stepR_call (i := 3) (m' := 47) rfl rfl kr kr kr kr ((vown_any Ab lb cb sb _ Lb.out Cb Ob.out Yb.out).mono ?_)
  rintro e w49 ⟨ly, sy, Ay, cy, Ey, rfl, Cy, Oy, hb⟩
  refine ⟨_, rfl, hb, ?_⟩
  replace Oa := kQ Oa hb
  replace Ob := kQ Ob hb
  replace Ox := kQ Ox hb
  replace Ba := kB Ba hb
  replace Bb := kB Bb hb
  replace Bv := kB Bv hb
  replace Oy := hide Oy.out.rd
  replace hU := kU hU hb
  clear hb
  have g : By ly ∧ ly.length ≤ 4096 := by have h := congrArg Vc.b Ey.out; dsimp only at h; rw [h]; exact ⟨Yb.out, Lb.out⟩
  have Ly := hide g.2
  have Yy := hide g.1
  clear g
  refine anyR_split [4] kr rfl ⟨?_, trivial⟩
  refine stepR_al (i := 4) (m' := 63) rfl rfl kr kr kr rfl ?_
  intro w50 Nu Bu hNu hb
  replace Bu := hide Bu
  have neau : Na ≠ Nu := by have := Ba.out.lt; omega
  have nebu : Nb ≠ Nu := by have := Bb.out.lt; omega
  have nevu : Nv ≠ Nu := by have := Bv.out.lt; omega
  replace Oa := kQ Oa hb
  replace Ob := kQ Ob hb
  replace Ox := kQ Ox hb
  replace Oy := kQ Oy hb
  replace Ba := kB Ba hb
  replace Bb := kB Bb hb
  replace Bv := kB Bv hb
  have hzu : w.heap.size ≤ Nu := Nat.le_trans hU.size hNu
  clear hNu
  replace hU := kU hU hb
  clear hb
  refine anyR_e (anyE_st (i := 6) (m' := 127) Bu.out rfl rfl kr kr kr kr rfl kr (A2 := Ax) (m2 := lx.length) (c2 := cx) (s2 := sx) kr ?_)
  intro w51 hst
  replace Oa := kS hst Oa
  replace Ob := kS hst Ob
  replace Ox := kS hst Ox
  replace Oy := kS hst Oy
  replace Ba := hide (hst.ne Ba.out (by first | exact neau | exact (Ne.symm neua) | assumption | (exact Ne.symm (by assumption)) | omega))
  replace Bb := hide (hst.ne Bb.out (by first | exact nebu | exact (Ne.symm neub) | assumption | (exact Ne.symm (by assumption)) | omega))
  replace Bv := hide (hst.ne Bv.out (by first | exact nevu | exact (Ne.symm neuv) | assumption | (exact Ne.symm (by assumption)) | omega))
  replace Bu := hide hst.box
  replace hU := hU.trans (hst.bel hzu)
  clear hst
  refine anyE_st (i := 7) (m' := 255) Bv.out rfl rfl kr kr kr kr rfl kr (A2 := Ay) (m2 := ly.length) (c2 := cy) (s2 := sy) kr ?_
  intro w52 hst
  replace Oa := kS hst Oa
  replace Ob := kS hst Ob
  replace Ox := kS hst Ox
  replace Oy := kS hst Oy
  replace Ba := hide (hst.ne Ba.out (by first | exact neav | exact (Ne.symm neva) | assumption | (exact Ne.symm (by assumption)) | omega))
  replace Bb := hide (hst.ne Bb.out (by first | exact nebv | exact (Ne.symm nevb) | assumption | (exact Ne.symm (by assumption)) | omega))
  replace Bu := hide (hst.ne Bu.out (by first | exact neuv | exact (Ne.symm nevu) | assumption | (exact Ne.symm (by assumption)) | omega))
  replace Bv := hide hst.box
  replace hU := hU.trans (hst.bel hzv)
  clear hst
  refine anyE_done kr ?_
  refine then_normal ⟨((lx, sx, Ax, cx), (ly, sy, Ay, cy), Nu, Nv), _, rfl, Kp_c kr (Kp_c kr (Kp_c kr (Kp_c kr (Kp_c kr (Kp_c kr (Kp_c kr (Kp_c kr (Kp_c kr (Kp_c kr (Kp_c kr (Kp_c kr (Kp_c kr (Kp_c kr (Kp_c kr (Kp_n))))))))))))))), ?_⟩
  dsimp only
  exact ⟨hU, Oa, Ob, Ex, Ox, Cx, Lx, Yx, Ey, Oy, Cy, Ly, Yy, Ba, Bb, Bu, Bv, hzu, hzv⟩
  refine stepR_al (i := 4) (m' := 55) rfl rfl kr kr kr rfl ?_
  intro w53 Nu Bu hNu hb
  replace Bu := hide Bu
  have neau : Na ≠ Nu := by have := Ba.out.lt; omega
  have nebu : Nb ≠ Nu := by have := Bb.out.lt; omega
  have nevu : Nv ≠ Nu := by have := Bv.out.lt; omega
  replace Oa := kQ Oa hb
  replace Ob := kQ Ob hb
  replace Ox := kQ Ox hb
  replace Ba := kB Ba hb
  replace Bb := kB Bb hb
  replace Bv := kB Bv hb
  have hzu : w.heap.size ≤ Nu := Nat.le_trans hU.size hNu
  clear hNu
  replace hU := kU hU hb
  clear hb
  refine anyR_call (i := 3) (m' := 63) rfl rfl kr kr kr kr kr ((vown_any Ab lb cb sb _ Lb.out Cb Ob.out Yb.out).mono ?_)
  rintro e w54 ⟨ly, sy, Ay, cy, Ey, rfl, Cy, Oy, hb⟩
  refine ⟨_, rfl, hb, ?_⟩
  replace Oa := kQ Oa hb
  replace Ob := kQ Ob hb
  replace Ox := kQ Ox hb
  replace Ba := kB Ba hb
  replace Bb := kB Bb hb
  replace Bv := kB Bv hb
  replace Bu := kB Bu hb
  replace Oy := hide Oy.out.rd
  replace hU := kU hU hb
  clear hb
  have g : By ly ∧ ly.length ≤ 4096 := by have h := congrArg Vc.b Ey.out; dsimp only at h; rw [h]; exact ⟨Yb.out, Lb.out⟩
  have Ly := hide g.2
  have Yy := hide g.1
  clear g
  refine anyR_e (anyE_st (i := 6) (m' := 127) Bu.out rfl rfl kr kr kr kr rfl kr (A2 := Ax) (m2 := lx.length) (c2 := cx) (s2 := sx) kr ?_)
  intro w55 hst
  replace Oa := kS hst Oa
  replace Ob := kS hst Ob
  replace Ox := kS hst Ox
  replace Oy := kS hst Oy
  replace Ba := hide (hst.ne Ba.out (by first | exact neau | exact (Ne.symm neua) | assumption | (exact Ne.symm (by assumption)) | omega))
  replace Bb := hide (hst.ne Bb.out (by first | exact nebu | exact (Ne.symm neub) | assumption | (exact Ne.symm (by assumption)) | omega))
  replace Bv := hide (hst.ne Bv.out (by first | exact nevu | exact (Ne.symm neuv) | assumption | (exact Ne.symm (by assumption)) | omega))
  replace Bu := hide hst.box
  replace hU := hU.trans (hst.bel hzu)
  clear hst
  refine anyE_st (i := 7) (m' := 255) Bv.out rfl rfl kr kr kr kr rfl kr (A2 := Ay) (m2 := ly.length) (c2 := cy) (s2 := sy) kr ?_
  intro w56 hst
  replace Oa := kS hst Oa
  replace Ob := kS hst Ob
  replace Ox := kS hst Ox
  replace Oy := kS hst Oy
  replace Ba := hide (hst.ne Ba.out (by first | exact neav | exact (Ne.symm neva) | assumption | (exact Ne.symm (by assumption)) | omega))
  replace Bb := hide (hst.ne Bb.out (by first | exact nebv | exact (Ne.symm nevb) | assumption | (exact Ne.symm (by assumption)) | omega))
  replace Bu := hide (hst.ne Bu.out (by first | exact neuv | exact (Ne.symm nevu) | assumption | (exact Ne.symm (by assumption)) | omega))
  replace Bv := hide hst.box
  replace hU := hU.trans (hst.bel hzv)
  clear hst
  refine anyE_done kr ?_
  refine then_normal ⟨((lx, sx, Ax, cx), (ly, sy, Ay, cy), Nu, Nv), _, rfl, Kp_c kr (Kp_c kr (Kp_c kr (Kp_c kr (Kp_c kr (Kp_c kr (Kp_c kr (Kp_c kr (Kp_c kr (Kp_c kr (Kp_c kr (Kp_c kr (Kp_c kr (Kp_c kr (Kp_c kr (Kp_n))))))))))))))), ?_⟩
  dsimp only
  exact ⟨hU, Oa, Ob, Ex, Ox, Cx, Lx, Yx, Ey, Oy, Cy, Ly, Yy, Ba, Bb, Bu, Bv, hzu, hzv⟩
  refine stepR_al (i := 4) (m' := 53) rfl rfl kr kr kr rfl ?_
  intro w57 Nu Bu hNu hb
  replace Bu := hide Bu
  have neau : Na ≠ Nu := by have := Ba.out.lt; omega
  have nebu : Nb ≠ Nu := by have := Bb.out.lt; omega
  have nevu : Nv ≠ Nu := by have := Bv.out.lt; omega
  replace Oa := kQ Oa hb
  replace Ob := kQ Ob hb
  replace Ba := kB Ba hb
  replace Bb := kB Bb hb
  replace Bv := kB Bv hb
  have hzu : w.heap.size ≤ Nu := Nat.le_trans hU.size hNu
  clear hNu
  replace hU := kU hU hb
  clear hb
  refine anyR_call (i := 1) (m' := 55) rfl rfl kr kr kr kr kr ((vown_any Aa la ca sa _ La.out Ca Oa.out Ya.out).mono ?_)
  rintro e w58 ⟨lx, sx, Ax, cx, Ex, rfl, Cx, Ox, hb⟩
  refine ⟨_, rfl, hb, ?_⟩
  replace Oa := kQ Oa hb
  replace Ob := kQ Ob hb
  replace Ba := kB Ba hb
  replace Bb := kB Bb hb
  replace Bv := kB Bv hb
  replace Bu := kB Bu hb
  replace Ox := hide Ox.out.rd
  replace hU := kU hU hb
  clear hb
  have g : By lx ∧ lx.length ≤ 4096 := by have h := congrArg Vc.b Ex.out; dsimp only at h; rw [h]; exact ⟨Ya.out, La.out⟩
  have Lx := hide g.2
  have Yx := hide g.1
  clear g
  refine anyR_call (i := 3) (m' := 63) rfl rfl kr kr kr kr kr ((vown_any Ab lb cb sb _ Lb.out Cb Ob.out Yb.out).mono ?_)
  rintro e w59 ⟨ly, sy, Ay, cy, Ey, rfl, Cy, Oy, hb⟩
  refine ⟨_, rfl, hb, ?_⟩
  replace Oa := kQ Oa hb
  replace Ob := kQ Ob hb
  replace Ox := kQ Ox hb
  replace Ba := kB Ba hb
  replace Bb := kB Bb hb
  replace Bv := kB Bv hb
  replace Bu := kB Bu hb
  replace Oy := hide Oy.out.rd
  replace hU := kU hU hb
  clear hb
  have g : By ly ∧ ly.length ≤ 4096 := by have h := congrArg Vc.b Ey.out; dsimp only at h; rw [h]; exact ⟨Yb.out, Lb.out⟩
  have Ly := hide g.2
  have Yy := hide g.1
  clear g
  refine anyR_e (anyE_st (i := 6) (m' := 127) Bu.out rfl rfl kr kr kr kr rfl kr (A2 := Ax) (m2 := lx.length) (c2 := cx) (s2 := sx) kr ?_)
  intro w60 hst
  replace Oa := kS hst Oa
  replace Ob := kS hst Ob
  replace Ox := kS hst Ox
  replace Oy := kS hst Oy
  replace Ba := hide (hst.ne Ba.out (by first | exact neau | exact (Ne.symm neua) | assumption | (exact Ne.symm (by assumption)) | omega))
  replace Bb := hide (hst.ne Bb.out (by first | exact nebu | exact (Ne.symm neub) | assumption | (exact Ne.symm (by assumption)) | omega))
  replace Bv := hide (hst.ne Bv.out (by first | exact nevu | exact (Ne.symm neuv) | assumption | (exact Ne.symm (by assumption)) | omega))
  replace Bu := hide hst.box
  replace hU := hU.trans (hst.bel hzu)
  clear hst
  refine anyE_st (i := 7) (m' := 255) Bv.out rfl rfl kr kr kr kr rfl kr (A2 := Ay) (m2 := ly.length) (c2 := cy) (s2 := sy) kr ?_
  intro w61 hst
  replace Oa := kS hst Oa
  replace Ob := kS hst Ob
  replace Ox := kS hst Ox
  replace Oy := kS hst Oy
  replace Ba := hide (hst.ne Ba.out (by first | exact neav | exact (Ne.symm neva) | assumption | (exact Ne.symm (by assumption)) | omega))
  replace Bb := hide (hst.ne Bb.out (by first | exact nebv | exact (Ne.symm nevb) | assumption | (exact Ne.symm (by assumption)) | omega))
  replace Bu := hide (hst.ne Bu.out (by first | exact neuv | exact (Ne.symm nevu) | assumption | (exact Ne.symm (by assumption)) | omega))
  replace Bv := hide hst.box
  replace hU := hU.trans (hst.bel hzv)
  clear hst
  refine anyE_done kr ?_
  refine then_normal ⟨((lx, sx, Ax, cx), (ly, sy, Ay, cy), Nu, Nv), _, rfl, Kp_c kr (Kp_c kr (Kp_c kr (Kp_c kr (Kp_c kr (Kp_c kr (Kp_c kr (Kp_c kr (Kp_c kr (Kp_c kr (Kp_c kr (Kp_c kr (Kp_c kr (Kp_c kr (Kp_c kr (Kp_n))))))))))))))), ?_⟩
  dsimp only
  exact ⟨hU, Oa, Ob, Ex, Ox, Cx, Lx, Yx, Ey, Oy, Cy, Ly, Yy, Ba, Bb, Bu, Bv, hzu, hzv⟩
  rintro ⟨⟨lx, sx, Ax, cx⟩, ⟨ly, sy, Ay, cy⟩, Nu, Nv⟩ X62 w62 h
  clear hU Oa Ob Ba Bb
  dsimp only at h
  obtain ⟨hU, Oa, Ob, Ex, Ox, Cx, Lx, Yx, Ey, Oy, Cy, Ly, Yy, Ba, Bb, Bu, Bv, hzu, hzv⟩ := h
  refine then_normal (wp_seq (wp_seq ?_))
  obtain ⟨Pr1, HM1, HC1, p1_a, p1_b, p1_x, p1_y, q1_a, q1_b, q1_u, q1_v⟩ : ∃ Pr : World → Prop, (∀ w w', Pr w → Below w.heap.size w w' → Pr w') ∧ Hid (Pr w62) ∧ (∀ W, Pr W → RQ W Aa la) ∧ (∀ W, Pr W → RQ W Ab lb) ∧ (∀ W, Pr W → RQ W Ax lx) ∧ (∀ W, Pr W → RQ W Ay ly) ∧ (∀ W, Pr W → Box Na Aa la.length ca sa W) ∧ (∀ W, Pr W → Box Nb Ab lb.length cb sb W) ∧ (∀ W, Pr W → Box Nu Ax lx.length cx sx W) ∧ (∀ W, Pr W → Box Nv Ay ly.length cy sy W) := ⟨fun W => RQ W Aa la ∧ RQ W Ab lb ∧ RQ W Ax lx ∧ RQ W Ay ly ∧ Box Na Aa la.length ca sa W ∧ Box Nb Ab lb.length cb sb W ∧ Box Nu Ax lx.length cx sx W ∧ Box Nv Ay ly.length cy sy W, fun _ _ h hb => ⟨RQ.below h.1 hb, RQ.below h.2.1 hb, RQ.below h.2.2.1 hb, RQ.below h.2.2.2.1 hb, Box.kept h.2.2.2.2.1 hb, Box.kept h.2.2.2.2.2.1 hb, Box.kept h.2.2.2.2.2.2.1 hb, Box.kept h.2.2.2.2.2.2.2 hb⟩, hide ⟨Oa.out, Ob.out, Ox.out, Oy.out, Ba.out, Bb.out, Bu.out, Bv.out⟩, fun _ h => h.1, fun _ h => h.2.1, fun _ h => h.2.2.1, fun _ h => h.2.2.2.1, fun _ h => h.2.2.2.2.1, fun _ h => h.2.2.2.2.2.1, fun _ h => h.2.2.2.2.2.2.1, fun _ h => h.2.2.2.2.2.2.2⟩
  clear Oa Ob Ox Oy Ba Bb Bu Bv
  refine reg_lit (wpl_r1 [(7, .int .i64 0)] kr (wpl_end (then_normal (wp_block (loop_r (2 + 1) ?_)))))
  refine loop_inv (N := 2) (fun k E W => Kp [(7, .int .i64 (k : Nat)), (2, .pointer (some ⟨Na, 0, none⟩)), (3, .pointer (some ⟨Nb, 0, none⟩)), (5, .pointer (some ⟨Nu, 0, none⟩)), (6, .pointer (some ⟨Nv, 0, none⟩))] E ∧ Below w.heap.size w W ∧ Pr1 W) ?_ _ 0 _ _ (Nat.zero_le _) (by omega) ⟨Kp_c kr (Kp_c kr (Kp_c kr (Kp_c kr (Kp_c kr (Kp_n))))), hU, HC1.out⟩
  clear hU HC1
  intro k E Wo next hk hI hnext
  obtain ⟨hKp, hU, hPr⟩ := hI
  have HC1 := hide hPr
  clear hPr
  refine wp_keep _ hKp (fun X => ?_)
  clear hKp
  refine wp_seq (wp_seq ?_)
  rcases Nat.lt_or_ge k 2 with hlt | hge
  refine reg_lit (wpl_r1 [(23, .int .i64 ((k : Nat)))] kr (wpl_val rfl kr (run_lss (a := (k : Int)) (b := 2) rfl kr kr (decide_eq_true (by omega))) (wpl_end (then_normal (wp_ift kr (wp_skip (then_normal ?_)))))))
  refine wp_seq (wp_block (wp_seq (wp_seq ?_)))
  have HCK := HC1
  have HR := hide (Bel.start Wo)
  refine reg_lit ?_
  refine wpl_call rfl kr kr ((vones_any _).mono ?_)
  rintro e w63 ⟨NU, rfl, TU, hb⟩
  refine ⟨_, rfl, ?_⟩
  replace HC1 := hide (HM1 _ _ HC1.out hb)
  replace HR := hide (Bel.kept HR.out hb)
  replace hU := kU hU hb
  clear hb
  replace TU := hide TU
  obtain ⟨Pr2, HM2, HC2, p2_a, p2_b, p2_x, p2_y, q2_a, q2_b, q2_u, q2_v, r2_HR, r2_TU⟩ : ∃ Pr : World → Prop, (∀ w w', Pr w → Below w.heap.size w w' → Pr w') ∧ Hid (Pr w63) ∧ (∀ W, Pr W → RQ W Aa la) ∧ (∀ W, Pr W → RQ W Ab lb) ∧ (∀ W, Pr W → RQ W Ax lx) ∧ (∀ W, Pr W → RQ W Ay ly) ∧ (∀ W, Pr W → Box Na Aa la.length ca sa W) ∧ (∀ W, Pr W → Box Nb Ab lb.length cb sb W) ∧ (∀ W, Pr W → Box Nu Ax lx.length cx sx W) ∧ (∀ W, Pr W → Box Nv Ay ly.length cy sy W) ∧ (∀ W, Pr W → Bel Wo W) ∧ (∀ W, Pr W → One NU W) := ⟨fun W => RQ W Aa la ∧ RQ W Ab lb ∧ RQ W Ax lx ∧ RQ W Ay ly ∧ Box Na Aa la.length ca sa W ∧ Box Nb Ab lb.length cb sb W ∧ Box Nu Ax lx.length cx sx W ∧ Box Nv Ay ly.length cy sy W ∧ Bel Wo W ∧ One NU W, fun _ _ h hb => ⟨RQ.below h.1 hb, RQ.below h.2.1 hb, RQ.below h.2.2.1 hb, RQ.below h.2.2.2.1 hb, Box.kept h.2.2.2.2.1 hb, Box.kept h.2.2.2.2.2.1 hb, Box.kept h.2.2.2.2.2.2.1 hb, Box.kept h.2.2.2.2.2.2.2.1 hb, Bel.kept h.2.2.2.2.2.2.2.2.1 hb, One.kept h.2.2.2.2.2.2.2.2.2 hb⟩, hide ⟨(p1_a w63 HC1.out), (p1_b w63 HC1.out), (p1_x w63 HC1.out), (p1_y w63 HC1.out), (q1_a _ HC1.out), (q1_b _ HC1.out), (q1_u _ HC1.out), (q1_v _ HC1.out), HR.out, TU.out⟩, fun _ h => h.1, fun _ h => h.2.1, fun _ h => h.2.2.1, fun _ h => h.2.2.2.1, fun _ h => h.2.2.2.2.1, fun _ h => h.2.2.2.2.2.1, fun _ h => h.2.2.2.2.2.2.1, fun _ h => h.2.2.2.2.2.2.2.1, fun _ h => h.2.2.2.2.2.2.2.2.1, fun _ h => h.2.2.2.2.2.2.2.2.2⟩
  clear HR TU HC1
  refine wpl_r2 [(29, .int .i64 0), (28, .int .i64 9)] kr (wpl_end (then_normal (wp_block (loop_r (9 + 1) ?_))))
  refine loop_inv (N := 9) (fun i E W => Kp [(29, .int .i64 (i : Nat)), (2, .pointer (some ⟨Na, 0, none⟩)), (3, .pointer (some ⟨Nb, 0, none⟩)), (5, .pointer (some ⟨Nu, 0, none⟩)), (6, .pointer (some ⟨Nv, 0, none⟩)), (7, .int .i64 ((k : Nat))), (27, .slice (some ⟨NU, 0, none⟩) 9 9), (28, .int .i64 9)] E ∧ Below w.heap.size w W ∧ Pr2 W) ?_ _ 0 _ _ (Nat.zero_le _) (by omega) ⟨Kp_c kr (Kp_c kr (Kp_c kr (Kp_c kr (Kp_c kr (Kp_c kr (Kp_c kr (Kp_c kr (Kp_n)))))))), hU, HC2.out⟩
  clear hU HC2
  intro i Ei Wi nexti hki hI hnexti
  obtain ⟨hKp, hU, hPr⟩ := hI
  have HC2 := hide hPr
  clear hPr
  refine wp_keep _ hKp (fun Xi => ?_)
  clear hKp
  refine wp_seq ?_
  rcases Nat.lt_or_ge i 9 with hlti | hgei
  refine reg_lit (wpl_val rfl kr (run_lss (a := (i : Int)) (b := 9) rfl kr kr (decide_eq_true (by omega))) (wpl_end (then_normal (wp_seq (wp_ift kr (wp_skip (then_normal ?_)))))))
  refine wp_seq (wp_block (wp_seq ?_))
  have hii : i < oneT.length := hlti
  obtain ⟨zi, hzi⟩ : ∃ z, oneT[i].1 = z := ⟨_, rfl⟩
  obtain ⟨Fi, hFi⟩ : ∃ F, oneT[i].2 = F := ⟨_, rfl⟩
  have hopi := hzi ▸ one_op i hii
  have HK := HC2
  have hUK := hU
  have hV : Below Wi.heap.size Wi Wi := Below.refl _ _
  refine reg_lit (wpl_val rfl kr (run_ixone (N := NU) (k := i) (m := 9) (cc := 9) rfl kr kr hlti) (wpl_ldone' (r2_TU _ HC2.out) i hii hzi hFi rfl kr rfl kr (wpl_made1 zi Fi rfl rfl rfl rfl rfl rfl (fun _ => kr) (fun _ => kr) ?_)))
  intro w64 ND BD hb
  replace BD := hide BD
  replace HC2 := hide (HM2 _ _ HC2.out hb)
  replace hU := kU hU hb
  replace hV := hV.trans (hb.mono hV.size)
  clear hb
  refine sx_n (wpl_r1 [(33, .pointer (some ⟨ND, 1, none⟩))] kr (wpl_val rfl kr (run_ldfn1 rfl kr BD.out) (wpl_ldvec (q2_u _ HC2.out) rfl kr rfl kr ?_)))
  refine wpl_call rfl kr (Eq.trans (b := (callFunc Fi #[.agg #[.slice Ax lx.length cx, .bool sx]]).run Tryz.prog _) kr (callone i hii Fi hFi _ _)) ((one_call i hii zi Fi hzi hFi Ax lx cx sx _ Lx.out Cx (p2_x w64 HC2.out) Yx.out (HT.out.kept hU)).mono ?_)
  rintro e w65 ⟨lg1, sg1, Ag1, cg1, Eg1, rfl, Cg1, Og1, hb⟩
  refine ⟨_, rfl, ?_⟩
  have kg : Wi.heap.size ≤ w64.heap.size := hV.size
  replace HC2 := hide (HM2 _ _ HC2.out hb)
  replace BD := hide (Bx2.kept BD.out hb)
  replace hU := kU hU hb
  replace hV := hV.trans (hb.mono hV.size)
  clear hb
  have Gg1 : Gd lg1 := by have h := congrArg Vc.b Eg1.out; dsimp only at h; rw [h]; exact (gm_un (op := zi) (a := ⟨lx, sx⟩) Yx.out)
  have Lg1 := hide (show lg1.length ≤ 4096 from Nat.le_trans Gg1.le (by decide))
  have Yg1 := hide Gg1.by_
  clear Gg1
  refine wpl_made (A := Ag1) (m := lg1.length) (c := cg1) (s := sg1) rfl rfl rfl rfl rfl rfl (fun _ => kr) (fun _ => kr) ?_
  intro w66 Ng1 Bg1 hNg1 hb
  replace Bg1 := hide Bg1
  replace HC2 := hide (HM2 _ _ HC2.out hb)
  replace Og1 := kO Og1 hb
  replace BD := hide (Bx2.kept BD.out hb)
  have hzg1 : w.heap.size ≤ Ng1 := Nat.le_trans hU.size hNg1
  clear hNg1
  replace hU := kU hU hb
  replace hV := hV.trans (hb.mono hV.size)
  clear hb
  refine wpl_end (then_normal (wp_seq (wp_seq (region_R (n := 6) (N := 7) kr kr kr kr kr kr (fun _ _ _ _ _ h => h) ?_))))
  intro F hQ
  have Bg10 := Bg1
  have HC0 := HC2
  have BD0 := BD
  refine anyR_ldvec (i := 0) (m' := 1) Bg10.out F hQ rfl rfl kr kr kr kr kr rfl kr (anyR_val (i := 1) (m' := 3) (v := .pointer (some ⟨ND, 0, none⟩)) F hQ rfl rfl kr kr kr kr kr (fun _ _ => kr) ?_)
  refine anyR_val (i := 2) (m' := 7) (v := .int .u8 zi) F hQ rfl rfl kr kr kr kr kr (fun w' hb => run_ldop rfl kr (BD0.out.kept hb)) ?_
  refine anyR_ldvec (i := 3) (m' := 15) (q2_a _ HC0.out) F hQ rfl rfl kr kr kr kr kr rfl kr ?_
  refine anyR_call (i := 4) (m' := 31) rfl rfl kr kr kr kr kr ((runary_any zi hopi Aa la ca sa _ La.out Ca (by exact (p2_a w66 HC2.out)) Ya.out).mono ?_)
  rintro e w67 ⟨lh, sh, Ah, ch, Eh, rfl, Ch, Oh, hb⟩
  refine ⟨_, rfl, hb, ?_⟩
  replace hb : Below w66.heap.size w66 w67 := Below.trans ((Below.refl _ _).drew) hb
  replace HC2 := hide (HM2 _ _ HC2.out hb)
  replace Og1 := kO Og1 hb
  replace Bg1 := kB Bg1 hb
  replace BD := hide (Bx2.kept BD.out hb)
  replace Oh := hide Oh.out.rd
  replace hU := kU hU hb
  replace hV := hV.trans (hb.mono hV.size)
  clear hb
  have Gh : Gd lh := by have h := congrArg Vc.b Eh.out; dsimp only at h; rw [h]; exact (gm_un (op := zi) (a := ⟨la, sa⟩) Ya.out)
  have Lh := hide (show lh.length ≤ 4096 from Nat.le_trans Gh.le (by decide))
  have Yh := hide Gh.by_
  clear Gh
  refine anyR_call (i := 5) (m' := 63) rfl rfl kr kr kr kr kr ((rsame_yes Ag1 Ah lg1 lh cg1 ch sg1 sh _ Lg1.out Lh.out Og1.out.rd Oh.out (by rw [Eg1.out, Eh.out, Ex.out])).mono ?_)
  rintro e w68 ⟨rfl, hb⟩
  refine ⟨_, rfl, hb, ?_⟩
  replace HC2 := hide (HM2 _ _ HC2.out hb)
  replace Og1 := kO Og1 hb
  replace Oh := kQ Oh hb
  replace Bg1 := kB Bg1 hb
  replace BD := hide (Bx2.kept BD.out hb)
  replace hU := kU hU hb
  replace hV := hV.trans (hb.mono hV.size)
  clear hb
  refine anyR_e (anyR_last (i := 6) (m' := 127) (v := .bool false) rfl rfl kr kr kr kr kr (anyE_done kr ?_))
  clear F hQ Bg10 HC0 BD0
  refine then_normal (wp_iff kr (wp_skip (then_normal (reg_lit (wpl_ldvec Bg1.out rfl kr rfl kr (wpl_bsL1 rfl kr rfl (A0 := Ag1) (m0 := lg1.length) (c0 := cg1) (s0 := sg1) kr ?_))))))
  intro w69 NV69 RV69 hb
  replace RV69 := hide RV69
  replace HC2 := hide (HM2 _ _ HC2.out hb)
  replace Og1 := kO Og1 hb
  replace Oh := kQ Oh hb
  replace Bg1 := kB Bg1 hb
  replace BD := hide (Bx2.kept BD.out hb)
  replace hU := kU hU hb
  replace hV := hV.trans (hb.mono hV.size)
  clear hb
  refine wpl_call rfl kr kr ((vspoil1 (A := Ag1) (l := lg1) (cc := cg1) (s := sg1) Wi.heap.size NV69 1 _ Lg1.out RV69.out (OwQ.base Og1.out kg)).mono ?_)
  rintro e w70 ⟨rfl, hb⟩
  refine ⟨_, rfl, ?_⟩
  replace hV := hV.trans hb
  replace HC2 := hide (HM2 _ _ HK.out hV)
  replace hU := hUK.trans (hV.mono hUK.size)
  clear hb hV HK hUK Og1 Oh Bg1 BD
  clear RV69
  refine wpl_end (block_normal (then_normal (reg_lit (wpl_val rfl kr (run_add (a := (i : Int)) (b := 1) (c := ((i + 1 : Int) : Int)) rfl kr kr (by omega) (by omega) (by omega)) (wpl_r1 [(29, .int .i64 (((i + 1 : Nat) : Int)))] kr (wpl_end ?_))))))
  refine then_normal (hnexti _ _ hlti ⟨Kp_c kr (Kp_c kr (Kp_c kr (Kp_c kr (Kp_c kr (Kp_c kr (Kp_c kr (Kp_c kr (Kp_n)))))))), hU, HC2.out⟩)
  refine reg_lit (wpl_val rfl kr (run_lss (a := (i : Int)) (b := 9) rfl kr kr (decide_eq_false (by omega))) (wpl_end (then_normal (wp_seq (wp_iff kr (wp_exit (then_exit ?_)))))))
  refine then_exit (exit_here (then_normal (wp_seq (reg_lit ?_))))
  refine wpl_call rfl kr kr ((vtwos_any _).mono ?_)
  rintro e w71 ⟨NV, rfl, TV, hb⟩
  refine ⟨_, rfl, ?_⟩
  replace HC2 := hide (HM2 _ _ HC2.out hb)
  replace hU := kU hU hb
  clear hb
  replace TV := hide TV
  obtain ⟨Pr3, HM3, HC3, p3_a, p3_b, p3_x, p3_y, q3_a, q3_b, q3_u, q3_v, r3_TV, r3_HR, r3_TU⟩ : ∃ Pr : World → Prop, (∀ w w', Pr w → Below w.heap.size w w' → Pr w') ∧ Hid (Pr w71) ∧ (∀ W, Pr W → RQ W Aa la) ∧ (∀ W, Pr W → RQ W Ab lb) ∧ (∀ W, Pr W → RQ W Ax lx) ∧ (∀ W, Pr W → RQ W Ay ly) ∧ (∀ W, Pr W → Box Na Aa la.length ca sa W) ∧ (∀ W, Pr W → Box Nb Ab lb.length cb sb W) ∧ (∀ W, Pr W → Box Nu Ax lx.length cx sx W) ∧ (∀ W, Pr W → Box Nv Ay ly.length cy sy W) ∧ (∀ W, Pr W → Two NV W) ∧ (∀ W, Pr W → Bel Wo W) ∧ (∀ W, Pr W → One NU W) := ⟨fun W => RQ W Aa la ∧ RQ W Ab lb ∧ RQ W Ax lx ∧ RQ W Ay ly ∧ Box Na Aa la.length ca sa W ∧ Box Nb Ab lb.length cb sb W ∧ Box Nu Ax lx.length cx sx W ∧ Box Nv Ay ly.length cy sy W ∧ Two NV W ∧ Bel Wo W ∧ One NU W, fun _ _ h hb => ⟨RQ.below h.1 hb, RQ.below h.2.1 hb, RQ.below h.2.2.1 hb, RQ.below h.2.2.2.1 hb, Box.kept h.2.2.2.2.1 hb, Box.kept h.2.2.2.2.2.1 hb, Box.kept h.2.2.2.2.2.2.1 hb, Box.kept h.2.2.2.2.2.2.2.1 hb, Two.kept h.2.2.2.2.2.2.2.2.1 hb, Bel.kept h.2.2.2.2.2.2.2.2.2.1 hb, One.kept h.2.2.2.2.2.2.2.2.2.2 hb⟩, hide ⟨(p2_a w71 HC2.out), (p2_b w71 HC2.out), (p2_x w71 HC2.out), (p2_y w71 HC2.out), (q2_a _ HC2.out), (q2_b _ HC2.out), (q2_u _ HC2.out), (q2_v _ HC2.out), TV.out, (r2_HR _ HC2.out), (r2_TU _ HC2.out)⟩, fun _ h => h.1, fun _ h => h.2.1, fun _ h => h.2.2.1, fun _ h => h.2.2.2.1, fun _ h => h.2.2.2.2.1, fun _ h => h.2.2.2.2.2.1, fun _ h => h.2.2.2.2.2.2.1, fun _ h => h.2.2.2.2.2.2.2.1, fun _ h => h.2.2.2.2.2.2.2.2.1, fun _ h => h.2.2.2.2.2.2.2.2.2.1, fun _ h => h.2.2.2.2.2.2.2.2.2.2⟩
  clear TV HC2
  refine wpl_r2 [(50, .int .i64 0), (49, .int .i64 24)] kr (wpl_end (then_normal (wp_block (loop_r (24 + 1) ?_))))
  refine loop_inv (N := 24) (fun j E W => Kp [(50, .int .i64 (j : Nat)), (2, .pointer (some ⟨Na, 0, none⟩)), (3, .pointer (some ⟨Nb, 0, none⟩)), (5, .pointer (some ⟨Nu, 0, none⟩)), (6, .pointer (some ⟨Nv, 0, none⟩)), (7, .int .i64 ((k : Nat))), (48, .slice (some ⟨NV, 0, none⟩) 24 24), (49, .int .i64 24)] E ∧ Below w.heap.size w W ∧ Pr3 W) ?_ _ 0 _ _ (Nat.zero_le _) (by omega) ⟨Kp_c kr (Kp_c kr (Kp_c kr (Kp_c kr (Kp_c kr (Kp_c kr (Kp_c kr (Kp_c kr (Kp_n)))))))), hU, HC3.out⟩
  clear hU HC3
  intro j Ej Wj nextj hkj hI hnextj
  obtain ⟨hKp, hU, hPr⟩ := hI
  have HC3 := hide hPr
  clear hPr
  refine wp_keep _ hKp (fun Xj => ?_)
  clear hKp
  refine wp_seq ?_
  rcases Nat.lt_or_ge j 24 with hltj | hgej
  refine reg_lit (wpl_val rfl kr (run_lss (a := (j : Int)) (b := 24) rfl kr kr (decide_eq_true (by omega))) (wpl_end (then_normal (wp_seq (wp_ift kr (wp_skip (then_normal ?_)))))))
  refine wp_seq (wp_block (wp_seq ?_))
  have hij : j < twoT.length := hltj
  obtain ⟨zj, hzj⟩ : ∃ z, twoT[j].1 = z := ⟨_, rfl⟩
  obtain ⟨Fj, hFj⟩ : ∃ F, twoT[j].2 = F := ⟨_, rfl⟩
  have hopj := hzj ▸ two_op j hij
  have HK := HC3
  have hUK := hU
  have hV : Below Wj.heap.size Wj Wj := Below.refl _ _
  refine reg_lit (wpl_val rfl kr (run_ixtwo (N := NV) (k := j) (m := 24) (cc := 24) rfl kr kr hltj) (wpl_ldtwo' (r3_TV _ HC3.out) j hij hzj hFj rfl kr rfl kr (wpl_made2 zj Fj rfl rfl rfl rfl rfl rfl (fun _ => kr) (fun _ => kr) ?_)))
  intro w72 ND BD hb
  replace BD := hide BD
  replace HC3 := hide (HM3 _ _ HC3.out hb)
  replace hU := kU hU hb
  replace hV := hV.trans (hb.mono hV.size)
  clear hb
  refine sx_n (wpl_r1 [(54, .pointer (some ⟨ND, 1, none⟩))] kr (wpl_val rfl kr (run_ldfn2 rfl kr BD.out) (wpl_ldvec (q3_u _ HC3.out) rfl kr rfl kr (wpl_ldvec (q3_v _ HC3.out) rfl kr rfl kr ?_))))
  refine wpl_call rfl kr (Eq.trans (b := (callFunc Fj #[.agg #[.slice Ax lx.length cx, .bool sx], .agg #[.slice Ay ly.length cy, .bool sy]]).run Tryz.prog _) kr (calltwo j hij Fj hFj _ _)) ((two_call j hij zj Fj hzj hFj Ax Ay lx ly cx cy sx sy _ Lx.out Ly.out Cx Cy (p3_x w72 HC3.out) (p3_y w72 HC3.out) Yx.out Yy.out (HT.out.kept hU)).mono ?_)
  rintro e w73 ⟨lg2, sg2, Ag2, cg2, Eg2, rfl, Cg2, Og2, hb⟩
  refine ⟨_, rfl, ?_⟩
  have kg : Wj.heap.size ≤ w72.heap.size := hV.size
  replace HC3 := hide (HM3 _ _ HC3.out hb)
  replace BD := hide (Bx2.kept BD.out hb)
  replace hU := kU hU hb
  replace hV := hV.trans (hb.mono hV.size)
  clear hb
  have Gg2 : Gd lg2 := by have h := congrArg Vc.b Eg2.out; dsimp only at h; rw [h]; exact (gm_bin hopj (a := ⟨lx, sx⟩) (b := ⟨ly, sy⟩) Yx.out Yy.out)
  have Lg2 := hide (show lg2.length ≤ 4096 from Nat.le_trans Gg2.le (by decide))
  have Yg2 := hide Gg2.by_
  clear Gg2
  refine wpl_made (A := Ag2) (m := lg2.length) (c := cg2) (s := sg2) rfl rfl rfl rfl rfl rfl (fun _ => kr) (fun _ => kr) ?_
  intro w74 Ng2 Bg2 hNg2 hb
  replace Bg2 := hide Bg2
  replace HC3 := hide (HM3 _ _ HC3.out hb)
  replace Og2 := kO Og2 hb
  replace BD := hide (Bx2.kept BD.out hb)
  have hzg2 : w.heap.size ≤ Ng2 := Nat.le_trans hU.size hNg2
  clear hNg2
  replace hU := kU hU hb
  replace hV := hV.trans (hb.mono hV.size)
  clear hb
  refine wpl_end (then_normal (wp_seq (wp_seq (region_R (n := 7) (N := 8) kr kr kr kr kr kr (fun _ _ _ _ _ h => h) ?_))))
  intro F hQ
  have Bg20 := Bg2
  have HC0 := HC3
  have BD0 := BD
  refine anyR_ldvec (i := 0) (m' := 1) Bg20.out F hQ rfl rfl kr kr kr kr kr rfl kr (anyR_val (i := 1) (m' := 3) (v := .pointer (some ⟨ND, 0, none⟩)) F hQ rfl rfl kr kr kr kr kr (fun _ _ => kr) ?_)
  refine anyR_val (i := 2) (m' := 7) (v := .int .u8 zj) F hQ rfl rfl kr kr kr kr kr (fun w' hb => run_ldop rfl kr (BD0.out.kept hb)) ?_
  refine anyR_ldvec (i := 3) (m' := 15) (q3_a _ HC0.out) F hQ rfl rfl kr kr kr kr kr rfl kr (anyR_ldvec (i := 4) (m' := 31) (q3_b _ HC0.out) F hQ rfl rfl kr kr kr kr kr rfl kr ?_)
  refine anyR_call (i := 5) (m' := 63) rfl rfl kr kr kr kr kr ((rbinary_any zj hopj Aa la ca sa Ab lb cb sb _ La.out Lb.out Ca Cb (by exact (p3_a w74 HC3.out)) (by exact (p3_b w74 HC3.out)) Ya.out Yb.out).mono ?_)
  rintro e w75 ⟨lh, sh, Ah, ch, Eh, rfl, Ch, Oh, hb⟩
  refine ⟨_, rfl, hb, ?_⟩
  replace hb : Below w74.heap.size w74 w75 := Below.trans ((Below.refl _ _).drew) hb
  replace HC3 := hide (HM3 _ _ HC3.out hb)
  replace Og2 := kO Og2 hb
  replace Bg2 := kB Bg2 hb
  replace BD := hide (Bx2.kept BD.out hb)
  replace Oh := hide Oh.out.rd
  replace hU := kU hU hb
  replace hV := hV.trans (hb.mono hV.size)
  clear hb
  have Gh : Gd lh := by have h := congrArg Vc.b Eh.out; dsimp only at h; rw [h]; exact (gm_bin hopj (a := ⟨la, sa⟩) (b := ⟨lb, sb⟩) Ya.out Yb.out)
  have Lh := hide (show lh.length ≤ 4096 from Nat.le_trans Gh.le (by decide))
  have Yh := hide Gh.by_
  clear Gh
  refine anyR_call (i := 6) (m' := 127) rfl rfl kr kr kr kr kr ((rsame_yes Ag2 Ah lg2 lh cg2 ch sg2 sh _ Lg2.out Lh.out Og2.out.rd Oh.out (by rw [Eg2.out, Eh.out, Ex.out, Ey.out])).mono ?_)
  rintro e w76 ⟨rfl, hb⟩
  refine ⟨_, rfl, hb, ?_⟩
  replace HC3 := hide (HM3 _ _ HC3.out hb)
  replace Og2 := kO Og2 hb
  replace Oh := kQ Oh hb
  replace Bg2 := kB Bg2 hb
  replace BD := hide (Bx2.kept BD.out hb)
  replace hU := kU hU hb
  replace hV := hV.trans (hb.mono hV.size)
  clear hb
  refine anyR_e (anyR_last (i := 7) (m' := 255) (v := .bool false) rfl rfl kr kr kr kr kr (anyE_done kr ?_))
  clear F hQ Bg20 HC0 BD0
  refine then_normal (wp_iff kr (wp_skip (then_normal (reg_lit (wpl_ldvec Bg2.out rfl kr rfl kr (wpl_bsL1 rfl kr rfl (A0 := Ag2) (m0 := lg2.length) (c0 := cg2) (s0 := sg2) kr ?_))))))
  intro w77 NV77 RV77 hb
  replace RV77 := hide RV77
  replace HC3 := hide (HM3 _ _ HC3.out hb)
  replace Og2 := kO Og2 hb
  replace Oh := kQ Oh hb
  replace Bg2 := kB Bg2 hb
  replace BD := hide (Bx2.kept BD.out hb)
  replace hU := kU hU hb
  replace hV := hV.trans (hb.mono hV.size)
  clear hb
  refine wpl_call rfl kr kr ((vspoil1 (A := Ag2) (l := lg2) (cc := cg2) (s := sg2) Wj.heap.size NV77 1 _ Lg2.out RV77.out (OwQ.base Og2.out kg)).mono ?_)
  rintro e w78 ⟨rfl, hb⟩
  refine ⟨_, rfl, ?_⟩
  replace hV := hV.trans hb
  replace HC3 := hide (HM3 _ _ HK.out hV)
  replace hU := hUK.trans (hV.mono hUK.size)
  clear hb hV HK hUK Og2 Oh Bg2 BD
  clear RV77
  refine wpl_end (block_normal (then_normal (reg_lit (wpl_val rfl kr (run_add (a := (j : Int)) (b := 1) (c := ((j + 1 : Int) : Int)) rfl kr kr (by omega) (by omega) (by omega)) (wpl_r1 [(50, .int .i64 (((j + 1 : Nat) : Int)))] kr (wpl_end ?_))))))
  refine then_normal (hnextj _ _ hltj ⟨Kp_c kr (Kp_c kr (Kp_c kr (Kp_c kr (Kp_c kr (Kp_c kr (Kp_c kr (Kp_c kr (Kp_n)))))))), hU, HC3.out⟩)
  refine reg_lit (wpl_val rfl kr (run_lss (a := (j : Int)) (b := 24) rfl kr kr (decide_eq_false (by omega))) (wpl_end (then_normal (wp_seq (wp_iff kr (wp_exit (then_exit ?_)))))))
  refine then_exit (exit_here (block_normal (then_normal (reg_lit (wpl_r1 [(25, .int .i64 ((k : Nat)))] kr (wpl_val rfl kr (run_add (a := (k : Int)) (b := 1) (c := ((k + 1 : Int) : Int)) rfl kr kr (by omega) (by omega) (by omega)) (wpl_r1 [(7, .int .i64 (((k + 1 : Nat) : Int)))] kr ?_)))))))
  refine wpl_end ?_
  refine then_normal (hnext _ _ hlt ⟨Kp_c kr (Kp_c kr (Kp_c kr (Kp_c kr (Kp_c kr (Kp_n))))), hU, HM1 _ _ HCK.out (r3_HR _ HC3.out).h⟩)
  obtain ⟨qz, hqz⟩ : ∃ q, mtc alZ ⟨la, sa⟩ ⟨lb, sb⟩ = q := ⟨_, rfl⟩
  obtain ⟨qx, hqx⟩ : ∃ q, mtc alX ⟨la, sa⟩ ⟨lb, sb⟩ = q := ⟨_, rfl⟩
  refine reg_lit (wpl_r1 [(23, .int .i64 ((k : Nat)))] kr (wpl_val rfl kr (run_lss (a := (k : Int)) (b := 2) rfl kr kr (decide_eq_false (by omega))) (wpl_end (then_normal (wp_iff kr (wp_exit (then_exit ?_)))))))
  refine then_exit (exit_here (then_normal (wp_seq (region_R (n := 29) (N := 30) kr kr kr kr kr kr (fun _ _ _ _ _ h => h) ?_))))
  intro F hQ
  have HC0 := HC1
  refine anyR_ldvec (i := 0) (m' := 1) (q1_u _ HC0.out) F hQ rfl rfl kr kr kr kr kr rfl kr (anyR_ldvec (i := 1) (m' := 3) (q1_v _ HC0.out) F hQ rfl rfl kr kr kr kr kr rfl kr (anyR_ldvec (i := 3) (m' := 11) (q1_a _ HC0.out) F hQ rfl rfl kr kr kr kr kr rfl kr (anyR_ldvec (i := 4) (m' := 27) (q1_b _ HC0.out) F hQ rfl rfl kr kr kr kr kr rfl kr ?_)))
  refine anyR_call (i := 2) (m' := 31) rfl rfl kr kr kr kr kr ((matchZ_w qz Ax Ay lx ly cx cy sx sy _ Lx.out Ly.out Cx Cy (by exact (p1_x Wo HC1.out)) (by exact (p1_y Wo HC1.out)) Yx.out Yy.out (by rw [Ex.out, Ey.out]; exact hqz)).mono ?_)
  rintro e w79 ⟨rfl, hb⟩
  refine ⟨_, rfl, hb, ?_⟩
  replace hb : Below Wo.heap.size Wo w79 := Below.trans ((Below.refl _ _).drew) hb
  replace HC1 := hide (HM1 _ _ HC1.out hb)
  replace hU := kU hU hb
  clear hb
  refine anyR_call (i := 5) (m' := 63) rfl rfl kr kr kr kr kr ((rmatchz_w qz Aa Ab la lb ca cb sa sb _ La.out Lb.out Ca Cb (p1_a w79 HC1.out) (p1_b w79 HC1.out) Ya.out Yb.out hqz).mono ?_)
  rintro e w80 ⟨rfl, hb⟩
  refine ⟨_, rfl, hb, ?_⟩
  replace HC1 := hide (HM1 _ _ HC1.out hb)
  replace hU := kU hU hb
  clear hb
  refine anyR_val (i := 6) (m' := 127) (v := .bool true) F hQ rfl rfl kr kr kr kr kr (fun _ _ => run_beql (a := qz) (b := qz) rfl kr kr (beq_self_eq_true _)) (anyR_val (i := 7) (m' := 255) (v := .bool true) F hQ rfl rfl kr kr kr kr kr (fun _ _ => kr) (anyR_ldvec (i := 8) (m' := 511) (q1_u _ HC0.out) F hQ rfl rfl kr kr kr kr kr rfl kr (anyR_ldvec (i := 9) (m' := 1023) (q1_v _ HC0.out) F hQ rfl rfl kr kr kr kr kr rfl kr (anyR_ldvec (i := 11) (m' := 3071) (q1_a _ HC0.out) F hQ rfl rfl kr kr kr kr kr rfl kr (anyR_ldvec (i := 12) (m' := 7167) (q1_b _ HC0.out) F hQ rfl rfl kr kr kr kr kr rfl kr ?_)))))
  refine anyR_call (i := 10) (m' := 8191) rfl rfl kr kr kr kr kr ((matchX_w qx Ax Ay lx ly cx cy sx sy _ Lx.out Ly.out Cx Cy (p1_x w80 HC1.out) (p1_y w80 HC1.out) Yx.out Yy.out (by rw [Ex.out, Ey.out]; exact hqx)).mono ?_)
  rintro e w81 ⟨rfl, hb⟩
  refine ⟨_, rfl, hb, ?_⟩
  replace HC1 := hide (HM1 _ _ HC1.out hb)
  replace hU := kU hU hb
  clear hb
  refine anyR_call (i := 13) (m' := 16383) rfl rfl kr kr kr kr kr ((rmatchx_w qx Aa Ab la lb ca cb sa sb _ La.out Lb.out Ca Cb (p1_a w81 HC1.out) (p1_b w81 HC1.out) Ya.out Yb.out hqx).mono ?_)
  rintro e w82 ⟨rfl, hb⟩
  refine ⟨_, rfl, hb, ?_⟩
  replace HC1 := hide (HM1 _ _ HC1.out hb)
  replace hU := kU hU hb
  clear hb
  refine anyR_val (i := 14) (m' := 32767) (v := .bool true) F hQ rfl rfl kr kr kr kr kr (fun _ _ => run_beql (a := qx) (b := qx) rfl kr kr (beq_self_eq_true _)) (anyR_val (i := 15) (m' := 65535) (v := .bool true) F hQ rfl rfl kr kr kr kr kr (fun _ _ => kr) (anyR_val (i := 16) (m' := 131071) (v := .bool true) F hQ rfl rfl kr kr kr kr kr (fun _ _ => kr) (anyR_ldvec (i := 17) (m' := 262143) (q1_u _ HC0.out) F hQ rfl rfl kr kr kr kr kr rfl kr (anyR_ldvec (i := 18) (m' := 524287) (q1_a _ HC0.out) F hQ rfl rfl kr kr kr kr kr rfl kr ?_))))
  refine anyR_call (i := 19) (m' := 1048575) rfl rfl kr kr kr kr kr ((rsame_yes Ax Aa lx la cx ca sx sa _ Lx.out La.out (p1_x w82 HC1.out) (p1_a w82 HC1.out) Ex.out).mono ?_)
  rintro e w83 ⟨rfl, hb⟩
  refine ⟨_, rfl, hb, ?_⟩
  replace HC1 := hide (HM1 _ _ HC1.out hb)
  replace hU := kU hU hb
  clear hb
  refine anyR_val (i := 20) (m' := 2097151) (v := .bool true) F hQ rfl rfl kr kr kr kr kr (fun _ _ => kr) (anyR_val (i := 21) (m' := 4194303) (v := .bool true) F hQ rfl rfl kr kr kr kr kr (fun _ _ => kr) (anyR_ldvec (i := 22) (m' := 8388607) (q1_v _ HC0.out) F hQ rfl rfl kr kr kr kr kr rfl kr (anyR_ldvec (i := 23) (m' := 16777215) (q1_b _ HC0.out) F hQ rfl rfl kr kr kr kr kr rfl kr ?_)))
  refine anyR_call (i := 24) (m' := 33554431) rfl rfl kr kr kr kr kr ((rsame_yes Ay Ab ly lb cy cb sy sb _ Ly.out Lb.out (p1_y w83 HC1.out) (p1_b w83 HC1.out) Ey.out).mono ?_)
  rintro e w84 ⟨rfl, hb⟩
  refine ⟨_, rfl, hb, ?_⟩
  replace HC1 := hide (HM1 _ _ HC1.out hb)
  replace hU := kU hU hb
  clear hb
  refine anyR_val (i := 25) (m' := 67108863) (v := .bool true) F hQ rfl rfl kr kr kr kr kr (fun _ _ => kr) (anyR_val (i := 26) (m' := 134217727) (v := .bool true) F hQ rfl rfl kr kr kr kr kr (fun _ _ => kr) ?_)
  refine anyR_call (i := 27) (m' := 268435455) rfl rfl kr kr kr kr kr ((vawake_any _ (HT.out.kept hU)).mono ?_)
  rintro e w85 ⟨rfl, hb⟩
  refine ⟨_, rfl, hb, ?_⟩
  replace HC1 := hide (HM1 _ _ HC1.out hb)
  replace hU := kU hU hb
  clear hb
  refine anyR_val (i := 28) (m' := 536870911) (v := .bool true) F hQ rfl rfl kr kr kr kr kr (fun _ _ => kr) (anyR_e (anyR_last (i := 29) (m' := 1073741823) (v := .bool true) rfl rfl kr kr kr kr kr (anyE_done kr ?_)))
  clear F hQ HC0
  refine then_normal (wp_ret ?_)
  refine (show bodyPost _ _ _ .ret _ _ from ret_sl (.bool true) rfl kr ?_)
  exact ⟨rfl, hU⟩
theorem VecMatches_walk (Aa : Option Addr) (la : List Int) (ca : Nat) (sa : Bool) (Ab : Option Addr) (lb : List Int) (cb : Nat) (sb : Bool) (w : World) (ma : la.length ≤ maxLen) (ra : RQ w Aa la) (ya : By la) (pa : Hid (la.length ≤ ca ∧ ca ≤ maxLen)) (mb : lb.length ≤ maxLen) (rb : RQ w Ab lb) (yb : By lb) (pb : Hid (lb.length ≤ cb ∧ cb ≤ maxLen)) (tn : Tab1 4 mNot w) (tb : Tab1 5 mBuf w) (ta : Tab2 1 mAnd w) (tO : Tab2 2 mOr w) (tx : Tab2 3 mXor w) (tg : Tab2 0 mAgree w) : Calls Tryz.prog 3 #[.agg #[.slice Aa la.length ca, .bool sa], .agg #[.slice Ab lb.length cb, .bool sb]] w (Mk (.bool true) w) := by
  by_cases hl : ∀ i (h : i < 2), [(Aa, la.length, ca, sa), (Ab, lb.length, cb, sb)][i].2.1 ≤ 140
  · exact VecMatches_short Aa la ca sa Ab lb cb sb w ma ra ya pa mb rb yb pb tn tb ta tO tx tg (hide hl)
  · exact VecMatches_long Aa la ca sa Ab lb cb sb w ma ra ya pa mb rb yb pb tn tb ta tO tx tg (hide (by
      rw [Classical.not_forall] at hl
      obtain ⟨i, hl⟩ := hl
      rw [Classical.not_forall] at hl
      obtain ⟨h, hl⟩ := hl
      exact ⟨i, h, Nat.lt_of_not_le hl⟩))
end
section
open Go.ChangeShapes Go.WideShapes Go.ChangeAt Go.WideMaps Go.WideElems Go.RowKit
theorem own : ownKnob Tryz.prog.godebug = none := by kernel_rfl
theorem cells_of_grid {H : Type} {enc : TypeId × Value → H} {P : Program} {w : World} {base : Nat} {sp : Nat → Bool} {held : Bool} {fuel : Nat} {t e i : TypeId} {n m : Nat} {k : IntKind} {cs : List Value} {rows : List (List Int)} {p : List MemPlace}
    (ht : P.underlying t = some (.array n e)) (he : P.underlying e = some (.array m i)) (hi : P.underlying i = some (.int k)) (hci : P.cellsOf i = 1) (hce : P.cellsOf e = m)
    (h : DataW.trod enc P w base sp held fuel t cs = some (.agg (rows.map (Lib.tabData k)), p)) (r : Nat) (zs : List Int) (hr : rows[r]? = some zs) : (cs.drop (r * m)).take m = zs.map fun z => Value.int k z := by
  cases fuel with
  | zero => simp [DataW.trod] at h
  | succ fuel =>
    simp only [DataW.trod, ht, hce] at h
    split at h
    · obtain ⟨xs, hm, hx⟩ := Option.map_eq_some_iff.1 h
      have hxs : xs.map (·.1) = rows.map (Lib.tabData k) := by
        have := congrArg Prod.fst hx
        simpa using this
      have hxl : xs.length = n := by simpa using Lib.mapM_length hm
      have hrl : rows.length = n := by
        have := congrArg List.length hxs
        simp at this
        omega
      have hrn : r < n := by
        have := (List.getElem?_eq_some_iff.1 hr).1
        omega
      obtain ⟨b, hb, hf⟩ := Lib.mapM_at hm r r (by simp [hrn])
      have hb1 : b.1 = Lib.tabData k zs := by
        have h2 : (xs.map (·.1))[r]? = some b.1 := by simp [hb]
        rw [hxs] at h2
        simp only [List.getElem?_map, hr, Option.map_some, Option.some.injEq] at h2
        exact h2.symm
      obtain ⟨b1, b2⟩ := b
      simp only at hb1
      subst hb1
      exact Lib.cells_of_tab he hi hci hce hf
    · cases h
theorem tab1_of_head {name : String} {rest : List (String × DataW Unit)} {W : World} {g : Nat} {t e : TypeId} {zs : List Int} {f : Int → Int}
    (hg : Tryz.prog.globalNamed name = some g) (hty : (Tryz.prog.globals[g]?).map (·.type) = some t) (ht : Tryz.prog.underlying t = some (.array 4 e)) (he : Tryz.prog.underlying e = some (.int .u8)) (hce : Tryz.prog.cellsOf e = 1) (hct : Tryz.prog.cellsOf t = 4)
    (hz : zs = [f 0, f 1, f 2, f 3]) (hf : ∀ a, f (bst a) = f a)
    (h : laidMet Tryz.prog ((name, Lib.tabData .u8 zs) :: rest) W) : Tab1 g f W := by
  have hT := Lib.tabIs_of_head hg hty ht he hce hct h
  subst hz
  intro a h0
  have hb := bst_bd a h0
  rw [hT.cell hg _ (by simp; omega), ← hf a]
  have : bst a = 0 ∨ bst a = 1 ∨ bst a = 2 ∨ bst a = 3 := by omega
  rcases this with e | e | e | e <;> rw [e] <;> rfl
theorem tab2_of_head {name : String} {rest : List (String × DataW Unit)} {W : World} {g : Nat} {t e i : TypeId} {rows : List (List Int)} {f : Int → Int → Int}
    (hg : Tryz.prog.globalNamed name = some g) (hty : (Tryz.prog.globals[g]?).map (·.type) = some t) (ht : Tryz.prog.underlying t = some (.array 4 e)) (he : Tryz.prog.underlying e = some (.array 4 i)) (hi : Tryz.prog.underlying i = some (.int .u8)) (hci : Tryz.prog.cellsOf i = 1) (hce : Tryz.prog.cellsOf e = 4)
    (hz : rows = [[f 0 0, f 0 1, f 0 2, f 0 3], [f 1 0, f 1 1, f 1 2, f 1 3], [f 2 0, f 2 1, f 2 2, f 2 3], [f 3 0, f 3 1, f 3 2, f 3 3]]) (hf : ∀ a b, f (bst a) (bst b) = f a b)
    (h : laidMet Tryz.prog ((name, .agg (rows.map (Lib.tabData .u8))) :: rest) W) : Tab2 g f W := by
  obtain ⟨ps, ⟨g', t', cs, fuel, p, q, hg', ht', hvar, hd, _, _⟩, _⟩ := h
  obtain rfl := Option.some.inj (hg.symm.trans hg')
  obtain rfl := Option.some.inj (hty.symm.trans ht')
  have hgrid := cells_of_grid ht he hi hci hce hd
  subst hz
  intro a b h0 h1
  have ha := bst_bd a h0
  have hb := bst_bd b h1
  rw [World.var?_cell hg hvar, ← hf a b]
  have key : ∀ (r j : Nat) (zs : List Int) (z : Int), [[f 0 0, f 0 1, f 0 2, f 0 3], [f 1 0, f 1 1, f 1 2, f 1 3], [f 2 0, f 2 1, f 2 2, f 2 3], [f 3 0, f 3 1, f 3 2, f 3 3]][r]? = some zs → zs[j]? = some z → j < 4 → cs[r * 4 + j]? = some (.int .u8 z) := by
    intro r j zs z hr hj hlt
    have := congrArg (·[j]?) (hgrid r zs hr)
    simp only [List.getElem?_take, List.getElem?_drop, List.getElem?_map, hj, hlt, if_true, Option.map_some] at this
    simpa using this
  have ea : bst a = 0 ∨ bst a = 1 ∨ bst a = 2 ∨ bst a = 3 := by omega
  have eb : bst b = 0 ∨ bst b = 1 ∨ bst b = 2 ∨ bst b = 3 := by omega
  rcases ea with ea | ea | ea | ea <;> rcases eb with eb | eb | eb | eb <;> rw [ea, eb] <;> exact key _ _ _ _ rfl rfl (by decide)
section
variable {rest : List (String × DataW Unit)} {W : World}
theorem tab_notTable (h : laidMet Tryz.prog (("netlab/bit.notTable", Rows.laid_netlab_bit_notTable) :: rest) W) : Tab1 4 mNot W :=
  tab1_of_head (t := 124) (e := 65) (zs := [1, 0, 2, 2]) kr kr kr kr kr kr (by decide) mNot_bst h
theorem tab_bufTable (h : laidMet Tryz.prog (("netlab/bit.bufTable", Rows.laid_netlab_bit_bufTable) :: rest) W) : Tab1 5 mBuf W :=
  tab1_of_head (t := 124) (e := 65) (zs := [0, 1, 2, 2]) kr kr kr kr kr kr (by decide) mBuf_bst h
theorem tab_andTable (h : laidMet Tryz.prog (("netlab/bit.andTable", Rows.laid_netlab_bit_andTable) :: rest) W) : Tab2 1 mAnd W :=
  tab2_of_head (t := 125) (e := 124) (i := 65) (rows := [[0, 0, 0, 0], [0, 1, 2, 2], [0, 2, 2, 2], [0, 2, 2, 2]]) kr kr kr kr kr kr kr (by decide) mAnd_bst h
theorem tab_orTable (h : laidMet Tryz.prog (("netlab/bit.orTable", Rows.laid_netlab_bit_orTable) :: rest) W) : Tab2 2 mOr W :=
  tab2_of_head (t := 125) (e := 124) (i := 65) (rows := [[0, 1, 2, 2], [1, 1, 1, 1], [2, 1, 2, 2], [2, 1, 2, 2]]) kr kr kr kr kr kr kr (by decide) mOr_bst h
theorem tab_xorTable (h : laidMet Tryz.prog (("netlab/bit.xorTable", Rows.laid_netlab_bit_xorTable) :: rest) W) : Tab2 3 mXor W :=
  tab2_of_head (t := 125) (e := 124) (i := 65) (rows := [[0, 1, 2, 2], [1, 0, 2, 2], [2, 2, 2, 2], [2, 2, 2, 2]]) kr kr kr kr kr kr kr (by decide) mXor_bst h
theorem tab_agreeTable (h : laidMet Tryz.prog (("netlab/bit.agreeTable", Rows.laid_netlab_bit_agreeTable) :: rest) W) : Tab2 0 mAgree W :=
  tab2_of_head (t := 125) (e := 124) (i := 65) (rows := [[0, 2, 2, 2], [2, 1, 2, 2], [2, 2, 2, 2], [2, 2, 2, 2]]) kr kr kr kr kr kr kr (by decide) mAgree_bst h
end
end
section
open Go Go.ChangeShapes Go.WideShapes Go.Deep Go.RowKit Go.Joins
section
variable {H : Type} {enc : TypeId × Value → H} {P : Program} {W : World}
theorem trod_bits {t e : TypeId} {n : Nat} {v : Value} {y : DataW H × List MemPlace} (ht : P.underlying t = some (.slice e)) (he : P.underlying e = some (.int .u8)) (hce : P.cellsOf e = 1)
    (h : DataW.trod enc P W 0 (fun _ => true) true n t [v] = some y) :
    ∃ (A : Option Addr) (l : List Int) (c : Nat), v = .slice A l.length c ∧ l.length ≤ maxLen ∧ RQ W A l ∧ By l ∧ Hid (l.length ≤ c ∧ c ≤ maxLen) := by
  rcases open_ints ht he hce h with ⟨h2, -⟩ | ⟨a, len, cap, zs, hcs, hb, hl, hm, hz, hx, hcell, hwf⟩
  · simp only [List.cons.injEq, and_true] at h2
    subst h2
    exact ⟨none, [], 0, rfl, by simp, fun h => absurd h (by simp), fun i => by rw [qt_ge (by simp)]; decide, show _ ∧ _ from ⟨Nat.le_refl _, by simp [maxLen]⟩⟩
  · simp only [if_true] at hz
    simp only [List.cons.injEq, and_true] at hcs
    subst hcs
    have hlen : (zs.take len).length = len := by rw [List.length_take]; omega
    have hq : ∀ i, i < len → qt (zs.take len) i = zs.getD i 0 := fun i hi => by
      unfold qt
      rw [List.getD_eq_getElem?_getD, List.getElem?_take, if_pos hi, List.getD_eq_getElem?_getD]
    refine ⟨some a, zs.take len, cap, by rw [hlen], by omega, fun hn => ?_, fun i => ?_, show _ ∧ _ from ⟨by omega, hm⟩⟩
    · rw [hlen] at hn
      refine ⟨a, rfl, ?_, fun i hi => ?_⟩
      · have h0 := hcell 0 (by omega)
        have := block_lt_of_cell h0
        rwa [block_of_add] at this
      · rw [hlen] at hi
        rw [hcell i (by omega), hq i hi]
    · rcases Nat.lt_or_ge i len with hi | hi
      · rw [hq i hi, List.getD_eq_getElem?_getD, List.getElem?_eq_getElem (by omega : i < zs.length)]
        have h := hwf _ (List.getElem_mem (by omega : i < zs.length))
        simp only [Lit.wf, Bool.and_eq_true] at h
        exact ⟨of_decide_eq_true h.1, of_decide_eq_true h.2⟩
      · rw [qt_ge (by omega)]; decide
theorem open_vec {r : Reach} {b0 : Nat} {t e : TypeId} {f0 f1 : Field} {v : Value} {d : DataW H} {p : List MemPlace} (hs : P.underlying t = some (.struct #[f0, f1])) (hone : oneCellFields P #[f0, f1] = true) (hC : P.cellsOf t = 2)
    (h0 : P.underlying f0.type = some (.slice e)) (he : P.underlying e = some (.int .u8)) (hce : P.cellsOf e = 1) (h1 : P.underlying f1.type = some .bool)
    (hv : Value.okWide P W r b0 t v) (h : DataW.Trod enc P W 0 (fun _ => true) true t v d p) :
    ∃ (A : Option Addr) (l : List Int) (c : Nat) (s : Bool), v = .agg #[.slice A l.length c, .bool s] ∧ l.length ≤ maxLen ∧ RQ W A l ∧ By l ∧ Hid (l.length ≤ c ∧ c ≤ maxLen) := by
  obtain ⟨v0, v1, y0, y1, n, rfl, -, -, t0, t1⟩ := open_agg2 hs hone hC hv h
  obtain ⟨A, l, c, rfl, k1, k2, k3, k4⟩ := trod_bits h0 he hce t0
  obtain ⟨s, hs1, -⟩ := DataW.trod_bool h1 t1
  obtain rfl : v1 = .bool s := by simpa using hs1
  exact ⟨A, l, c, s, rfl, k1, k2, k3, k4⟩
end
end
section
open Go Go.ChangeShapes Go.WideShapes Go.WideElems Go.RowKit
section
variable {H : Type} {enc : TypeId × Value → H} {P : Program}
theorem carry_all (hl : laidOutB P = true) {W W' : World} {sp : Nat → Bool} (hb : Below W.heap.size W W') : ∀ {ts : List TypeId} {vs : List Value} {ds : List (DataW H)} {ps : List MemPlace},
    (ts.all fun t => P.readableRec t && decide (t < P.types.size)) = true → DataW.TrodAll enc P W 0 (fun _ => true) true ts vs ds ps → (∀ p ∈ ps, p.block < W.heap.size) → (∀ p ∈ ps, sp p.block = true) →
    DataW.TrodAll enc P W' 0 sp true ts vs ds ps
  | [], [], [], _, _, h, _, _ => h
  | [], [], _ :: _, _, _, h, _, _ => h.elim
  | [], _ :: _, _, _, _, h, _, _ => h.elim
  | _ :: _, [], _, _, _, h, _, _ => h.elim
  | _ :: _, _ :: _, [], _, _, h, _, _ => h.elim
  | t :: ts, v :: vs, d :: ds, ps, hr, h, hlt, hsp => by
    obtain ⟨p, q, h1, h2, e⟩ := h
    simp only [List.all_cons, Bool.and_eq_true, decide_eq_true_eq] at hr
    subst e
    exact ⟨p, q, Trod_stays hl hr.1.1 hr.1.2 h1 (fun x hx => hb.same (hlt x (by simp [hx]))) (fun x hx => hsp x (by simp [hx])),
      carry_all hl hb (by simpa using hr.2) h2 (fun x hx => hlt x (by simp [hx])) (fun x hx => hsp x (by simp [hx])), rfl⟩
theorem law_post {f : Func} {s : ChangeSpec} {bt : TypeId} {W W' : World} {args : Array Value} {ds gs : List (DataW H)} {before : List MemPlace}
    (hl : laidOutB P = true) (hr : (f.params.toList.all fun t => P.readableRec t && decide (t < P.types.size)) = true) (hbool : P.underlying bt = some .bool) (hres : f.resultTypes = #[bt]) (hvars : s.vars = [])
    (hW : DataW.Whole enc P f.params.toList s.vars false W args.toList ds gs before)
    (hf1 : (s.fn H (ds ++ gs)).results = [.lit (.bool true)]) (hf2 : (s.fn H (ds ++ gs)).args = ds) (hf3 : (s.fn H (ds ++ gs)).vars = []) (hb : Below W.heap.size W W') :
    s.post enc P f false true false false W args (.bool true) W' := by
  have hlt : ∀ p ∈ before, p.block < W.heap.size := fun p hp => hW.lt p hp
  have hW0 := hW
  obtain ⟨pa, pv, hA, hV, e, hz, hn⟩ := hW
  rw [hvars] at hV
  obtain ⟨rfl, rfl⟩ := trodVars_none hV
  rw [List.append_nil] at e
  subst e
  have hbs : (Value.bool true).resultList f.resultTypes.size = [.bool true] := by rw [hres]; rfl
  have hR : ∀ (b : Nat) (sp : Nat → Bool) (hd : Bool), DataW.TrodAll enc P W' b sp hd f.resultTypes.toList ((Value.bool true).resultList f.resultTypes.size) (s.fn H (ds ++ [])).results [] := by
    intro b sp hd
    rw [hbs, hf1, hres]
    exact trodAll_mk1 (shut_bool hbool _)
  have hG : ∀ sp : Nat → Bool, (∀ p ∈ before, sp p.block = true) → DataW.TrodAll enc P W' 0 sp true f.params.toList args.toList (s.fn H (ds ++ [])).args before := fun sp hsp => by
    rw [hf2]; exact carry_all hl hb hr hA hlt hsp
  have hVs : ∀ sp : Nat → Bool, DataW.TrodVars enc P W' sp s.vars (s.fn H (ds ++ [])).vars [] := fun sp => by rw [hf3, hvars]; rfl
  have hok : ∀ (j : Nat) (t : TypeId) (r : Value), f.resultTypes[j]? = some t → ((Value.bool true).resultList f.resultTypes.size)[j]? = some r → Value.okWide P W' .any 0 t r := ok_one hres rfl (okWide_bool_mk hbool _)
  have hold : ∀ p ∈ before, (fun b => decide (b < W.heap.size)) p.block = true := fun p hp => by simpa using hlt p hp
  refine ⟨ds, [], before, [], before, [], hW0, hR _ _ _, hG _ hold, hVs _, World.keptBut_mono (fun p hp => ⟨hp, by simpa using hp⟩) (hb.frame (· ∈ before)), fun _ => ?_⟩
  refine ⟨hok, _, _, ([] ++ before) ++ [], ⟨[] ++ before, [], trodAll_append (hG _ (fun _ _ => rfl)) (hR _ _ _), hVs _, rfl, ?_, ?_⟩, ?_⟩
  · intro b off hp
    have hin : MemPlace.cell b off ∈ before := by simpa using hp
    rw [hb.frozen (hlt _ hin)]
    exact hz b off hin
  · intro ha
    have := hn ha
    simpa using this
  · intro p hp _
    simpa using hp
end
end
end Go.Proofs.YtbcpeagannjgpaaGreatDoor
