/-
  Texts of MM joined (VecMZ, QT, VecXX, Post).
-/
import Derived.Test.YtpiakebbndoecaaGreatDoorRows
import Derived.Test.YtpiakebbndoecaaGreatDoorTie
import Derived.ProofKit
import Derived.LaidMore
import Derived.OpenShut
import Derived.Stop.Joined
import Derived.Stop.LaidErr
import Derived.Lib.LaidTab
import Derived.Deep.Slices
import Derived.Deep.Fields
import Derived.Lib.SmallJoins
import Derived.ChangeSame
import Derived.ChangeSlices
import Derived.Carry
import Derived.WideKeyArgs
import Derived.Test.YtpiakebbndoecaaGreatDoorMM5
set_option linter.unusedVariables false
set_option linter.unusedSimpArgs false
set_option linter.unusedSectionVars false
namespace Go.Proofs.YtpiakebbndoecaaGreatDoor
section
open Go.RowKit
set_option maxRecDepth 100000
set_option linter.unusedSimpArgs false
set_option linter.unusedVariables false
theorem refines_v (q : Bool) (A B : Option Addr) (a b : List Int) (c d : Nat) (s t : Bool) (w : World) (ha : a.length ≤ 4096) (hb : b.length ≤ 4096) (hca : Hid (a.length ≤ c ∧ c ≤ maxLen)) (hcb : Hid (b.length ≤ d ∧ d ≤ maxLen)) (hA : RQ w A a) (hB : RQ w B b) (ya : By a) (yb : By b) (h : rfB ⟨a, s⟩ ⟨b, t⟩ = q) :
   Calls Tryz.prog 83 #[.agg #[.slice A a.length c, .bool s], .agg #[.slice B b.length d, .bool t]] w (Mk (.bool q) w) := by
 rw [← h]; exact refines_any A B a b c d s t w ha hb hca hcb hA hB ya yb
set_option maxHeartbeats 8000000 in
theorem VecMonotone_long (Ap : Option Addr) (lp : List Int) (cp : Nat) (sp : Bool) (Aa : Option Addr) (la : List Int) (ca : Nat) (sa : Bool) (Ab : Option Addr) (lb : List Int) (cb : Nat) (sb : Bool) (Aq : Option Addr) (lq : List Int) (cq : Nat) (sq : Bool) (Ac : Option Addr) (lc : List Int) (cc : Nat) (sc : Bool) (Ad : Option Addr) (ld : List Int) (cd : Nat) (sd : Bool) (w : World) (mp : lp.length ≤ maxLen) (rp : RQ w Ap lp) (yp : By lp) (pp : Hid (lp.length ≤ cp ∧ cp ≤ maxLen)) (ma : la.length ≤ maxLen) (ra : RQ w Aa la) (ya : By la) (pa : Hid (la.length ≤ ca ∧ ca ≤ maxLen)) (mb : lb.length ≤ maxLen) (rb : RQ w Ab lb) (yb : By lb) (pb : Hid (lb.length ≤ cb ∧ cb ≤ maxLen)) (mq : lq.length ≤ maxLen) (rq : RQ w Aq lq) (yq : By lq) (pq : Hid (lq.length ≤ cq ∧ cq ≤ maxLen)) (mc : lc.length ≤ maxLen) (rc : RQ w Ac lc) (yc : By lc) (pc : Hid (lc.length ≤ cc ∧ cc ≤ maxLen)) (md : ld.length ≤ maxLen) (rd : RQ w Ad ld) (yd : By ld) (pd : Hid (ld.length ≤ cd ∧ cd ≤ maxLen)) (tn : Tab1 2 mNot w) (tb : Tab1 5 mBuf w) (ta : Tab2 3 mAnd w) (tO : Tab2 0 mOr w) (tx : Tab2 4 mXor w) (tg : Tab2 1 mAgree w) (hl : Hid (∃ i, ∃ h : i < 6, 140 < [(Ap, lp.length, cp, sp), (Aa, la.length, ca, sa), (Ab, lb.length, cb, sb), (Aq, lq.length, cq, sq), (Ac, lc.length, cc, sc), (Ad, ld.length, cd, sd)][i].2.1)) : Calls Tryz.prog 8 #[.agg #[.slice Ap lp.length cp, .bool sp], .agg #[.slice Aa la.length ca, .bool sa], .agg #[.slice Ab lb.length cb, .bool sb], .agg #[.slice Aq lq.length cq, .bool sq], .agg #[.slice Ac lc.length cc, .bool sc], .agg #[.slice Ad ld.length cd, .bool sd]] w (Mk (.bool true) w) := by
 have hm : Hid (∀ i (h : i < 6), [(Ap, lp.length, cp, sp), (Aa, la.length, ca, sa), (Ab, lb.length, cb, sb), (Aq, lq.length, cq, sq), (Ac, lc.length, cc, sc), (Ad, ld.length, cd, sd)][i].2.1 ≤ maxLen) := hide fun i h => by rcases i with _ | _ | _ | _ | _ | _ | i <;> first | assumption | omega
 clear mp ma mb mq mc md
 have Op := hide rp
 have Yp := hide yp
 have Cp := pp
 have Oa := hide ra
 have Ya := hide ya
 have Ca := pa
 have Ob := hide rb
 have Yb := hide yb
 have Cb := pb
 have Oq := hide rq
 have Yq := hide yq
 have Cq := pq
 have Oc := hide rc
 have Yc := hide yc
 have Cc := pc
 have Od := hide rd
 have Yd := hide yd
 have Cd := pd
 clear rp yp ra ya
 clear rb yb rq yq
 clear rc yc rd yd
 have HT := hide (show Tabs w from ⟨tn, tb, ta, tO, tx, tg⟩)
 clear tn tb ta tO tx tg
 have hU : Below w.heap.size w w := Below.refl _ _
 refine calls_sl (l := [.agg #[.slice Ap lp.length cp, .bool sp], .agg #[.slice Aa la.length ca, .bool sa], .agg #[.slice Ab lb.length cb, .bool sb], .agg #[.slice Aq lq.length cq, .bool sq], .agg #[.slice Ac lc.length cc, .bool sc], .agg #[.slice Ad ld.length cd, .bool sd]]) 108 Tryz.func8 rfl (by kernel_rfl) (by simp) (zs (wpl_boxvec (A := Ap) (m := lp.length) (c := cp) (s := sp) rfl (by kernel_rfl) rfl (by kernel_rfl) ?_))
 intro w1 Np Bp hNp hb
 replace Bp := hide Bp
 have hzp : w.heap.size ≤ Np := Nat.le_trans hU.size hNp
 clear hNp
 replace hU := zU hU hU.size hb
 clear hb
 refine wpl_boxvec (A := Aa) (m := la.length) (c := ca) (s := sa) rfl (by kernel_rfl) rfl (by kernel_rfl) ?_
 intro w2 Na Ba hNa hb
 replace Ba := hide Ba
 replace Bp := zX Bp hb
 have hza : w.heap.size ≤ Na := Nat.le_trans hU.size hNa
 clear hNa
 replace hU := zU hU hU.size hb
 clear hb
 refine wpl_boxvec (A := Ab) (m := lb.length) (c := cb) (s := sb) rfl (by kernel_rfl) rfl (by kernel_rfl) ?_
 intro w3 Nb Bb hNb hb
 replace Bb := hide Bb
 replace Bp := zX Bp hb
 replace Ba := zX Ba hb
 have hzb : w.heap.size ≤ Nb := Nat.le_trans hU.size hNb
 clear hNb
 replace hU := zU hU hU.size hb
 clear hb
 refine wpl_boxvec (A := Aq) (m := lq.length) (c := cq) (s := sq) rfl (by kernel_rfl) rfl (by kernel_rfl) ?_
 intro w4 Nq Bq hNq hb
 replace Bq := hide Bq
 replace Bp := zX Bp hb
 replace Ba := zX Ba hb
 replace Bb := zX Bb hb
 have hzq : w.heap.size ≤ Nq := Nat.le_trans hU.size hNq
 clear hNq
 replace hU := zU hU hU.size hb
 clear hb
 refine wpl_boxvec (A := Ac) (m := lc.length) (c := cc) (s := sc) rfl (by kernel_rfl) rfl (by kernel_rfl) ?_
 intro w5 Nc Bc hNc hb
 replace Bc := hide Bc
 replace Bp := zX Bp hb
 replace Ba := zX Ba hb
 replace Bb := zX Bb hb
 replace Bq := zX Bq hb
 have hzc : w.heap.size ≤ Nc := Nat.le_trans hU.size hNc
 clear hNc
 replace hU := zU hU hU.size hb
 clear hb
 refine wpl_boxvec (A := Ad) (m := ld.length) (c := cd) (s := sd) rfl (by kernel_rfl) rfl (by kernel_rfl) ?_
 intro w6 Nd Bd hNd hb
 replace Bd := hide Bd
 replace Bp := zX Bp hb
 replace Ba := zX Ba hb
 replace Bb := zX Bb hb
 replace Bq := zX Bq hb
 replace Bc := zX Bc hb
 have hzd : w.heap.size ≤ Nd := Nat.le_trans hU.size hNd
 clear hNd
 replace hU := zU hU hU.size hb
 clear hb
 refine z1 [(12, z_f)] (ze (wp_seq (zs (zv Bp.out rfl rfl (zv Ba.out rfl rfl ?_)))))
 refine zv Bb.out rfl rfl (zv Bq.out rfl rfl (zv Bc.out rfl rfl (zv Bd.out rfl rfl (wpl_bsL6 rfl (by kernel_rfl) rfl (A0 := Ap) (m0 := lp.length) (c0 := cp) (s0 := sp) (A1 := Aa) (m1 := la.length) (c1 := ca) (s1 := sa) (A2 := Ab) (m2 := lb.length) (c2 := cb) (s2 := sb) (A3 := Aq) (m3 := lq.length) (c3 := cq) (s3 := sq) (A4 := Ac) (m4 := lc.length) (c4 := cc) (s4 := sc) (A5 := Ad) (m5 := ld.length) (c5 := cd) (s5 := sd) (by kernel_rfl) (by kernel_rfl) (by kernel_rfl) (by kernel_rfl) (by kernel_rfl) (by kernel_rfl) ?_))))
 intro w7 NV7 RV7 hb
 replace RV7 := hide RV7
 replace Bp := zX Bp hb
 replace Ba := zX Ba hb
 replace Bb := zX Bb hb
 replace Bq := zX Bq hb
 replace Bc := zX Bc hb
 replace Bd := zX Bd hb
 replace hU := zU hU hU.size hb
 clear hb
 refine zc rfl ((vlong_yes NV7 6 [(Ap, lp.length, cp, sp), (Aa, la.length, ca, sa), (Ab, lb.length, cb, sb), (Aq, lq.length, cq, sq), (Ac, lc.length, cc, sc), (Ad, ld.length, cd, sd)] _ (by simp) RV7.out hl.out hm.out).mono ?_)
 rintro e w' ⟨rfl, rfl⟩
 refine ⟨_, rfl, ?_⟩
 refine z4 [(28, z_t), (27, undef), (26, undef), (25, z_t)] (ze (zit (zs ?_)))
 refine zc rfl ((vawake_any _ (HT.out.kept hU)).mono ?_)
 rintro e w8 ⟨rfl, hb⟩
 refine ⟨_, rfl, ?_⟩
 replace Bp := zX Bp hb
 replace Ba := zX Ba hb
 replace Bb := zX Bb hb
 replace Bq := zX Bq hb
 replace Bc := zX Bc hb
 replace Bd := zX Bd hb
 replace hU := zU hU hU.size hb
 clear hb
 refine z1 [(12, z_t)] (ze (wp_ret ?_))
 refine (show bodyPost _ _ _ .ret _ _ from ret_sl (.bool true) rfl (by kernel_rfl) ?_)
 exact ⟨rfl, hU⟩
set_option maxHeartbeats 64000000 in
theorem VecMonotone_short (Ap : Option Addr) (lp : List Int) (cp : Nat) (sp : Bool) (Aa : Option Addr) (la : List Int) (ca : Nat) (sa : Bool) (Ab : Option Addr) (lb : List Int) (cb : Nat) (sb : Bool) (Aq : Option Addr) (lq : List Int) (cq : Nat) (sq : Bool) (Ac : Option Addr) (lc : List Int) (cc : Nat) (sc : Bool) (Ad : Option Addr) (ld : List Int) (cd : Nat) (sd : Bool) (w : World) (mp : lp.length ≤ maxLen) (rp : RQ w Ap lp) (yp : By lp) (pp : Hid (lp.length ≤ cp ∧ cp ≤ maxLen)) (ma : la.length ≤ maxLen) (ra : RQ w Aa la) (ya : By la) (pa : Hid (la.length ≤ ca ∧ ca ≤ maxLen)) (mb : lb.length ≤ maxLen) (rb : RQ w Ab lb) (yb : By lb) (pb : Hid (lb.length ≤ cb ∧ cb ≤ maxLen)) (mq : lq.length ≤ maxLen) (rq : RQ w Aq lq) (yq : By lq) (pq : Hid (lq.length ≤ cq ∧ cq ≤ maxLen)) (mc : lc.length ≤ maxLen) (rc : RQ w Ac lc) (yc : By lc) (pc : Hid (lc.length ≤ cc ∧ cc ≤ maxLen)) (md : ld.length ≤ maxLen) (rd : RQ w Ad ld) (yd : By ld) (pd : Hid (ld.length ≤ cd ∧ cd ≤ maxLen)) (tn : Tab1 2 mNot w) (tb : Tab1 5 mBuf w) (ta : Tab2 3 mAnd w) (tO : Tab2 0 mOr w) (tx : Tab2 4 mXor w) (tg : Tab2 1 mAgree w) (hs : Hid (∀ i (h : i < 6), [(Ap, lp.length, cp, sp), (Aa, la.length, ca, sa), (Ab, lb.length, cb, sb), (Aq, lq.length, cq, sq), (Ac, lc.length, cc, sc), (Ad, ld.length, cd, sd)][i].2.1 ≤ 140)) : Calls Tryz.prog 8 #[.agg #[.slice Ap lp.length cp, .bool sp], .agg #[.slice Aa la.length ca, .bool sa], .agg #[.slice Ab lb.length cb, .bool sb], .agg #[.slice Aq lq.length cq, .bool sq], .agg #[.slice Ac lc.length cc, .bool sc], .agg #[.slice Ad ld.length cd, .bool sd]] w (Mk (.bool true) w) := by
 have Lp : Hid (lp.length ≤ 4096) := hide (Nat.le_trans (hs.out 0 (by decide)) (by decide))
 have La : Hid (la.length ≤ 4096) := hide (Nat.le_trans (hs.out 1 (by decide)) (by decide))
 have Lb : Hid (lb.length ≤ 4096) := hide (Nat.le_trans (hs.out 2 (by decide)) (by decide))
 have Lq : Hid (lq.length ≤ 4096) := hide (Nat.le_trans (hs.out 3 (by decide)) (by decide))
 have Lc : Hid (lc.length ≤ 4096) := hide (Nat.le_trans (hs.out 4 (by decide)) (by decide))
 have Ld : Hid (ld.length ≤ 4096) := hide (Nat.le_trans (hs.out 5 (by decide)) (by decide))
 clear mp ma mb mq mc md
 have Op := hide rp
 have Yp := hide yp
 have Cp := pp
 have Oa := hide ra
 have Ya := hide ya
 have Ca := pa
 have Ob := hide rb
 have Yb := hide yb
 have Cb := pb
 have Oq := hide rq
 have Yq := hide yq
 have Cq := pq
 have Oc := hide rc
 have Yc := hide yc
 have Cc := pc
 have Od := hide rd
 have Yd := hide yd
 have Cd := pd
 clear rp yp ra ya
 clear rb yb rq yq
 clear rc yc rd yd
 have HT := hide (show Tabs w from ⟨tn, tb, ta, tO, tx, tg⟩)
 clear tn tb ta tO tx tg
 have hU : Below w.heap.size w w := Below.refl _ _
 refine calls_sl (l := [.agg #[.slice Ap lp.length cp, .bool sp], .agg #[.slice Aa la.length ca, .bool sa], .agg #[.slice Ab lb.length cb, .bool sb], .agg #[.slice Aq lq.length cq, .bool sq], .agg #[.slice Ac lc.length cc, .bool sc], .agg #[.slice Ad ld.length cd, .bool sd]]) 108 Tryz.func8 rfl (by kernel_rfl) (by simp) (zs (wpl_boxvec (A := Ap) (m := lp.length) (c := cp) (s := sp) rfl (by kernel_rfl) rfl (by kernel_rfl) ?_))
 intro w1 Np Bp hNp hb
 replace Bp := hide Bp
 replace Op := zQ Op hb
 replace Oa := zQ Oa hb
 replace Ob := zQ Ob hb
 replace Oq := zQ Oq hb
 replace Oc := zQ Oc hb
 replace Od := zQ Od hb
 have hzp : w.heap.size ≤ Np := Nat.le_trans hU.size hNp
 clear hNp
 replace hU := zU hU hU.size hb
 clear hb
 refine wpl_boxvec (A := Aa) (m := la.length) (c := ca) (s := sa) rfl (by kernel_rfl) rfl (by kernel_rfl) ?_
 intro w2 Na Ba hNa hb
 replace Ba := hide Ba
 replace Op := zQ Op hb
 replace Oa := zQ Oa hb
 replace Ob := zQ Ob hb
 replace Oq := zQ Oq hb
 replace Oc := zQ Oc hb
 replace Od := zQ Od hb
 replace Bp := zX Bp hb
 have hza : w.heap.size ≤ Na := Nat.le_trans hU.size hNa
 clear hNa
 replace hU := zU hU hU.size hb
 clear hb
 refine wpl_boxvec (A := Ab) (m := lb.length) (c := cb) (s := sb) rfl (by kernel_rfl) rfl (by kernel_rfl) ?_
 intro w3 Nb Bb hNb hb
 replace Bb := hide Bb
 replace Op := zQ Op hb
 replace Oa := zQ Oa hb
 replace Ob := zQ Ob hb
 replace Oq := zQ Oq hb
 replace Oc := zQ Oc hb
 replace Od := zQ Od hb
 replace Bp := zX Bp hb
 replace Ba := zX Ba hb
 have hzb : w.heap.size ≤ Nb := Nat.le_trans hU.size hNb
 clear hNb
 replace hU := zU hU hU.size hb
 clear hb
 refine wpl_boxvec (A := Aq) (m := lq.length) (c := cq) (s := sq) rfl (by kernel_rfl) rfl (by kernel_rfl) ?_
 intro w4 Nq Bq hNq hb
 replace Bq := hide Bq
 replace Op := zQ Op hb
 replace Oa := zQ Oa hb
 replace Ob := zQ Ob hb
 replace Oq := zQ Oq hb
 replace Oc := zQ Oc hb
 replace Od := zQ Od hb
 replace Bp := zX Bp hb
 replace Ba := zX Ba hb
 replace Bb := zX Bb hb
 have hzq : w.heap.size ≤ Nq := Nat.le_trans hU.size hNq
 clear hNq
 replace hU := zU hU hU.size hb
 clear hb
 refine wpl_boxvec (A := Ac) (m := lc.length) (c := cc) (s := sc) rfl (by kernel_rfl) rfl (by kernel_rfl) ?_
 intro w5 Nc Bc hNc hb
 replace Bc := hide Bc
 replace Op := zQ Op hb
 replace Oa := zQ Oa hb
 replace Ob := zQ Ob hb
 replace Oq := zQ Oq hb
 replace Oc := zQ Oc hb
 replace Od := zQ Od hb
 replace Bp := zX Bp hb
 replace Ba := zX Ba hb
 replace Bb := zX Bb hb
 replace Bq := zX Bq hb
 have hzc : w.heap.size ≤ Nc := Nat.le_trans hU.size hNc
 clear hNc
 replace hU := zU hU hU.size hb
 clear hb
 refine wpl_boxvec (A := Ad) (m := ld.length) (c := cd) (s := sd) rfl (by kernel_rfl) rfl (by kernel_rfl) ?_
 intro w6 Nd Bd hNd hb
 replace Bd := hide Bd
 replace Op := zQ Op hb
 replace Oa := zQ Oa hb
 replace Ob := zQ Ob hb
 replace Oq := zQ Oq hb
 replace Oc := zQ Oc hb
 replace Od := zQ Od hb
 replace Bp := zX Bp hb
 replace Ba := zX Ba hb
 replace Bb := zX Bb hb
 replace Bq := zX Bq hb
 replace Bc := zX Bc hb
 have hzd : w.heap.size ≤ Nd := Nat.le_trans hU.size hNd
 clear hNd
 replace hU := zU hU hU.size hb
 clear hb
 refine z1 [(12, z_f)] (ze (wp_seq (wp_seq ?_)))
 obtain ⟨Pr1, HM1, HC1, p1_p, p1_a, p1_b, p1_q, p1_c, p1_d, q1_p, q1_a, q1_b, q1_q, q1_c, q1_d⟩ : ∃ Pr : World → Prop, (∀ w w', Pr w → Below w.heap.size w w' → Pr w') ∧ Hid (Pr w6) ∧ (∀ W, Pr W → RQ W Ap lp) ∧ (∀ W, Pr W → RQ W Aa la) ∧ (∀ W, Pr W → RQ W Ab lb) ∧ (∀ W, Pr W → RQ W Aq lq) ∧ (∀ W, Pr W → RQ W Ac lc) ∧ (∀ W, Pr W → RQ W Ad ld) ∧ (∀ W, Pr W → Box Np Ap lp.length cp sp W) ∧ (∀ W, Pr W → Box Na Aa la.length ca sa W) ∧ (∀ W, Pr W → Box Nb Ab lb.length cb sb W) ∧ (∀ W, Pr W → Box Nq Aq lq.length cq sq W) ∧ (∀ W, Pr W → Box Nc Ac lc.length cc sc W) ∧ (∀ W, Pr W → Box Nd Ad ld.length cd sd W) := ⟨fun W => RQ W Ap lp ∧ RQ W Aa la ∧ RQ W Ab lb ∧ RQ W Aq lq ∧ RQ W Ac lc ∧ RQ W Ad ld ∧ Box Np Ap lp.length cp sp W ∧ Box Na Aa la.length ca sa W ∧ Box Nb Ab lb.length cb sb W ∧ Box Nq Aq lq.length cq sq W ∧ Box Nc Ac lc.length cc sc W ∧ Box Nd Ad ld.length cd sd W, fun _ _ h hb => ⟨RQ.below h.1 hb, RQ.below h.2.1 hb, RQ.below h.2.2.1 hb, RQ.below h.2.2.2.1 hb, RQ.below h.2.2.2.2.1 hb, RQ.below h.2.2.2.2.2.1 hb, Box.kept h.2.2.2.2.2.2.1 hb, Box.kept h.2.2.2.2.2.2.2.1 hb, Box.kept h.2.2.2.2.2.2.2.2.1 hb, Box.kept h.2.2.2.2.2.2.2.2.2.1 hb, Box.kept h.2.2.2.2.2.2.2.2.2.2.1 hb, Box.kept h.2.2.2.2.2.2.2.2.2.2.2 hb⟩, hide ⟨Op.out, Oa.out, Ob.out, Oq.out, Oc.out, Od.out, Bp.out, Ba.out, Bb.out, Bq.out, Bc.out, Bd.out⟩, fun _ h => h.1, fun _ h => h.2.1, fun _ h => h.2.2.1, fun _ h => h.2.2.2.1, fun _ h => h.2.2.2.2.1, fun _ h => h.2.2.2.2.2.1, fun _ h => h.2.2.2.2.2.2.1, fun _ h => h.2.2.2.2.2.2.2.1, fun _ h => h.2.2.2.2.2.2.2.2.1, fun _ h => h.2.2.2.2.2.2.2.2.2.1, fun _ h => h.2.2.2.2.2.2.2.2.2.2.1, fun _ h => h.2.2.2.2.2.2.2.2.2.2.2⟩
 clear Op Oa Ob Oq Oc Od Bp Ba Bb Bq Bc Bd
 refine reg_lit (zv (q1_p _ HC1.out) rfl rfl (zv (q1_a _ HC1.out) rfl rfl (zv (q1_b _ HC1.out) rfl rfl (zv (q1_q _ HC1.out) rfl rfl (zv (q1_c _ HC1.out) rfl rfl (zv (q1_d _ HC1.out) rfl rfl (wpl_bsL6 rfl (by kernel_rfl) rfl (A0 := Ap) (m0 := lp.length) (c0 := cp) (s0 := sp) (A1 := Aa) (m1 := la.length) (c1 := ca) (s1 := sa) (A2 := Ab) (m2 := lb.length) (c2 := cb) (s2 := sb) (A3 := Aq) (m3 := lq.length) (c3 := cq) (s3 := sq) (A4 := Ac) (m4 := lc.length) (c4 := cc) (s4 := sc) (A5 := Ad) (m5 := ld.length) (c5 := cd) (s5 := sd) (by kernel_rfl) (by kernel_rfl) (by kernel_rfl) (by kernel_rfl) (by kernel_rfl) (by kernel_rfl) ?_)))))))
 intro w7 NV7 RV7 hb
 replace RV7 := hide RV7
 replace HC1 := zH HM1 HC1 hb
 replace hU := zU hU hU.size hb
 clear hb
 refine zc rfl ((vlong_no NV7 6 [(Ap, lp.length, cp, sp), (Aa, la.length, ca, sa), (Ab, lb.length, cb, sb), (Aq, lq.length, cq, sq), (Ac, lc.length, cc, sc), (Ad, ld.length, cd, sd)] _ (by simp) RV7.out hs.out).mono ?_)
 rintro e w' ⟨rfl, rfl⟩
 refine ⟨_, rfl, ?_⟩
 clear RV7
 refine z1 [(25, z_f)] ?_
 refine zc rfl ((vawake_any _ (HT.out.kept hU)).mono ?_)
 rintro e w8 ⟨rfl, hb⟩
 refine ⟨_, rfl, ?_⟩
 replace HC1 := zH HM1 HC1 hb
 replace hU := zU hU hU.size hb
 clear hb
 refine z2 [(28, z_f), (27, z_f)] (ze (zif (wp_skip (then_normal (wp_seq (wp_seq ?_))))))
 cases hq : rfB ⟨lq, sq⟩ ⟨lp, sp⟩
 refine reg_lit (zv (q1_q _ HC1.out) rfl rfl (zv (q1_p _ HC1.out) rfl rfl ?_))
 refine zc rfl ((refines_v false Aq Ap lq lp cq cp sq sp _ Lq.out Lp.out Cq Cp (p1_q w8 HC1.out) (p1_p w8 HC1.out) Yq.out Yp.out hq).mono ?_)
 rintro e w9 ⟨rfl, hb⟩
 refine ⟨_, rfl, ?_⟩
 replace HC1 := zH HM1 HC1 hb
 replace hU := zU hU hU.size hb
 clear hb
 refine wpl_r13 [(45, z_t), (44, undef), (43, undef), (42, undef), (41, undef), (40, z_t), (39, z_t), (38, undef), (37, undef), (36, undef), (35, undef), (34, z_t), (33, z_t)] (by kernel_rfl) (ze (zit (zs (z1 [(12, z_t)] (wpl_end ?_)))))
 refine then_normal (wp_ret ?_)
 refine (show bodyPost _ _ _ .ret _ _ from ret_sl (.bool true) rfl (by kernel_rfl) ?_)
 exact ⟨rfl, hU⟩
 cases hc : rfB ⟨lc, sc⟩ ⟨la, sa⟩
 refine reg_lit (zv (q1_q _ HC1.out) rfl rfl (zv (q1_p _ HC1.out) rfl rfl ?_))
 refine zc rfl ((refines_v true Aq Ap lq lp cq cp sq sp _ Lq.out Lp.out Cq Cp (p1_q w8 HC1.out) (p1_p w8 HC1.out) Yq.out Yp.out hq).mono ?_)
 rintro e w10 ⟨rfl, hb⟩
 refine ⟨_, rfl, ?_⟩
 replace HC1 := zH HM1 HC1 hb
 replace hU := zU hU hU.size hb
 clear hb
 refine z2 [(34, z_f), (33, z_f)] (zv (q1_c _ HC1.out) rfl rfl (zv (q1_a _ HC1.out) rfl rfl ?_))
 refine zc rfl ((refines_v false Ac Aa lc la cc ca sc sa _ Lc.out La.out Cc Ca (p1_c w10 HC1.out) (p1_a w10 HC1.out) Yc.out Ya.out hc).mono ?_)
 rintro e w11 ⟨rfl, hb⟩
 refine ⟨_, rfl, ?_⟩
 replace HC1 := zH HM1 HC1 hb
 replace hU := zU hU hU.size hb
 clear hb
 refine z8 [(45, z_t), (44, undef), (43, undef), (42, undef), (41, undef), (40, z_t), (39, z_t), (38, z_t)] (ze (zit (zs (z1 [(12, z_t)] (wpl_end ?_)))))
 refine then_normal (wp_ret ?_)
 refine (show bodyPost _ _ _ .ret _ _ from ret_sl (.bool true) rfl (by kernel_rfl) ?_)
 exact ⟨rfl, hU⟩
 cases hd : rfB ⟨ld, sd⟩ ⟨lb, sb⟩
 refine reg_lit (zv (q1_q _ HC1.out) rfl rfl (zv (q1_p _ HC1.out) rfl rfl ?_))
 refine zc rfl ((refines_v true Aq Ap lq lp cq cp sq sp _ Lq.out Lp.out Cq Cp (p1_q w8 HC1.out) (p1_p w8 HC1.out) Yq.out Yp.out hq).mono ?_)
 rintro e w12 ⟨rfl, hb⟩
 refine ⟨_, rfl, ?_⟩
 replace HC1 := zH HM1 HC1 hb
 replace hU := zU hU hU.size hb
 clear hb
 refine z2 [(34, z_f), (33, z_f)] (zv (q1_c _ HC1.out) rfl rfl (zv (q1_a _ HC1.out) rfl rfl ?_))
 refine zc rfl ((refines_v true Ac Aa lc la cc ca sc sa _ Lc.out La.out Cc Ca (p1_c w12 HC1.out) (p1_a w12 HC1.out) Yc.out Ya.out hc).mono ?_)
 rintro e w13 ⟨rfl, hb⟩
 refine ⟨_, rfl, ?_⟩
 replace HC1 := zH HM1 HC1 hb
 replace hU := zU hU hU.size hb
 clear hb
 refine z3 [(40, z_f), (39, z_f), (38, z_f)] (zv (q1_d _ HC1.out) rfl rfl (zv (q1_b _ HC1.out) rfl rfl ?_))
 refine zc rfl ((refines_v false Ad Ab ld lb cd cb sd sb _ Ld.out Lb.out Cd Cb (p1_d w13 HC1.out) (p1_b w13 HC1.out) Yd.out Yb.out hd).mono ?_)
 rintro e w14 ⟨rfl, hb⟩
 refine ⟨_, rfl, ?_⟩
 replace HC1 := zH HM1 HC1 hb
 replace hU := zU hU hU.size hb
 clear hb
 refine z2 [(45, z_t), (44, z_t)] (ze (zit (zs (z1 [(12, z_t)] (wpl_end ?_)))))
 refine then_normal (wp_ret ?_)
 refine (show bodyPost _ _ _ .ret _ _ from ret_sl (.bool true) rfl (by kernel_rfl) ?_)
 exact ⟨rfl, hU⟩
 have RS := hide (rf_of (a := ⟨lp, sp⟩) (c := ⟨lq, sq⟩) Yp.out Yq.out hq)
 have RA := hide (rf_of (a := ⟨la, sa⟩) (c := ⟨lc, sc⟩) Ya.out Yc.out hc)
 have RB := hide (rf_of (a := ⟨lb, sb⟩) (c := ⟨ld, sd⟩) Yb.out Yd.out hd)
 refine reg_lit (zv (q1_q _ HC1.out) rfl rfl (zv (q1_p _ HC1.out) rfl rfl ?_))
 refine zc rfl ((refines_v true Aq Ap lq lp cq cp sq sp _ Lq.out Lp.out Cq Cp (p1_q w8 HC1.out) (p1_p w8 HC1.out) Yq.out Yp.out hq).mono ?_)
 rintro e w15 ⟨rfl, hb⟩
 refine ⟨_, rfl, ?_⟩
 replace HC1 := zH HM1 HC1 hb
 replace hU := zU hU hU.size hb
 clear hb
 refine z2 [(34, z_f), (33, z_f)] (zv (q1_c _ HC1.out) rfl rfl (zv (q1_a _ HC1.out) rfl rfl ?_))
 refine zc rfl ((refines_v true Ac Aa lc la cc ca sc sa _ Lc.out La.out Cc Ca (p1_c w15 HC1.out) (p1_a w15 HC1.out) Yc.out Ya.out hc).mono ?_)
 rintro e w16 ⟨rfl, hb⟩
 refine ⟨_, rfl, ?_⟩
 replace HC1 := zH HM1 HC1 hb
 replace hU := zU hU hU.size hb
 clear hb
 refine z3 [(40, z_f), (39, z_f), (38, z_f)] (zv (q1_d _ HC1.out) rfl rfl (zv (q1_b _ HC1.out) rfl rfl ?_))
 refine zc rfl ((refines_v true Ad Ab ld lb cd cb sd sb _ Ld.out Lb.out Cd Cb (p1_d w16 HC1.out) (p1_b w16 HC1.out) Yd.out Yb.out hd).mono ?_)
 rintro e w17 ⟨rfl, hb⟩
 refine ⟨_, rfl, ?_⟩
 replace HC1 := zH HM1 HC1 hb
 replace hU := zU hU hU.size hb
 clear hb
 refine z2 [(45, z_f), (44, z_f)] (ze (zif (wp_skip (then_normal (wp_seq (wp_seq ?_))))))
 refine reg_lit ?_
 refine zc rfl ((vones_any _).mono ?_)
 rintro e w18 ⟨NU, rfl, TU, hb⟩
 refine ⟨_, rfl, ?_⟩
 replace HC1 := zH HM1 HC1 hb
 replace hU := zU hU hU.size hb
 clear hb
 replace TU := hide TU
 refine z2 [(48, .int .i64 0), (47, .int .i64 9)] (ze (wp_block (loop_r 10 (round_s (zs ?_)))))
 refine z1 [(49, z_t)] (ze (wp_seq (zit (wp_skip (then_normal (wp_seq ?_))))))
 refine wp_block (zs (z1 [(50, pt NU 0)] (wpl_ldone TU.out 0 (by decide) rfl (by kernel_rfl) rfl (by kernel_rfl) (wpl_made1 14 55 rfl rfl rfl rfl rfl rfl (fun _ => by kernel_rfl) (fun _ => by kernel_rfl) ?_))))
 intro w19 ND BD hb
 replace BD := hide BD
 replace HC1 := zH HM1 HC1 hb
 replace TU := hide (One.kept TU.out hb)
 replace hU := zU hU hU.size hb
 clear hb
 refine ze (wp_seq (region_R (n := 9) (N := 10) (by kernel_rfl) (by kernel_rfl) (by kernel_rfl) (by kernel_rfl) (by kernel_rfl) (by kernel_rfl) (fun _ _ _ _ _ h => h) ?_))
 intro F hQ
 have HC0 := HC1
 have BD0 := BD
 refine zav (i := 0) (m' := 1) (v := .pointer (some ⟨ND, 1, none⟩)) F hQ rfl rfl ?_
 refine anyR_val (i := 1) (m' := 3) (v := .func (.func 55) #[] #[]) F hQ rfl rfl (by kernel_rfl) (by kernel_rfl) (by kernel_rfl) (by kernel_rfl) (by kernel_rfl) (fun w' hb => run_ldfn1 rfl (by kernel_rfl) (BD0.out.kept hb)) ?_
 refine anyR_ldvec (i := 2) (m' := 7) (q1_a _ HC0.out) F hQ rfl rfl (by kernel_rfl) (by kernel_rfl) (by kernel_rfl) (by kernel_rfl) (by kernel_rfl) rfl (by kernel_rfl) (zav (i := 4) (m' := 23) (v := .pointer (some ⟨ND, 1, none⟩)) F hQ rfl rfl ?_)
 refine anyR_val (i := 5) (m' := 55) (v := .func (.func 55) #[] #[]) F hQ rfl rfl (by kernel_rfl) (by kernel_rfl) (by kernel_rfl) (by kernel_rfl) (by kernel_rfl) (fun w' hb => run_ldfn1 rfl (by kernel_rfl) (BD0.out.kept hb)) ?_
 refine anyR_ldvec (i := 6) (m' := 119) (q1_c _ HC0.out) F hQ rfl rfl (by kernel_rfl) (by kernel_rfl) (by kernel_rfl) (by kernel_rfl) (by kernel_rfl) rfl (by kernel_rfl) ?_
 refine zac (i := 3) (m' := 127) rfl rfl ((vNot_any Aa la ca sa _ La.out Ca (by exact (p1_a w19 HC1.out)) Ya.out (HT.out.kept (Below.drew hU))).mono ?_)
 rintro e w20 ⟨l1, s1, A1, c1, E1, rfl, C1, O1, hb⟩
 refine ⟨_, rfl, hb, ?_⟩
 replace hb : Below w19.heap.size w19 w20 := Below.trans ((Below.refl _ _).drew) hb
 replace HC1 := zH HM1 HC1 hb
 replace TU := hide (One.kept TU.out hb)
 replace BD := zB BD hb
 replace O1 := hide O1.out.rd
 replace hU := zU hU hU.size hb
 clear hb
 have G1 := zGd E1 ((gm_not Ya.out))
 have L1 := zLe G1
 have Y1 := hide G1.by_
 clear G1
 refine zac (i := 7) (m' := 255) rfl rfl ((vNot_any Ac lc cc sc _ Lc.out Cc (p1_c w20 HC1.out) Yc.out (HT.out.kept hU)).mono ?_)
 rintro e w21 ⟨l2, s2, A2, c2, E2, rfl, C2, O2, hb⟩
 refine ⟨_, rfl, hb, ?_⟩
 replace HC1 := zH HM1 HC1 hb
 replace O1 := zQ O1 hb
 replace TU := hide (One.kept TU.out hb)
 replace BD := zB BD hb
 replace O2 := hide O2.out.rd
 replace hU := zU hU hU.size hb
 clear hb
 have G2 := zGd E2 ((gm_not Yc.out))
 have L2 := zLe G2
 have Y2 := hide G2.by_
 clear G2
 refine zac (i := 8) (m' := 511) rfl rfl ((below_yes A1 A2 l1 l2 c1 c2 s1 s2 _ L1.out L2.out O1.out O2.out Y1.out Y2.out (HT.out.kept hU) (by rw [E1.out, E2.out]; exact vNot_rf RA.out)).mono ?_)
 rintro e w22 ⟨rfl, hb⟩
 refine ⟨_, rfl, hb, ?_⟩
 replace HC1 := zH HM1 HC1 hb
 replace O1 := zQ O1 hb
 replace O2 := zQ O2 hb
 replace TU := hide (One.kept TU.out hb)
 replace BD := zB BD hb
 replace hU := zU hU hU.size hb
 clear hb O1 C1 L1 Y1
 clear O2 C2 L2 Y2
 refine anyR_e (anyR_last (i := 9) (m' := 1023) (v := .bool false) rfl rfl (by kernel_rfl) (by kernel_rfl) (by kernel_rfl) (by kernel_rfl) (by kernel_rfl) (anyE_done (by kernel_rfl) ?_))
 clear F hQ HC0 BD0
 refine then_normal (zif (wp_skip (block_normal (then_normal (reg_lit (z2 [(48, .int .i64 1), (62, .int .i64 1)] (wpl_end ?_)))))))
 refine then_normal ?_
 clear BD
 refine zk [(6, pt Np 0), (7, pt Na 0), (8, pt Nb 0), (9, pt Nq 0), (10, pt Nc 0), (11, pt Nd 0), (46, .slice (some ⟨NU, 0, none⟩) 9 9), (47, .int .i64 9), (48, .int .i64 1)] (fun X => ?_)
 refine round_s (zs (z1 [(49, z_t)] (ze (wp_seq (zit ?_)))))
 refine wp_skip (then_normal (wp_seq (wp_block (zs (z1 [(50, pt NU 2)] (wpl_ldone TU.out 1 (by decide) rfl (by kernel_rfl) rfl (by kernel_rfl) ?_))))))
 refine wpl_made1 12 75 rfl rfl rfl rfl rfl rfl (fun _ => by kernel_rfl) (fun _ => by kernel_rfl) ?_
 intro w23 ND BD hb
 replace BD := hide BD
 replace HC1 := zH HM1 HC1 hb
 replace TU := hide (One.kept TU.out hb)
 replace hU := zU hU hU.size hb
 clear hb
 refine ze (wp_seq (region_R (n := 9) (N := 10) (by kernel_rfl) (by kernel_rfl) (by kernel_rfl) (by kernel_rfl) (by kernel_rfl) (by kernel_rfl) (fun _ _ _ _ _ h => h) ?_))
 intro F hQ
 have HC0 := HC1
 have BD0 := BD
 refine zav (i := 0) (m' := 1) (v := .pointer (some ⟨ND, 1, none⟩)) F hQ rfl rfl ?_
 refine anyR_val (i := 1) (m' := 3) (v := .func (.func 75) #[] #[]) F hQ rfl rfl (by kernel_rfl) (by kernel_rfl) (by kernel_rfl) (by kernel_rfl) (by kernel_rfl) (fun w' hb => run_ldfn1 rfl (by kernel_rfl) (BD0.out.kept hb)) ?_
 refine anyR_ldvec (i := 2) (m' := 7) (q1_a _ HC0.out) F hQ rfl rfl (by kernel_rfl) (by kernel_rfl) (by kernel_rfl) (by kernel_rfl) (by kernel_rfl) rfl (by kernel_rfl) (zav (i := 4) (m' := 23) (v := .pointer (some ⟨ND, 1, none⟩)) F hQ rfl rfl ?_)
 refine anyR_val (i := 5) (m' := 55) (v := .func (.func 75) #[] #[]) F hQ rfl rfl (by kernel_rfl) (by kernel_rfl) (by kernel_rfl) (by kernel_rfl) (by kernel_rfl) (fun w' hb => run_ldfn1 rfl (by kernel_rfl) (BD0.out.kept hb)) ?_
 refine anyR_ldvec (i := 6) (m' := 119) (q1_c _ HC0.out) F hQ rfl rfl (by kernel_rfl) (by kernel_rfl) (by kernel_rfl) (by kernel_rfl) (by kernel_rfl) rfl (by kernel_rfl) ?_
 refine zac (i := 3) (m' := 127) rfl rfl ((vNeg_any Aa la ca sa _ La.out Ca (by exact (p1_a w23 HC1.out)) Ya.out).mono ?_)
 rintro e w24 ⟨l1, s1, A1, c1, E1, rfl, C1, O1, hb⟩
 refine ⟨_, rfl, hb, ?_⟩
 replace hb : Below w23.heap.size w23 w24 := Below.trans ((Below.refl _ _).drew) hb
 replace HC1 := zH HM1 HC1 hb
 replace TU := hide (One.kept TU.out hb)
 replace BD := zB BD hb
 replace O1 := hide O1.out.rd
 replace hU := zU hU hU.size hb
 clear hb
 have G1 := zGd E1 ((gm_neg Ya.out))
 have L1 := zLe G1
 have Y1 := hide G1.by_
 clear G1
 refine zac (i := 7) (m' := 255) rfl rfl ((vNeg_any Ac lc cc sc _ Lc.out Cc (p1_c w24 HC1.out) Yc.out).mono ?_)
 rintro e w25 ⟨l2, s2, A2, c2, E2, rfl, C2, O2, hb⟩
 refine ⟨_, rfl, hb, ?_⟩
 replace HC1 := zH HM1 HC1 hb
 replace O1 := zQ O1 hb
 replace TU := hide (One.kept TU.out hb)
 replace BD := zB BD hb
 replace O2 := hide O2.out.rd
 replace hU := zU hU hU.size hb
 clear hb
 have G2 := zGd E2 ((gm_neg Yc.out))
 have L2 := zLe G2
 have Y2 := hide G2.by_
 clear G2
 refine zac (i := 8) (m' := 511) rfl rfl ((below_yes A1 A2 l1 l2 c1 c2 s1 s2 _ L1.out L2.out O1.out O2.out Y1.out Y2.out (HT.out.kept hU) (by rw [E1.out, E2.out]; exact vNeg_rf RA.out)).mono ?_)
 rintro e w26 ⟨rfl, hb⟩
 refine ⟨_, rfl, hb, ?_⟩
 replace HC1 := zH HM1 HC1 hb
 replace O1 := zQ O1 hb
 replace O2 := zQ O2 hb
 replace TU := hide (One.kept TU.out hb)
 replace BD := zB BD hb
 replace hU := zU hU hU.size hb
 clear hb O1 C1 L1 Y1
 clear O2 C2 L2 Y2
 refine anyR_e (anyR_last (i := 9) (m' := 1023) (v := .bool false) rfl rfl (by kernel_rfl) (by kernel_rfl) (by kernel_rfl) (by kernel_rfl) (by kernel_rfl) (anyE_done (by kernel_rfl) ?_))
 clear F hQ HC0 BD0
 refine then_normal (zif (wp_skip (block_normal (then_normal (reg_lit (z2 [(48, .int .i64 2), (62, .int .i64 2)] (wpl_end ?_)))))))
 refine then_normal ?_
 clear BD
 refine zk [(6, pt Np 0), (7, pt Na 0), (8, pt Nb 0), (9, pt Nq 0), (10, pt Nc 0), (11, pt Nd 0), (46, .slice (some ⟨NU, 0, none⟩) 9 9), (47, .int .i64 9), (48, .int .i64 2)] (fun X => ?_)
 refine round_s (zs (z1 [(49, z_t)] (ze (wp_seq (zit ?_)))))
 refine wp_skip (then_normal (wp_seq (wp_block (zs (z1 [(50, pt NU 4)] (wpl_ldone TU.out 2 (by decide) rfl (by kernel_rfl) rfl (by kernel_rfl) ?_))))))
 refine wpl_made1 13 72 rfl rfl rfl rfl rfl rfl (fun _ => by kernel_rfl) (fun _ => by kernel_rfl) ?_
 intro w27 ND BD hb
 replace BD := hide BD
 replace HC1 := zH HM1 HC1 hb
 replace TU := hide (One.kept TU.out hb)
 replace hU := zU hU hU.size hb
 clear hb
 refine ze (wp_seq (region_R (n := 9) (N := 10) (by kernel_rfl) (by kernel_rfl) (by kernel_rfl) (by kernel_rfl) (by kernel_rfl) (by kernel_rfl) (fun _ _ _ _ _ h => h) ?_))
 intro F hQ
 have HC0 := HC1
 have BD0 := BD
 refine zav (i := 0) (m' := 1) (v := .pointer (some ⟨ND, 1, none⟩)) F hQ rfl rfl ?_
 refine anyR_val (i := 1) (m' := 3) (v := .func (.func 72) #[] #[]) F hQ rfl rfl (by kernel_rfl) (by kernel_rfl) (by kernel_rfl) (by kernel_rfl) (by kernel_rfl) (fun w' hb => run_ldfn1 rfl (by kernel_rfl) (BD0.out.kept hb)) ?_
 refine anyR_ldvec (i := 2) (m' := 7) (q1_a _ HC0.out) F hQ rfl rfl (by kernel_rfl) (by kernel_rfl) (by kernel_rfl) (by kernel_rfl) (by kernel_rfl) rfl (by kernel_rfl) (zav (i := 4) (m' := 23) (v := .pointer (some ⟨ND, 1, none⟩)) F hQ rfl rfl ?_)
 refine anyR_val (i := 5) (m' := 55) (v := .func (.func 72) #[] #[]) F hQ rfl rfl (by kernel_rfl) (by kernel_rfl) (by kernel_rfl) (by kernel_rfl) (by kernel_rfl) (fun w' hb => run_ldfn1 rfl (by kernel_rfl) (BD0.out.kept hb)) ?_
 refine anyR_ldvec (i := 6) (m' := 119) (q1_c _ HC0.out) F hQ rfl rfl (by kernel_rfl) (by kernel_rfl) (by kernel_rfl) (by kernel_rfl) (by kernel_rfl) rfl (by kernel_rfl) ?_
 refine zac (i := 3) (m' := 127) rfl rfl ((vLNot_any Aa la ca sa _ La.out Ca (by exact (p1_a w27 HC1.out)) Ya.out (HT.out.kept (Below.drew hU))).mono ?_)
 rintro e w28 ⟨l1, s1, A1, c1, E1, rfl, C1, O1, hb⟩
 refine ⟨_, rfl, hb, ?_⟩
 replace hb : Below w27.heap.size w27 w28 := Below.trans ((Below.refl _ _).drew) hb
 replace HC1 := zH HM1 HC1 hb
 replace TU := hide (One.kept TU.out hb)
 replace BD := zB BD hb
 replace O1 := hide O1.out.rd
 replace hU := zU hU hU.size hb
 clear hb
 have G1 := zGd E1 ((gm_3 (mNot_3 _)))
 have L1 := zLe G1
 have Y1 := hide G1.by_
 clear G1
 refine zac (i := 7) (m' := 255) rfl rfl ((vLNot_any Ac lc cc sc _ Lc.out Cc (p1_c w28 HC1.out) Yc.out (HT.out.kept hU)).mono ?_)
 rintro e w29 ⟨l2, s2, A2, c2, E2, rfl, C2, O2, hb⟩
 refine ⟨_, rfl, hb, ?_⟩
 replace HC1 := zH HM1 HC1 hb
 replace O1 := zQ O1 hb
 replace TU := hide (One.kept TU.out hb)
 replace BD := zB BD hb
 replace O2 := hide O2.out.rd
 replace hU := zU hU hU.size hb
 clear hb
 have G2 := zGd E2 ((gm_3 (mNot_3 _)))
 have L2 := zLe G2
 have Y2 := hide G2.by_
 clear G2
 refine zac (i := 8) (m' := 511) rfl rfl ((below_yes A1 A2 l1 l2 c1 c2 s1 s2 _ L1.out L2.out O1.out O2.out Y1.out Y2.out (HT.out.kept hU) (by rw [E1.out, E2.out]; exact rf_lnot RA.out)).mono ?_)
 rintro e w30 ⟨rfl, hb⟩
 refine ⟨_, rfl, hb, ?_⟩
 replace HC1 := zH HM1 HC1 hb
 replace O1 := zQ O1 hb
 replace O2 := zQ O2 hb
 replace TU := hide (One.kept TU.out hb)
 replace BD := zB BD hb
 replace hU := zU hU hU.size hb
 clear hb O1 C1 L1 Y1
 clear O2 C2 L2 Y2
 refine anyR_e (anyR_last (i := 9) (m' := 1023) (v := .bool false) rfl rfl (by kernel_rfl) (by kernel_rfl) (by kernel_rfl) (by kernel_rfl) (by kernel_rfl) (anyE_done (by kernel_rfl) ?_))
 clear F hQ HC0 BD0
 refine then_normal (zif (wp_skip (block_normal (then_normal (reg_lit (z2 [(48, .int .i64 3), (62, .int .i64 3)] (wpl_end ?_)))))))
 refine then_normal ?_
 clear BD
 refine zk [(6, pt Np 0), (7, pt Na 0), (8, pt Nb 0), (9, pt Nq 0), (10, pt Nc 0), (11, pt Nd 0), (46, .slice (some ⟨NU, 0, none⟩) 9 9), (47, .int .i64 9), (48, .int .i64 3)] (fun X => ?_)
 refine round_s (zs (z1 [(49, z_t)] (ze (wp_seq (zit ?_)))))
 refine wp_skip (then_normal (wp_seq (wp_block (zs (z1 [(50, pt NU 6)] (wpl_ldone TU.out 3 (by decide) rfl (by kernel_rfl) rfl (by kernel_rfl) ?_))))))
 refine wpl_made1 15 66 rfl rfl rfl rfl rfl rfl (fun _ => by kernel_rfl) (fun _ => by kernel_rfl) ?_
 intro w31 ND BD hb
 replace BD := hide BD
 replace HC1 := zH HM1 HC1 hb
 replace TU := hide (One.kept TU.out hb)
 replace hU := zU hU hU.size hb
 clear hb
 refine ze (wp_seq (region_R (n := 9) (N := 10) (by kernel_rfl) (by kernel_rfl) (by kernel_rfl) (by kernel_rfl) (by kernel_rfl) (by kernel_rfl) (fun _ _ _ _ _ h => h) ?_))
 intro F hQ
 have HC0 := HC1
 have BD0 := BD
 refine zav (i := 0) (m' := 1) (v := .pointer (some ⟨ND, 1, none⟩)) F hQ rfl rfl ?_
 refine anyR_val (i := 1) (m' := 3) (v := .func (.func 66) #[] #[]) F hQ rfl rfl (by kernel_rfl) (by kernel_rfl) (by kernel_rfl) (by kernel_rfl) (by kernel_rfl) (fun w' hb => run_ldfn1 rfl (by kernel_rfl) (BD0.out.kept hb)) ?_
 refine anyR_ldvec (i := 2) (m' := 7) (q1_a _ HC0.out) F hQ rfl rfl (by kernel_rfl) (by kernel_rfl) (by kernel_rfl) (by kernel_rfl) (by kernel_rfl) rfl (by kernel_rfl) (zav (i := 4) (m' := 23) (v := .pointer (some ⟨ND, 1, none⟩)) F hQ rfl rfl ?_)
 refine anyR_val (i := 5) (m' := 55) (v := .func (.func 66) #[] #[]) F hQ rfl rfl (by kernel_rfl) (by kernel_rfl) (by kernel_rfl) (by kernel_rfl) (by kernel_rfl) (fun w' hb => run_ldfn1 rfl (by kernel_rfl) (BD0.out.kept hb)) ?_
 refine anyR_ldvec (i := 6) (m' := 119) (q1_c _ HC0.out) F hQ rfl rfl (by kernel_rfl) (by kernel_rfl) (by kernel_rfl) (by kernel_rfl) (by kernel_rfl) rfl (by kernel_rfl) ?_
 refine zac (i := 3) (m' := 127) rfl rfl ((vRedAnd_any Aa la ca sa _ La.out Ca (by exact (p1_a w31 HC1.out)) Ya.out (HT.out.kept (Below.drew hU))).mono ?_)
 rintro e w32 ⟨l1, s1, A1, c1, E1, rfl, C1, O1, hb⟩
 refine ⟨_, rfl, hb, ?_⟩
 replace hb : Below w31.heap.size w31 w32 := Below.trans ((Below.refl _ _).drew) hb
 replace HC1 := zH HM1 HC1 hb
 replace TU := hide (One.kept TU.out hb)
 replace BD := zB BD hb
 replace O1 := hide O1.out.rd
 replace hU := zU hU hU.size hb
 clear hb
 have G1 := zGd E1 ((gm_red mAnd_3))
 have L1 := zLe G1
 have Y1 := hide G1.by_
 clear G1
 refine zac (i := 7) (m' := 255) rfl rfl ((vRedAnd_any Ac lc cc sc _ Lc.out Cc (p1_c w32 HC1.out) Yc.out (HT.out.kept hU)).mono ?_)
 rintro e w33 ⟨l2, s2, A2, c2, E2, rfl, C2, O2, hb⟩
 refine ⟨_, rfl, hb, ?_⟩
 replace HC1 := zH HM1 HC1 hb
 replace O1 := zQ O1 hb
 replace TU := hide (One.kept TU.out hb)
 replace BD := zB BD hb
 replace O2 := hide O2.out.rd
 replace hU := zU hU hU.size hb
 clear hb
 have G2 := zGd E2 ((gm_red mAnd_3))
 have L2 := zLe G2
 have Y2 := hide G2.by_
 clear G2
 refine zac (i := 8) (m' := 511) rfl rfl ((below_yes A1 A2 l1 l2 c1 c2 s1 s2 _ L1.out L2.out O1.out O2.out Y1.out Y2.out (HT.out.kept hU) (by rw [E1.out, E2.out]; exact rf_redand RA.out)).mono ?_)
 rintro e w34 ⟨rfl, hb⟩
 refine ⟨_, rfl, hb, ?_⟩
 replace HC1 := zH HM1 HC1 hb
 replace O1 := zQ O1 hb
 replace O2 := zQ O2 hb
 replace TU := hide (One.kept TU.out hb)
 replace BD := zB BD hb
 replace hU := zU hU hU.size hb
 clear hb O1 C1 L1 Y1
 clear O2 C2 L2 Y2
 refine anyR_e (anyR_last (i := 9) (m' := 1023) (v := .bool false) rfl rfl (by kernel_rfl) (by kernel_rfl) (by kernel_rfl) (by kernel_rfl) (by kernel_rfl) (anyE_done (by kernel_rfl) ?_))
 clear F hQ HC0 BD0
 refine then_normal (zif (wp_skip (block_normal (then_normal (reg_lit (z2 [(48, .int .i64 4), (62, .int .i64 4)] (wpl_end ?_)))))))
 refine then_normal ?_
 clear BD
 refine zk [(6, pt Np 0), (7, pt Na 0), (8, pt Nb 0), (9, pt Nq 0), (10, pt Nc 0), (11, pt Nd 0), (46, .slice (some ⟨NU, 0, none⟩) 9 9), (47, .int .i64 9), (48, .int .i64 4)] (fun X => ?_)
 refine round_s (zs (z1 [(49, z_t)] (ze (wp_seq (zit ?_)))))
 refine wp_skip (then_normal (wp_seq (wp_block (zs (z1 [(50, pt NU 8)] (wpl_ldone TU.out 4 (by decide) rfl (by kernel_rfl) rfl (by kernel_rfl) ?_))))))
 refine wpl_made1 16 67 rfl rfl rfl rfl rfl rfl (fun _ => by kernel_rfl) (fun _ => by kernel_rfl) ?_
 intro w35 ND BD hb
 replace BD := hide BD
 replace HC1 := zH HM1 HC1 hb
 replace TU := hide (One.kept TU.out hb)
 replace hU := zU hU hU.size hb
 clear hb
 refine ze (wp_seq (region_R (n := 9) (N := 10) (by kernel_rfl) (by kernel_rfl) (by kernel_rfl) (by kernel_rfl) (by kernel_rfl) (by kernel_rfl) (fun _ _ _ _ _ h => h) ?_))
 intro F hQ
 have HC0 := HC1
 have BD0 := BD
 refine zav (i := 0) (m' := 1) (v := .pointer (some ⟨ND, 1, none⟩)) F hQ rfl rfl ?_
 refine anyR_val (i := 1) (m' := 3) (v := .func (.func 67) #[] #[]) F hQ rfl rfl (by kernel_rfl) (by kernel_rfl) (by kernel_rfl) (by kernel_rfl) (by kernel_rfl) (fun w' hb => run_ldfn1 rfl (by kernel_rfl) (BD0.out.kept hb)) ?_
 refine anyR_ldvec (i := 2) (m' := 7) (q1_a _ HC0.out) F hQ rfl rfl (by kernel_rfl) (by kernel_rfl) (by kernel_rfl) (by kernel_rfl) (by kernel_rfl) rfl (by kernel_rfl) (zav (i := 4) (m' := 23) (v := .pointer (some ⟨ND, 1, none⟩)) F hQ rfl rfl ?_)
 refine anyR_val (i := 5) (m' := 55) (v := .func (.func 67) #[] #[]) F hQ rfl rfl (by kernel_rfl) (by kernel_rfl) (by kernel_rfl) (by kernel_rfl) (by kernel_rfl) (fun w' hb => run_ldfn1 rfl (by kernel_rfl) (BD0.out.kept hb)) ?_
 refine anyR_ldvec (i := 6) (m' := 119) (q1_c _ HC0.out) F hQ rfl rfl (by kernel_rfl) (by kernel_rfl) (by kernel_rfl) (by kernel_rfl) (by kernel_rfl) rfl (by kernel_rfl) ?_
 refine zac (i := 3) (m' := 127) rfl rfl ((vRedOr_any Aa la ca sa _ La.out Ca (by exact (p1_a w35 HC1.out)) Ya.out (HT.out.kept (Below.drew hU))).mono ?_)
 rintro e w36 ⟨l1, s1, A1, c1, E1, rfl, C1, O1, hb⟩
 refine ⟨_, rfl, hb, ?_⟩
 replace hb : Below w35.heap.size w35 w36 := Below.trans ((Below.refl _ _).drew) hb
 replace HC1 := zH HM1 HC1 hb
 replace TU := hide (One.kept TU.out hb)
 replace BD := zB BD hb
 replace O1 := hide O1.out.rd
 replace hU := zU hU hU.size hb
 clear hb
 have G1 := zGd E1 ((gm_red mOr_3))
 have L1 := zLe G1
 have Y1 := hide G1.by_
 clear G1
 refine zac (i := 7) (m' := 255) rfl rfl ((vRedOr_any Ac lc cc sc _ Lc.out Cc (p1_c w36 HC1.out) Yc.out (HT.out.kept hU)).mono ?_)
 rintro e w37 ⟨l2, s2, A2, c2, E2, rfl, C2, O2, hb⟩
 refine ⟨_, rfl, hb, ?_⟩
 replace HC1 := zH HM1 HC1 hb
 replace O1 := zQ O1 hb
 replace TU := hide (One.kept TU.out hb)
 replace BD := zB BD hb
 replace O2 := hide O2.out.rd
 replace hU := zU hU hU.size hb
 clear hb
 have G2 := zGd E2 ((gm_red mOr_3))
 have L2 := zLe G2
 have Y2 := hide G2.by_
 clear G2
 refine zac (i := 8) (m' := 511) rfl rfl ((below_yes A1 A2 l1 l2 c1 c2 s1 s2 _ L1.out L2.out O1.out O2.out Y1.out Y2.out (HT.out.kept hU) (by rw [E1.out, E2.out]; exact rf_redor RA.out)).mono ?_)
 rintro e w38 ⟨rfl, hb⟩
 refine ⟨_, rfl, hb, ?_⟩
 replace HC1 := zH HM1 HC1 hb
 replace O1 := zQ O1 hb
 replace O2 := zQ O2 hb
 replace TU := hide (One.kept TU.out hb)
 replace BD := zB BD hb
 replace hU := zU hU hU.size hb
 clear hb O1 C1 L1 Y1
 clear O2 C2 L2 Y2
 refine anyR_e (anyR_last (i := 9) (m' := 1023) (v := .bool false) rfl rfl (by kernel_rfl) (by kernel_rfl) (by kernel_rfl) (by kernel_rfl) (by kernel_rfl) (anyE_done (by kernel_rfl) ?_))
 clear F hQ HC0 BD0
 refine then_normal (zif (wp_skip (block_normal (then_normal (reg_lit (z2 [(48, .int .i64 5), (62, .int .i64 5)] (wpl_end ?_)))))))
 refine then_normal ?_
 clear BD
 refine zk [(6, pt Np 0), (7, pt Na 0), (8, pt Nb 0), (9, pt Nq 0), (10, pt Nc 0), (11, pt Nd 0), (46, .slice (some ⟨NU, 0, none⟩) 9 9), (47, .int .i64 9), (48, .int .i64 5)] (fun X => ?_)
 refine round_s (zs (z1 [(49, z_t)] (ze (wp_seq (zit ?_)))))
 refine wp_skip (then_normal (wp_seq (wp_block (zs (z1 [(50, pt NU 10)] (wpl_ldone TU.out 5 (by decide) rfl (by kernel_rfl) rfl (by kernel_rfl) ?_))))))
 refine wpl_made1 17 68 rfl rfl rfl rfl rfl rfl (fun _ => by kernel_rfl) (fun _ => by kernel_rfl) ?_
 intro w39 ND BD hb
 replace BD := hide BD
 replace HC1 := zH HM1 HC1 hb
 replace TU := hide (One.kept TU.out hb)
 replace hU := zU hU hU.size hb
 clear hb
 refine ze (wp_seq (region_R (n := 9) (N := 10) (by kernel_rfl) (by kernel_rfl) (by kernel_rfl) (by kernel_rfl) (by kernel_rfl) (by kernel_rfl) (fun _ _ _ _ _ h => h) ?_))
 intro F hQ
 have HC0 := HC1
 have BD0 := BD
 refine zav (i := 0) (m' := 1) (v := .pointer (some ⟨ND, 1, none⟩)) F hQ rfl rfl ?_
 refine anyR_val (i := 1) (m' := 3) (v := .func (.func 68) #[] #[]) F hQ rfl rfl (by kernel_rfl) (by kernel_rfl) (by kernel_rfl) (by kernel_rfl) (by kernel_rfl) (fun w' hb => run_ldfn1 rfl (by kernel_rfl) (BD0.out.kept hb)) ?_
 refine anyR_ldvec (i := 2) (m' := 7) (q1_a _ HC0.out) F hQ rfl rfl (by kernel_rfl) (by kernel_rfl) (by kernel_rfl) (by kernel_rfl) (by kernel_rfl) rfl (by kernel_rfl) (zav (i := 4) (m' := 23) (v := .pointer (some ⟨ND, 1, none⟩)) F hQ rfl rfl ?_)
 refine anyR_val (i := 5) (m' := 55) (v := .func (.func 68) #[] #[]) F hQ rfl rfl (by kernel_rfl) (by kernel_rfl) (by kernel_rfl) (by kernel_rfl) (by kernel_rfl) (fun w' hb => run_ldfn1 rfl (by kernel_rfl) (BD0.out.kept hb)) ?_
 refine anyR_ldvec (i := 6) (m' := 119) (q1_c _ HC0.out) F hQ rfl rfl (by kernel_rfl) (by kernel_rfl) (by kernel_rfl) (by kernel_rfl) (by kernel_rfl) rfl (by kernel_rfl) ?_
 refine zac (i := 3) (m' := 127) rfl rfl ((vRedXor_any Aa la ca sa _ La.out Ca (by exact (p1_a w39 HC1.out)) Ya.out (HT.out.kept (Below.drew hU))).mono ?_)
 rintro e w40 ⟨l1, s1, A1, c1, E1, rfl, C1, O1, hb⟩
 refine ⟨_, rfl, hb, ?_⟩
 replace hb : Below w39.heap.size w39 w40 := Below.trans ((Below.refl _ _).drew) hb
 replace HC1 := zH HM1 HC1 hb
 replace TU := hide (One.kept TU.out hb)
 replace BD := zB BD hb
 replace O1 := hide O1.out.rd
 replace hU := zU hU hU.size hb
 clear hb
 have G1 := zGd E1 ((gm_red mXor_3))
 have L1 := zLe G1
 have Y1 := hide G1.by_
 clear G1
 refine zac (i := 7) (m' := 255) rfl rfl ((vRedXor_any Ac lc cc sc _ Lc.out Cc (p1_c w40 HC1.out) Yc.out (HT.out.kept hU)).mono ?_)
 rintro e w41 ⟨l2, s2, A2, c2, E2, rfl, C2, O2, hb⟩
 refine ⟨_, rfl, hb, ?_⟩
 replace HC1 := zH HM1 HC1 hb
 replace O1 := zQ O1 hb
 replace TU := hide (One.kept TU.out hb)
 replace BD := zB BD hb
 replace O2 := hide O2.out.rd
 replace hU := zU hU hU.size hb
 clear hb
 have G2 := zGd E2 ((gm_red mXor_3))
 have L2 := zLe G2
 have Y2 := hide G2.by_
 clear G2
 refine zac (i := 8) (m' := 511) rfl rfl ((below_yes A1 A2 l1 l2 c1 c2 s1 s2 _ L1.out L2.out O1.out O2.out Y1.out Y2.out (HT.out.kept hU) (by rw [E1.out, E2.out]; exact rf_redxor RA.out)).mono ?_)
 rintro e w42 ⟨rfl, hb⟩
 refine ⟨_, rfl, hb, ?_⟩
 replace HC1 := zH HM1 HC1 hb
 replace O1 := zQ O1 hb
 replace O2 := zQ O2 hb
 replace TU := hide (One.kept TU.out hb)
 replace BD := zB BD hb
 replace hU := zU hU hU.size hb
 clear hb O1 C1 L1 Y1
 clear O2 C2 L2 Y2
 refine anyR_e (anyR_last (i := 9) (m' := 1023) (v := .bool false) rfl rfl (by kernel_rfl) (by kernel_rfl) (by kernel_rfl) (by kernel_rfl) (by kernel_rfl) (anyE_done (by kernel_rfl) ?_))
 clear F hQ HC0 BD0
 refine then_normal (zif (wp_skip (block_normal (then_normal (reg_lit (z2 [(48, .int .i64 6), (62, .int .i64 6)] (wpl_end ?_)))))))
 refine then_normal ?_
 clear BD
 refine zk [(6, pt Np 0), (7, pt Na 0), (8, pt Nb 0), (9, pt Nq 0), (10, pt Nc 0), (11, pt Nd 0), (46, .slice (some ⟨NU, 0, none⟩) 9 9), (47, .int .i64 9), (48, .int .i64 6)] (fun X => ?_)
 refine round_s (zs (z1 [(49, z_t)] (ze (wp_seq (zit ?_)))))
 refine wp_skip (then_normal (wp_seq (wp_block (zs (z1 [(50, pt NU 12)] (wpl_ldone TU.out 6 (by decide) rfl (by kernel_rfl) rfl (by kernel_rfl) ?_))))))
 refine wpl_made1 18 69 rfl rfl rfl rfl rfl rfl (fun _ => by kernel_rfl) (fun _ => by kernel_rfl) ?_
 intro w43 ND BD hb
 replace BD := hide BD
 replace HC1 := zH HM1 HC1 hb
 replace TU := hide (One.kept TU.out hb)
 replace hU := zU hU hU.size hb
 clear hb
 refine ze (wp_seq (region_R (n := 9) (N := 10) (by kernel_rfl) (by kernel_rfl) (by kernel_rfl) (by kernel_rfl) (by kernel_rfl) (by kernel_rfl) (fun _ _ _ _ _ h => h) ?_))
 intro F hQ
 have HC0 := HC1
 have BD0 := BD
 refine zav (i := 0) (m' := 1) (v := .pointer (some ⟨ND, 1, none⟩)) F hQ rfl rfl ?_
 refine anyR_val (i := 1) (m' := 3) (v := .func (.func 69) #[] #[]) F hQ rfl rfl (by kernel_rfl) (by kernel_rfl) (by kernel_rfl) (by kernel_rfl) (by kernel_rfl) (fun w' hb => run_ldfn1 rfl (by kernel_rfl) (BD0.out.kept hb)) ?_
 refine anyR_ldvec (i := 2) (m' := 7) (q1_a _ HC0.out) F hQ rfl rfl (by kernel_rfl) (by kernel_rfl) (by kernel_rfl) (by kernel_rfl) (by kernel_rfl) rfl (by kernel_rfl) (zav (i := 4) (m' := 23) (v := .pointer (some ⟨ND, 1, none⟩)) F hQ rfl rfl ?_)
 refine anyR_val (i := 5) (m' := 55) (v := .func (.func 69) #[] #[]) F hQ rfl rfl (by kernel_rfl) (by kernel_rfl) (by kernel_rfl) (by kernel_rfl) (by kernel_rfl) (fun w' hb => run_ldfn1 rfl (by kernel_rfl) (BD0.out.kept hb)) ?_
 refine anyR_ldvec (i := 6) (m' := 119) (q1_c _ HC0.out) F hQ rfl rfl (by kernel_rfl) (by kernel_rfl) (by kernel_rfl) (by kernel_rfl) (by kernel_rfl) rfl (by kernel_rfl) ?_
 refine zac (i := 3) (m' := 127) rfl rfl ((vRedNand_any Aa la ca sa _ La.out Ca (by exact (p1_a w43 HC1.out)) Ya.out (HT.out.kept (Below.drew hU))).mono ?_)
 rintro e w44 ⟨l1, s1, A1, c1, E1, rfl, C1, O1, hb⟩
 refine ⟨_, rfl, hb, ?_⟩
 replace hb : Below w43.heap.size w43 w44 := Below.trans ((Below.refl _ _).drew) hb
 replace HC1 := zH HM1 HC1 hb
 replace TU := hide (One.kept TU.out hb)
 replace BD := zB BD hb
 replace O1 := hide O1.out.rd
 replace hU := zU hU hU.size hb
 clear hb
 have G1 := zGd E1 ((gm_3 (mNot_3 _)))
 have L1 := zLe G1
 have Y1 := hide G1.by_
 clear G1
 refine zac (i := 7) (m' := 255) rfl rfl ((vRedNand_any Ac lc cc sc _ Lc.out Cc (p1_c w44 HC1.out) Yc.out (HT.out.kept hU)).mono ?_)
 rintro e w45 ⟨l2, s2, A2, c2, E2, rfl, C2, O2, hb⟩
 refine ⟨_, rfl, hb, ?_⟩
 replace HC1 := zH HM1 HC1 hb
 replace O1 := zQ O1 hb
 replace TU := hide (One.kept TU.out hb)
 replace BD := zB BD hb
 replace O2 := hide O2.out.rd
 replace hU := zU hU hU.size hb
 clear hb
 have G2 := zGd E2 ((gm_3 (mNot_3 _)))
 have L2 := zLe G2
 have Y2 := hide G2.by_
 clear G2
 refine zac (i := 8) (m' := 511) rfl rfl ((below_yes A1 A2 l1 l2 c1 c2 s1 s2 _ L1.out L2.out O1.out O2.out Y1.out Y2.out (HT.out.kept hU) (by rw [E1.out, E2.out]; exact rf_rednand RA.out)).mono ?_)
 rintro e w46 ⟨rfl, hb⟩
 refine ⟨_, rfl, hb, ?_⟩
 replace HC1 := zH HM1 HC1 hb
 replace O1 := zQ O1 hb
 replace O2 := zQ O2 hb
 replace TU := hide (One.kept TU.out hb)
 replace BD := zB BD hb
 replace hU := zU hU hU.size hb
 clear hb O1 C1 L1 Y1
 clear O2 C2 L2 Y2
 refine anyR_e (anyR_last (i := 9) (m' := 1023) (v := .bool false) rfl rfl (by kernel_rfl) (by kernel_rfl) (by kernel_rfl) (by kernel_rfl) (by kernel_rfl) (anyE_done (by kernel_rfl) ?_))
 clear F hQ HC0 BD0
 refine then_normal (zif (wp_skip (block_normal (then_normal (reg_lit (z2 [(48, .int .i64 7), (62, .int .i64 7)] (wpl_end ?_)))))))
 refine then_normal ?_
 clear BD
 refine zk [(6, pt Np 0), (7, pt Na 0), (8, pt Nb 0), (9, pt Nq 0), (10, pt Nc 0), (11, pt Nd 0), (46, .slice (some ⟨NU, 0, none⟩) 9 9), (47, .int .i64 9), (48, .int .i64 7)] (fun X => ?_)
 refine round_s (zs (z1 [(49, z_t)] (ze (wp_seq (zit ?_)))))
 refine wp_skip (then_normal (wp_seq (wp_block (zs (z1 [(50, pt NU 14)] (wpl_ldone TU.out 7 (by decide) rfl (by kernel_rfl) rfl (by kernel_rfl) ?_))))))
 refine wpl_made1 19 70 rfl rfl rfl rfl rfl rfl (fun _ => by kernel_rfl) (fun _ => by kernel_rfl) ?_
 intro w47 ND BD hb
 replace BD := hide BD
 replace HC1 := zH HM1 HC1 hb
 replace TU := hide (One.kept TU.out hb)
 replace hU := zU hU hU.size hb
 clear hb
 refine ze (wp_seq (region_R (n := 9) (N := 10) (by kernel_rfl) (by kernel_rfl) (by kernel_rfl) (by kernel_rfl) (by kernel_rfl) (by kernel_rfl) (fun _ _ _ _ _ h => h) ?_))
 intro F hQ
 have HC0 := HC1
 have BD0 := BD
 refine zav (i := 0) (m' := 1) (v := .pointer (some ⟨ND, 1, none⟩)) F hQ rfl rfl ?_
 refine anyR_val (i := 1) (m' := 3) (v := .func (.func 70) #[] #[]) F hQ rfl rfl (by kernel_rfl) (by kernel_rfl) (by kernel_rfl) (by kernel_rfl) (by kernel_rfl) (fun w' hb => run_ldfn1 rfl (by kernel_rfl) (BD0.out.kept hb)) ?_
 refine anyR_ldvec (i := 2) (m' := 7) (q1_a _ HC0.out) F hQ rfl rfl (by kernel_rfl) (by kernel_rfl) (by kernel_rfl) (by kernel_rfl) (by kernel_rfl) rfl (by kernel_rfl) (zav (i := 4) (m' := 23) (v := .pointer (some ⟨ND, 1, none⟩)) F hQ rfl rfl ?_)
 refine anyR_val (i := 5) (m' := 55) (v := .func (.func 70) #[] #[]) F hQ rfl rfl (by kernel_rfl) (by kernel_rfl) (by kernel_rfl) (by kernel_rfl) (by kernel_rfl) (fun w' hb => run_ldfn1 rfl (by kernel_rfl) (BD0.out.kept hb)) ?_
 refine anyR_ldvec (i := 6) (m' := 119) (q1_c _ HC0.out) F hQ rfl rfl (by kernel_rfl) (by kernel_rfl) (by kernel_rfl) (by kernel_rfl) (by kernel_rfl) rfl (by kernel_rfl) ?_
 refine zac (i := 3) (m' := 127) rfl rfl ((vRedNor_any Aa la ca sa _ La.out Ca (by exact (p1_a w47 HC1.out)) Ya.out (HT.out.kept (Below.drew hU))).mono ?_)
 rintro e w48 ⟨l1, s1, A1, c1, E1, rfl, C1, O1, hb⟩
 refine ⟨_, rfl, hb, ?_⟩
 replace hb : Below w47.heap.size w47 w48 := Below.trans ((Below.refl _ _).drew) hb
 replace HC1 := zH HM1 HC1 hb
 replace TU := hide (One.kept TU.out hb)
 replace BD := zB BD hb
 replace O1 := hide O1.out.rd
 replace hU := zU hU hU.size hb
 clear hb
 have G1 := zGd E1 ((gm_3 (mNot_3 _)))
 have L1 := zLe G1
 have Y1 := hide G1.by_
 clear G1
 refine zac (i := 7) (m' := 255) rfl rfl ((vRedNor_any Ac lc cc sc _ Lc.out Cc (p1_c w48 HC1.out) Yc.out (HT.out.kept hU)).mono ?_)
 rintro e w49 ⟨l2, s2, A2, c2, E2, rfl, C2, O2, hb⟩
 refine ⟨_, rfl, hb, ?_⟩
 replace HC1 := zH HM1 HC1 hb
 replace O1 := zQ O1 hb
 replace TU := hide (One.kept TU.out hb)
 replace BD := zB BD hb
 replace O2 := hide O2.out.rd
 replace hU := zU hU hU.size hb
 clear hb
 have G2 := zGd E2 ((gm_3 (mNot_3 _)))
 have L2 := zLe G2
 have Y2 := hide G2.by_
 clear G2
 refine zac (i := 8) (m' := 511) rfl rfl ((below_yes A1 A2 l1 l2 c1 c2 s1 s2 _ L1.out L2.out O1.out O2.out Y1.out Y2.out (HT.out.kept hU) (by rw [E1.out, E2.out]; exact rf_rednor RA.out)).mono ?_)
 rintro e w50 ⟨rfl, hb⟩
 refine ⟨_, rfl, hb, ?_⟩
 replace HC1 := zH HM1 HC1 hb
 replace O1 := zQ O1 hb
 replace O2 := zQ O2 hb
 replace TU := hide (One.kept TU.out hb)
 replace BD := zB BD hb
 replace hU := zU hU hU.size hb
 clear hb O1 C1 L1 Y1
 clear O2 C2 L2 Y2
 refine anyR_e (anyR_last (i := 9) (m' := 1023) (v := .bool false) rfl rfl (by kernel_rfl) (by kernel_rfl) (by kernel_rfl) (by kernel_rfl) (by kernel_rfl) (anyE_done (by kernel_rfl) ?_))
 clear F hQ HC0 BD0
 refine then_normal (zif (wp_skip (block_normal (then_normal (reg_lit (z2 [(48, .int .i64 8), (62, .int .i64 8)] (wpl_end ?_)))))))
 refine then_normal ?_
 clear BD
 refine zk [(6, pt Np 0), (7, pt Na 0), (8, pt Nb 0), (9, pt Nq 0), (10, pt Nc 0), (11, pt Nd 0), (46, .slice (some ⟨NU, 0, none⟩) 9 9), (47, .int .i64 9), (48, .int .i64 8)] (fun X => ?_)
 refine round_s (zs (z1 [(49, z_t)] (ze (wp_seq (zit ?_)))))
 refine wp_skip (then_normal (wp_seq (wp_block (zs (z1 [(50, pt NU 16)] (wpl_ldone TU.out 8 (by decide) rfl (by kernel_rfl) rfl (by kernel_rfl) ?_))))))
 refine wpl_made1 20 71 rfl rfl rfl rfl rfl rfl (fun _ => by kernel_rfl) (fun _ => by kernel_rfl) ?_
 intro w51 ND BD hb
 replace BD := hide BD
 replace HC1 := zH HM1 HC1 hb
 replace TU := hide (One.kept TU.out hb)
 replace hU := zU hU hU.size hb
 clear hb
 refine ze (wp_seq (region_R (n := 9) (N := 10) (by kernel_rfl) (by kernel_rfl) (by kernel_rfl) (by kernel_rfl) (by kernel_rfl) (by kernel_rfl) (fun _ _ _ _ _ h => h) ?_))
 intro F hQ
 have HC0 := HC1
 have BD0 := BD
 refine zav (i := 0) (m' := 1) (v := .pointer (some ⟨ND, 1, none⟩)) F hQ rfl rfl ?_
 refine anyR_val (i := 1) (m' := 3) (v := .func (.func 71) #[] #[]) F hQ rfl rfl (by kernel_rfl) (by kernel_rfl) (by kernel_rfl) (by kernel_rfl) (by kernel_rfl) (fun w' hb => run_ldfn1 rfl (by kernel_rfl) (BD0.out.kept hb)) ?_
 refine anyR_ldvec (i := 2) (m' := 7) (q1_a _ HC0.out) F hQ rfl rfl (by kernel_rfl) (by kernel_rfl) (by kernel_rfl) (by kernel_rfl) (by kernel_rfl) rfl (by kernel_rfl) (zav (i := 4) (m' := 23) (v := .pointer (some ⟨ND, 1, none⟩)) F hQ rfl rfl ?_)
 refine anyR_val (i := 5) (m' := 55) (v := .func (.func 71) #[] #[]) F hQ rfl rfl (by kernel_rfl) (by kernel_rfl) (by kernel_rfl) (by kernel_rfl) (by kernel_rfl) (fun w' hb => run_ldfn1 rfl (by kernel_rfl) (BD0.out.kept hb)) ?_
 refine anyR_ldvec (i := 6) (m' := 119) (q1_c _ HC0.out) F hQ rfl rfl (by kernel_rfl) (by kernel_rfl) (by kernel_rfl) (by kernel_rfl) (by kernel_rfl) rfl (by kernel_rfl) ?_
 refine zac (i := 3) (m' := 127) rfl rfl ((vRedXnor_any Aa la ca sa _ La.out Ca (by exact (p1_a w51 HC1.out)) Ya.out (HT.out.kept (Below.drew hU))).mono ?_)
 rintro e w52 ⟨l1, s1, A1, c1, E1, rfl, C1, O1, hb⟩
 refine ⟨_, rfl, hb, ?_⟩
 replace hb : Below w51.heap.size w51 w52 := Below.trans ((Below.refl _ _).drew) hb
 replace HC1 := zH HM1 HC1 hb
 replace TU := hide (One.kept TU.out hb)
 replace BD := zB BD hb
 replace O1 := hide O1.out.rd
 replace hU := zU hU hU.size hb
 clear hb
 have G1 := zGd E1 ((gm_3 (mNot_3 _)))
 have L1 := zLe G1
 have Y1 := hide G1.by_
 clear G1
 refine zac (i := 7) (m' := 255) rfl rfl ((vRedXnor_any Ac lc cc sc _ Lc.out Cc (p1_c w52 HC1.out) Yc.out (HT.out.kept hU)).mono ?_)
 rintro e w53 ⟨l2, s2, A2, c2, E2, rfl, C2, O2, hb⟩
 refine ⟨_, rfl, hb, ?_⟩
 replace HC1 := zH HM1 HC1 hb
 replace O1 := zQ O1 hb
 replace TU := hide (One.kept TU.out hb)
 replace BD := zB BD hb
 replace O2 := hide O2.out.rd
 replace hU := zU hU hU.size hb
 clear hb
 have G2 := zGd E2 ((gm_3 (mNot_3 _)))
 have L2 := zLe G2
 have Y2 := hide G2.by_
 clear G2
 refine zac (i := 8) (m' := 511) rfl rfl ((below_yes A1 A2 l1 l2 c1 c2 s1 s2 _ L1.out L2.out O1.out O2.out Y1.out Y2.out (HT.out.kept hU) (by rw [E1.out, E2.out]; exact rf_redxnor RA.out)).mono ?_)
 rintro e w54 ⟨rfl, hb⟩
 refine ⟨_, rfl, hb, ?_⟩
 replace HC1 := zH HM1 HC1 hb
 replace O1 := zQ O1 hb
 replace O2 := zQ O2 hb
 replace TU := hide (One.kept TU.out hb)
 replace BD := zB BD hb
 replace hU := zU hU hU.size hb
 clear hb O1 C1 L1 Y1
 clear O2 C2 L2 Y2
 refine anyR_e (anyR_last (i := 9) (m' := 1023) (v := .bool false) rfl rfl (by kernel_rfl) (by kernel_rfl) (by kernel_rfl) (by kernel_rfl) (by kernel_rfl) (anyE_done (by kernel_rfl) ?_))
 clear F hQ HC0 BD0
 refine then_normal (zif (wp_skip (block_normal (then_normal (reg_lit (z2 [(48, .int .i64 9), (62, .int .i64 9)] (wpl_end ?_)))))))
 refine then_normal ?_
 clear BD
 refine zk [(6, pt Np 0), (7, pt Na 0), (8, pt Nb 0), (9, pt Nq 0), (10, pt Nc 0), (11, pt Nd 0), (46, .slice (some ⟨NU, 0, none⟩) 9 9), (47, .int .i64 9), (48, .int .i64 9)] (fun X => ?_)
 refine round_s (zs (z1 [(49, z_f)] (ze (wp_seq (zif ?_)))))
 refine wp_exit (then_exit (then_exit (exit_here (then_normal (wp_seq (wp_seq ?_))))))
 clear TU
 refine reg_lit ?_
 refine zc rfl ((vtwos_any _).mono ?_)
 rintro e w55 ⟨NV, rfl, TV, hb⟩
 refine ⟨_, rfl, ?_⟩
 replace HC1 := zH HM1 HC1 hb
 replace hU := zU hU hU.size hb
 clear hb
 replace TV := hide TV
 refine z2 [(65, .int .i64 0), (64, .int .i64 24)] (ze (wp_block (loop_r 25 (round_s (zs ?_)))))
 refine z1 [(66, z_t)] (ze (wp_seq (zit (wp_skip (then_normal (wp_seq ?_))))))
 refine wp_block (zs (z1 [(67, pt NV 0)] (zw TV.out 0 (by decide) rfl rfl (zm2 37 88 rfl rfl rfl ?_))))
 intro w56 ND BD hb
 replace BD := hide BD
 replace HC1 := zH HM1 HC1 hb
 replace TV := hide (Two.kept TV.out hb)
 replace hU := zU hU hU.size hb
 clear hb
 refine ze (wp_seq (region_R (n := 21) (N := 22) (by kernel_rfl) (by kernel_rfl) (by kernel_rfl) (by kernel_rfl) (by kernel_rfl) (by kernel_rfl) (fun _ _ _ _ _ h => h) ?_))
 intro F hQ
 have HC0 := HC1
 have BD0 := BD
 refine zav (i := 0) (m' := 1) (v := .pointer (some ⟨ND, 0, none⟩)) F hQ rfl rfl ?_
 refine anyR_val (i := 1) (m' := 3) (v := .int .u8 37) F hQ rfl rfl (by kernel_rfl) (by kernel_rfl) (by kernel_rfl) (by kernel_rfl) (by kernel_rfl) (fun w' hb => run_ldop rfl (by kernel_rfl) (BD0.out.kept hb)) ?_
 refine zav (i := 2) (m' := 7) (v := .bool true) F hQ rfl rfl (zav (i := 3) (m' := 15) (v := .bool true) F hQ rfl rfl (zav (i := 4) (m' := 31) (v := .pointer (some ⟨ND, 0, none⟩)) F hQ rfl rfl ?_))
 refine anyR_val (i := 5) (m' := 63) (v := .int .u8 37) F hQ rfl rfl (by kernel_rfl) (by kernel_rfl) (by kernel_rfl) (by kernel_rfl) (by kernel_rfl) (fun w' hb => run_ldop rfl (by kernel_rfl) (BD0.out.kept hb)) ?_
 refine zav (i := 6) (m' := 127) (v := .bool true) F hQ rfl rfl (zav (i := 7) (m' := 255) (v := .bool true) F hQ rfl rfl (zav (i := 8) (m' := 511) (v := .bool true) F hQ rfl rfl (zav (i := 9) (m' := 1023) (v := .pointer (some ⟨ND, 1, none⟩)) F hQ rfl rfl ?_)))
 refine anyR_val (i := 10) (m' := 2047) (v := .func (.func 88) #[] #[]) F hQ rfl rfl (by kernel_rfl) (by kernel_rfl) (by kernel_rfl) (by kernel_rfl) (by kernel_rfl) (fun w' hb => run_ldfn2 rfl (by kernel_rfl) (BD0.out.kept hb)) ?_
 refine anyR_ldvec (i := 11) (m' := 4095) (q1_a _ HC0.out) F hQ rfl rfl (by kernel_rfl) (by kernel_rfl) (by kernel_rfl) (by kernel_rfl) (by kernel_rfl) rfl (by kernel_rfl) (anyR_ldvec (i := 12) (m' := 8191) (q1_b _ HC0.out) F hQ rfl rfl (by kernel_rfl) (by kernel_rfl) (by kernel_rfl) (by kernel_rfl) (by kernel_rfl) rfl (by kernel_rfl) (zav (i := 14) (m' := 24575) (v := .pointer (some ⟨ND, 1, none⟩)) F hQ rfl rfl ?_))
 refine anyR_val (i := 15) (m' := 57343) (v := .func (.func 88) #[] #[]) F hQ rfl rfl (by kernel_rfl) (by kernel_rfl) (by kernel_rfl) (by kernel_rfl) (by kernel_rfl) (fun w' hb => run_ldfn2 rfl (by kernel_rfl) (BD0.out.kept hb)) ?_
 refine anyR_ldvec (i := 16) (m' := 122879) (q1_c _ HC0.out) F hQ rfl rfl (by kernel_rfl) (by kernel_rfl) (by kernel_rfl) (by kernel_rfl) (by kernel_rfl) rfl (by kernel_rfl) (anyR_ldvec (i := 17) (m' := 253951) (q1_d _ HC0.out) F hQ rfl rfl (by kernel_rfl) (by kernel_rfl) (by kernel_rfl) (by kernel_rfl) (by kernel_rfl) rfl (by kernel_rfl) ?_)
 refine zac (i := 13) (m' := 262143) rfl rfl ((vAnd_any Aa Ab la lb ca cb sa sb _ La.out Lb.out Ca Cb (by exact (p1_a w56 HC1.out)) (by exact (p1_b w56 HC1.out)) Ya.out Yb.out (HT.out.kept (Below.drew hU))).mono ?_)
 rintro e w57 ⟨l1, s1, A1, c1, E1, rfl, C1, O1, hb⟩
 refine ⟨_, rfl, hb, ?_⟩
 replace hb : Below w56.heap.size w56 w57 := Below.trans ((Below.refl _ _).drew) hb
 replace HC1 := zH HM1 HC1 hb
 replace TV := hide (Two.kept TV.out hb)
 replace BD := zB BD hb
 replace O1 := hide O1.out.rd
 replace hU := zU hU hU.size hb
 clear hb
 have G1 := zGd E1 ((gm_btw Ya.out Yb.out mAnd_3))
 have L1 := zLe G1
 have Y1 := hide G1.by_
 clear G1
 refine zac (i := 18) (m' := 524287) rfl rfl ((vAnd_any Ac Ad lc ld cc cd sc sd _ Lc.out Ld.out Cc Cd (p1_c w57 HC1.out) (p1_d w57 HC1.out) Yc.out Yd.out (HT.out.kept hU)).mono ?_)
 rintro e w58 ⟨l2, s2, A2, c2, E2, rfl, C2, O2, hb⟩
 refine ⟨_, rfl, hb, ?_⟩
 replace HC1 := zH HM1 HC1 hb
 replace O1 := zQ O1 hb
 replace TV := hide (Two.kept TV.out hb)
 replace BD := zB BD hb
 replace O2 := hide O2.out.rd
 replace hU := zU hU hU.size hb
 clear hb
 have G2 := zGd E2 ((gm_btw Yc.out Yd.out mAnd_3))
 have L2 := zLe G2
 have Y2 := hide G2.by_
 clear G2
 refine zac (i := 19) (m' := 1048575) rfl rfl ((below_yes A1 A2 l1 l2 c1 c2 s1 s2 _ L1.out L2.out O1.out O2.out Y1.out Y2.out (HT.out.kept hU) (by rw [E1.out, E2.out]; exact rf_and RA.out RB.out)).mono ?_)
 rintro e w59 ⟨rfl, hb⟩
 refine ⟨_, rfl, hb, ?_⟩
 replace HC1 := zH HM1 HC1 hb
 replace O1 := zQ O1 hb
 replace O2 := zQ O2 hb
 replace TV := hide (Two.kept TV.out hb)
 replace BD := zB BD hb
 replace hU := zU hU hU.size hb
 clear hb O1 C1 L1 Y1
 clear O2 C2 L2 Y2
 refine zav (i := 20) (m' := 2097151) (v := .bool false) F hQ rfl rfl (anyR_e (anyR_last (i := 21) (m' := 4194303) (v := .bool false) rfl rfl (by kernel_rfl) (by kernel_rfl) (by kernel_rfl) (by kernel_rfl) (by kernel_rfl) (anyE_done (by kernel_rfl) ?_)))
 clear F hQ HC0 BD0
 refine then_normal (zif (wp_skip (block_normal (then_normal (reg_lit (z2 [(65, .int .i64 1), (91, .int .i64 1)] (wpl_end ?_)))))))
 refine then_normal ?_
 clear BD
 refine zk [(6, pt Np 0), (7, pt Na 0), (8, pt Nb 0), (9, pt Nq 0), (10, pt Nc 0), (11, pt Nd 0), (63, .slice (some ⟨NV, 0, none⟩) 24 24), (64, .int .i64 24), (65, .int .i64 1)] (fun X => ?_)
 refine round_s (zs (z1 [(66, z_t)] (ze (wp_seq (zit ?_)))))
 refine wp_skip (then_normal (wp_seq (wp_block (zs (z1 [(67, pt NV 2)] (zw TV.out 1 (by decide) rfl rfl ?_))))))
 refine zm2 38 57 rfl rfl rfl ?_
 intro w60 ND BD hb
 replace BD := hide BD
 replace HC1 := zH HM1 HC1 hb
 replace TV := hide (Two.kept TV.out hb)
 replace hU := zU hU hU.size hb
 clear hb
 refine ze (wp_seq (region_R (n := 21) (N := 22) (by kernel_rfl) (by kernel_rfl) (by kernel_rfl) (by kernel_rfl) (by kernel_rfl) (by kernel_rfl) (fun _ _ _ _ _ h => h) ?_))
 intro F hQ
 have HC0 := HC1
 have BD0 := BD
 refine zav (i := 0) (m' := 1) (v := .pointer (some ⟨ND, 0, none⟩)) F hQ rfl rfl ?_
 refine anyR_val (i := 1) (m' := 3) (v := .int .u8 38) F hQ rfl rfl (by kernel_rfl) (by kernel_rfl) (by kernel_rfl) (by kernel_rfl) (by kernel_rfl) (fun w' hb => run_ldop rfl (by kernel_rfl) (BD0.out.kept hb)) ?_
 refine zav (i := 2) (m' := 7) (v := .bool true) F hQ rfl rfl (zav (i := 3) (m' := 15) (v := .bool true) F hQ rfl rfl (zav (i := 4) (m' := 31) (v := .pointer (some ⟨ND, 0, none⟩)) F hQ rfl rfl ?_))
 refine anyR_val (i := 5) (m' := 63) (v := .int .u8 38) F hQ rfl rfl (by kernel_rfl) (by kernel_rfl) (by kernel_rfl) (by kernel_rfl) (by kernel_rfl) (fun w' hb => run_ldop rfl (by kernel_rfl) (BD0.out.kept hb)) ?_
 refine zav (i := 6) (m' := 127) (v := .bool true) F hQ rfl rfl (zav (i := 7) (m' := 255) (v := .bool true) F hQ rfl rfl (zav (i := 8) (m' := 511) (v := .bool true) F hQ rfl rfl (zav (i := 9) (m' := 1023) (v := .pointer (some ⟨ND, 1, none⟩)) F hQ rfl rfl ?_)))
 refine anyR_val (i := 10) (m' := 2047) (v := .func (.func 57) #[] #[]) F hQ rfl rfl (by kernel_rfl) (by kernel_rfl) (by kernel_rfl) (by kernel_rfl) (by kernel_rfl) (fun w' hb => run_ldfn2 rfl (by kernel_rfl) (BD0.out.kept hb)) ?_
 refine anyR_ldvec (i := 11) (m' := 4095) (q1_a _ HC0.out) F hQ rfl rfl (by kernel_rfl) (by kernel_rfl) (by kernel_rfl) (by kernel_rfl) (by kernel_rfl) rfl (by kernel_rfl) (anyR_ldvec (i := 12) (m' := 8191) (q1_b _ HC0.out) F hQ rfl rfl (by kernel_rfl) (by kernel_rfl) (by kernel_rfl) (by kernel_rfl) (by kernel_rfl) rfl (by kernel_rfl) (zav (i := 14) (m' := 24575) (v := .pointer (some ⟨ND, 1, none⟩)) F hQ rfl rfl ?_))
 refine anyR_val (i := 15) (m' := 57343) (v := .func (.func 57) #[] #[]) F hQ rfl rfl (by kernel_rfl) (by kernel_rfl) (by kernel_rfl) (by kernel_rfl) (by kernel_rfl) (fun w' hb => run_ldfn2 rfl (by kernel_rfl) (BD0.out.kept hb)) ?_
 refine anyR_ldvec (i := 16) (m' := 122879) (q1_c _ HC0.out) F hQ rfl rfl (by kernel_rfl) (by kernel_rfl) (by kernel_rfl) (by kernel_rfl) (by kernel_rfl) rfl (by kernel_rfl) (anyR_ldvec (i := 17) (m' := 253951) (q1_d _ HC0.out) F hQ rfl rfl (by kernel_rfl) (by kernel_rfl) (by kernel_rfl) (by kernel_rfl) (by kernel_rfl) rfl (by kernel_rfl) ?_)
 refine zac (i := 13) (m' := 262143) rfl rfl ((vOr_any Aa Ab la lb ca cb sa sb _ La.out Lb.out Ca Cb (by exact (p1_a w60 HC1.out)) (by exact (p1_b w60 HC1.out)) Ya.out Yb.out (HT.out.kept (Below.drew hU))).mono ?_)
 rintro e w61 ⟨l1, s1, A1, c1, E1, rfl, C1, O1, hb⟩
 refine ⟨_, rfl, hb, ?_⟩
 replace hb : Below w60.heap.size w60 w61 := Below.trans ((Below.refl _ _).drew) hb
 replace HC1 := zH HM1 HC1 hb
 replace TV := hide (Two.kept TV.out hb)
 replace BD := zB BD hb
 replace O1 := hide O1.out.rd
 replace hU := zU hU hU.size hb
 clear hb
 have G1 := zGd E1 ((gm_btw Ya.out Yb.out mOr_3))
 have L1 := zLe G1
 have Y1 := hide G1.by_
 clear G1
 refine zac (i := 18) (m' := 524287) rfl rfl ((vOr_any Ac Ad lc ld cc cd sc sd _ Lc.out Ld.out Cc Cd (p1_c w61 HC1.out) (p1_d w61 HC1.out) Yc.out Yd.out (HT.out.kept hU)).mono ?_)
 rintro e w62 ⟨l2, s2, A2, c2, E2, rfl, C2, O2, hb⟩
 refine ⟨_, rfl, hb, ?_⟩
 replace HC1 := zH HM1 HC1 hb
 replace O1 := zQ O1 hb
 replace TV := hide (Two.kept TV.out hb)
 replace BD := zB BD hb
 replace O2 := hide O2.out.rd
 replace hU := zU hU hU.size hb
 clear hb
 have G2 := zGd E2 ((gm_btw Yc.out Yd.out mOr_3))
 have L2 := zLe G2
 have Y2 := hide G2.by_
 clear G2
 refine zac (i := 19) (m' := 1048575) rfl rfl ((below_yes A1 A2 l1 l2 c1 c2 s1 s2 _ L1.out L2.out O1.out O2.out Y1.out Y2.out (HT.out.kept hU) (by rw [E1.out, E2.out]; exact rf_or RA.out RB.out)).mono ?_)
 rintro e w63 ⟨rfl, hb⟩
 refine ⟨_, rfl, hb, ?_⟩
 replace HC1 := zH HM1 HC1 hb
 replace O1 := zQ O1 hb
 replace O2 := zQ O2 hb
 replace TV := hide (Two.kept TV.out hb)
 replace BD := zB BD hb
 replace hU := zU hU hU.size hb
 clear hb O1 C1 L1 Y1
 clear O2 C2 L2 Y2
 refine zav (i := 20) (m' := 2097151) (v := .bool false) F hQ rfl rfl (anyR_e (anyR_last (i := 21) (m' := 4194303) (v := .bool false) rfl rfl (by kernel_rfl) (by kernel_rfl) (by kernel_rfl) (by kernel_rfl) (by kernel_rfl) (anyE_done (by kernel_rfl) ?_)))
 clear F hQ HC0 BD0
 refine then_normal (zif (wp_skip (block_normal (then_normal (reg_lit (z2 [(65, .int .i64 2), (91, .int .i64 2)] (wpl_end ?_)))))))
 refine then_normal ?_
 clear BD
 refine zk [(6, pt Np 0), (7, pt Na 0), (8, pt Nb 0), (9, pt Nq 0), (10, pt Nc 0), (11, pt Nd 0), (63, .slice (some ⟨NV, 0, none⟩) 24 24), (64, .int .i64 24), (65, .int .i64 2)] (fun X => ?_)
 refine round_s (zs (z1 [(66, z_t)] (ze (wp_seq (zit ?_)))))
 refine wp_skip (then_normal (wp_seq (wp_block (zs (z1 [(67, pt NV 4)] (zw TV.out 2 (by decide) rfl rfl ?_))))))
 refine zm2 39 89 rfl rfl rfl ?_
 intro w64 ND BD hb
 replace BD := hide BD
 replace HC1 := zH HM1 HC1 hb
 replace TV := hide (Two.kept TV.out hb)
 replace hU := zU hU hU.size hb
 clear hb
 refine ze (wp_seq (region_R (n := 21) (N := 22) (by kernel_rfl) (by kernel_rfl) (by kernel_rfl) (by kernel_rfl) (by kernel_rfl) (by kernel_rfl) (fun _ _ _ _ _ h => h) ?_))
 intro F hQ
 have HC0 := HC1
 have BD0 := BD
 refine zav (i := 0) (m' := 1) (v := .pointer (some ⟨ND, 0, none⟩)) F hQ rfl rfl ?_
 refine anyR_val (i := 1) (m' := 3) (v := .int .u8 39) F hQ rfl rfl (by kernel_rfl) (by kernel_rfl) (by kernel_rfl) (by kernel_rfl) (by kernel_rfl) (fun w' hb => run_ldop rfl (by kernel_rfl) (BD0.out.kept hb)) ?_
 refine zav (i := 2) (m' := 7) (v := .bool true) F hQ rfl rfl (zav (i := 3) (m' := 15) (v := .bool true) F hQ rfl rfl (zav (i := 4) (m' := 31) (v := .pointer (some ⟨ND, 0, none⟩)) F hQ rfl rfl ?_))
 refine anyR_val (i := 5) (m' := 63) (v := .int .u8 39) F hQ rfl rfl (by kernel_rfl) (by kernel_rfl) (by kernel_rfl) (by kernel_rfl) (by kernel_rfl) (fun w' hb => run_ldop rfl (by kernel_rfl) (BD0.out.kept hb)) ?_
 refine zav (i := 6) (m' := 127) (v := .bool true) F hQ rfl rfl (zav (i := 7) (m' := 255) (v := .bool true) F hQ rfl rfl (zav (i := 8) (m' := 511) (v := .bool true) F hQ rfl rfl (zav (i := 9) (m' := 1023) (v := .pointer (some ⟨ND, 1, none⟩)) F hQ rfl rfl ?_)))
 refine anyR_val (i := 10) (m' := 2047) (v := .func (.func 89) #[] #[]) F hQ rfl rfl (by kernel_rfl) (by kernel_rfl) (by kernel_rfl) (by kernel_rfl) (by kernel_rfl) (fun w' hb => run_ldfn2 rfl (by kernel_rfl) (BD0.out.kept hb)) ?_
 refine anyR_ldvec (i := 11) (m' := 4095) (q1_a _ HC0.out) F hQ rfl rfl (by kernel_rfl) (by kernel_rfl) (by kernel_rfl) (by kernel_rfl) (by kernel_rfl) rfl (by kernel_rfl) (anyR_ldvec (i := 12) (m' := 8191) (q1_b _ HC0.out) F hQ rfl rfl (by kernel_rfl) (by kernel_rfl) (by kernel_rfl) (by kernel_rfl) (by kernel_rfl) rfl (by kernel_rfl) (zav (i := 14) (m' := 24575) (v := .pointer (some ⟨ND, 1, none⟩)) F hQ rfl rfl ?_))
 refine anyR_val (i := 15) (m' := 57343) (v := .func (.func 89) #[] #[]) F hQ rfl rfl (by kernel_rfl) (by kernel_rfl) (by kernel_rfl) (by kernel_rfl) (by kernel_rfl) (fun w' hb => run_ldfn2 rfl (by kernel_rfl) (BD0.out.kept hb)) ?_
 refine anyR_ldvec (i := 16) (m' := 122879) (q1_c _ HC0.out) F hQ rfl rfl (by kernel_rfl) (by kernel_rfl) (by kernel_rfl) (by kernel_rfl) (by kernel_rfl) rfl (by kernel_rfl) (anyR_ldvec (i := 17) (m' := 253951) (q1_d _ HC0.out) F hQ rfl rfl (by kernel_rfl) (by kernel_rfl) (by kernel_rfl) (by kernel_rfl) (by kernel_rfl) rfl (by kernel_rfl) ?_)
 refine zac (i := 13) (m' := 262143) rfl rfl ((vXor_any Aa Ab la lb ca cb sa sb _ La.out Lb.out Ca Cb (by exact (p1_a w64 HC1.out)) (by exact (p1_b w64 HC1.out)) Ya.out Yb.out (HT.out.kept (Below.drew hU))).mono ?_)
 rintro e w65 ⟨l1, s1, A1, c1, E1, rfl, C1, O1, hb⟩
 refine ⟨_, rfl, hb, ?_⟩
 replace hb : Below w64.heap.size w64 w65 := Below.trans ((Below.refl _ _).drew) hb
 replace HC1 := zH HM1 HC1 hb
 replace TV := hide (Two.kept TV.out hb)
 replace BD := zB BD hb
 replace O1 := hide O1.out.rd
 replace hU := zU hU hU.size hb
 clear hb
 have G1 := zGd E1 ((gm_btw Ya.out Yb.out mXor_3))
 have L1 := zLe G1
 have Y1 := hide G1.by_
 clear G1
 refine zac (i := 18) (m' := 524287) rfl rfl ((vXor_any Ac Ad lc ld cc cd sc sd _ Lc.out Ld.out Cc Cd (p1_c w65 HC1.out) (p1_d w65 HC1.out) Yc.out Yd.out (HT.out.kept hU)).mono ?_)
 rintro e w66 ⟨l2, s2, A2, c2, E2, rfl, C2, O2, hb⟩
 refine ⟨_, rfl, hb, ?_⟩
 replace HC1 := zH HM1 HC1 hb
 replace O1 := zQ O1 hb
 replace TV := hide (Two.kept TV.out hb)
 replace BD := zB BD hb
 replace O2 := hide O2.out.rd
 replace hU := zU hU hU.size hb
 clear hb
 have G2 := zGd E2 ((gm_btw Yc.out Yd.out mXor_3))
 have L2 := zLe G2
 have Y2 := hide G2.by_
 clear G2
 refine zac (i := 19) (m' := 1048575) rfl rfl ((below_yes A1 A2 l1 l2 c1 c2 s1 s2 _ L1.out L2.out O1.out O2.out Y1.out Y2.out (HT.out.kept hU) (by rw [E1.out, E2.out]; exact rf_xor RA.out RB.out)).mono ?_)
 rintro e w67 ⟨rfl, hb⟩
 refine ⟨_, rfl, hb, ?_⟩
 replace HC1 := zH HM1 HC1 hb
 replace O1 := zQ O1 hb
 replace O2 := zQ O2 hb
 replace TV := hide (Two.kept TV.out hb)
 replace BD := zB BD hb
 replace hU := zU hU hU.size hb
 clear hb O1 C1 L1 Y1
 clear O2 C2 L2 Y2
 refine zav (i := 20) (m' := 2097151) (v := .bool false) F hQ rfl rfl (anyR_e (anyR_last (i := 21) (m' := 4194303) (v := .bool false) rfl rfl (by kernel_rfl) (by kernel_rfl) (by kernel_rfl) (by kernel_rfl) (by kernel_rfl) (anyE_done (by kernel_rfl) ?_)))
 clear F hQ HC0 BD0
 refine then_normal (zif (wp_skip (block_normal (then_normal (reg_lit (z2 [(65, .int .i64 3), (91, .int .i64 3)] (wpl_end ?_)))))))
 refine then_normal ?_
 clear BD
 refine zk [(6, pt Np 0), (7, pt Na 0), (8, pt Nb 0), (9, pt Nq 0), (10, pt Nc 0), (11, pt Nd 0), (63, .slice (some ⟨NV, 0, none⟩) 24 24), (64, .int .i64 24), (65, .int .i64 3)] (fun X => ?_)
 refine round_s (zs (z1 [(66, z_t)] (ze (wp_seq (zit ?_)))))
 refine wp_skip (then_normal (wp_seq (wp_block (zs (z1 [(67, pt NV 6)] (zw TV.out 3 (by decide) rfl rfl ?_))))))
 refine zm2 40 90 rfl rfl rfl ?_
 intro w68 ND BD hb
 replace BD := hide BD
 replace HC1 := zH HM1 HC1 hb
 replace TV := hide (Two.kept TV.out hb)
 replace hU := zU hU hU.size hb
 clear hb
 refine ze (wp_seq (region_R (n := 21) (N := 22) (by kernel_rfl) (by kernel_rfl) (by kernel_rfl) (by kernel_rfl) (by kernel_rfl) (by kernel_rfl) (fun _ _ _ _ _ h => h) ?_))
 intro F hQ
 have HC0 := HC1
 have BD0 := BD
 refine zav (i := 0) (m' := 1) (v := .pointer (some ⟨ND, 0, none⟩)) F hQ rfl rfl ?_
 refine anyR_val (i := 1) (m' := 3) (v := .int .u8 40) F hQ rfl rfl (by kernel_rfl) (by kernel_rfl) (by kernel_rfl) (by kernel_rfl) (by kernel_rfl) (fun w' hb => run_ldop rfl (by kernel_rfl) (BD0.out.kept hb)) ?_
 refine zav (i := 2) (m' := 7) (v := .bool true) F hQ rfl rfl (zav (i := 3) (m' := 15) (v := .bool true) F hQ rfl rfl (zav (i := 4) (m' := 31) (v := .pointer (some ⟨ND, 0, none⟩)) F hQ rfl rfl ?_))
 refine anyR_val (i := 5) (m' := 63) (v := .int .u8 40) F hQ rfl rfl (by kernel_rfl) (by kernel_rfl) (by kernel_rfl) (by kernel_rfl) (by kernel_rfl) (fun w' hb => run_ldop rfl (by kernel_rfl) (BD0.out.kept hb)) ?_
 refine zav (i := 6) (m' := 127) (v := .bool true) F hQ rfl rfl (zav (i := 7) (m' := 255) (v := .bool true) F hQ rfl rfl (zav (i := 8) (m' := 511) (v := .bool true) F hQ rfl rfl (zav (i := 9) (m' := 1023) (v := .pointer (some ⟨ND, 1, none⟩)) F hQ rfl rfl ?_)))
 refine anyR_val (i := 10) (m' := 2047) (v := .func (.func 90) #[] #[]) F hQ rfl rfl (by kernel_rfl) (by kernel_rfl) (by kernel_rfl) (by kernel_rfl) (by kernel_rfl) (fun w' hb => run_ldfn2 rfl (by kernel_rfl) (BD0.out.kept hb)) ?_
 refine anyR_ldvec (i := 11) (m' := 4095) (q1_a _ HC0.out) F hQ rfl rfl (by kernel_rfl) (by kernel_rfl) (by kernel_rfl) (by kernel_rfl) (by kernel_rfl) rfl (by kernel_rfl) (anyR_ldvec (i := 12) (m' := 8191) (q1_b _ HC0.out) F hQ rfl rfl (by kernel_rfl) (by kernel_rfl) (by kernel_rfl) (by kernel_rfl) (by kernel_rfl) rfl (by kernel_rfl) (zav (i := 14) (m' := 24575) (v := .pointer (some ⟨ND, 1, none⟩)) F hQ rfl rfl ?_))
 refine anyR_val (i := 15) (m' := 57343) (v := .func (.func 90) #[] #[]) F hQ rfl rfl (by kernel_rfl) (by kernel_rfl) (by kernel_rfl) (by kernel_rfl) (by kernel_rfl) (fun w' hb => run_ldfn2 rfl (by kernel_rfl) (BD0.out.kept hb)) ?_
 refine anyR_ldvec (i := 16) (m' := 122879) (q1_c _ HC0.out) F hQ rfl rfl (by kernel_rfl) (by kernel_rfl) (by kernel_rfl) (by kernel_rfl) (by kernel_rfl) rfl (by kernel_rfl) (anyR_ldvec (i := 17) (m' := 253951) (q1_d _ HC0.out) F hQ rfl rfl (by kernel_rfl) (by kernel_rfl) (by kernel_rfl) (by kernel_rfl) (by kernel_rfl) rfl (by kernel_rfl) ?_)
 refine zac (i := 13) (m' := 262143) rfl rfl ((vXnor_any Aa Ab la lb ca cb sa sb _ La.out Lb.out Ca Cb (by exact (p1_a w68 HC1.out)) (by exact (p1_b w68 HC1.out)) Ya.out Yb.out (HT.out.kept (Below.drew hU))).mono ?_)
 rintro e w69 ⟨l1, s1, A1, c1, E1, rfl, C1, O1, hb⟩
 refine ⟨_, rfl, hb, ?_⟩
 replace hb : Below w68.heap.size w68 w69 := Below.trans ((Below.refl _ _).drew) hb
 replace HC1 := zH HM1 HC1 hb
 replace TV := hide (Two.kept TV.out hb)
 replace BD := zB BD hb
 replace O1 := hide O1.out.rd
 replace hU := zU hU hU.size hb
 clear hb
 have G1 := zGd E1 ((gm_btw Ya.out Yb.out mEq_3))
 have L1 := zLe G1
 have Y1 := hide G1.by_
 clear G1
 refine zac (i := 18) (m' := 524287) rfl rfl ((vXnor_any Ac Ad lc ld cc cd sc sd _ Lc.out Ld.out Cc Cd (p1_c w69 HC1.out) (p1_d w69 HC1.out) Yc.out Yd.out (HT.out.kept hU)).mono ?_)
 rintro e w70 ⟨l2, s2, A2, c2, E2, rfl, C2, O2, hb⟩
 refine ⟨_, rfl, hb, ?_⟩
 replace HC1 := zH HM1 HC1 hb
 replace O1 := zQ O1 hb
 replace TV := hide (Two.kept TV.out hb)
 replace BD := zB BD hb
 replace O2 := hide O2.out.rd
 replace hU := zU hU hU.size hb
 clear hb
 have G2 := zGd E2 ((gm_btw Yc.out Yd.out mEq_3))
 have L2 := zLe G2
 have Y2 := hide G2.by_
 clear G2
 refine zac (i := 19) (m' := 1048575) rfl rfl ((below_yes A1 A2 l1 l2 c1 c2 s1 s2 _ L1.out L2.out O1.out O2.out Y1.out Y2.out (HT.out.kept hU) (by rw [E1.out, E2.out]; exact rf_xnor RA.out RB.out)).mono ?_)
 rintro e w71 ⟨rfl, hb⟩
 refine ⟨_, rfl, hb, ?_⟩
 replace HC1 := zH HM1 HC1 hb
 replace O1 := zQ O1 hb
 replace O2 := zQ O2 hb
 replace TV := hide (Two.kept TV.out hb)
 replace BD := zB BD hb
 replace hU := zU hU hU.size hb
 clear hb O1 C1 L1 Y1
 clear O2 C2 L2 Y2
 refine zav (i := 20) (m' := 2097151) (v := .bool false) F hQ rfl rfl (anyR_e (anyR_last (i := 21) (m' := 4194303) (v := .bool false) rfl rfl (by kernel_rfl) (by kernel_rfl) (by kernel_rfl) (by kernel_rfl) (by kernel_rfl) (anyE_done (by kernel_rfl) ?_)))
 clear F hQ HC0 BD0
 refine then_normal (zif (wp_skip (block_normal (then_normal (reg_lit (z2 [(65, .int .i64 4), (91, .int .i64 4)] (wpl_end ?_)))))))
 refine then_normal ?_
 clear BD
 refine zk [(6, pt Np 0), (7, pt Na 0), (8, pt Nb 0), (9, pt Nq 0), (10, pt Nc 0), (11, pt Nd 0), (63, .slice (some ⟨NV, 0, none⟩) 24 24), (64, .int .i64 24), (65, .int .i64 4)] (fun X => ?_)
 refine round_s (zs (z1 [(66, z_t)] (ze (wp_seq (zit ?_)))))
 refine wp_skip (then_normal (wp_seq (wp_block (zs (z1 [(67, pt NV 8)] (zw TV.out 4 (by decide) rfl rfl ?_))))))
 refine zm2 21 56 rfl rfl rfl ?_
 intro w72 ND BD hb
 replace BD := hide BD
 replace HC1 := zH HM1 HC1 hb
 replace TV := hide (Two.kept TV.out hb)
 replace hU := zU hU hU.size hb
 clear hb
 refine ze (wp_seq (region_R (n := 21) (N := 22) (by kernel_rfl) (by kernel_rfl) (by kernel_rfl) (by kernel_rfl) (by kernel_rfl) (by kernel_rfl) (fun _ _ _ _ _ h => h) ?_))
 intro F hQ
 have HC0 := HC1
 have BD0 := BD
 refine zav (i := 0) (m' := 1) (v := .pointer (some ⟨ND, 0, none⟩)) F hQ rfl rfl ?_
 refine anyR_val (i := 1) (m' := 3) (v := .int .u8 21) F hQ rfl rfl (by kernel_rfl) (by kernel_rfl) (by kernel_rfl) (by kernel_rfl) (by kernel_rfl) (fun w' hb => run_ldop rfl (by kernel_rfl) (BD0.out.kept hb)) ?_
 refine zav (i := 2) (m' := 7) (v := .bool true) F hQ rfl rfl (zav (i := 3) (m' := 15) (v := .bool true) F hQ rfl rfl (zav (i := 4) (m' := 31) (v := .pointer (some ⟨ND, 0, none⟩)) F hQ rfl rfl ?_))
 refine anyR_val (i := 5) (m' := 63) (v := .int .u8 21) F hQ rfl rfl (by kernel_rfl) (by kernel_rfl) (by kernel_rfl) (by kernel_rfl) (by kernel_rfl) (fun w' hb => run_ldop rfl (by kernel_rfl) (BD0.out.kept hb)) ?_
 refine zav (i := 6) (m' := 127) (v := .bool true) F hQ rfl rfl (zav (i := 7) (m' := 255) (v := .bool true) F hQ rfl rfl (zav (i := 8) (m' := 511) (v := .bool true) F hQ rfl rfl (zav (i := 9) (m' := 1023) (v := .pointer (some ⟨ND, 1, none⟩)) F hQ rfl rfl ?_)))
 refine anyR_val (i := 10) (m' := 2047) (v := .func (.func 56) #[] #[]) F hQ rfl rfl (by kernel_rfl) (by kernel_rfl) (by kernel_rfl) (by kernel_rfl) (by kernel_rfl) (fun w' hb => run_ldfn2 rfl (by kernel_rfl) (BD0.out.kept hb)) ?_
 refine anyR_ldvec (i := 11) (m' := 4095) (q1_a _ HC0.out) F hQ rfl rfl (by kernel_rfl) (by kernel_rfl) (by kernel_rfl) (by kernel_rfl) (by kernel_rfl) rfl (by kernel_rfl) (anyR_ldvec (i := 12) (m' := 8191) (q1_b _ HC0.out) F hQ rfl rfl (by kernel_rfl) (by kernel_rfl) (by kernel_rfl) (by kernel_rfl) (by kernel_rfl) rfl (by kernel_rfl) (zav (i := 14) (m' := 24575) (v := .pointer (some ⟨ND, 1, none⟩)) F hQ rfl rfl ?_))
 refine anyR_val (i := 15) (m' := 57343) (v := .func (.func 56) #[] #[]) F hQ rfl rfl (by kernel_rfl) (by kernel_rfl) (by kernel_rfl) (by kernel_rfl) (by kernel_rfl) (fun w' hb => run_ldfn2 rfl (by kernel_rfl) (BD0.out.kept hb)) ?_
 refine anyR_ldvec (i := 16) (m' := 122879) (q1_c _ HC0.out) F hQ rfl rfl (by kernel_rfl) (by kernel_rfl) (by kernel_rfl) (by kernel_rfl) (by kernel_rfl) rfl (by kernel_rfl) (anyR_ldvec (i := 17) (m' := 253951) (q1_d _ HC0.out) F hQ rfl rfl (by kernel_rfl) (by kernel_rfl) (by kernel_rfl) (by kernel_rfl) (by kernel_rfl) rfl (by kernel_rfl) ?_)
 refine zac (i := 13) (m' := 262143) rfl rfl ((vAdd_any Aa Ab la lb ca cb sa sb _ La.out Lb.out Ca Cb (by exact (p1_a w72 HC1.out)) (by exact (p1_b w72 HC1.out)) Ya.out Yb.out).mono ?_)
 rintro e w73 ⟨l1, s1, A1, c1, E1, rfl, C1, O1, hb⟩
 refine ⟨_, rfl, hb, ?_⟩
 replace hb : Below w72.heap.size w72 w73 := Below.trans ((Below.refl _ _).drew) hb
 replace HC1 := zH HM1 HC1 hb
 replace TV := hide (Two.kept TV.out hb)
 replace BD := zB BD hb
 replace O1 := hide O1.out.rd
 replace hU := zU hU hU.size hb
 clear hb
 have G1 := zGd E1 ((gm_ar Ya.out Yb.out hlen_add))
 have L1 := zLe G1
 have Y1 := hide G1.by_
 clear G1
 refine zac (i := 18) (m' := 524287) rfl rfl ((vAdd_any Ac Ad lc ld cc cd sc sd _ Lc.out Ld.out Cc Cd (p1_c w73 HC1.out) (p1_d w73 HC1.out) Yc.out Yd.out).mono ?_)
 rintro e w74 ⟨l2, s2, A2, c2, E2, rfl, C2, O2, hb⟩
 refine ⟨_, rfl, hb, ?_⟩
 replace HC1 := zH HM1 HC1 hb
 replace O1 := zQ O1 hb
 replace TV := hide (Two.kept TV.out hb)
 replace BD := zB BD hb
 replace O2 := hide O2.out.rd
 replace hU := zU hU hU.size hb
 clear hb
 have G2 := zGd E2 ((gm_ar Yc.out Yd.out hlen_add))
 have L2 := zLe G2
 have Y2 := hide G2.by_
 clear G2
 refine zac (i := 19) (m' := 1048575) rfl rfl ((below_yes A1 A2 l1 l2 c1 c2 s1 s2 _ L1.out L2.out O1.out O2.out Y1.out Y2.out (HT.out.kept hU) (by rw [E1.out, E2.out]; exact ar_rf hlen_add RA.out RB.out)).mono ?_)
 rintro e w75 ⟨rfl, hb⟩
 refine ⟨_, rfl, hb, ?_⟩
 replace HC1 := zH HM1 HC1 hb
 replace O1 := zQ O1 hb
 replace O2 := zQ O2 hb
 replace TV := hide (Two.kept TV.out hb)
 replace BD := zB BD hb
 replace hU := zU hU hU.size hb
 clear hb O1 C1 L1 Y1
 clear O2 C2 L2 Y2
 refine zav (i := 20) (m' := 2097151) (v := .bool false) F hQ rfl rfl (anyR_e (anyR_last (i := 21) (m' := 4194303) (v := .bool false) rfl rfl (by kernel_rfl) (by kernel_rfl) (by kernel_rfl) (by kernel_rfl) (by kernel_rfl) (anyE_done (by kernel_rfl) ?_)))
 clear F hQ HC0 BD0
 refine then_normal (zif (wp_skip (block_normal (then_normal (reg_lit (z2 [(65, .int .i64 5), (91, .int .i64 5)] (wpl_end ?_)))))))
 refine then_normal ?_
 clear BD
 refine zk [(6, pt Np 0), (7, pt Na 0), (8, pt Nb 0), (9, pt Nq 0), (10, pt Nc 0), (11, pt Nd 0), (63, .slice (some ⟨NV, 0, none⟩) 24 24), (64, .int .i64 24), (65, .int .i64 5)] (fun X => ?_)
 refine round_s (zs (z1 [(66, z_t)] (ze (wp_seq (zit ?_)))))
 refine wp_skip (then_normal (wp_seq (wp_block (zs (z1 [(67, pt NV 10)] (zw TV.out 5 (by decide) rfl rfl ?_))))))
 refine zm2 22 86 rfl rfl rfl ?_
 intro w76 ND BD hb
 replace BD := hide BD
 replace HC1 := zH HM1 HC1 hb
 replace TV := hide (Two.kept TV.out hb)
 replace hU := zU hU hU.size hb
 clear hb
 refine ze (wp_seq (region_R (n := 21) (N := 22) (by kernel_rfl) (by kernel_rfl) (by kernel_rfl) (by kernel_rfl) (by kernel_rfl) (by kernel_rfl) (fun _ _ _ _ _ h => h) ?_))
 intro F hQ
 have HC0 := HC1
 have BD0 := BD
 refine zav (i := 0) (m' := 1) (v := .pointer (some ⟨ND, 0, none⟩)) F hQ rfl rfl ?_
 refine anyR_val (i := 1) (m' := 3) (v := .int .u8 22) F hQ rfl rfl (by kernel_rfl) (by kernel_rfl) (by kernel_rfl) (by kernel_rfl) (by kernel_rfl) (fun w' hb => run_ldop rfl (by kernel_rfl) (BD0.out.kept hb)) ?_
 refine zav (i := 2) (m' := 7) (v := .bool true) F hQ rfl rfl (zav (i := 3) (m' := 15) (v := .bool true) F hQ rfl rfl (zav (i := 4) (m' := 31) (v := .pointer (some ⟨ND, 0, none⟩)) F hQ rfl rfl ?_))
 refine anyR_val (i := 5) (m' := 63) (v := .int .u8 22) F hQ rfl rfl (by kernel_rfl) (by kernel_rfl) (by kernel_rfl) (by kernel_rfl) (by kernel_rfl) (fun w' hb => run_ldop rfl (by kernel_rfl) (BD0.out.kept hb)) ?_
 refine zav (i := 6) (m' := 127) (v := .bool true) F hQ rfl rfl (zav (i := 7) (m' := 255) (v := .bool true) F hQ rfl rfl (zav (i := 8) (m' := 511) (v := .bool true) F hQ rfl rfl (zav (i := 9) (m' := 1023) (v := .pointer (some ⟨ND, 1, none⟩)) F hQ rfl rfl ?_)))
 refine anyR_val (i := 10) (m' := 2047) (v := .func (.func 86) #[] #[]) F hQ rfl rfl (by kernel_rfl) (by kernel_rfl) (by kernel_rfl) (by kernel_rfl) (by kernel_rfl) (fun w' hb => run_ldfn2 rfl (by kernel_rfl) (BD0.out.kept hb)) ?_
 refine anyR_ldvec (i := 11) (m' := 4095) (q1_a _ HC0.out) F hQ rfl rfl (by kernel_rfl) (by kernel_rfl) (by kernel_rfl) (by kernel_rfl) (by kernel_rfl) rfl (by kernel_rfl) (anyR_ldvec (i := 12) (m' := 8191) (q1_b _ HC0.out) F hQ rfl rfl (by kernel_rfl) (by kernel_rfl) (by kernel_rfl) (by kernel_rfl) (by kernel_rfl) rfl (by kernel_rfl) (zav (i := 14) (m' := 24575) (v := .pointer (some ⟨ND, 1, none⟩)) F hQ rfl rfl ?_))
 refine anyR_val (i := 15) (m' := 57343) (v := .func (.func 86) #[] #[]) F hQ rfl rfl (by kernel_rfl) (by kernel_rfl) (by kernel_rfl) (by kernel_rfl) (by kernel_rfl) (fun w' hb => run_ldfn2 rfl (by kernel_rfl) (BD0.out.kept hb)) ?_
 refine anyR_ldvec (i := 16) (m' := 122879) (q1_c _ HC0.out) F hQ rfl rfl (by kernel_rfl) (by kernel_rfl) (by kernel_rfl) (by kernel_rfl) (by kernel_rfl) rfl (by kernel_rfl) (anyR_ldvec (i := 17) (m' := 253951) (q1_d _ HC0.out) F hQ rfl rfl (by kernel_rfl) (by kernel_rfl) (by kernel_rfl) (by kernel_rfl) (by kernel_rfl) rfl (by kernel_rfl) ?_)
 refine zac (i := 13) (m' := 262143) rfl rfl ((vSub_any Aa Ab la lb ca cb sa sb _ La.out Lb.out Ca Cb (by exact (p1_a w76 HC1.out)) (by exact (p1_b w76 HC1.out)) Ya.out Yb.out).mono ?_)
 rintro e w77 ⟨l1, s1, A1, c1, E1, rfl, C1, O1, hb⟩
 refine ⟨_, rfl, hb, ?_⟩
 replace hb : Below w76.heap.size w76 w77 := Below.trans ((Below.refl _ _).drew) hb
 replace HC1 := zH HM1 HC1 hb
 replace TV := hide (Two.kept TV.out hb)
 replace BD := zB BD hb
 replace O1 := hide O1.out.rd
 replace hU := zU hU hU.size hb
 clear hb
 have G1 := zGd E1 ((gm_ar Ya.out Yb.out hlen_sub))
 have L1 := zLe G1
 have Y1 := hide G1.by_
 clear G1
 refine zac (i := 18) (m' := 524287) rfl rfl ((vSub_any Ac Ad lc ld cc cd sc sd _ Lc.out Ld.out Cc Cd (p1_c w77 HC1.out) (p1_d w77 HC1.out) Yc.out Yd.out).mono ?_)
 rintro e w78 ⟨l2, s2, A2, c2, E2, rfl, C2, O2, hb⟩
 refine ⟨_, rfl, hb, ?_⟩
 replace HC1 := zH HM1 HC1 hb
 replace O1 := zQ O1 hb
 replace TV := hide (Two.kept TV.out hb)
 replace BD := zB BD hb
 replace O2 := hide O2.out.rd
 replace hU := zU hU hU.size hb
 clear hb
 have G2 := zGd E2 ((gm_ar Yc.out Yd.out hlen_sub))
 have L2 := zLe G2
 have Y2 := hide G2.by_
 clear G2
 refine zac (i := 19) (m' := 1048575) rfl rfl ((below_yes A1 A2 l1 l2 c1 c2 s1 s2 _ L1.out L2.out O1.out O2.out Y1.out Y2.out (HT.out.kept hU) (by rw [E1.out, E2.out]; exact ar_rf hlen_sub RA.out RB.out)).mono ?_)
 rintro e w79 ⟨rfl, hb⟩
 refine ⟨_, rfl, hb, ?_⟩
 replace HC1 := zH HM1 HC1 hb
 replace O1 := zQ O1 hb
 replace O2 := zQ O2 hb
 replace TV := hide (Two.kept TV.out hb)
 replace BD := zB BD hb
 replace hU := zU hU hU.size hb
 clear hb O1 C1 L1 Y1
 clear O2 C2 L2 Y2
 refine zav (i := 20) (m' := 2097151) (v := .bool false) F hQ rfl rfl (anyR_e (anyR_last (i := 21) (m' := 4194303) (v := .bool false) rfl rfl (by kernel_rfl) (by kernel_rfl) (by kernel_rfl) (by kernel_rfl) (by kernel_rfl) (anyE_done (by kernel_rfl) ?_)))
 clear F hQ HC0 BD0
 refine then_normal (zif (wp_skip (block_normal (then_normal (reg_lit (z2 [(65, .int .i64 6), (91, .int .i64 6)] (wpl_end ?_)))))))
 refine then_normal ?_
 clear BD
 refine zk [(6, pt Np 0), (7, pt Na 0), (8, pt Nb 0), (9, pt Nq 0), (10, pt Nc 0), (11, pt Nd 0), (63, .slice (some ⟨NV, 0, none⟩) 24 24), (64, .int .i64 24), (65, .int .i64 6)] (fun X => ?_)
 refine round_s (zs (z1 [(66, z_t)] (ze (wp_seq (zit ?_)))))
 refine wp_skip (then_normal (wp_seq (wp_block (zs (z1 [(67, pt NV 12)] (zw TV.out 6 (by decide) rfl rfl ?_))))))
 refine zm2 23 87 rfl rfl rfl ?_
 intro w80 ND BD hb
 replace BD := hide BD
 replace HC1 := zH HM1 HC1 hb
 replace TV := hide (Two.kept TV.out hb)
 replace hU := zU hU hU.size hb
 clear hb
 refine ze (wp_seq (region_R (n := 21) (N := 22) (by kernel_rfl) (by kernel_rfl) (by kernel_rfl) (by kernel_rfl) (by kernel_rfl) (by kernel_rfl) (fun _ _ _ _ _ h => h) ?_))
 intro F hQ
 have HC0 := HC1
 have BD0 := BD
 refine zav (i := 0) (m' := 1) (v := .pointer (some ⟨ND, 0, none⟩)) F hQ rfl rfl ?_
 refine anyR_val (i := 1) (m' := 3) (v := .int .u8 23) F hQ rfl rfl (by kernel_rfl) (by kernel_rfl) (by kernel_rfl) (by kernel_rfl) (by kernel_rfl) (fun w' hb => run_ldop rfl (by kernel_rfl) (BD0.out.kept hb)) ?_
 refine zav (i := 2) (m' := 7) (v := .bool true) F hQ rfl rfl (zav (i := 3) (m' := 15) (v := .bool true) F hQ rfl rfl (zav (i := 4) (m' := 31) (v := .pointer (some ⟨ND, 0, none⟩)) F hQ rfl rfl ?_))
 refine anyR_val (i := 5) (m' := 63) (v := .int .u8 23) F hQ rfl rfl (by kernel_rfl) (by kernel_rfl) (by kernel_rfl) (by kernel_rfl) (by kernel_rfl) (fun w' hb => run_ldop rfl (by kernel_rfl) (BD0.out.kept hb)) ?_
 refine zav (i := 6) (m' := 127) (v := .bool true) F hQ rfl rfl (zav (i := 7) (m' := 255) (v := .bool true) F hQ rfl rfl (zav (i := 8) (m' := 511) (v := .bool true) F hQ rfl rfl (zav (i := 9) (m' := 1023) (v := .pointer (some ⟨ND, 1, none⟩)) F hQ rfl rfl ?_)))
 refine anyR_val (i := 10) (m' := 2047) (v := .func (.func 87) #[] #[]) F hQ rfl rfl (by kernel_rfl) (by kernel_rfl) (by kernel_rfl) (by kernel_rfl) (by kernel_rfl) (fun w' hb => run_ldfn2 rfl (by kernel_rfl) (BD0.out.kept hb)) ?_
 refine anyR_ldvec (i := 11) (m' := 4095) (q1_a _ HC0.out) F hQ rfl rfl (by kernel_rfl) (by kernel_rfl) (by kernel_rfl) (by kernel_rfl) (by kernel_rfl) rfl (by kernel_rfl) (anyR_ldvec (i := 12) (m' := 8191) (q1_b _ HC0.out) F hQ rfl rfl (by kernel_rfl) (by kernel_rfl) (by kernel_rfl) (by kernel_rfl) (by kernel_rfl) rfl (by kernel_rfl) (zav (i := 14) (m' := 24575) (v := .pointer (some ⟨ND, 1, none⟩)) F hQ rfl rfl ?_))
 refine anyR_val (i := 15) (m' := 57343) (v := .func (.func 87) #[] #[]) F hQ rfl rfl (by kernel_rfl) (by kernel_rfl) (by kernel_rfl) (by kernel_rfl) (by kernel_rfl) (fun w' hb => run_ldfn2 rfl (by kernel_rfl) (BD0.out.kept hb)) ?_
 refine anyR_ldvec (i := 16) (m' := 122879) (q1_c _ HC0.out) F hQ rfl rfl (by kernel_rfl) (by kernel_rfl) (by kernel_rfl) (by kernel_rfl) (by kernel_rfl) rfl (by kernel_rfl) (anyR_ldvec (i := 17) (m' := 253951) (q1_d _ HC0.out) F hQ rfl rfl (by kernel_rfl) (by kernel_rfl) (by kernel_rfl) (by kernel_rfl) (by kernel_rfl) rfl (by kernel_rfl) ?_)
 refine zac (i := 13) (m' := 262143) rfl rfl ((vMul_any Aa Ab la lb ca cb sa sb _ La.out Lb.out Ca Cb (by exact (p1_a w80 HC1.out)) (by exact (p1_b w80 HC1.out)) Ya.out Yb.out).mono ?_)
 rintro e w81 ⟨l1, s1, A1, c1, E1, rfl, C1, O1, hb⟩
 refine ⟨_, rfl, hb, ?_⟩
 replace hb : Below w80.heap.size w80 w81 := Below.trans ((Below.refl _ _).drew) hb
 replace HC1 := zH HM1 HC1 hb
 replace TV := hide (Two.kept TV.out hb)
 replace BD := zB BD hb
 replace O1 := hide O1.out.rd
 replace hU := zU hU hU.size hb
 clear hb
 have G1 := zGd E1 ((gm_ar Ya.out Yb.out hlen_mul))
 have L1 := zLe G1
 have Y1 := hide G1.by_
 clear G1
 refine zac (i := 18) (m' := 524287) rfl rfl ((vMul_any Ac Ad lc ld cc cd sc sd _ Lc.out Ld.out Cc Cd (p1_c w81 HC1.out) (p1_d w81 HC1.out) Yc.out Yd.out).mono ?_)
 rintro e w82 ⟨l2, s2, A2, c2, E2, rfl, C2, O2, hb⟩
 refine ⟨_, rfl, hb, ?_⟩
 replace HC1 := zH HM1 HC1 hb
 replace O1 := zQ O1 hb
 replace TV := hide (Two.kept TV.out hb)
 replace BD := zB BD hb
 replace O2 := hide O2.out.rd
 replace hU := zU hU hU.size hb
 clear hb
 have G2 := zGd E2 ((gm_ar Yc.out Yd.out hlen_mul))
 have L2 := zLe G2
 have Y2 := hide G2.by_
 clear G2
 refine zac (i := 19) (m' := 1048575) rfl rfl ((below_yes A1 A2 l1 l2 c1 c2 s1 s2 _ L1.out L2.out O1.out O2.out Y1.out Y2.out (HT.out.kept hU) (by rw [E1.out, E2.out]; exact ar_rf hlen_mul RA.out RB.out)).mono ?_)
 rintro e w83 ⟨rfl, hb⟩
 refine ⟨_, rfl, hb, ?_⟩
 replace HC1 := zH HM1 HC1 hb
 replace O1 := zQ O1 hb
 replace O2 := zQ O2 hb
 replace TV := hide (Two.kept TV.out hb)
 replace BD := zB BD hb
 replace hU := zU hU hU.size hb
 clear hb O1 C1 L1 Y1
 clear O2 C2 L2 Y2
 refine zav (i := 20) (m' := 2097151) (v := .bool false) F hQ rfl rfl (anyR_e (anyR_last (i := 21) (m' := 4194303) (v := .bool false) rfl rfl (by kernel_rfl) (by kernel_rfl) (by kernel_rfl) (by kernel_rfl) (by kernel_rfl) (anyE_done (by kernel_rfl) ?_)))
 clear F hQ HC0 BD0
 refine then_normal (zif (wp_skip (block_normal (then_normal (reg_lit (z2 [(65, .int .i64 7), (91, .int .i64 7)] (wpl_end ?_)))))))
 refine then_normal ?_
 clear BD
 refine zk [(6, pt Np 0), (7, pt Na 0), (8, pt Nb 0), (9, pt Nq 0), (10, pt Nc 0), (11, pt Nd 0), (63, .slice (some ⟨NV, 0, none⟩) 24 24), (64, .int .i64 24), (65, .int .i64 7)] (fun X => ?_)
 refine round_s (zs (z1 [(66, z_t)] (ze (wp_seq (zit ?_)))))
 refine wp_skip (then_normal (wp_seq (wp_block (zs (z1 [(67, pt NV 14)] (zw TV.out 7 (by decide) rfl rfl ?_))))))
 refine zm2 24 58 rfl rfl rfl ?_
 intro w84 ND BD hb
 replace BD := hide BD
 replace HC1 := zH HM1 HC1 hb
 replace TV := hide (Two.kept TV.out hb)
 replace hU := zU hU hU.size hb
 clear hb
 refine ze (wp_seq (region_R (n := 21) (N := 22) (by kernel_rfl) (by kernel_rfl) (by kernel_rfl) (by kernel_rfl) (by kernel_rfl) (by kernel_rfl) (fun _ _ _ _ _ h => h) ?_))
 intro F hQ
 have HC0 := HC1
 have BD0 := BD
 refine zav (i := 0) (m' := 1) (v := .pointer (some ⟨ND, 0, none⟩)) F hQ rfl rfl ?_
 refine anyR_val (i := 1) (m' := 3) (v := .int .u8 24) F hQ rfl rfl (by kernel_rfl) (by kernel_rfl) (by kernel_rfl) (by kernel_rfl) (by kernel_rfl) (fun w' hb => run_ldop rfl (by kernel_rfl) (BD0.out.kept hb)) ?_
 refine zav (i := 2) (m' := 7) (v := .bool true) F hQ rfl rfl (zav (i := 3) (m' := 15) (v := .bool true) F hQ rfl rfl (zav (i := 4) (m' := 31) (v := .pointer (some ⟨ND, 0, none⟩)) F hQ rfl rfl ?_))
 refine anyR_val (i := 5) (m' := 63) (v := .int .u8 24) F hQ rfl rfl (by kernel_rfl) (by kernel_rfl) (by kernel_rfl) (by kernel_rfl) (by kernel_rfl) (fun w' hb => run_ldop rfl (by kernel_rfl) (BD0.out.kept hb)) ?_
 refine zav (i := 6) (m' := 127) (v := .bool true) F hQ rfl rfl (zav (i := 7) (m' := 255) (v := .bool true) F hQ rfl rfl (zav (i := 8) (m' := 511) (v := .bool true) F hQ rfl rfl (zav (i := 9) (m' := 1023) (v := .pointer (some ⟨ND, 1, none⟩)) F hQ rfl rfl ?_)))
 refine anyR_val (i := 10) (m' := 2047) (v := .func (.func 58) #[] #[]) F hQ rfl rfl (by kernel_rfl) (by kernel_rfl) (by kernel_rfl) (by kernel_rfl) (by kernel_rfl) (fun w' hb => run_ldfn2 rfl (by kernel_rfl) (BD0.out.kept hb)) ?_
 refine anyR_ldvec (i := 11) (m' := 4095) (q1_a _ HC0.out) F hQ rfl rfl (by kernel_rfl) (by kernel_rfl) (by kernel_rfl) (by kernel_rfl) (by kernel_rfl) rfl (by kernel_rfl) (anyR_ldvec (i := 12) (m' := 8191) (q1_b _ HC0.out) F hQ rfl rfl (by kernel_rfl) (by kernel_rfl) (by kernel_rfl) (by kernel_rfl) (by kernel_rfl) rfl (by kernel_rfl) (zav (i := 14) (m' := 24575) (v := .pointer (some ⟨ND, 1, none⟩)) F hQ rfl rfl ?_))
 refine anyR_val (i := 15) (m' := 57343) (v := .func (.func 58) #[] #[]) F hQ rfl rfl (by kernel_rfl) (by kernel_rfl) (by kernel_rfl) (by kernel_rfl) (by kernel_rfl) (fun w' hb => run_ldfn2 rfl (by kernel_rfl) (BD0.out.kept hb)) ?_
 refine anyR_ldvec (i := 16) (m' := 122879) (q1_c _ HC0.out) F hQ rfl rfl (by kernel_rfl) (by kernel_rfl) (by kernel_rfl) (by kernel_rfl) (by kernel_rfl) rfl (by kernel_rfl) (anyR_ldvec (i := 17) (m' := 253951) (q1_d _ HC0.out) F hQ rfl rfl (by kernel_rfl) (by kernel_rfl) (by kernel_rfl) (by kernel_rfl) (by kernel_rfl) rfl (by kernel_rfl) ?_)
 refine zac (i := 13) (m' := 262143) rfl rfl ((vDiv_any Aa Ab la lb ca cb sa sb _ La.out Lb.out Ca Cb (by exact (p1_a w84 HC1.out)) (by exact (p1_b w84 HC1.out)) Ya.out Yb.out).mono ?_)
 rintro e w85 ⟨l1, s1, A1, c1, E1, rfl, C1, O1, hb⟩
 refine ⟨_, rfl, hb, ?_⟩
 replace hb : Below w84.heap.size w84 w85 := Below.trans ((Below.refl _ _).drew) hb
 replace HC1 := zH HM1 HC1 hb
 replace TV := hide (Two.kept TV.out hb)
 replace BD := zB BD hb
 replace O1 := hide O1.out.rd
 replace hU := zU hU hU.size hb
 clear hb
 have G1 := zGd E1 ((gm_ar Ya.out Yb.out hlen_div))
 have L1 := zLe G1
 have Y1 := hide G1.by_
 clear G1
 refine zac (i := 18) (m' := 524287) rfl rfl ((vDiv_any Ac Ad lc ld cc cd sc sd _ Lc.out Ld.out Cc Cd (p1_c w85 HC1.out) (p1_d w85 HC1.out) Yc.out Yd.out).mono ?_)
 rintro e w86 ⟨l2, s2, A2, c2, E2, rfl, C2, O2, hb⟩
 refine ⟨_, rfl, hb, ?_⟩
 replace HC1 := zH HM1 HC1 hb
 replace O1 := zQ O1 hb
 replace TV := hide (Two.kept TV.out hb)
 replace BD := zB BD hb
 replace O2 := hide O2.out.rd
 replace hU := zU hU hU.size hb
 clear hb
 have G2 := zGd E2 ((gm_ar Yc.out Yd.out hlen_div))
 have L2 := zLe G2
 have Y2 := hide G2.by_
 clear G2
 refine zac (i := 19) (m' := 1048575) rfl rfl ((below_yes A1 A2 l1 l2 c1 c2 s1 s2 _ L1.out L2.out O1.out O2.out Y1.out Y2.out (HT.out.kept hU) (by rw [E1.out, E2.out]; exact ar_rf hlen_div RA.out RB.out)).mono ?_)
 rintro e w87 ⟨rfl, hb⟩
 refine ⟨_, rfl, hb, ?_⟩
 replace HC1 := zH HM1 HC1 hb
 replace O1 := zQ O1 hb
 replace O2 := zQ O2 hb
 replace TV := hide (Two.kept TV.out hb)
 replace BD := zB BD hb
 replace hU := zU hU hU.size hb
 clear hb O1 C1 L1 Y1
 clear O2 C2 L2 Y2
 refine zav (i := 20) (m' := 2097151) (v := .bool false) F hQ rfl rfl (anyR_e (anyR_last (i := 21) (m' := 4194303) (v := .bool false) rfl rfl (by kernel_rfl) (by kernel_rfl) (by kernel_rfl) (by kernel_rfl) (by kernel_rfl) (anyE_done (by kernel_rfl) ?_)))
 clear F hQ HC0 BD0
 refine then_normal (zif (wp_skip (block_normal (then_normal (reg_lit (z2 [(65, .int .i64 8), (91, .int .i64 8)] (wpl_end ?_)))))))
 refine then_normal ?_
 clear BD
 refine zk [(6, pt Np 0), (7, pt Na 0), (8, pt Nb 0), (9, pt Nq 0), (10, pt Nc 0), (11, pt Nd 0), (63, .slice (some ⟨NV, 0, none⟩) 24 24), (64, .int .i64 24), (65, .int .i64 8)] (fun X => ?_)
 refine round_s (zs (z1 [(66, z_t)] (ze (wp_seq (zit ?_)))))
 refine wp_skip (then_normal (wp_seq (wp_block (zs (z1 [(67, pt NV 16)] (zw TV.out 8 (by decide) rfl rfl ?_))))))
 refine zm2 25 60 rfl rfl rfl ?_
 intro w88 ND BD hb
 replace BD := hide BD
 replace HC1 := zH HM1 HC1 hb
 replace TV := hide (Two.kept TV.out hb)
 replace hU := zU hU hU.size hb
 clear hb
 refine ze (wp_seq (region_R (n := 21) (N := 22) (by kernel_rfl) (by kernel_rfl) (by kernel_rfl) (by kernel_rfl) (by kernel_rfl) (by kernel_rfl) (fun _ _ _ _ _ h => h) ?_))
 intro F hQ
 have HC0 := HC1
 have BD0 := BD
 refine zav (i := 0) (m' := 1) (v := .pointer (some ⟨ND, 0, none⟩)) F hQ rfl rfl ?_
 refine anyR_val (i := 1) (m' := 3) (v := .int .u8 25) F hQ rfl rfl (by kernel_rfl) (by kernel_rfl) (by kernel_rfl) (by kernel_rfl) (by kernel_rfl) (fun w' hb => run_ldop rfl (by kernel_rfl) (BD0.out.kept hb)) ?_
 refine zav (i := 2) (m' := 7) (v := .bool true) F hQ rfl rfl (zav (i := 3) (m' := 15) (v := .bool true) F hQ rfl rfl (zav (i := 4) (m' := 31) (v := .pointer (some ⟨ND, 0, none⟩)) F hQ rfl rfl ?_))
 refine anyR_val (i := 5) (m' := 63) (v := .int .u8 25) F hQ rfl rfl (by kernel_rfl) (by kernel_rfl) (by kernel_rfl) (by kernel_rfl) (by kernel_rfl) (fun w' hb => run_ldop rfl (by kernel_rfl) (BD0.out.kept hb)) ?_
 refine zav (i := 6) (m' := 127) (v := .bool true) F hQ rfl rfl (zav (i := 7) (m' := 255) (v := .bool true) F hQ rfl rfl (zav (i := 8) (m' := 511) (v := .bool true) F hQ rfl rfl (zav (i := 9) (m' := 1023) (v := .pointer (some ⟨ND, 1, none⟩)) F hQ rfl rfl ?_)))
 refine anyR_val (i := 10) (m' := 2047) (v := .func (.func 60) #[] #[]) F hQ rfl rfl (by kernel_rfl) (by kernel_rfl) (by kernel_rfl) (by kernel_rfl) (by kernel_rfl) (fun w' hb => run_ldfn2 rfl (by kernel_rfl) (BD0.out.kept hb)) ?_
 refine anyR_ldvec (i := 11) (m' := 4095) (q1_a _ HC0.out) F hQ rfl rfl (by kernel_rfl) (by kernel_rfl) (by kernel_rfl) (by kernel_rfl) (by kernel_rfl) rfl (by kernel_rfl) (anyR_ldvec (i := 12) (m' := 8191) (q1_b _ HC0.out) F hQ rfl rfl (by kernel_rfl) (by kernel_rfl) (by kernel_rfl) (by kernel_rfl) (by kernel_rfl) rfl (by kernel_rfl) (zav (i := 14) (m' := 24575) (v := .pointer (some ⟨ND, 1, none⟩)) F hQ rfl rfl ?_))
 refine anyR_val (i := 15) (m' := 57343) (v := .func (.func 60) #[] #[]) F hQ rfl rfl (by kernel_rfl) (by kernel_rfl) (by kernel_rfl) (by kernel_rfl) (by kernel_rfl) (fun w' hb => run_ldfn2 rfl (by kernel_rfl) (BD0.out.kept hb)) ?_
 refine anyR_ldvec (i := 16) (m' := 122879) (q1_c _ HC0.out) F hQ rfl rfl (by kernel_rfl) (by kernel_rfl) (by kernel_rfl) (by kernel_rfl) (by kernel_rfl) rfl (by kernel_rfl) (anyR_ldvec (i := 17) (m' := 253951) (q1_d _ HC0.out) F hQ rfl rfl (by kernel_rfl) (by kernel_rfl) (by kernel_rfl) (by kernel_rfl) (by kernel_rfl) rfl (by kernel_rfl) ?_)
 refine zac (i := 13) (m' := 262143) rfl rfl ((vMod_any Aa Ab la lb ca cb sa sb _ La.out Lb.out Ca Cb (by exact (p1_a w88 HC1.out)) (by exact (p1_b w88 HC1.out)) Ya.out Yb.out).mono ?_)
 rintro e w89 ⟨l1, s1, A1, c1, E1, rfl, C1, O1, hb⟩
 refine ⟨_, rfl, hb, ?_⟩
 replace hb : Below w88.heap.size w88 w89 := Below.trans ((Below.refl _ _).drew) hb
 replace HC1 := zH HM1 HC1 hb
 replace TV := hide (Two.kept TV.out hb)
 replace BD := zB BD hb
 replace O1 := hide O1.out.rd
 replace hU := zU hU hU.size hb
 clear hb
 have G1 := zGd E1 ((gm_ar Ya.out Yb.out hlen_mod))
 have L1 := zLe G1
 have Y1 := hide G1.by_
 clear G1
 refine zac (i := 18) (m' := 524287) rfl rfl ((vMod_any Ac Ad lc ld cc cd sc sd _ Lc.out Ld.out Cc Cd (p1_c w89 HC1.out) (p1_d w89 HC1.out) Yc.out Yd.out).mono ?_)
 rintro e w90 ⟨l2, s2, A2, c2, E2, rfl, C2, O2, hb⟩
 refine ⟨_, rfl, hb, ?_⟩
 replace HC1 := zH HM1 HC1 hb
 replace O1 := zQ O1 hb
 replace TV := hide (Two.kept TV.out hb)
 replace BD := zB BD hb
 replace O2 := hide O2.out.rd
 replace hU := zU hU hU.size hb
 clear hb
 have G2 := zGd E2 ((gm_ar Yc.out Yd.out hlen_mod))
 have L2 := zLe G2
 have Y2 := hide G2.by_
 clear G2
 refine zac (i := 19) (m' := 1048575) rfl rfl ((below_yes A1 A2 l1 l2 c1 c2 s1 s2 _ L1.out L2.out O1.out O2.out Y1.out Y2.out (HT.out.kept hU) (by rw [E1.out, E2.out]; exact ar_rf hlen_mod RA.out RB.out)).mono ?_)
 rintro e w91 ⟨rfl, hb⟩
 refine ⟨_, rfl, hb, ?_⟩
 replace HC1 := zH HM1 HC1 hb
 replace O1 := zQ O1 hb
 replace O2 := zQ O2 hb
 replace TV := hide (Two.kept TV.out hb)
 replace BD := zB BD hb
 replace hU := zU hU hU.size hb
 clear hb O1 C1 L1 Y1
 clear O2 C2 L2 Y2
 refine zav (i := 20) (m' := 2097151) (v := .bool false) F hQ rfl rfl (anyR_e (anyR_last (i := 21) (m' := 4194303) (v := .bool false) rfl rfl (by kernel_rfl) (by kernel_rfl) (by kernel_rfl) (by kernel_rfl) (by kernel_rfl) (anyE_done (by kernel_rfl) ?_)))
 clear F hQ HC0 BD0
 refine then_normal (zif (wp_skip (block_normal (then_normal (reg_lit (z2 [(65, .int .i64 9), (91, .int .i64 9)] (wpl_end ?_)))))))
 refine then_normal ?_
 clear BD
 refine zk [(6, pt Np 0), (7, pt Na 0), (8, pt Nb 0), (9, pt Nq 0), (10, pt Nc 0), (11, pt Nd 0), (63, .slice (some ⟨NV, 0, none⟩) 24 24), (64, .int .i64 24), (65, .int .i64 9)] (fun X => ?_)
 refine round_s (zs (z1 [(66, z_t)] (ze (wp_seq (zit ?_)))))
 refine wp_skip (then_normal (wp_seq (wp_block (zs (z1 [(67, pt NV 18)] (zw TV.out 9 (by decide) rfl rfl ?_))))))
 refine zm2 26 61 rfl rfl rfl ?_
 intro w92 ND BD hb
 replace BD := hide BD
 replace HC1 := zH HM1 HC1 hb
 replace TV := hide (Two.kept TV.out hb)
 replace hU := zU hU hU.size hb
 clear hb
 refine ze (wp_seq (region_R (n := 21) (N := 22) (by kernel_rfl) (by kernel_rfl) (by kernel_rfl) (by kernel_rfl) (by kernel_rfl) (by kernel_rfl) (fun _ _ _ _ _ h => h) ?_))
 intro F hQ
 have HC0 := HC1
 have BD0 := BD
 refine zav (i := 0) (m' := 1) (v := .pointer (some ⟨ND, 0, none⟩)) F hQ rfl rfl ?_
 refine anyR_val (i := 1) (m' := 3) (v := .int .u8 26) F hQ rfl rfl (by kernel_rfl) (by kernel_rfl) (by kernel_rfl) (by kernel_rfl) (by kernel_rfl) (fun w' hb => run_ldop rfl (by kernel_rfl) (BD0.out.kept hb)) ?_
 refine zav (i := 2) (m' := 7) (v := .bool true) F hQ rfl rfl (zav (i := 3) (m' := 15) (v := .bool true) F hQ rfl rfl (zav (i := 4) (m' := 31) (v := .pointer (some ⟨ND, 0, none⟩)) F hQ rfl rfl ?_))
 refine anyR_val (i := 5) (m' := 63) (v := .int .u8 26) F hQ rfl rfl (by kernel_rfl) (by kernel_rfl) (by kernel_rfl) (by kernel_rfl) (by kernel_rfl) (fun w' hb => run_ldop rfl (by kernel_rfl) (BD0.out.kept hb)) ?_
 refine zav (i := 6) (m' := 127) (v := .bool true) F hQ rfl rfl (zav (i := 7) (m' := 255) (v := .bool true) F hQ rfl rfl (zav (i := 8) (m' := 511) (v := .bool true) F hQ rfl rfl (zav (i := 9) (m' := 1023) (v := .pointer (some ⟨ND, 1, none⟩)) F hQ rfl rfl ?_)))
 refine anyR_val (i := 10) (m' := 2047) (v := .func (.func 61) #[] #[]) F hQ rfl rfl (by kernel_rfl) (by kernel_rfl) (by kernel_rfl) (by kernel_rfl) (by kernel_rfl) (fun w' hb => run_ldfn2 rfl (by kernel_rfl) (BD0.out.kept hb)) ?_
 refine anyR_ldvec (i := 11) (m' := 4095) (q1_a _ HC0.out) F hQ rfl rfl (by kernel_rfl) (by kernel_rfl) (by kernel_rfl) (by kernel_rfl) (by kernel_rfl) rfl (by kernel_rfl) (anyR_ldvec (i := 12) (m' := 8191) (q1_b _ HC0.out) F hQ rfl rfl (by kernel_rfl) (by kernel_rfl) (by kernel_rfl) (by kernel_rfl) (by kernel_rfl) rfl (by kernel_rfl) (zav (i := 14) (m' := 24575) (v := .pointer (some ⟨ND, 1, none⟩)) F hQ rfl rfl ?_))
 refine anyR_val (i := 15) (m' := 57343) (v := .func (.func 61) #[] #[]) F hQ rfl rfl (by kernel_rfl) (by kernel_rfl) (by kernel_rfl) (by kernel_rfl) (by kernel_rfl) (fun w' hb => run_ldfn2 rfl (by kernel_rfl) (BD0.out.kept hb)) ?_
 refine anyR_ldvec (i := 16) (m' := 122879) (q1_c _ HC0.out) F hQ rfl rfl (by kernel_rfl) (by kernel_rfl) (by kernel_rfl) (by kernel_rfl) (by kernel_rfl) rfl (by kernel_rfl) (anyR_ldvec (i := 17) (m' := 253951) (q1_d _ HC0.out) F hQ rfl rfl (by kernel_rfl) (by kernel_rfl) (by kernel_rfl) (by kernel_rfl) (by kernel_rfl) rfl (by kernel_rfl) ?_)
 refine zac (i := 13) (m' := 262143) rfl rfl ((vPow_any Aa Ab la lb ca cb sa sb _ La.out Lb.out Ca Cb (by exact (p1_a w92 HC1.out)) (by exact (p1_b w92 HC1.out)) Ya.out Yb.out (HT.out.kept (Below.drew hU))).mono ?_)
 rintro e w93 ⟨l1, s1, A1, c1, E1, rfl, C1, O1, hb⟩
 refine ⟨_, rfl, hb, ?_⟩
 replace hb : Below w92.heap.size w92 w93 := Below.trans ((Below.refl _ _).drew) hb
 replace HC1 := zH HM1 HC1 hb
 replace TV := hide (Two.kept TV.out hb)
 replace BD := zB BD hb
 replace O1 := hide O1.out.rd
 replace hU := zU hU hU.size hb
 clear hb
 have G1 := zGd E1 ((gm_pow Ya.out))
 have L1 := zLe G1
 have Y1 := hide G1.by_
 clear G1
 refine zac (i := 18) (m' := 524287) rfl rfl ((vPow_any Ac Ad lc ld cc cd sc sd _ Lc.out Ld.out Cc Cd (p1_c w93 HC1.out) (p1_d w93 HC1.out) Yc.out Yd.out (HT.out.kept hU)).mono ?_)
 rintro e w94 ⟨l2, s2, A2, c2, E2, rfl, C2, O2, hb⟩
 refine ⟨_, rfl, hb, ?_⟩
 replace HC1 := zH HM1 HC1 hb
 replace O1 := zQ O1 hb
 replace TV := hide (Two.kept TV.out hb)
 replace BD := zB BD hb
 replace O2 := hide O2.out.rd
 replace hU := zU hU hU.size hb
 clear hb
 have G2 := zGd E2 ((gm_pow Yc.out))
 have L2 := zLe G2
 have Y2 := hide G2.by_
 clear G2
 refine zac (i := 19) (m' := 1048575) rfl rfl ((below_yes A1 A2 l1 l2 c1 c2 s1 s2 _ L1.out L2.out O1.out O2.out Y1.out Y2.out (HT.out.kept hU) (by rw [E1.out, E2.out]; exact vPow_rf RA.out RB.out)).mono ?_)
 rintro e w95 ⟨rfl, hb⟩
 refine ⟨_, rfl, hb, ?_⟩
 replace HC1 := zH HM1 HC1 hb
 replace O1 := zQ O1 hb
 replace O2 := zQ O2 hb
 replace TV := hide (Two.kept TV.out hb)
 replace BD := zB BD hb
 replace hU := zU hU hU.size hb
 clear hb O1 C1 L1 Y1
 clear O2 C2 L2 Y2
 refine zav (i := 20) (m' := 2097151) (v := .bool false) F hQ rfl rfl (anyR_e (anyR_last (i := 21) (m' := 4194303) (v := .bool false) rfl rfl (by kernel_rfl) (by kernel_rfl) (by kernel_rfl) (by kernel_rfl) (by kernel_rfl) (anyE_done (by kernel_rfl) ?_)))
 clear F hQ HC0 BD0
 refine then_normal (zif (wp_skip (block_normal (then_normal (reg_lit (z2 [(65, .int .i64 10), (91, .int .i64 10)] (wpl_end ?_)))))))
 refine then_normal ?_
 clear BD
 refine zk [(6, pt Np 0), (7, pt Na 0), (8, pt Nb 0), (9, pt Nq 0), (10, pt Nc 0), (11, pt Nd 0), (63, .slice (some ⟨NV, 0, none⟩) 24 24), (64, .int .i64 24), (65, .int .i64 10)] (fun X => ?_)
 refine round_s (zs (z1 [(66, z_t)] (ze (wp_seq (zit ?_)))))
 refine wp_skip (then_normal (wp_seq (wp_block (zs (z1 [(67, pt NV 20)] (zw TV.out 10 (by decide) rfl rfl ?_))))))
 refine zm2 27 91 rfl rfl rfl ?_
 intro w96 ND BD hb
 replace BD := hide BD
 replace HC1 := zH HM1 HC1 hb
 replace TV := hide (Two.kept TV.out hb)
 replace hU := zU hU hU.size hb
 clear hb
 refine ze (wp_seq (region_R (n := 21) (N := 22) (by kernel_rfl) (by kernel_rfl) (by kernel_rfl) (by kernel_rfl) (by kernel_rfl) (by kernel_rfl) (fun _ _ _ _ _ h => h) ?_))
 intro F hQ
 have HC0 := HC1
 have BD0 := BD
 refine zav (i := 0) (m' := 1) (v := .pointer (some ⟨ND, 0, none⟩)) F hQ rfl rfl ?_
 refine anyR_val (i := 1) (m' := 3) (v := .int .u8 27) F hQ rfl rfl (by kernel_rfl) (by kernel_rfl) (by kernel_rfl) (by kernel_rfl) (by kernel_rfl) (fun w' hb => run_ldop rfl (by kernel_rfl) (BD0.out.kept hb)) ?_
 refine zav (i := 2) (m' := 7) (v := .bool true) F hQ rfl rfl (zav (i := 3) (m' := 15) (v := .bool true) F hQ rfl rfl (zav (i := 4) (m' := 31) (v := .pointer (some ⟨ND, 0, none⟩)) F hQ rfl rfl ?_))
 refine anyR_val (i := 5) (m' := 63) (v := .int .u8 27) F hQ rfl rfl (by kernel_rfl) (by kernel_rfl) (by kernel_rfl) (by kernel_rfl) (by kernel_rfl) (fun w' hb => run_ldop rfl (by kernel_rfl) (BD0.out.kept hb)) ?_
 refine zav (i := 6) (m' := 127) (v := .bool true) F hQ rfl rfl (zav (i := 7) (m' := 255) (v := .bool true) F hQ rfl rfl (zav (i := 8) (m' := 511) (v := .bool true) F hQ rfl rfl (zav (i := 9) (m' := 1023) (v := .pointer (some ⟨ND, 1, none⟩)) F hQ rfl rfl ?_)))
 refine anyR_val (i := 10) (m' := 2047) (v := .func (.func 91) #[] #[]) F hQ rfl rfl (by kernel_rfl) (by kernel_rfl) (by kernel_rfl) (by kernel_rfl) (by kernel_rfl) (fun w' hb => run_ldfn2 rfl (by kernel_rfl) (BD0.out.kept hb)) ?_
 refine anyR_ldvec (i := 11) (m' := 4095) (q1_a _ HC0.out) F hQ rfl rfl (by kernel_rfl) (by kernel_rfl) (by kernel_rfl) (by kernel_rfl) (by kernel_rfl) rfl (by kernel_rfl) (anyR_ldvec (i := 12) (m' := 8191) (q1_b _ HC0.out) F hQ rfl rfl (by kernel_rfl) (by kernel_rfl) (by kernel_rfl) (by kernel_rfl) (by kernel_rfl) rfl (by kernel_rfl) (zav (i := 14) (m' := 24575) (v := .pointer (some ⟨ND, 1, none⟩)) F hQ rfl rfl ?_))
 refine anyR_val (i := 15) (m' := 57343) (v := .func (.func 91) #[] #[]) F hQ rfl rfl (by kernel_rfl) (by kernel_rfl) (by kernel_rfl) (by kernel_rfl) (by kernel_rfl) (fun w' hb => run_ldfn2 rfl (by kernel_rfl) (BD0.out.kept hb)) ?_
 refine anyR_ldvec (i := 16) (m' := 122879) (q1_c _ HC0.out) F hQ rfl rfl (by kernel_rfl) (by kernel_rfl) (by kernel_rfl) (by kernel_rfl) (by kernel_rfl) rfl (by kernel_rfl) (anyR_ldvec (i := 17) (m' := 253951) (q1_d _ HC0.out) F hQ rfl rfl (by kernel_rfl) (by kernel_rfl) (by kernel_rfl) (by kernel_rfl) (by kernel_rfl) rfl (by kernel_rfl) ?_)
 refine zac (i := 13) (m' := 262143) rfl rfl ((vEq_any Aa Ab la lb ca cb sa sb _ La.out Lb.out Ca Cb (by exact (p1_a w96 HC1.out)) (by exact (p1_b w96 HC1.out)) Ya.out Yb.out (HT.out.kept (Below.drew hU))).mono ?_)
 rintro e w97 ⟨l1, s1, A1, c1, E1, rfl, C1, O1, hb⟩
 refine ⟨_, rfl, hb, ?_⟩
 replace hb : Below w96.heap.size w96 w97 := Below.trans ((Below.refl _ _).drew) hb
 replace HC1 := zH HM1 HC1 hb
 replace TV := hide (Two.kept TV.out hb)
 replace BD := zB BD hb
 replace O1 := hide O1.out.rd
 replace hU := zU hU hU.size hb
 clear hb
 have G1 := zGd E1 ((gm_red mAnd_3))
 have L1 := zLe G1
 have Y1 := hide G1.by_
 clear G1
 refine zac (i := 18) (m' := 524287) rfl rfl ((vEq_any Ac Ad lc ld cc cd sc sd _ Lc.out Ld.out Cc Cd (p1_c w97 HC1.out) (p1_d w97 HC1.out) Yc.out Yd.out (HT.out.kept hU)).mono ?_)
 rintro e w98 ⟨l2, s2, A2, c2, E2, rfl, C2, O2, hb⟩
 refine ⟨_, rfl, hb, ?_⟩
 replace HC1 := zH HM1 HC1 hb
 replace O1 := zQ O1 hb
 replace TV := hide (Two.kept TV.out hb)
 replace BD := zB BD hb
 replace O2 := hide O2.out.rd
 replace hU := zU hU hU.size hb
 clear hb
 have G2 := zGd E2 ((gm_red mAnd_3))
 have L2 := zLe G2
 have Y2 := hide G2.by_
 clear G2
 refine zac (i := 19) (m' := 1048575) rfl rfl ((below_yes A1 A2 l1 l2 c1 c2 s1 s2 _ L1.out L2.out O1.out O2.out Y1.out Y2.out (HT.out.kept hU) (by rw [E1.out, E2.out]; exact rf_eq RA.out RB.out)).mono ?_)
 rintro e w99 ⟨rfl, hb⟩
 refine ⟨_, rfl, hb, ?_⟩
 replace HC1 := zH HM1 HC1 hb
 replace O1 := zQ O1 hb
 replace O2 := zQ O2 hb
 replace TV := hide (Two.kept TV.out hb)
 replace BD := zB BD hb
 replace hU := zU hU hU.size hb
 clear hb O1 C1 L1 Y1
 clear O2 C2 L2 Y2
 refine zav (i := 20) (m' := 2097151) (v := .bool false) F hQ rfl rfl (anyR_e (anyR_last (i := 21) (m' := 4194303) (v := .bool false) rfl rfl (by kernel_rfl) (by kernel_rfl) (by kernel_rfl) (by kernel_rfl) (by kernel_rfl) (anyE_done (by kernel_rfl) ?_)))
 clear F hQ HC0 BD0
 refine then_normal (zif (wp_skip (block_normal (then_normal (reg_lit (z2 [(65, .int .i64 11), (91, .int .i64 11)] (wpl_end ?_)))))))
 refine then_normal ?_
 clear BD
 refine zk [(6, pt Np 0), (7, pt Na 0), (8, pt Nb 0), (9, pt Nq 0), (10, pt Nc 0), (11, pt Nd 0), (63, .slice (some ⟨NV, 0, none⟩) 24 24), (64, .int .i64 24), (65, .int .i64 11)] (fun X => ?_)
 refine round_s (zs (z1 [(66, z_t)] (ze (wp_seq (zit ?_)))))
 refine wp_skip (then_normal (wp_seq (wp_block (zs (z1 [(67, pt NV 22)] (zw TV.out 11 (by decide) rfl rfl ?_))))))
 refine zm2 28 80 rfl rfl rfl ?_
 intro w100 ND BD hb
 replace BD := hide BD
 replace HC1 := zH HM1 HC1 hb
 replace TV := hide (Two.kept TV.out hb)
 replace hU := zU hU hU.size hb
 clear hb
 refine ze (wp_seq (region_R (n := 21) (N := 22) (by kernel_rfl) (by kernel_rfl) (by kernel_rfl) (by kernel_rfl) (by kernel_rfl) (by kernel_rfl) (fun _ _ _ _ _ h => h) ?_))
 intro F hQ
 have HC0 := HC1
 have BD0 := BD
 refine zav (i := 0) (m' := 1) (v := .pointer (some ⟨ND, 0, none⟩)) F hQ rfl rfl ?_
 refine anyR_val (i := 1) (m' := 3) (v := .int .u8 28) F hQ rfl rfl (by kernel_rfl) (by kernel_rfl) (by kernel_rfl) (by kernel_rfl) (by kernel_rfl) (fun w' hb => run_ldop rfl (by kernel_rfl) (BD0.out.kept hb)) ?_
 refine zav (i := 2) (m' := 7) (v := .bool true) F hQ rfl rfl (zav (i := 3) (m' := 15) (v := .bool true) F hQ rfl rfl (zav (i := 4) (m' := 31) (v := .pointer (some ⟨ND, 0, none⟩)) F hQ rfl rfl ?_))
 refine anyR_val (i := 5) (m' := 63) (v := .int .u8 28) F hQ rfl rfl (by kernel_rfl) (by kernel_rfl) (by kernel_rfl) (by kernel_rfl) (by kernel_rfl) (fun w' hb => run_ldop rfl (by kernel_rfl) (BD0.out.kept hb)) ?_
 refine zav (i := 6) (m' := 127) (v := .bool true) F hQ rfl rfl (zav (i := 7) (m' := 255) (v := .bool true) F hQ rfl rfl (zav (i := 8) (m' := 511) (v := .bool true) F hQ rfl rfl (zav (i := 9) (m' := 1023) (v := .pointer (some ⟨ND, 1, none⟩)) F hQ rfl rfl ?_)))
 refine anyR_val (i := 10) (m' := 2047) (v := .func (.func 80) #[] #[]) F hQ rfl rfl (by kernel_rfl) (by kernel_rfl) (by kernel_rfl) (by kernel_rfl) (by kernel_rfl) (fun w' hb => run_ldfn2 rfl (by kernel_rfl) (BD0.out.kept hb)) ?_
 refine anyR_ldvec (i := 11) (m' := 4095) (q1_a _ HC0.out) F hQ rfl rfl (by kernel_rfl) (by kernel_rfl) (by kernel_rfl) (by kernel_rfl) (by kernel_rfl) rfl (by kernel_rfl) (anyR_ldvec (i := 12) (m' := 8191) (q1_b _ HC0.out) F hQ rfl rfl (by kernel_rfl) (by kernel_rfl) (by kernel_rfl) (by kernel_rfl) (by kernel_rfl) rfl (by kernel_rfl) (zav (i := 14) (m' := 24575) (v := .pointer (some ⟨ND, 1, none⟩)) F hQ rfl rfl ?_))
 refine anyR_val (i := 15) (m' := 57343) (v := .func (.func 80) #[] #[]) F hQ rfl rfl (by kernel_rfl) (by kernel_rfl) (by kernel_rfl) (by kernel_rfl) (by kernel_rfl) (fun w' hb => run_ldfn2 rfl (by kernel_rfl) (BD0.out.kept hb)) ?_
 refine anyR_ldvec (i := 16) (m' := 122879) (q1_c _ HC0.out) F hQ rfl rfl (by kernel_rfl) (by kernel_rfl) (by kernel_rfl) (by kernel_rfl) (by kernel_rfl) rfl (by kernel_rfl) (anyR_ldvec (i := 17) (m' := 253951) (q1_d _ HC0.out) F hQ rfl rfl (by kernel_rfl) (by kernel_rfl) (by kernel_rfl) (by kernel_rfl) (by kernel_rfl) rfl (by kernel_rfl) ?_)
 refine zac (i := 13) (m' := 262143) rfl rfl ((vNe_any Aa Ab la lb ca cb sa sb _ La.out Lb.out Ca Cb (by exact (p1_a w100 HC1.out)) (by exact (p1_b w100 HC1.out)) Ya.out Yb.out (HT.out.kept (Below.drew hU))).mono ?_)
 rintro e w101 ⟨l1, s1, A1, c1, E1, rfl, C1, O1, hb⟩
 refine ⟨_, rfl, hb, ?_⟩
 replace hb : Below w100.heap.size w100 w101 := Below.trans ((Below.refl _ _).drew) hb
 replace HC1 := zH HM1 HC1 hb
 replace TV := hide (Two.kept TV.out hb)
 replace BD := zB BD hb
 replace O1 := hide O1.out.rd
 replace hU := zU hU hU.size hb
 clear hb
 have G1 := zGd E1 ((gm_3 (mNot_3 _)))
 have L1 := zLe G1
 have Y1 := hide G1.by_
 clear G1
 refine zac (i := 18) (m' := 524287) rfl rfl ((vNe_any Ac Ad lc ld cc cd sc sd _ Lc.out Ld.out Cc Cd (p1_c w101 HC1.out) (p1_d w101 HC1.out) Yc.out Yd.out (HT.out.kept hU)).mono ?_)
 rintro e w102 ⟨l2, s2, A2, c2, E2, rfl, C2, O2, hb⟩
 refine ⟨_, rfl, hb, ?_⟩
 replace HC1 := zH HM1 HC1 hb
 replace O1 := zQ O1 hb
 replace TV := hide (Two.kept TV.out hb)
 replace BD := zB BD hb
 replace O2 := hide O2.out.rd
 replace hU := zU hU hU.size hb
 clear hb
 have G2 := zGd E2 ((gm_3 (mNot_3 _)))
 have L2 := zLe G2
 have Y2 := hide G2.by_
 clear G2
 refine zac (i := 19) (m' := 1048575) rfl rfl ((below_yes A1 A2 l1 l2 c1 c2 s1 s2 _ L1.out L2.out O1.out O2.out Y1.out Y2.out (HT.out.kept hU) (by rw [E1.out, E2.out]; exact rf_ne RA.out RB.out)).mono ?_)
 rintro e w103 ⟨rfl, hb⟩
 refine ⟨_, rfl, hb, ?_⟩
 replace HC1 := zH HM1 HC1 hb
 replace O1 := zQ O1 hb
 replace O2 := zQ O2 hb
 replace TV := hide (Two.kept TV.out hb)
 replace BD := zB BD hb
 replace hU := zU hU hU.size hb
 clear hb O1 C1 L1 Y1
 clear O2 C2 L2 Y2
 refine zav (i := 20) (m' := 2097151) (v := .bool false) F hQ rfl rfl (anyR_e (anyR_last (i := 21) (m' := 4194303) (v := .bool false) rfl rfl (by kernel_rfl) (by kernel_rfl) (by kernel_rfl) (by kernel_rfl) (by kernel_rfl) (anyE_done (by kernel_rfl) ?_)))
 clear F hQ HC0 BD0
 refine then_normal (zif (wp_skip (block_normal (then_normal (reg_lit (z2 [(65, .int .i64 12), (91, .int .i64 12)] (wpl_end ?_)))))))
 refine then_normal ?_
 clear BD
 refine zk [(6, pt Np 0), (7, pt Na 0), (8, pt Nb 0), (9, pt Nq 0), (10, pt Nc 0), (11, pt Nd 0), (63, .slice (some ⟨NV, 0, none⟩) 24 24), (64, .int .i64 24), (65, .int .i64 12)] (fun X => ?_)
 refine round_s (zs (z1 [(66, z_t)] (ze (wp_seq (zit ?_)))))
 refine wp_skip (then_normal (wp_seq (wp_block (zs (z1 [(67, pt NV 24)] (zw TV.out 12 (by decide) rfl rfl ?_))))))
 refine zm2 31 76 rfl rfl rfl ?_
 intro w104 ND BD hb
 replace BD := hide BD
 replace HC1 := zH HM1 HC1 hb
 replace TV := hide (Two.kept TV.out hb)
 replace hU := zU hU hU.size hb
 clear hb
 refine ze (wp_seq (region_R (n := 21) (N := 22) (by kernel_rfl) (by kernel_rfl) (by kernel_rfl) (by kernel_rfl) (by kernel_rfl) (by kernel_rfl) (fun _ _ _ _ _ h => h) ?_))
 intro F hQ
 have HC0 := HC1
 have BD0 := BD
 refine zav (i := 0) (m' := 1) (v := .pointer (some ⟨ND, 0, none⟩)) F hQ rfl rfl ?_
 refine anyR_val (i := 1) (m' := 3) (v := .int .u8 31) F hQ rfl rfl (by kernel_rfl) (by kernel_rfl) (by kernel_rfl) (by kernel_rfl) (by kernel_rfl) (fun w' hb => run_ldop rfl (by kernel_rfl) (BD0.out.kept hb)) ?_
 refine zav (i := 2) (m' := 7) (v := .bool true) F hQ rfl rfl (zav (i := 3) (m' := 15) (v := .bool true) F hQ rfl rfl (zav (i := 4) (m' := 31) (v := .pointer (some ⟨ND, 0, none⟩)) F hQ rfl rfl ?_))
 refine anyR_val (i := 5) (m' := 63) (v := .int .u8 31) F hQ rfl rfl (by kernel_rfl) (by kernel_rfl) (by kernel_rfl) (by kernel_rfl) (by kernel_rfl) (fun w' hb => run_ldop rfl (by kernel_rfl) (BD0.out.kept hb)) ?_
 refine zav (i := 6) (m' := 127) (v := .bool true) F hQ rfl rfl (zav (i := 7) (m' := 255) (v := .bool true) F hQ rfl rfl (zav (i := 8) (m' := 511) (v := .bool true) F hQ rfl rfl (zav (i := 9) (m' := 1023) (v := .pointer (some ⟨ND, 1, none⟩)) F hQ rfl rfl ?_)))
 refine anyR_val (i := 10) (m' := 2047) (v := .func (.func 76) #[] #[]) F hQ rfl rfl (by kernel_rfl) (by kernel_rfl) (by kernel_rfl) (by kernel_rfl) (by kernel_rfl) (fun w' hb => run_ldfn2 rfl (by kernel_rfl) (BD0.out.kept hb)) ?_
 refine anyR_ldvec (i := 11) (m' := 4095) (q1_a _ HC0.out) F hQ rfl rfl (by kernel_rfl) (by kernel_rfl) (by kernel_rfl) (by kernel_rfl) (by kernel_rfl) rfl (by kernel_rfl) (anyR_ldvec (i := 12) (m' := 8191) (q1_b _ HC0.out) F hQ rfl rfl (by kernel_rfl) (by kernel_rfl) (by kernel_rfl) (by kernel_rfl) (by kernel_rfl) rfl (by kernel_rfl) (zav (i := 14) (m' := 24575) (v := .pointer (some ⟨ND, 1, none⟩)) F hQ rfl rfl ?_))
 refine anyR_val (i := 15) (m' := 57343) (v := .func (.func 76) #[] #[]) F hQ rfl rfl (by kernel_rfl) (by kernel_rfl) (by kernel_rfl) (by kernel_rfl) (by kernel_rfl) (fun w' hb => run_ldfn2 rfl (by kernel_rfl) (BD0.out.kept hb)) ?_
 refine anyR_ldvec (i := 16) (m' := 122879) (q1_c _ HC0.out) F hQ rfl rfl (by kernel_rfl) (by kernel_rfl) (by kernel_rfl) (by kernel_rfl) (by kernel_rfl) rfl (by kernel_rfl) (anyR_ldvec (i := 17) (m' := 253951) (q1_d _ HC0.out) F hQ rfl rfl (by kernel_rfl) (by kernel_rfl) (by kernel_rfl) (by kernel_rfl) (by kernel_rfl) rfl (by kernel_rfl) ?_)
 refine zac (i := 13) (m' := 262143) rfl rfl ((vLt_any Aa Ab la lb ca cb sa sb _ La.out Lb.out Ca Cb (by exact (p1_a w104 HC1.out)) (by exact (p1_b w104 HC1.out)) Ya.out Yb.out).mono ?_)
 rintro e w105 ⟨l1, s1, A1, c1, E1, rfl, C1, O1, hb⟩
 refine ⟨_, rfl, hb, ?_⟩
 replace hb : Below w104.heap.size w104 w105 := Below.trans ((Below.refl _ _).drew) hb
 replace HC1 := zH HM1 HC1 hb
 replace TV := hide (Two.kept TV.out hb)
 replace BD := zB BD hb
 replace O1 := hide O1.out.rd
 replace hU := zU hU hU.size hb
 clear hb
 have G1 := zGd E1 ((gm_cmp _ _ _))
 have L1 := zLe G1
 have Y1 := hide G1.by_
 clear G1
 refine zac (i := 18) (m' := 524287) rfl rfl ((vLt_any Ac Ad lc ld cc cd sc sd _ Lc.out Ld.out Cc Cd (p1_c w105 HC1.out) (p1_d w105 HC1.out) Yc.out Yd.out).mono ?_)
 rintro e w106 ⟨l2, s2, A2, c2, E2, rfl, C2, O2, hb⟩
 refine ⟨_, rfl, hb, ?_⟩
 replace HC1 := zH HM1 HC1 hb
 replace O1 := zQ O1 hb
 replace TV := hide (Two.kept TV.out hb)
 replace BD := zB BD hb
 replace O2 := hide O2.out.rd
 replace hU := zU hU hU.size hb
 clear hb
 have G2 := zGd E2 ((gm_cmp _ _ _))
 have L2 := zLe G2
 have Y2 := hide G2.by_
 clear G2
 refine zac (i := 19) (m' := 1048575) rfl rfl ((below_yes A1 A2 l1 l2 c1 c2 s1 s2 _ L1.out L2.out O1.out O2.out Y1.out Y2.out (HT.out.kept hU) (by rw [E1.out, E2.out]; exact vCmp_rf _ RA.out RB.out)).mono ?_)
 rintro e w107 ⟨rfl, hb⟩
 refine ⟨_, rfl, hb, ?_⟩
 replace HC1 := zH HM1 HC1 hb
 replace O1 := zQ O1 hb
 replace O2 := zQ O2 hb
 replace TV := hide (Two.kept TV.out hb)
 replace BD := zB BD hb
 replace hU := zU hU hU.size hb
 clear hb O1 C1 L1 Y1
 clear O2 C2 L2 Y2
 refine zav (i := 20) (m' := 2097151) (v := .bool false) F hQ rfl rfl (anyR_e (anyR_last (i := 21) (m' := 4194303) (v := .bool false) rfl rfl (by kernel_rfl) (by kernel_rfl) (by kernel_rfl) (by kernel_rfl) (by kernel_rfl) (anyE_done (by kernel_rfl) ?_)))
 clear F hQ HC0 BD0
 refine then_normal (zif (wp_skip (block_normal (then_normal (reg_lit (z2 [(65, .int .i64 13), (91, .int .i64 13)] (wpl_end ?_)))))))
 refine then_normal ?_
 clear BD
 refine zk [(6, pt Np 0), (7, pt Na 0), (8, pt Nb 0), (9, pt Nq 0), (10, pt Nc 0), (11, pt Nd 0), (63, .slice (some ⟨NV, 0, none⟩) 24 24), (64, .int .i64 24), (65, .int .i64 13)] (fun X => ?_)
 refine round_s (zs (z1 [(66, z_t)] (ze (wp_seq (zit ?_)))))
 refine wp_skip (then_normal (wp_seq (wp_block (zs (z1 [(67, pt NV 26)] (zw TV.out 13 (by decide) rfl rfl ?_))))))
 refine zm2 32 78 rfl rfl rfl ?_
 intro w108 ND BD hb
 replace BD := hide BD
 replace HC1 := zH HM1 HC1 hb
 replace TV := hide (Two.kept TV.out hb)
 replace hU := zU hU hU.size hb
 clear hb
 refine ze (wp_seq (region_R (n := 21) (N := 22) (by kernel_rfl) (by kernel_rfl) (by kernel_rfl) (by kernel_rfl) (by kernel_rfl) (by kernel_rfl) (fun _ _ _ _ _ h => h) ?_))
 intro F hQ
 have HC0 := HC1
 have BD0 := BD
 refine zav (i := 0) (m' := 1) (v := .pointer (some ⟨ND, 0, none⟩)) F hQ rfl rfl ?_
 refine anyR_val (i := 1) (m' := 3) (v := .int .u8 32) F hQ rfl rfl (by kernel_rfl) (by kernel_rfl) (by kernel_rfl) (by kernel_rfl) (by kernel_rfl) (fun w' hb => run_ldop rfl (by kernel_rfl) (BD0.out.kept hb)) ?_
 refine zav (i := 2) (m' := 7) (v := .bool true) F hQ rfl rfl (zav (i := 3) (m' := 15) (v := .bool true) F hQ rfl rfl (zav (i := 4) (m' := 31) (v := .pointer (some ⟨ND, 0, none⟩)) F hQ rfl rfl ?_))
 refine anyR_val (i := 5) (m' := 63) (v := .int .u8 32) F hQ rfl rfl (by kernel_rfl) (by kernel_rfl) (by kernel_rfl) (by kernel_rfl) (by kernel_rfl) (fun w' hb => run_ldop rfl (by kernel_rfl) (BD0.out.kept hb)) ?_
 refine zav (i := 6) (m' := 127) (v := .bool true) F hQ rfl rfl (zav (i := 7) (m' := 255) (v := .bool true) F hQ rfl rfl (zav (i := 8) (m' := 511) (v := .bool true) F hQ rfl rfl (zav (i := 9) (m' := 1023) (v := .pointer (some ⟨ND, 1, none⟩)) F hQ rfl rfl ?_)))
 refine anyR_val (i := 10) (m' := 2047) (v := .func (.func 78) #[] #[]) F hQ rfl rfl (by kernel_rfl) (by kernel_rfl) (by kernel_rfl) (by kernel_rfl) (by kernel_rfl) (fun w' hb => run_ldfn2 rfl (by kernel_rfl) (BD0.out.kept hb)) ?_
 refine anyR_ldvec (i := 11) (m' := 4095) (q1_a _ HC0.out) F hQ rfl rfl (by kernel_rfl) (by kernel_rfl) (by kernel_rfl) (by kernel_rfl) (by kernel_rfl) rfl (by kernel_rfl) (anyR_ldvec (i := 12) (m' := 8191) (q1_b _ HC0.out) F hQ rfl rfl (by kernel_rfl) (by kernel_rfl) (by kernel_rfl) (by kernel_rfl) (by kernel_rfl) rfl (by kernel_rfl) (zav (i := 14) (m' := 24575) (v := .pointer (some ⟨ND, 1, none⟩)) F hQ rfl rfl ?_))
 refine anyR_val (i := 15) (m' := 57343) (v := .func (.func 78) #[] #[]) F hQ rfl rfl (by kernel_rfl) (by kernel_rfl) (by kernel_rfl) (by kernel_rfl) (by kernel_rfl) (fun w' hb => run_ldfn2 rfl (by kernel_rfl) (BD0.out.kept hb)) ?_
 refine anyR_ldvec (i := 16) (m' := 122879) (q1_c _ HC0.out) F hQ rfl rfl (by kernel_rfl) (by kernel_rfl) (by kernel_rfl) (by kernel_rfl) (by kernel_rfl) rfl (by kernel_rfl) (anyR_ldvec (i := 17) (m' := 253951) (q1_d _ HC0.out) F hQ rfl rfl (by kernel_rfl) (by kernel_rfl) (by kernel_rfl) (by kernel_rfl) (by kernel_rfl) rfl (by kernel_rfl) ?_)
 refine zac (i := 13) (m' := 262143) rfl rfl ((vLe_any Aa Ab la lb ca cb sa sb _ La.out Lb.out Ca Cb (by exact (p1_a w108 HC1.out)) (by exact (p1_b w108 HC1.out)) Ya.out Yb.out).mono ?_)
 rintro e w109 ⟨l1, s1, A1, c1, E1, rfl, C1, O1, hb⟩
 refine ⟨_, rfl, hb, ?_⟩
 replace hb : Below w108.heap.size w108 w109 := Below.trans ((Below.refl _ _).drew) hb
 replace HC1 := zH HM1 HC1 hb
 replace TV := hide (Two.kept TV.out hb)
 replace BD := zB BD hb
 replace O1 := hide O1.out.rd
 replace hU := zU hU hU.size hb
 clear hb
 have G1 := zGd E1 ((gm_cmp _ _ _))
 have L1 := zLe G1
 have Y1 := hide G1.by_
 clear G1
 refine zac (i := 18) (m' := 524287) rfl rfl ((vLe_any Ac Ad lc ld cc cd sc sd _ Lc.out Ld.out Cc Cd (p1_c w109 HC1.out) (p1_d w109 HC1.out) Yc.out Yd.out).mono ?_)
 rintro e w110 ⟨l2, s2, A2, c2, E2, rfl, C2, O2, hb⟩
 refine ⟨_, rfl, hb, ?_⟩
 replace HC1 := zH HM1 HC1 hb
 replace O1 := zQ O1 hb
 replace TV := hide (Two.kept TV.out hb)
 replace BD := zB BD hb
 replace O2 := hide O2.out.rd
 replace hU := zU hU hU.size hb
 clear hb
 have G2 := zGd E2 ((gm_cmp _ _ _))
 have L2 := zLe G2
 have Y2 := hide G2.by_
 clear G2
 refine zac (i := 19) (m' := 1048575) rfl rfl ((below_yes A1 A2 l1 l2 c1 c2 s1 s2 _ L1.out L2.out O1.out O2.out Y1.out Y2.out (HT.out.kept hU) (by rw [E1.out, E2.out]; exact vCmp_rf _ RA.out RB.out)).mono ?_)
 rintro e w111 ⟨rfl, hb⟩
 refine ⟨_, rfl, hb, ?_⟩
 replace HC1 := zH HM1 HC1 hb
 replace O1 := zQ O1 hb
 replace O2 := zQ O2 hb
 replace TV := hide (Two.kept TV.out hb)
 replace BD := zB BD hb
 replace hU := zU hU hU.size hb
 clear hb O1 C1 L1 Y1
 clear O2 C2 L2 Y2
 refine zav (i := 20) (m' := 2097151) (v := .bool false) F hQ rfl rfl (anyR_e (anyR_last (i := 21) (m' := 4194303) (v := .bool false) rfl rfl (by kernel_rfl) (by kernel_rfl) (by kernel_rfl) (by kernel_rfl) (by kernel_rfl) (anyE_done (by kernel_rfl) ?_)))
 clear F hQ HC0 BD0
 refine then_normal (zif (wp_skip (block_normal (then_normal (reg_lit (z2 [(65, .int .i64 14), (91, .int .i64 14)] (wpl_end ?_)))))))
 refine then_normal ?_
 clear BD
 refine zk [(6, pt Np 0), (7, pt Na 0), (8, pt Nb 0), (9, pt Nq 0), (10, pt Nc 0), (11, pt Nd 0), (63, .slice (some ⟨NV, 0, none⟩) 24 24), (64, .int .i64 24), (65, .int .i64 14)] (fun X => ?_)
 refine round_s (zs (z1 [(66, z_t)] (ze (wp_seq (zit ?_)))))
 refine wp_skip (then_normal (wp_seq (wp_block (zs (z1 [(67, pt NV 28)] (zw TV.out 14 (by decide) rfl rfl ?_))))))
 refine zm2 33 79 rfl rfl rfl ?_
 intro w112 ND BD hb
 replace BD := hide BD
 replace HC1 := zH HM1 HC1 hb
 replace TV := hide (Two.kept TV.out hb)
 replace hU := zU hU hU.size hb
 clear hb
 refine ze (wp_seq (region_R (n := 21) (N := 22) (by kernel_rfl) (by kernel_rfl) (by kernel_rfl) (by kernel_rfl) (by kernel_rfl) (by kernel_rfl) (fun _ _ _ _ _ h => h) ?_))
 intro F hQ
 have HC0 := HC1
 have BD0 := BD
 refine zav (i := 0) (m' := 1) (v := .pointer (some ⟨ND, 0, none⟩)) F hQ rfl rfl ?_
 refine anyR_val (i := 1) (m' := 3) (v := .int .u8 33) F hQ rfl rfl (by kernel_rfl) (by kernel_rfl) (by kernel_rfl) (by kernel_rfl) (by kernel_rfl) (fun w' hb => run_ldop rfl (by kernel_rfl) (BD0.out.kept hb)) ?_
 refine zav (i := 2) (m' := 7) (v := .bool true) F hQ rfl rfl (zav (i := 3) (m' := 15) (v := .bool true) F hQ rfl rfl (zav (i := 4) (m' := 31) (v := .pointer (some ⟨ND, 0, none⟩)) F hQ rfl rfl ?_))
 refine anyR_val (i := 5) (m' := 63) (v := .int .u8 33) F hQ rfl rfl (by kernel_rfl) (by kernel_rfl) (by kernel_rfl) (by kernel_rfl) (by kernel_rfl) (fun w' hb => run_ldop rfl (by kernel_rfl) (BD0.out.kept hb)) ?_
 refine zav (i := 6) (m' := 127) (v := .bool true) F hQ rfl rfl (zav (i := 7) (m' := 255) (v := .bool true) F hQ rfl rfl (zav (i := 8) (m' := 511) (v := .bool true) F hQ rfl rfl (zav (i := 9) (m' := 1023) (v := .pointer (some ⟨ND, 1, none⟩)) F hQ rfl rfl ?_)))
 refine anyR_val (i := 10) (m' := 2047) (v := .func (.func 79) #[] #[]) F hQ rfl rfl (by kernel_rfl) (by kernel_rfl) (by kernel_rfl) (by kernel_rfl) (by kernel_rfl) (fun w' hb => run_ldfn2 rfl (by kernel_rfl) (BD0.out.kept hb)) ?_
 refine anyR_ldvec (i := 11) (m' := 4095) (q1_a _ HC0.out) F hQ rfl rfl (by kernel_rfl) (by kernel_rfl) (by kernel_rfl) (by kernel_rfl) (by kernel_rfl) rfl (by kernel_rfl) (anyR_ldvec (i := 12) (m' := 8191) (q1_b _ HC0.out) F hQ rfl rfl (by kernel_rfl) (by kernel_rfl) (by kernel_rfl) (by kernel_rfl) (by kernel_rfl) rfl (by kernel_rfl) (zav (i := 14) (m' := 24575) (v := .pointer (some ⟨ND, 1, none⟩)) F hQ rfl rfl ?_))
 refine anyR_val (i := 15) (m' := 57343) (v := .func (.func 79) #[] #[]) F hQ rfl rfl (by kernel_rfl) (by kernel_rfl) (by kernel_rfl) (by kernel_rfl) (by kernel_rfl) (fun w' hb => run_ldfn2 rfl (by kernel_rfl) (BD0.out.kept hb)) ?_
 refine anyR_ldvec (i := 16) (m' := 122879) (q1_c _ HC0.out) F hQ rfl rfl (by kernel_rfl) (by kernel_rfl) (by kernel_rfl) (by kernel_rfl) (by kernel_rfl) rfl (by kernel_rfl) (anyR_ldvec (i := 17) (m' := 253951) (q1_d _ HC0.out) F hQ rfl rfl (by kernel_rfl) (by kernel_rfl) (by kernel_rfl) (by kernel_rfl) (by kernel_rfl) rfl (by kernel_rfl) ?_)
 refine zac (i := 13) (m' := 262143) rfl rfl ((vGt_any Aa Ab la lb ca cb sa sb _ La.out Lb.out Ca Cb (by exact (p1_a w112 HC1.out)) (by exact (p1_b w112 HC1.out)) Ya.out Yb.out).mono ?_)
 rintro e w113 ⟨l1, s1, A1, c1, E1, rfl, C1, O1, hb⟩
 refine ⟨_, rfl, hb, ?_⟩
 replace hb : Below w112.heap.size w112 w113 := Below.trans ((Below.refl _ _).drew) hb
 replace HC1 := zH HM1 HC1 hb
 replace TV := hide (Two.kept TV.out hb)
 replace BD := zB BD hb
 replace O1 := hide O1.out.rd
 replace hU := zU hU hU.size hb
 clear hb
 have G1 := zGd E1 ((gm_cmp _ _ _))
 have L1 := zLe G1
 have Y1 := hide G1.by_
 clear G1
 refine zac (i := 18) (m' := 524287) rfl rfl ((vGt_any Ac Ad lc ld cc cd sc sd _ Lc.out Ld.out Cc Cd (p1_c w113 HC1.out) (p1_d w113 HC1.out) Yc.out Yd.out).mono ?_)
 rintro e w114 ⟨l2, s2, A2, c2, E2, rfl, C2, O2, hb⟩
 refine ⟨_, rfl, hb, ?_⟩
 replace HC1 := zH HM1 HC1 hb
 replace O1 := zQ O1 hb
 replace TV := hide (Two.kept TV.out hb)
 replace BD := zB BD hb
 replace O2 := hide O2.out.rd
 replace hU := zU hU hU.size hb
 clear hb
 have G2 := zGd E2 ((gm_cmp _ _ _))
 have L2 := zLe G2
 have Y2 := hide G2.by_
 clear G2
 refine zac (i := 19) (m' := 1048575) rfl rfl ((below_yes A1 A2 l1 l2 c1 c2 s1 s2 _ L1.out L2.out O1.out O2.out Y1.out Y2.out (HT.out.kept hU) (by rw [E1.out, E2.out]; exact vCmp_rf _ RA.out RB.out)).mono ?_)
 rintro e w115 ⟨rfl, hb⟩
 refine ⟨_, rfl, hb, ?_⟩
 replace HC1 := zH HM1 HC1 hb
 replace O1 := zQ O1 hb
 replace O2 := zQ O2 hb
 replace TV := hide (Two.kept TV.out hb)
 replace BD := zB BD hb
 replace hU := zU hU hU.size hb
 clear hb O1 C1 L1 Y1
 clear O2 C2 L2 Y2
 refine zav (i := 20) (m' := 2097151) (v := .bool false) F hQ rfl rfl (anyR_e (anyR_last (i := 21) (m' := 4194303) (v := .bool false) rfl rfl (by kernel_rfl) (by kernel_rfl) (by kernel_rfl) (by kernel_rfl) (by kernel_rfl) (anyE_done (by kernel_rfl) ?_)))
 clear F hQ HC0 BD0
 refine then_normal (zif (wp_skip (block_normal (then_normal (reg_lit (z2 [(65, .int .i64 15), (91, .int .i64 15)] (wpl_end ?_)))))))
 refine then_normal ?_
 clear BD
 refine zk [(6, pt Np 0), (7, pt Na 0), (8, pt Nb 0), (9, pt Nq 0), (10, pt Nc 0), (11, pt Nd 0), (63, .slice (some ⟨NV, 0, none⟩) 24 24), (64, .int .i64 24), (65, .int .i64 15)] (fun X => ?_)
 refine round_s (zs (z1 [(66, z_t)] (ze (wp_seq (zit ?_)))))
 refine wp_skip (then_normal (wp_seq (wp_block (zs (z1 [(67, pt NV 30)] (zw TV.out 15 (by decide) rfl rfl ?_))))))
 refine zm2 34 77 rfl rfl rfl ?_
 intro w116 ND BD hb
 replace BD := hide BD
 replace HC1 := zH HM1 HC1 hb
 replace TV := hide (Two.kept TV.out hb)
 replace hU := zU hU hU.size hb
 clear hb
 refine ze (wp_seq (region_R (n := 21) (N := 22) (by kernel_rfl) (by kernel_rfl) (by kernel_rfl) (by kernel_rfl) (by kernel_rfl) (by kernel_rfl) (fun _ _ _ _ _ h => h) ?_))
 intro F hQ
 have HC0 := HC1
 have BD0 := BD
 refine zav (i := 0) (m' := 1) (v := .pointer (some ⟨ND, 0, none⟩)) F hQ rfl rfl ?_
 refine anyR_val (i := 1) (m' := 3) (v := .int .u8 34) F hQ rfl rfl (by kernel_rfl) (by kernel_rfl) (by kernel_rfl) (by kernel_rfl) (by kernel_rfl) (fun w' hb => run_ldop rfl (by kernel_rfl) (BD0.out.kept hb)) ?_
 refine zav (i := 2) (m' := 7) (v := .bool true) F hQ rfl rfl (zav (i := 3) (m' := 15) (v := .bool true) F hQ rfl rfl (zav (i := 4) (m' := 31) (v := .pointer (some ⟨ND, 0, none⟩)) F hQ rfl rfl ?_))
 refine anyR_val (i := 5) (m' := 63) (v := .int .u8 34) F hQ rfl rfl (by kernel_rfl) (by kernel_rfl) (by kernel_rfl) (by kernel_rfl) (by kernel_rfl) (fun w' hb => run_ldop rfl (by kernel_rfl) (BD0.out.kept hb)) ?_
 refine zav (i := 6) (m' := 127) (v := .bool true) F hQ rfl rfl (zav (i := 7) (m' := 255) (v := .bool true) F hQ rfl rfl (zav (i := 8) (m' := 511) (v := .bool true) F hQ rfl rfl (zav (i := 9) (m' := 1023) (v := .pointer (some ⟨ND, 1, none⟩)) F hQ rfl rfl ?_)))
 refine anyR_val (i := 10) (m' := 2047) (v := .func (.func 77) #[] #[]) F hQ rfl rfl (by kernel_rfl) (by kernel_rfl) (by kernel_rfl) (by kernel_rfl) (by kernel_rfl) (fun w' hb => run_ldfn2 rfl (by kernel_rfl) (BD0.out.kept hb)) ?_
 refine anyR_ldvec (i := 11) (m' := 4095) (q1_a _ HC0.out) F hQ rfl rfl (by kernel_rfl) (by kernel_rfl) (by kernel_rfl) (by kernel_rfl) (by kernel_rfl) rfl (by kernel_rfl) (anyR_ldvec (i := 12) (m' := 8191) (q1_b _ HC0.out) F hQ rfl rfl (by kernel_rfl) (by kernel_rfl) (by kernel_rfl) (by kernel_rfl) (by kernel_rfl) rfl (by kernel_rfl) (zav (i := 14) (m' := 24575) (v := .pointer (some ⟨ND, 1, none⟩)) F hQ rfl rfl ?_))
 refine anyR_val (i := 15) (m' := 57343) (v := .func (.func 77) #[] #[]) F hQ rfl rfl (by kernel_rfl) (by kernel_rfl) (by kernel_rfl) (by kernel_rfl) (by kernel_rfl) (fun w' hb => run_ldfn2 rfl (by kernel_rfl) (BD0.out.kept hb)) ?_
 refine anyR_ldvec (i := 16) (m' := 122879) (q1_c _ HC0.out) F hQ rfl rfl (by kernel_rfl) (by kernel_rfl) (by kernel_rfl) (by kernel_rfl) (by kernel_rfl) rfl (by kernel_rfl) (anyR_ldvec (i := 17) (m' := 253951) (q1_d _ HC0.out) F hQ rfl rfl (by kernel_rfl) (by kernel_rfl) (by kernel_rfl) (by kernel_rfl) (by kernel_rfl) rfl (by kernel_rfl) ?_)
 refine zac (i := 13) (m' := 262143) rfl rfl ((vGe_any Aa Ab la lb ca cb sa sb _ La.out Lb.out Ca Cb (by exact (p1_a w116 HC1.out)) (by exact (p1_b w116 HC1.out)) Ya.out Yb.out).mono ?_)
 rintro e w117 ⟨l1, s1, A1, c1, E1, rfl, C1, O1, hb⟩
 refine ⟨_, rfl, hb, ?_⟩
 replace hb : Below w116.heap.size w116 w117 := Below.trans ((Below.refl _ _).drew) hb
 replace HC1 := zH HM1 HC1 hb
 replace TV := hide (Two.kept TV.out hb)
 replace BD := zB BD hb
 replace O1 := hide O1.out.rd
 replace hU := zU hU hU.size hb
 clear hb
 have G1 := zGd E1 ((gm_cmp _ _ _))
 have L1 := zLe G1
 have Y1 := hide G1.by_
 clear G1
 refine zac (i := 18) (m' := 524287) rfl rfl ((vGe_any Ac Ad lc ld cc cd sc sd _ Lc.out Ld.out Cc Cd (p1_c w117 HC1.out) (p1_d w117 HC1.out) Yc.out Yd.out).mono ?_)
 rintro e w118 ⟨l2, s2, A2, c2, E2, rfl, C2, O2, hb⟩
 refine ⟨_, rfl, hb, ?_⟩
 replace HC1 := zH HM1 HC1 hb
 replace O1 := zQ O1 hb
 replace TV := hide (Two.kept TV.out hb)
 replace BD := zB BD hb
 replace O2 := hide O2.out.rd
 replace hU := zU hU hU.size hb
 clear hb
 have G2 := zGd E2 ((gm_cmp _ _ _))
 have L2 := zLe G2
 have Y2 := hide G2.by_
 clear G2
 refine zac (i := 19) (m' := 1048575) rfl rfl ((below_yes A1 A2 l1 l2 c1 c2 s1 s2 _ L1.out L2.out O1.out O2.out Y1.out Y2.out (HT.out.kept hU) (by rw [E1.out, E2.out]; exact vCmp_rf _ RA.out RB.out)).mono ?_)
 rintro e w119 ⟨rfl, hb⟩
 refine ⟨_, rfl, hb, ?_⟩
 replace HC1 := zH HM1 HC1 hb
 replace O1 := zQ O1 hb
 replace O2 := zQ O2 hb
 replace TV := hide (Two.kept TV.out hb)
 replace BD := zB BD hb
 replace hU := zU hU hU.size hb
 clear hb O1 C1 L1 Y1
 clear O2 C2 L2 Y2
 refine zav (i := 20) (m' := 2097151) (v := .bool false) F hQ rfl rfl (anyR_e (anyR_last (i := 21) (m' := 4194303) (v := .bool false) rfl rfl (by kernel_rfl) (by kernel_rfl) (by kernel_rfl) (by kernel_rfl) (by kernel_rfl) (anyE_done (by kernel_rfl) ?_)))
 clear F hQ HC0 BD0
 refine then_normal (zif (wp_skip (block_normal (then_normal (reg_lit (z2 [(65, .int .i64 16), (91, .int .i64 16)] (wpl_end ?_)))))))
 refine then_normal ?_
 clear BD
 refine zk [(6, pt Np 0), (7, pt Na 0), (8, pt Nb 0), (9, pt Nq 0), (10, pt Nc 0), (11, pt Nd 0), (63, .slice (some ⟨NV, 0, none⟩) 24 24), (64, .int .i64 24), (65, .int .i64 16)] (fun X => ?_)
 refine round_s (zs (z1 [(66, z_t)] (ze (wp_seq (zit ?_)))))
 refine wp_skip (then_normal (wp_seq (wp_block (zs (z1 [(67, pt NV 32)] (zw TV.out 16 (by decide) rfl rfl ?_))))))
 refine zm2 35 73 rfl rfl rfl ?_
 intro w120 ND BD hb
 replace BD := hide BD
 replace HC1 := zH HM1 HC1 hb
 replace TV := hide (Two.kept TV.out hb)
 replace hU := zU hU hU.size hb
 clear hb
 refine ze (wp_seq (region_R (n := 21) (N := 22) (by kernel_rfl) (by kernel_rfl) (by kernel_rfl) (by kernel_rfl) (by kernel_rfl) (by kernel_rfl) (fun _ _ _ _ _ h => h) ?_))
 intro F hQ
 have HC0 := HC1
 have BD0 := BD
 refine zav (i := 0) (m' := 1) (v := .pointer (some ⟨ND, 0, none⟩)) F hQ rfl rfl ?_
 refine anyR_val (i := 1) (m' := 3) (v := .int .u8 35) F hQ rfl rfl (by kernel_rfl) (by kernel_rfl) (by kernel_rfl) (by kernel_rfl) (by kernel_rfl) (fun w' hb => run_ldop rfl (by kernel_rfl) (BD0.out.kept hb)) ?_
 refine zav (i := 2) (m' := 7) (v := .bool true) F hQ rfl rfl (zav (i := 3) (m' := 15) (v := .bool true) F hQ rfl rfl (zav (i := 4) (m' := 31) (v := .pointer (some ⟨ND, 0, none⟩)) F hQ rfl rfl ?_))
 refine anyR_val (i := 5) (m' := 63) (v := .int .u8 35) F hQ rfl rfl (by kernel_rfl) (by kernel_rfl) (by kernel_rfl) (by kernel_rfl) (by kernel_rfl) (fun w' hb => run_ldop rfl (by kernel_rfl) (BD0.out.kept hb)) ?_
 refine zav (i := 6) (m' := 127) (v := .bool true) F hQ rfl rfl (zav (i := 7) (m' := 255) (v := .bool true) F hQ rfl rfl (zav (i := 8) (m' := 511) (v := .bool true) F hQ rfl rfl (zav (i := 9) (m' := 1023) (v := .pointer (some ⟨ND, 1, none⟩)) F hQ rfl rfl ?_)))
 refine anyR_val (i := 10) (m' := 2047) (v := .func (.func 73) #[] #[]) F hQ rfl rfl (by kernel_rfl) (by kernel_rfl) (by kernel_rfl) (by kernel_rfl) (by kernel_rfl) (fun w' hb => run_ldfn2 rfl (by kernel_rfl) (BD0.out.kept hb)) ?_
 refine anyR_ldvec (i := 11) (m' := 4095) (q1_a _ HC0.out) F hQ rfl rfl (by kernel_rfl) (by kernel_rfl) (by kernel_rfl) (by kernel_rfl) (by kernel_rfl) rfl (by kernel_rfl) (anyR_ldvec (i := 12) (m' := 8191) (q1_b _ HC0.out) F hQ rfl rfl (by kernel_rfl) (by kernel_rfl) (by kernel_rfl) (by kernel_rfl) (by kernel_rfl) rfl (by kernel_rfl) (zav (i := 14) (m' := 24575) (v := .pointer (some ⟨ND, 1, none⟩)) F hQ rfl rfl ?_))
 refine anyR_val (i := 15) (m' := 57343) (v := .func (.func 73) #[] #[]) F hQ rfl rfl (by kernel_rfl) (by kernel_rfl) (by kernel_rfl) (by kernel_rfl) (by kernel_rfl) (fun w' hb => run_ldfn2 rfl (by kernel_rfl) (BD0.out.kept hb)) ?_
 refine anyR_ldvec (i := 16) (m' := 122879) (q1_c _ HC0.out) F hQ rfl rfl (by kernel_rfl) (by kernel_rfl) (by kernel_rfl) (by kernel_rfl) (by kernel_rfl) rfl (by kernel_rfl) (anyR_ldvec (i := 17) (m' := 253951) (q1_d _ HC0.out) F hQ rfl rfl (by kernel_rfl) (by kernel_rfl) (by kernel_rfl) (by kernel_rfl) (by kernel_rfl) rfl (by kernel_rfl) ?_)
 refine zac (i := 13) (m' := 262143) rfl rfl ((vLAnd_any Aa Ab la lb ca cb sa sb _ La.out Lb.out Ca Cb (by exact (p1_a w120 HC1.out)) (by exact (p1_b w120 HC1.out)) Ya.out Yb.out (HT.out.kept (Below.drew hU))).mono ?_)
 rintro e w121 ⟨l1, s1, A1, c1, E1, rfl, C1, O1, hb⟩
 refine ⟨_, rfl, hb, ?_⟩
 replace hb : Below w120.heap.size w120 w121 := Below.trans ((Below.refl _ _).drew) hb
 replace HC1 := zH HM1 HC1 hb
 replace TV := hide (Two.kept TV.out hb)
 replace BD := zB BD hb
 replace O1 := hide O1.out.rd
 replace hU := zU hU hU.size hb
 clear hb
 have G1 := zGd E1 ((gm_3 (mAnd_3 _ _)))
 have L1 := zLe G1
 have Y1 := hide G1.by_
 clear G1
 refine zac (i := 18) (m' := 524287) rfl rfl ((vLAnd_any Ac Ad lc ld cc cd sc sd _ Lc.out Ld.out Cc Cd (p1_c w121 HC1.out) (p1_d w121 HC1.out) Yc.out Yd.out (HT.out.kept hU)).mono ?_)
 rintro e w122 ⟨l2, s2, A2, c2, E2, rfl, C2, O2, hb⟩
 refine ⟨_, rfl, hb, ?_⟩
 replace HC1 := zH HM1 HC1 hb
 replace O1 := zQ O1 hb
 replace TV := hide (Two.kept TV.out hb)
 replace BD := zB BD hb
 replace O2 := hide O2.out.rd
 replace hU := zU hU hU.size hb
 clear hb
 have G2 := zGd E2 ((gm_3 (mAnd_3 _ _)))
 have L2 := zLe G2
 have Y2 := hide G2.by_
 clear G2
 refine zac (i := 19) (m' := 1048575) rfl rfl ((below_yes A1 A2 l1 l2 c1 c2 s1 s2 _ L1.out L2.out O1.out O2.out Y1.out Y2.out (HT.out.kept hU) (by rw [E1.out, E2.out]; exact rf_land RA.out RB.out)).mono ?_)
 rintro e w123 ⟨rfl, hb⟩
 refine ⟨_, rfl, hb, ?_⟩
 replace HC1 := zH HM1 HC1 hb
 replace O1 := zQ O1 hb
 replace O2 := zQ O2 hb
 replace TV := hide (Two.kept TV.out hb)
 replace BD := zB BD hb
 replace hU := zU hU hU.size hb
 clear hb O1 C1 L1 Y1
 clear O2 C2 L2 Y2
 refine zav (i := 20) (m' := 2097151) (v := .bool false) F hQ rfl rfl (anyR_e (anyR_last (i := 21) (m' := 4194303) (v := .bool false) rfl rfl (by kernel_rfl) (by kernel_rfl) (by kernel_rfl) (by kernel_rfl) (by kernel_rfl) (anyE_done (by kernel_rfl) ?_)))
 clear F hQ HC0 BD0
 refine then_normal (zif (wp_skip (block_normal (then_normal (reg_lit (z2 [(65, .int .i64 17), (91, .int .i64 17)] (wpl_end ?_)))))))
 refine then_normal ?_
 clear BD
 refine zk [(6, pt Np 0), (7, pt Na 0), (8, pt Nb 0), (9, pt Nq 0), (10, pt Nc 0), (11, pt Nd 0), (63, .slice (some ⟨NV, 0, none⟩) 24 24), (64, .int .i64 24), (65, .int .i64 17)] (fun X => ?_)
 refine round_s (zs (z1 [(66, z_t)] (ze (wp_seq (zit ?_)))))
 refine wp_skip (then_normal (wp_seq (wp_block (zs (z1 [(67, pt NV 34)] (zw TV.out 17 (by decide) rfl rfl ?_))))))
 refine zm2 36 74 rfl rfl rfl ?_
 intro w124 ND BD hb
 replace BD := hide BD
 replace HC1 := zH HM1 HC1 hb
 replace TV := hide (Two.kept TV.out hb)
 replace hU := zU hU hU.size hb
 clear hb
 refine ze (wp_seq (region_R (n := 21) (N := 22) (by kernel_rfl) (by kernel_rfl) (by kernel_rfl) (by kernel_rfl) (by kernel_rfl) (by kernel_rfl) (fun _ _ _ _ _ h => h) ?_))
 intro F hQ
 have HC0 := HC1
 have BD0 := BD
 refine zav (i := 0) (m' := 1) (v := .pointer (some ⟨ND, 0, none⟩)) F hQ rfl rfl ?_
 refine anyR_val (i := 1) (m' := 3) (v := .int .u8 36) F hQ rfl rfl (by kernel_rfl) (by kernel_rfl) (by kernel_rfl) (by kernel_rfl) (by kernel_rfl) (fun w' hb => run_ldop rfl (by kernel_rfl) (BD0.out.kept hb)) ?_
 refine zav (i := 2) (m' := 7) (v := .bool true) F hQ rfl rfl (zav (i := 3) (m' := 15) (v := .bool true) F hQ rfl rfl (zav (i := 4) (m' := 31) (v := .pointer (some ⟨ND, 0, none⟩)) F hQ rfl rfl ?_))
 refine anyR_val (i := 5) (m' := 63) (v := .int .u8 36) F hQ rfl rfl (by kernel_rfl) (by kernel_rfl) (by kernel_rfl) (by kernel_rfl) (by kernel_rfl) (fun w' hb => run_ldop rfl (by kernel_rfl) (BD0.out.kept hb)) ?_
 refine zav (i := 6) (m' := 127) (v := .bool true) F hQ rfl rfl (zav (i := 7) (m' := 255) (v := .bool true) F hQ rfl rfl (zav (i := 8) (m' := 511) (v := .bool true) F hQ rfl rfl (zav (i := 9) (m' := 1023) (v := .pointer (some ⟨ND, 1, none⟩)) F hQ rfl rfl ?_)))
 refine anyR_val (i := 10) (m' := 2047) (v := .func (.func 74) #[] #[]) F hQ rfl rfl (by kernel_rfl) (by kernel_rfl) (by kernel_rfl) (by kernel_rfl) (by kernel_rfl) (fun w' hb => run_ldfn2 rfl (by kernel_rfl) (BD0.out.kept hb)) ?_
 refine anyR_ldvec (i := 11) (m' := 4095) (q1_a _ HC0.out) F hQ rfl rfl (by kernel_rfl) (by kernel_rfl) (by kernel_rfl) (by kernel_rfl) (by kernel_rfl) rfl (by kernel_rfl) (anyR_ldvec (i := 12) (m' := 8191) (q1_b _ HC0.out) F hQ rfl rfl (by kernel_rfl) (by kernel_rfl) (by kernel_rfl) (by kernel_rfl) (by kernel_rfl) rfl (by kernel_rfl) (zav (i := 14) (m' := 24575) (v := .pointer (some ⟨ND, 1, none⟩)) F hQ rfl rfl ?_))
 refine anyR_val (i := 15) (m' := 57343) (v := .func (.func 74) #[] #[]) F hQ rfl rfl (by kernel_rfl) (by kernel_rfl) (by kernel_rfl) (by kernel_rfl) (by kernel_rfl) (fun w' hb => run_ldfn2 rfl (by kernel_rfl) (BD0.out.kept hb)) ?_
 refine anyR_ldvec (i := 16) (m' := 122879) (q1_c _ HC0.out) F hQ rfl rfl (by kernel_rfl) (by kernel_rfl) (by kernel_rfl) (by kernel_rfl) (by kernel_rfl) rfl (by kernel_rfl) (anyR_ldvec (i := 17) (m' := 253951) (q1_d _ HC0.out) F hQ rfl rfl (by kernel_rfl) (by kernel_rfl) (by kernel_rfl) (by kernel_rfl) (by kernel_rfl) rfl (by kernel_rfl) ?_)
 refine zac (i := 13) (m' := 262143) rfl rfl ((vLOr_any Aa Ab la lb ca cb sa sb _ La.out Lb.out Ca Cb (by exact (p1_a w124 HC1.out)) (by exact (p1_b w124 HC1.out)) Ya.out Yb.out (HT.out.kept (Below.drew hU))).mono ?_)
 rintro e w125 ⟨l1, s1, A1, c1, E1, rfl, C1, O1, hb⟩
 refine ⟨_, rfl, hb, ?_⟩
 replace hb : Below w124.heap.size w124 w125 := Below.trans ((Below.refl _ _).drew) hb
 replace HC1 := zH HM1 HC1 hb
 replace TV := hide (Two.kept TV.out hb)
 replace BD := zB BD hb
 replace O1 := hide O1.out.rd
 replace hU := zU hU hU.size hb
 clear hb
 have G1 := zGd E1 ((gm_3 (mOr_3 _ _)))
 have L1 := zLe G1
 have Y1 := hide G1.by_
 clear G1
 refine zac (i := 18) (m' := 524287) rfl rfl ((vLOr_any Ac Ad lc ld cc cd sc sd _ Lc.out Ld.out Cc Cd (p1_c w125 HC1.out) (p1_d w125 HC1.out) Yc.out Yd.out (HT.out.kept hU)).mono ?_)
 rintro e w126 ⟨l2, s2, A2, c2, E2, rfl, C2, O2, hb⟩
 refine ⟨_, rfl, hb, ?_⟩
 replace HC1 := zH HM1 HC1 hb
 replace O1 := zQ O1 hb
 replace TV := hide (Two.kept TV.out hb)
 replace BD := zB BD hb
 replace O2 := hide O2.out.rd
 replace hU := zU hU hU.size hb
 clear hb
 have G2 := zGd E2 ((gm_3 (mOr_3 _ _)))
 have L2 := zLe G2
 have Y2 := hide G2.by_
 clear G2
 refine zac (i := 19) (m' := 1048575) rfl rfl ((below_yes A1 A2 l1 l2 c1 c2 s1 s2 _ L1.out L2.out O1.out O2.out Y1.out Y2.out (HT.out.kept hU) (by rw [E1.out, E2.out]; exact rf_lor RA.out RB.out)).mono ?_)
 rintro e w127 ⟨rfl, hb⟩
 refine ⟨_, rfl, hb, ?_⟩
 replace HC1 := zH HM1 HC1 hb
 replace O1 := zQ O1 hb
 replace O2 := zQ O2 hb
 replace TV := hide (Two.kept TV.out hb)
 replace BD := zB BD hb
 replace hU := zU hU hU.size hb
 clear hb O1 C1 L1 Y1
 clear O2 C2 L2 Y2
 refine zav (i := 20) (m' := 2097151) (v := .bool false) F hQ rfl rfl (anyR_e (anyR_last (i := 21) (m' := 4194303) (v := .bool false) rfl rfl (by kernel_rfl) (by kernel_rfl) (by kernel_rfl) (by kernel_rfl) (by kernel_rfl) (anyE_done (by kernel_rfl) ?_)))
 clear F hQ HC0 BD0
 refine then_normal (zif (wp_skip (block_normal (then_normal (reg_lit (z2 [(65, .int .i64 18), (91, .int .i64 18)] (wpl_end ?_)))))))
 refine then_normal ?_
 clear BD
 refine zk [(6, pt Np 0), (7, pt Na 0), (8, pt Nb 0), (9, pt Nq 0), (10, pt Nc 0), (11, pt Nd 0), (63, .slice (some ⟨NV, 0, none⟩) 24 24), (64, .int .i64 24), (65, .int .i64 18)] (fun X => ?_)
 refine round_s (zs (z1 [(66, z_t)] (ze (wp_seq (zit ?_)))))
 refine wp_skip (then_normal (wp_seq (wp_block (zs (z1 [(67, pt NV 36)] (zw TV.out 18 (by decide) rfl rfl ?_))))))
 refine zm2 41 62 rfl rfl rfl ?_
 intro w128 ND BD hb
 replace BD := hide BD
 replace HC1 := zH HM1 HC1 hb
 replace TV := hide (Two.kept TV.out hb)
 replace hU := zU hU hU.size hb
 clear hb
 refine ze (wp_seq (region_R (n := 21) (N := 22) (by kernel_rfl) (by kernel_rfl) (by kernel_rfl) (by kernel_rfl) (by kernel_rfl) (by kernel_rfl) (fun _ _ _ _ _ h => h) ?_))
 intro F hQ
 have HC0 := HC1
 have BD0 := BD
 refine zav (i := 0) (m' := 1) (v := .pointer (some ⟨ND, 0, none⟩)) F hQ rfl rfl ?_
 refine anyR_val (i := 1) (m' := 3) (v := .int .u8 41) F hQ rfl rfl (by kernel_rfl) (by kernel_rfl) (by kernel_rfl) (by kernel_rfl) (by kernel_rfl) (fun w' hb => run_ldop rfl (by kernel_rfl) (BD0.out.kept hb)) ?_
 refine zav (i := 2) (m' := 7) (v := .bool true) F hQ rfl rfl (zav (i := 3) (m' := 15) (v := .bool true) F hQ rfl rfl (zav (i := 4) (m' := 31) (v := .pointer (some ⟨ND, 0, none⟩)) F hQ rfl rfl ?_))
 refine anyR_val (i := 5) (m' := 63) (v := .int .u8 41) F hQ rfl rfl (by kernel_rfl) (by kernel_rfl) (by kernel_rfl) (by kernel_rfl) (by kernel_rfl) (fun w' hb => run_ldop rfl (by kernel_rfl) (BD0.out.kept hb)) ?_
 refine zav (i := 6) (m' := 127) (v := .bool true) F hQ rfl rfl (zav (i := 7) (m' := 255) (v := .bool true) F hQ rfl rfl (zav (i := 8) (m' := 511) (v := .bool true) F hQ rfl rfl (zav (i := 9) (m' := 1023) (v := .pointer (some ⟨ND, 1, none⟩)) F hQ rfl rfl ?_)))
 refine anyR_val (i := 10) (m' := 2047) (v := .func (.func 62) #[] #[]) F hQ rfl rfl (by kernel_rfl) (by kernel_rfl) (by kernel_rfl) (by kernel_rfl) (by kernel_rfl) (fun w' hb => run_ldfn2 rfl (by kernel_rfl) (BD0.out.kept hb)) ?_
 refine anyR_ldvec (i := 11) (m' := 4095) (q1_a _ HC0.out) F hQ rfl rfl (by kernel_rfl) (by kernel_rfl) (by kernel_rfl) (by kernel_rfl) (by kernel_rfl) rfl (by kernel_rfl) (anyR_ldvec (i := 12) (m' := 8191) (q1_b _ HC0.out) F hQ rfl rfl (by kernel_rfl) (by kernel_rfl) (by kernel_rfl) (by kernel_rfl) (by kernel_rfl) rfl (by kernel_rfl) (zav (i := 14) (m' := 24575) (v := .pointer (some ⟨ND, 1, none⟩)) F hQ rfl rfl ?_))
 refine anyR_val (i := 15) (m' := 57343) (v := .func (.func 62) #[] #[]) F hQ rfl rfl (by kernel_rfl) (by kernel_rfl) (by kernel_rfl) (by kernel_rfl) (by kernel_rfl) (fun w' hb => run_ldfn2 rfl (by kernel_rfl) (BD0.out.kept hb)) ?_
 refine anyR_ldvec (i := 16) (m' := 122879) (q1_c _ HC0.out) F hQ rfl rfl (by kernel_rfl) (by kernel_rfl) (by kernel_rfl) (by kernel_rfl) (by kernel_rfl) rfl (by kernel_rfl) (anyR_ldvec (i := 17) (m' := 253951) (q1_d _ HC0.out) F hQ rfl rfl (by kernel_rfl) (by kernel_rfl) (by kernel_rfl) (by kernel_rfl) (by kernel_rfl) rfl (by kernel_rfl) ?_)
 refine zac (i := 13) (m' := 262143) rfl rfl ((vShl_any Aa Ab la lb ca cb sa sb _ La.out Lb.out Ca Cb (by exact (p1_a w128 HC1.out)) (by exact (p1_b w128 HC1.out)) Ya.out Yb.out).mono ?_)
 rintro e w129 ⟨l1, s1, A1, c1, E1, rfl, C1, O1, hb⟩
 refine ⟨_, rfl, hb, ?_⟩
 replace hb : Below w128.heap.size w128 w129 := Below.trans ((Below.refl _ _).drew) hb
 replace HC1 := zH HM1 HC1 hb
 replace TV := hide (Two.kept TV.out hb)
 replace BD := zB BD hb
 replace O1 := hide O1.out.rd
 replace hU := zU hU hU.size hb
 clear hb
 have G1 := zGd E1 ((gm_shf Ya.out gmm_shl))
 have L1 := zLe G1
 have Y1 := hide G1.by_
 clear G1
 refine zac (i := 18) (m' := 524287) rfl rfl ((vShl_any Ac Ad lc ld cc cd sc sd _ Lc.out Ld.out Cc Cd (p1_c w129 HC1.out) (p1_d w129 HC1.out) Yc.out Yd.out).mono ?_)
 rintro e w130 ⟨l2, s2, A2, c2, E2, rfl, C2, O2, hb⟩
 refine ⟨_, rfl, hb, ?_⟩
 replace HC1 := zH HM1 HC1 hb
 replace O1 := zQ O1 hb
 replace TV := hide (Two.kept TV.out hb)
 replace BD := zB BD hb
 replace O2 := hide O2.out.rd
 replace hU := zU hU hU.size hb
 clear hb
 have G2 := zGd E2 ((gm_shf Yc.out gmm_shl))
 have L2 := zLe G2
 have Y2 := hide G2.by_
 clear G2
 refine zac (i := 19) (m' := 1048575) rfl rfl ((below_yes A1 A2 l1 l2 c1 c2 s1 s2 _ L1.out L2.out O1.out O2.out Y1.out Y2.out (HT.out.kept hU) (by rw [E1.out, E2.out]; exact shf_rf mono_shl RA.out RB.out)).mono ?_)
 rintro e w131 ⟨rfl, hb⟩
 refine ⟨_, rfl, hb, ?_⟩
 replace HC1 := zH HM1 HC1 hb
 replace O1 := zQ O1 hb
 replace O2 := zQ O2 hb
 replace TV := hide (Two.kept TV.out hb)
 replace BD := zB BD hb
 replace hU := zU hU hU.size hb
 clear hb O1 C1 L1 Y1
 clear O2 C2 L2 Y2
 refine zav (i := 20) (m' := 2097151) (v := .bool false) F hQ rfl rfl (anyR_e (anyR_last (i := 21) (m' := 4194303) (v := .bool false) rfl rfl (by kernel_rfl) (by kernel_rfl) (by kernel_rfl) (by kernel_rfl) (by kernel_rfl) (anyE_done (by kernel_rfl) ?_)))
 clear F hQ HC0 BD0
 refine then_normal (zif (wp_skip (block_normal (then_normal (reg_lit (z2 [(65, .int .i64 19), (91, .int .i64 19)] (wpl_end ?_)))))))
 refine then_normal ?_
 clear BD
 refine zk [(6, pt Np 0), (7, pt Na 0), (8, pt Nb 0), (9, pt Nq 0), (10, pt Nc 0), (11, pt Nd 0), (63, .slice (some ⟨NV, 0, none⟩) 24 24), (64, .int .i64 24), (65, .int .i64 19)] (fun X => ?_)
 refine round_s (zs (z1 [(66, z_t)] (ze (wp_seq (zit ?_)))))
 refine wp_skip (then_normal (wp_seq (wp_block (zs (z1 [(67, pt NV 38)] (zw TV.out 19 (by decide) rfl rfl ?_))))))
 refine zm2 42 63 rfl rfl rfl ?_
 intro w132 ND BD hb
 replace BD := hide BD
 replace HC1 := zH HM1 HC1 hb
 replace TV := hide (Two.kept TV.out hb)
 replace hU := zU hU hU.size hb
 clear hb
 refine ze (wp_seq (region_R (n := 21) (N := 22) (by kernel_rfl) (by kernel_rfl) (by kernel_rfl) (by kernel_rfl) (by kernel_rfl) (by kernel_rfl) (fun _ _ _ _ _ h => h) ?_))
 intro F hQ
 have HC0 := HC1
 have BD0 := BD
 refine zav (i := 0) (m' := 1) (v := .pointer (some ⟨ND, 0, none⟩)) F hQ rfl rfl ?_
 refine anyR_val (i := 1) (m' := 3) (v := .int .u8 42) F hQ rfl rfl (by kernel_rfl) (by kernel_rfl) (by kernel_rfl) (by kernel_rfl) (by kernel_rfl) (fun w' hb => run_ldop rfl (by kernel_rfl) (BD0.out.kept hb)) ?_
 refine zav (i := 2) (m' := 7) (v := .bool true) F hQ rfl rfl (zav (i := 3) (m' := 15) (v := .bool true) F hQ rfl rfl (zav (i := 4) (m' := 31) (v := .pointer (some ⟨ND, 0, none⟩)) F hQ rfl rfl ?_))
 refine anyR_val (i := 5) (m' := 63) (v := .int .u8 42) F hQ rfl rfl (by kernel_rfl) (by kernel_rfl) (by kernel_rfl) (by kernel_rfl) (by kernel_rfl) (fun w' hb => run_ldop rfl (by kernel_rfl) (BD0.out.kept hb)) ?_
 refine zav (i := 6) (m' := 127) (v := .bool true) F hQ rfl rfl (zav (i := 7) (m' := 255) (v := .bool true) F hQ rfl rfl (zav (i := 8) (m' := 511) (v := .bool true) F hQ rfl rfl (zav (i := 9) (m' := 1023) (v := .pointer (some ⟨ND, 1, none⟩)) F hQ rfl rfl ?_)))
 refine anyR_val (i := 10) (m' := 2047) (v := .func (.func 63) #[] #[]) F hQ rfl rfl (by kernel_rfl) (by kernel_rfl) (by kernel_rfl) (by kernel_rfl) (by kernel_rfl) (fun w' hb => run_ldfn2 rfl (by kernel_rfl) (BD0.out.kept hb)) ?_
 refine anyR_ldvec (i := 11) (m' := 4095) (q1_a _ HC0.out) F hQ rfl rfl (by kernel_rfl) (by kernel_rfl) (by kernel_rfl) (by kernel_rfl) (by kernel_rfl) rfl (by kernel_rfl) (anyR_ldvec (i := 12) (m' := 8191) (q1_b _ HC0.out) F hQ rfl rfl (by kernel_rfl) (by kernel_rfl) (by kernel_rfl) (by kernel_rfl) (by kernel_rfl) rfl (by kernel_rfl) (zav (i := 14) (m' := 24575) (v := .pointer (some ⟨ND, 1, none⟩)) F hQ rfl rfl ?_))
 refine anyR_val (i := 15) (m' := 57343) (v := .func (.func 63) #[] #[]) F hQ rfl rfl (by kernel_rfl) (by kernel_rfl) (by kernel_rfl) (by kernel_rfl) (by kernel_rfl) (fun w' hb => run_ldfn2 rfl (by kernel_rfl) (BD0.out.kept hb)) ?_
 refine anyR_ldvec (i := 16) (m' := 122879) (q1_c _ HC0.out) F hQ rfl rfl (by kernel_rfl) (by kernel_rfl) (by kernel_rfl) (by kernel_rfl) (by kernel_rfl) rfl (by kernel_rfl) (anyR_ldvec (i := 17) (m' := 253951) (q1_d _ HC0.out) F hQ rfl rfl (by kernel_rfl) (by kernel_rfl) (by kernel_rfl) (by kernel_rfl) (by kernel_rfl) rfl (by kernel_rfl) ?_)
 refine zac (i := 13) (m' := 262143) rfl rfl ((vShr_any Aa Ab la lb ca cb sa sb _ La.out Lb.out Ca Cb (by exact (p1_a w132 HC1.out)) (by exact (p1_b w132 HC1.out)) Ya.out Yb.out).mono ?_)
 rintro e w133 ⟨l1, s1, A1, c1, E1, rfl, C1, O1, hb⟩
 refine ⟨_, rfl, hb, ?_⟩
 replace hb : Below w132.heap.size w132 w133 := Below.trans ((Below.refl _ _).drew) hb
 replace HC1 := zH HM1 HC1 hb
 replace TV := hide (Two.kept TV.out hb)
 replace BD := zB BD hb
 replace O1 := hide O1.out.rd
 replace hU := zU hU hU.size hb
 clear hb
 have G1 := zGd E1 ((gm_shf Ya.out gmm_shr))
 have L1 := zLe G1
 have Y1 := hide G1.by_
 clear G1
 refine zac (i := 18) (m' := 524287) rfl rfl ((vShr_any Ac Ad lc ld cc cd sc sd _ Lc.out Ld.out Cc Cd (p1_c w133 HC1.out) (p1_d w133 HC1.out) Yc.out Yd.out).mono ?_)
 rintro e w134 ⟨l2, s2, A2, c2, E2, rfl, C2, O2, hb⟩
 refine ⟨_, rfl, hb, ?_⟩
 replace HC1 := zH HM1 HC1 hb
 replace O1 := zQ O1 hb
 replace TV := hide (Two.kept TV.out hb)
 replace BD := zB BD hb
 replace O2 := hide O2.out.rd
 replace hU := zU hU hU.size hb
 clear hb
 have G2 := zGd E2 ((gm_shf Yc.out gmm_shr))
 have L2 := zLe G2
 have Y2 := hide G2.by_
 clear G2
 refine zac (i := 19) (m' := 1048575) rfl rfl ((below_yes A1 A2 l1 l2 c1 c2 s1 s2 _ L1.out L2.out O1.out O2.out Y1.out Y2.out (HT.out.kept hU) (by rw [E1.out, E2.out]; exact shf_rf mono_shr RA.out RB.out)).mono ?_)
 rintro e w135 ⟨rfl, hb⟩
 refine ⟨_, rfl, hb, ?_⟩
 replace HC1 := zH HM1 HC1 hb
 replace O1 := zQ O1 hb
 replace O2 := zQ O2 hb
 replace TV := hide (Two.kept TV.out hb)
 replace BD := zB BD hb
 replace hU := zU hU hU.size hb
 clear hb O1 C1 L1 Y1
 clear O2 C2 L2 Y2
 refine zav (i := 20) (m' := 2097151) (v := .bool false) F hQ rfl rfl (anyR_e (anyR_last (i := 21) (m' := 4194303) (v := .bool false) rfl rfl (by kernel_rfl) (by kernel_rfl) (by kernel_rfl) (by kernel_rfl) (by kernel_rfl) (anyE_done (by kernel_rfl) ?_)))
 clear F hQ HC0 BD0
 refine then_normal (zif (wp_skip (block_normal (then_normal (reg_lit (z2 [(65, .int .i64 20), (91, .int .i64 20)] (wpl_end ?_)))))))
 refine then_normal ?_
 clear BD
 refine zk [(6, pt Np 0), (7, pt Na 0), (8, pt Nb 0), (9, pt Nq 0), (10, pt Nc 0), (11, pt Nd 0), (63, .slice (some ⟨NV, 0, none⟩) 24 24), (64, .int .i64 24), (65, .int .i64 20)] (fun X => ?_)
 refine round_s (zs (z1 [(66, z_t)] (ze (wp_seq (zit ?_)))))
 refine wp_skip (then_normal (wp_seq (wp_block (zs (z1 [(67, pt NV 40)] (zw TV.out 20 (by decide) rfl rfl ?_))))))
 refine zm2 43 65 rfl rfl rfl ?_
 intro w136 ND BD hb
 replace BD := hide BD
 replace HC1 := zH HM1 HC1 hb
 replace TV := hide (Two.kept TV.out hb)
 replace hU := zU hU hU.size hb
 clear hb
 refine ze (wp_seq (region_R (n := 21) (N := 22) (by kernel_rfl) (by kernel_rfl) (by kernel_rfl) (by kernel_rfl) (by kernel_rfl) (by kernel_rfl) (fun _ _ _ _ _ h => h) ?_))
 intro F hQ
 have HC0 := HC1
 have BD0 := BD
 refine zav (i := 0) (m' := 1) (v := .pointer (some ⟨ND, 0, none⟩)) F hQ rfl rfl ?_
 refine anyR_val (i := 1) (m' := 3) (v := .int .u8 43) F hQ rfl rfl (by kernel_rfl) (by kernel_rfl) (by kernel_rfl) (by kernel_rfl) (by kernel_rfl) (fun w' hb => run_ldop rfl (by kernel_rfl) (BD0.out.kept hb)) ?_
 refine zav (i := 2) (m' := 7) (v := .bool true) F hQ rfl rfl (zav (i := 3) (m' := 15) (v := .bool true) F hQ rfl rfl (zav (i := 4) (m' := 31) (v := .pointer (some ⟨ND, 0, none⟩)) F hQ rfl rfl ?_))
 refine anyR_val (i := 5) (m' := 63) (v := .int .u8 43) F hQ rfl rfl (by kernel_rfl) (by kernel_rfl) (by kernel_rfl) (by kernel_rfl) (by kernel_rfl) (fun w' hb => run_ldop rfl (by kernel_rfl) (BD0.out.kept hb)) ?_
 refine zav (i := 6) (m' := 127) (v := .bool true) F hQ rfl rfl (zav (i := 7) (m' := 255) (v := .bool true) F hQ rfl rfl (zav (i := 8) (m' := 511) (v := .bool true) F hQ rfl rfl (zav (i := 9) (m' := 1023) (v := .pointer (some ⟨ND, 1, none⟩)) F hQ rfl rfl ?_)))
 refine anyR_val (i := 10) (m' := 2047) (v := .func (.func 65) #[] #[]) F hQ rfl rfl (by kernel_rfl) (by kernel_rfl) (by kernel_rfl) (by kernel_rfl) (by kernel_rfl) (fun w' hb => run_ldfn2 rfl (by kernel_rfl) (BD0.out.kept hb)) ?_
 refine anyR_ldvec (i := 11) (m' := 4095) (q1_a _ HC0.out) F hQ rfl rfl (by kernel_rfl) (by kernel_rfl) (by kernel_rfl) (by kernel_rfl) (by kernel_rfl) rfl (by kernel_rfl) (anyR_ldvec (i := 12) (m' := 8191) (q1_b _ HC0.out) F hQ rfl rfl (by kernel_rfl) (by kernel_rfl) (by kernel_rfl) (by kernel_rfl) (by kernel_rfl) rfl (by kernel_rfl) (zav (i := 14) (m' := 24575) (v := .pointer (some ⟨ND, 1, none⟩)) F hQ rfl rfl ?_))
 refine anyR_val (i := 15) (m' := 57343) (v := .func (.func 65) #[] #[]) F hQ rfl rfl (by kernel_rfl) (by kernel_rfl) (by kernel_rfl) (by kernel_rfl) (by kernel_rfl) (fun w' hb => run_ldfn2 rfl (by kernel_rfl) (BD0.out.kept hb)) ?_
 refine anyR_ldvec (i := 16) (m' := 122879) (q1_c _ HC0.out) F hQ rfl rfl (by kernel_rfl) (by kernel_rfl) (by kernel_rfl) (by kernel_rfl) (by kernel_rfl) rfl (by kernel_rfl) (anyR_ldvec (i := 17) (m' := 253951) (q1_d _ HC0.out) F hQ rfl rfl (by kernel_rfl) (by kernel_rfl) (by kernel_rfl) (by kernel_rfl) (by kernel_rfl) rfl (by kernel_rfl) ?_)
 refine zac (i := 13) (m' := 262143) rfl rfl ((vAShl_any Aa Ab la lb ca cb sa sb _ La.out Lb.out Ca Cb (by exact (p1_a w136 HC1.out)) (by exact (p1_b w136 HC1.out)) Ya.out Yb.out).mono ?_)
 rintro e w137 ⟨l1, s1, A1, c1, E1, rfl, C1, O1, hb⟩
 refine ⟨_, rfl, hb, ?_⟩
 replace hb : Below w136.heap.size w136 w137 := Below.trans ((Below.refl _ _).drew) hb
 replace HC1 := zH HM1 HC1 hb
 replace TV := hide (Two.kept TV.out hb)
 replace BD := zB BD hb
 replace O1 := hide O1.out.rd
 replace hU := zU hU hU.size hb
 clear hb
 have G1 := zGd E1 ((gm_shf Ya.out gmm_shl))
 have L1 := zLe G1
 have Y1 := hide G1.by_
 clear G1
 refine zac (i := 18) (m' := 524287) rfl rfl ((vAShl_any Ac Ad lc ld cc cd sc sd _ Lc.out Ld.out Cc Cd (p1_c w137 HC1.out) (p1_d w137 HC1.out) Yc.out Yd.out).mono ?_)
 rintro e w138 ⟨l2, s2, A2, c2, E2, rfl, C2, O2, hb⟩
 refine ⟨_, rfl, hb, ?_⟩
 replace HC1 := zH HM1 HC1 hb
 replace O1 := zQ O1 hb
 replace TV := hide (Two.kept TV.out hb)
 replace BD := zB BD hb
 replace O2 := hide O2.out.rd
 replace hU := zU hU hU.size hb
 clear hb
 have G2 := zGd E2 ((gm_shf Yc.out gmm_shl))
 have L2 := zLe G2
 have Y2 := hide G2.by_
 clear G2
 refine zac (i := 19) (m' := 1048575) rfl rfl ((below_yes A1 A2 l1 l2 c1 c2 s1 s2 _ L1.out L2.out O1.out O2.out Y1.out Y2.out (HT.out.kept hU) (by rw [E1.out, E2.out]; exact shf_rf mono_shl RA.out RB.out)).mono ?_)
 rintro e w139 ⟨rfl, hb⟩
 refine ⟨_, rfl, hb, ?_⟩
 replace HC1 := zH HM1 HC1 hb
 replace O1 := zQ O1 hb
 replace O2 := zQ O2 hb
 replace TV := hide (Two.kept TV.out hb)
 replace BD := zB BD hb
 replace hU := zU hU hU.size hb
 clear hb O1 C1 L1 Y1
 clear O2 C2 L2 Y2
 refine zav (i := 20) (m' := 2097151) (v := .bool false) F hQ rfl rfl (anyR_e (anyR_last (i := 21) (m' := 4194303) (v := .bool false) rfl rfl (by kernel_rfl) (by kernel_rfl) (by kernel_rfl) (by kernel_rfl) (by kernel_rfl) (anyE_done (by kernel_rfl) ?_)))
 clear F hQ HC0 BD0
 refine then_normal (zif (wp_skip (block_normal (then_normal (reg_lit (z2 [(65, .int .i64 21), (91, .int .i64 21)] (wpl_end ?_)))))))
 refine then_normal ?_
 clear BD
 refine zk [(6, pt Np 0), (7, pt Na 0), (8, pt Nb 0), (9, pt Nq 0), (10, pt Nc 0), (11, pt Nd 0), (63, .slice (some ⟨NV, 0, none⟩) 24 24), (64, .int .i64 24), (65, .int .i64 21)] (fun X => ?_)
 refine round_s (zs (z1 [(66, z_t)] (ze (wp_seq (zit ?_)))))
 refine wp_skip (then_normal (wp_seq (wp_block (zs (z1 [(67, pt NV 42)] (zw TV.out 21 (by decide) rfl rfl ?_))))))
 refine zm2 44 64 rfl rfl rfl ?_
 intro w140 ND BD hb
 replace BD := hide BD
 replace HC1 := zH HM1 HC1 hb
 replace TV := hide (Two.kept TV.out hb)
 replace hU := zU hU hU.size hb
 clear hb
 refine ze (wp_seq (region_R (n := 21) (N := 22) (by kernel_rfl) (by kernel_rfl) (by kernel_rfl) (by kernel_rfl) (by kernel_rfl) (by kernel_rfl) (fun _ _ _ _ _ h => h) ?_))
 intro F hQ
 have HC0 := HC1
 have BD0 := BD
 refine zav (i := 0) (m' := 1) (v := .pointer (some ⟨ND, 0, none⟩)) F hQ rfl rfl ?_
 refine anyR_val (i := 1) (m' := 3) (v := .int .u8 44) F hQ rfl rfl (by kernel_rfl) (by kernel_rfl) (by kernel_rfl) (by kernel_rfl) (by kernel_rfl) (fun w' hb => run_ldop rfl (by kernel_rfl) (BD0.out.kept hb)) ?_
 refine zav (i := 2) (m' := 7) (v := .bool true) F hQ rfl rfl (zav (i := 3) (m' := 15) (v := .bool true) F hQ rfl rfl (zav (i := 4) (m' := 31) (v := .pointer (some ⟨ND, 0, none⟩)) F hQ rfl rfl ?_))
 refine anyR_val (i := 5) (m' := 63) (v := .int .u8 44) F hQ rfl rfl (by kernel_rfl) (by kernel_rfl) (by kernel_rfl) (by kernel_rfl) (by kernel_rfl) (fun w' hb => run_ldop rfl (by kernel_rfl) (BD0.out.kept hb)) ?_
 refine zav (i := 6) (m' := 127) (v := .bool true) F hQ rfl rfl (zav (i := 7) (m' := 255) (v := .bool true) F hQ rfl rfl (zav (i := 8) (m' := 511) (v := .bool true) F hQ rfl rfl (zav (i := 9) (m' := 1023) (v := .pointer (some ⟨ND, 1, none⟩)) F hQ rfl rfl ?_)))
 refine anyR_val (i := 10) (m' := 2047) (v := .func (.func 64) #[] #[]) F hQ rfl rfl (by kernel_rfl) (by kernel_rfl) (by kernel_rfl) (by kernel_rfl) (by kernel_rfl) (fun w' hb => run_ldfn2 rfl (by kernel_rfl) (BD0.out.kept hb)) ?_
 refine anyR_ldvec (i := 11) (m' := 4095) (q1_a _ HC0.out) F hQ rfl rfl (by kernel_rfl) (by kernel_rfl) (by kernel_rfl) (by kernel_rfl) (by kernel_rfl) rfl (by kernel_rfl) (anyR_ldvec (i := 12) (m' := 8191) (q1_b _ HC0.out) F hQ rfl rfl (by kernel_rfl) (by kernel_rfl) (by kernel_rfl) (by kernel_rfl) (by kernel_rfl) rfl (by kernel_rfl) (zav (i := 14) (m' := 24575) (v := .pointer (some ⟨ND, 1, none⟩)) F hQ rfl rfl ?_))
 refine anyR_val (i := 15) (m' := 57343) (v := .func (.func 64) #[] #[]) F hQ rfl rfl (by kernel_rfl) (by kernel_rfl) (by kernel_rfl) (by kernel_rfl) (by kernel_rfl) (fun w' hb => run_ldfn2 rfl (by kernel_rfl) (BD0.out.kept hb)) ?_
 refine anyR_ldvec (i := 16) (m' := 122879) (q1_c _ HC0.out) F hQ rfl rfl (by kernel_rfl) (by kernel_rfl) (by kernel_rfl) (by kernel_rfl) (by kernel_rfl) rfl (by kernel_rfl) (anyR_ldvec (i := 17) (m' := 253951) (q1_d _ HC0.out) F hQ rfl rfl (by kernel_rfl) (by kernel_rfl) (by kernel_rfl) (by kernel_rfl) (by kernel_rfl) rfl (by kernel_rfl) ?_)
 refine zac (i := 13) (m' := 262143) rfl rfl ((vAShr_any Aa Ab la lb ca cb sa sb _ La.out Lb.out Ca Cb (by exact (p1_a w140 HC1.out)) (by exact (p1_b w140 HC1.out)) Ya.out Yb.out).mono ?_)
 rintro e w141 ⟨l1, s1, A1, c1, E1, rfl, C1, O1, hb⟩
 refine ⟨_, rfl, hb, ?_⟩
 replace hb : Below w140.heap.size w140 w141 := Below.trans ((Below.refl _ _).drew) hb
 replace HC1 := zH HM1 HC1 hb
 replace TV := hide (Two.kept TV.out hb)
 replace BD := zB BD hb
 replace O1 := hide O1.out.rd
 replace hU := zU hU hU.size hb
 clear hb
 have G1 := zGd E1 ((gm_shf Ya.out gmm_ashr))
 have L1 := zLe G1
 have Y1 := hide G1.by_
 clear G1
 refine zac (i := 18) (m' := 524287) rfl rfl ((vAShr_any Ac Ad lc ld cc cd sc sd _ Lc.out Ld.out Cc Cd (p1_c w141 HC1.out) (p1_d w141 HC1.out) Yc.out Yd.out).mono ?_)
 rintro e w142 ⟨l2, s2, A2, c2, E2, rfl, C2, O2, hb⟩
 refine ⟨_, rfl, hb, ?_⟩
 replace HC1 := zH HM1 HC1 hb
 replace O1 := zQ O1 hb
 replace TV := hide (Two.kept TV.out hb)
 replace BD := zB BD hb
 replace O2 := hide O2.out.rd
 replace hU := zU hU hU.size hb
 clear hb
 have G2 := zGd E2 ((gm_shf Yc.out gmm_ashr))
 have L2 := zLe G2
 have Y2 := hide G2.by_
 clear G2
 refine zac (i := 19) (m' := 1048575) rfl rfl ((below_yes A1 A2 l1 l2 c1 c2 s1 s2 _ L1.out L2.out O1.out O2.out Y1.out Y2.out (HT.out.kept hU) (by rw [E1.out, E2.out]; exact shf_rf mono_ashr RA.out RB.out)).mono ?_)
 rintro e w143 ⟨rfl, hb⟩
 refine ⟨_, rfl, hb, ?_⟩
 replace HC1 := zH HM1 HC1 hb
 replace O1 := zQ O1 hb
 replace O2 := zQ O2 hb
 replace TV := hide (Two.kept TV.out hb)
 replace BD := zB BD hb
 replace hU := zU hU hU.size hb
 clear hb O1 C1 L1 Y1
 clear O2 C2 L2 Y2
 refine zav (i := 20) (m' := 2097151) (v := .bool false) F hQ rfl rfl (anyR_e (anyR_last (i := 21) (m' := 4194303) (v := .bool false) rfl rfl (by kernel_rfl) (by kernel_rfl) (by kernel_rfl) (by kernel_rfl) (by kernel_rfl) (anyE_done (by kernel_rfl) ?_)))
 clear F hQ HC0 BD0
 refine then_normal (zif (wp_skip (block_normal (then_normal (reg_lit (z2 [(65, .int .i64 22), (91, .int .i64 22)] (wpl_end ?_)))))))
 refine then_normal ?_
 clear BD
 refine zk [(6, pt Np 0), (7, pt Na 0), (8, pt Nb 0), (9, pt Nq 0), (10, pt Nc 0), (11, pt Nd 0), (63, .slice (some ⟨NV, 0, none⟩) 24 24), (64, .int .i64 24), (65, .int .i64 22)] (fun X => ?_)
 refine round_s (zs (z1 [(66, z_t)] (ze (wp_seq (zit ?_)))))
 refine wp_skip (then_normal (wp_seq (wp_block (zs (z1 [(67, pt NV 44)] (zw TV.out 22 (by decide) rfl rfl ?_))))))
 refine zm2 29 81 rfl rfl rfl ?_
 intro w144 ND BD hb
 replace BD := hide BD
 replace HC1 := zH HM1 HC1 hb
 replace TV := hide (Two.kept TV.out hb)
 replace hU := zU hU hU.size hb
 clear hb
 refine ze (wp_seq (region_R (n := 21) (N := 22) (by kernel_rfl) (by kernel_rfl) (by kernel_rfl) (by kernel_rfl) (by kernel_rfl) (by kernel_rfl) (fun _ _ _ _ _ h => h) ?_))
 intro F hQ
 have HC0 := HC1
 have BD0 := BD
 refine zav (i := 0) (m' := 1) (v := .pointer (some ⟨ND, 0, none⟩)) F hQ rfl rfl ?_
 refine anyR_val (i := 1) (m' := 3) (v := .int .u8 29) F hQ rfl rfl (by kernel_rfl) (by kernel_rfl) (by kernel_rfl) (by kernel_rfl) (by kernel_rfl) (fun w' hb => run_ldop rfl (by kernel_rfl) (BD0.out.kept hb)) ?_
 refine zav (i := 2) (m' := 7) (v := .bool false) F hQ rfl rfl (zav (i := 3) (m' := 15) (v := .bool false) F hQ rfl rfl (anyR_off (i := 4) (m' := 31) F hQ rfl rfl (by kernel_rfl) (by kernel_rfl) (by kernel_rfl) (by kernel_rfl) (by kernel_rfl) (anyR_off (i := 5) (m' := 63) F hQ rfl rfl (by kernel_rfl) (by kernel_rfl) (by kernel_rfl) (by kernel_rfl) (by kernel_rfl) (anyR_off (i := 6) (m' := 127) F hQ rfl rfl (by kernel_rfl) (by kernel_rfl) (by kernel_rfl) (by kernel_rfl) (by kernel_rfl) (zav (i := 7) (m' := 255) (v := .bool false) F hQ rfl rfl (zav (i := 8) (m' := 511) (v := .bool false) F hQ rfl rfl (anyR_off (i := 9) (m' := 1023) F hQ rfl rfl (by kernel_rfl) (by kernel_rfl) (by kernel_rfl) (by kernel_rfl) (by kernel_rfl) ?_)))))))
 refine anyR_off (i := 10) (m' := 2047) F hQ rfl rfl (by kernel_rfl) (by kernel_rfl) (by kernel_rfl) (by kernel_rfl) (by kernel_rfl) (anyR_off (i := 11) (m' := 4095) F hQ rfl rfl (by kernel_rfl) (by kernel_rfl) (by kernel_rfl) (by kernel_rfl) (by kernel_rfl) (anyR_off (i := 12) (m' := 8191) F hQ rfl rfl (by kernel_rfl) (by kernel_rfl) (by kernel_rfl) (by kernel_rfl) (by kernel_rfl) (anyR_off (i := 13) (m' := 16383) F hQ rfl rfl (by kernel_rfl) (by kernel_rfl) (by kernel_rfl) (by kernel_rfl) (by kernel_rfl) (anyR_off (i := 14) (m' := 32767) F hQ rfl rfl (by kernel_rfl) (by kernel_rfl) (by kernel_rfl) (by kernel_rfl) (by kernel_rfl) (anyR_off (i := 15) (m' := 65535) F hQ rfl rfl (by kernel_rfl) (by kernel_rfl) (by kernel_rfl) (by kernel_rfl) (by kernel_rfl) (anyR_off (i := 16) (m' := 131071) F hQ rfl rfl (by kernel_rfl) (by kernel_rfl) (by kernel_rfl) (by kernel_rfl) (by kernel_rfl) (anyR_off (i := 17) (m' := 262143) F hQ rfl rfl (by kernel_rfl) (by kernel_rfl) (by kernel_rfl) (by kernel_rfl) (by kernel_rfl) ?_)))))))
 refine anyR_off (i := 18) (m' := 524287) F hQ rfl rfl (by kernel_rfl) (by kernel_rfl) (by kernel_rfl) (by kernel_rfl) (by kernel_rfl) (anyR_off (i := 19) (m' := 1048575) F hQ rfl rfl (by kernel_rfl) (by kernel_rfl) (by kernel_rfl) (by kernel_rfl) (by kernel_rfl) (anyR_off (i := 20) (m' := 2097151) F hQ rfl rfl (by kernel_rfl) (by kernel_rfl) (by kernel_rfl) (by kernel_rfl) (by kernel_rfl) (anyR_e (anyR_last (i := 21) (m' := 4194303) (v := .bool false) rfl rfl (by kernel_rfl) (by kernel_rfl) (by kernel_rfl) (by kernel_rfl) (by kernel_rfl) (anyE_done (by kernel_rfl) ?_)))))
 clear F hQ HC0 BD0
 generalize hw : World.drew w144 = w145
 have hb : Below w144.heap.size w144 w145 := by rw [← hw]; exact (Below.refl _ _).drew
 clear hw
 replace HC1 := zH HM1 HC1 hb
 replace TV := hide (Two.kept TV.out hb)
 replace BD := zB BD hb
 replace hU := zU hU hU.size hb
 clear hb
 refine then_normal (zif (wp_skip (block_normal (then_normal (reg_lit (z2 [(65, .int .i64 23), (91, .int .i64 23)] (wpl_end ?_)))))))
 refine then_normal ?_
 clear BD
 refine zk [(6, pt Np 0), (7, pt Na 0), (8, pt Nb 0), (9, pt Nq 0), (10, pt Nc 0), (11, pt Nd 0), (63, .slice (some ⟨NV, 0, none⟩) 24 24), (64, .int .i64 24), (65, .int .i64 23)] (fun X => ?_)
 refine round_s (zs (z1 [(66, z_t)] (ze (wp_seq (zit ?_)))))
 refine wp_skip (then_normal (wp_seq (wp_block (zs (z1 [(67, pt NV 46)] (zw TV.out 23 (by decide) rfl rfl ?_))))))
 refine zm2 30 82 rfl rfl rfl ?_
 intro w146 ND BD hb
 replace BD := hide BD
 replace HC1 := zH HM1 HC1 hb
 replace TV := hide (Two.kept TV.out hb)
 replace hU := zU hU hU.size hb
 clear hb
 refine ze (wp_seq (region_R (n := 21) (N := 22) (by kernel_rfl) (by kernel_rfl) (by kernel_rfl) (by kernel_rfl) (by kernel_rfl) (by kernel_rfl) (fun _ _ _ _ _ h => h) ?_))
 intro F hQ
 have HC0 := HC1
 have BD0 := BD
 refine zav (i := 0) (m' := 1) (v := .pointer (some ⟨ND, 0, none⟩)) F hQ rfl rfl ?_
 refine anyR_val (i := 1) (m' := 3) (v := .int .u8 30) F hQ rfl rfl (by kernel_rfl) (by kernel_rfl) (by kernel_rfl) (by kernel_rfl) (by kernel_rfl) (fun w' hb => run_ldop rfl (by kernel_rfl) (BD0.out.kept hb)) ?_
 refine zav (i := 2) (m' := 7) (v := .bool true) F hQ rfl rfl (zav (i := 3) (m' := 15) (v := .bool true) F hQ rfl rfl (zav (i := 4) (m' := 31) (v := .pointer (some ⟨ND, 0, none⟩)) F hQ rfl rfl ?_))
 refine anyR_val (i := 5) (m' := 63) (v := .int .u8 30) F hQ rfl rfl (by kernel_rfl) (by kernel_rfl) (by kernel_rfl) (by kernel_rfl) (by kernel_rfl) (fun w' hb => run_ldop rfl (by kernel_rfl) (BD0.out.kept hb)) ?_
 refine zav (i := 6) (m' := 127) (v := .bool false) F hQ rfl rfl (zav (i := 7) (m' := 255) (v := .bool false) F hQ rfl rfl (zav (i := 8) (m' := 511) (v := .bool false) F hQ rfl rfl (anyR_off (i := 9) (m' := 1023) F hQ rfl rfl (by kernel_rfl) (by kernel_rfl) (by kernel_rfl) (by kernel_rfl) (by kernel_rfl) (anyR_off (i := 10) (m' := 2047) F hQ rfl rfl (by kernel_rfl) (by kernel_rfl) (by kernel_rfl) (by kernel_rfl) (by kernel_rfl) (anyR_off (i := 11) (m' := 4095) F hQ rfl rfl (by kernel_rfl) (by kernel_rfl) (by kernel_rfl) (by kernel_rfl) (by kernel_rfl) (anyR_off (i := 12) (m' := 8191) F hQ rfl rfl (by kernel_rfl) (by kernel_rfl) (by kernel_rfl) (by kernel_rfl) (by kernel_rfl) (anyR_off (i := 13) (m' := 16383) F hQ rfl rfl (by kernel_rfl) (by kernel_rfl) (by kernel_rfl) (by kernel_rfl) (by kernel_rfl) ?_)))))))
 refine anyR_off (i := 14) (m' := 32767) F hQ rfl rfl (by kernel_rfl) (by kernel_rfl) (by kernel_rfl) (by kernel_rfl) (by kernel_rfl) (anyR_off (i := 15) (m' := 65535) F hQ rfl rfl (by kernel_rfl) (by kernel_rfl) (by kernel_rfl) (by kernel_rfl) (by kernel_rfl) (anyR_off (i := 16) (m' := 131071) F hQ rfl rfl (by kernel_rfl) (by kernel_rfl) (by kernel_rfl) (by kernel_rfl) (by kernel_rfl) (anyR_off (i := 17) (m' := 262143) F hQ rfl rfl (by kernel_rfl) (by kernel_rfl) (by kernel_rfl) (by kernel_rfl) (by kernel_rfl) (anyR_off (i := 18) (m' := 524287) F hQ rfl rfl (by kernel_rfl) (by kernel_rfl) (by kernel_rfl) (by kernel_rfl) (by kernel_rfl) (anyR_off (i := 19) (m' := 1048575) F hQ rfl rfl (by kernel_rfl) (by kernel_rfl) (by kernel_rfl) (by kernel_rfl) (by kernel_rfl) (anyR_off (i := 20) (m' := 2097151) F hQ rfl rfl (by kernel_rfl) (by kernel_rfl) (by kernel_rfl) (by kernel_rfl) (by kernel_rfl) (anyR_e ?_)))))))
 refine anyR_last (i := 21) (m' := 4194303) (v := .bool false) rfl rfl (by kernel_rfl) (by kernel_rfl) (by kernel_rfl) (by kernel_rfl) (by kernel_rfl) (anyE_done (by kernel_rfl) ?_)
 clear F hQ HC0 BD0
 generalize hw : World.drew w146 = w147
 have hb : Below w146.heap.size w146 w147 := by rw [← hw]; exact (Below.refl _ _).drew
 clear hw
 replace HC1 := zH HM1 HC1 hb
 replace TV := hide (Two.kept TV.out hb)
 replace BD := zB BD hb
 replace hU := zU hU hU.size hb
 clear hb
 refine then_normal (zif (wp_skip (block_normal (then_normal (reg_lit (z2 [(65, .int .i64 24), (91, .int .i64 24)] (wpl_end ?_)))))))
 refine then_normal ?_
 clear BD
 refine zk [(6, pt Np 0), (7, pt Na 0), (8, pt Nb 0), (9, pt Nq 0), (10, pt Nc 0), (11, pt Nd 0), (63, .slice (some ⟨NV, 0, none⟩) 24 24), (64, .int .i64 24), (65, .int .i64 24)] (fun X => ?_)
 refine round_s (zs (z1 [(66, z_f)] (ze (wp_seq (zif ?_)))))
 refine wp_exit (then_exit (then_exit (exit_here (then_normal (wp_seq (region_R (n := 16) (N := 17) (by kernel_rfl) (by kernel_rfl) (by kernel_rfl) (by kernel_rfl) (by kernel_rfl) (by kernel_rfl) (fun _ _ _ _ _ h => h) ?_))))))
 intro F hQ
 have HC0 := HC1
 refine anyR_ldvec (i := 0) (m' := 1) (q1_a _ HC0.out) F hQ rfl rfl (by kernel_rfl) (by kernel_rfl) (by kernel_rfl) (by kernel_rfl) (by kernel_rfl) rfl (by kernel_rfl) (anyR_ldvec (i := 2) (m' := 5) (q1_c _ HC0.out) F hQ rfl rfl (by kernel_rfl) (by kernel_rfl) (by kernel_rfl) (by kernel_rfl) (by kernel_rfl) rfl (by kernel_rfl) ?_)
 refine zac (i := 1) (m' := 7) rfl rfl ((truth_any Aa la ca sa _ La.out Ca (by exact (p1_a w147 HC1.out)) Ya.out (HT.out.kept (Below.drew hU))).mono ?_)
 rintro e w148 ⟨rfl, hb⟩
 refine ⟨_, rfl, hb, ?_⟩
 replace hb : Below w147.heap.size w147 w148 := Below.trans ((Below.refl _ _).drew) hb
 replace HC1 := zH HM1 HC1 hb
 replace TV := hide (Two.kept TV.out hb)
 replace hU := zU hU hU.size hb
 clear hb
 refine zac (i := 3) (m' := 15) rfl rfl ((truth_any Ac lc cc sc _ Lc.out Cc (p1_c w148 HC1.out) Yc.out (HT.out.kept hU)).mono ?_)
 rintro e w149 ⟨rfl, hb⟩
 refine ⟨_, rfl, hb, ?_⟩
 replace HC1 := zH HM1 HC1 hb
 replace TV := hide (Two.kept TV.out hb)
 replace hU := zU hU hU.size hb
 clear hb
 refine zac (i := 4) (m' := 31) rfl rfl ((leq_m _ _ _ (tr_rf RA.out)).mono ?_)
 rintro e w150 ⟨rfl, hb⟩
 refine ⟨_, rfl, hb, ?_⟩
 replace HC1 := zH HM1 HC1 hb
 replace TV := hide (Two.kept TV.out hb)
 replace hU := zU hU hU.size hb
 clear hb
 refine zav (i := 5) (m' := 63) (v := .bool true) F hQ rfl rfl (anyR_ldvec (i := 6) (m' := 127) (q1_p _ HC0.out) F hQ rfl rfl (by kernel_rfl) (by kernel_rfl) (by kernel_rfl) (by kernel_rfl) (by kernel_rfl) rfl (by kernel_rfl) (anyR_ldvec (i := 7) (m' := 255) (q1_a _ HC0.out) F hQ rfl rfl (by kernel_rfl) (by kernel_rfl) (by kernel_rfl) (by kernel_rfl) (by kernel_rfl) rfl (by kernel_rfl) (anyR_ldvec (i := 8) (m' := 511) (q1_b _ HC0.out) F hQ rfl rfl (by kernel_rfl) (by kernel_rfl) (by kernel_rfl) (by kernel_rfl) (by kernel_rfl) rfl (by kernel_rfl) (anyR_ldvec (i := 10) (m' := 1535) (q1_q _ HC0.out) F hQ rfl rfl (by kernel_rfl) (by kernel_rfl) (by kernel_rfl) (by kernel_rfl) (by kernel_rfl) rfl (by kernel_rfl) (anyR_ldvec (i := 11) (m' := 3583) (q1_c _ HC0.out) F hQ rfl rfl (by kernel_rfl) (by kernel_rfl) (by kernel_rfl) (by kernel_rfl) (by kernel_rfl) rfl (by kernel_rfl) (anyR_ldvec (i := 12) (m' := 7679) (q1_d _ HC0.out) F hQ rfl rfl (by kernel_rfl) (by kernel_rfl) (by kernel_rfl) (by kernel_rfl) (by kernel_rfl) rfl (by kernel_rfl) ?_))))))
 refine zac (i := 9) (m' := 8191) rfl rfl ((vCond_any Ap lp cp sp Aa Ab la lb ca cb sa sb _ La.out Lb.out Ca Cb (p1_a w150 HC1.out) (p1_b w150 HC1.out) Ya.out Yb.out Lp.out Cp (p1_p w150 HC1.out) Yp.out (HT.out.kept hU)).mono ?_)
 rintro e w151 ⟨l1, s1, A1, c1, E1, rfl, C1, O1, hb⟩
 refine ⟨_, rfl, hb, ?_⟩
 replace HC1 := zH HM1 HC1 hb
 replace TV := hide (Two.kept TV.out hb)
 replace O1 := hide O1.out.rd
 replace hU := zU hU hU.size hb
 clear hb
 have G1 := zGd E1 ((gm_cond Ya.out Yb.out))
 have L1 := zLe G1
 have Y1 := hide G1.by_
 clear G1
 refine zac (i := 13) (m' := 16383) rfl rfl ((vCond_any Aq lq cq sq Ac Ad lc ld cc cd sc sd _ Lc.out Ld.out Cc Cd (p1_c w151 HC1.out) (p1_d w151 HC1.out) Yc.out Yd.out Lq.out Cq (p1_q w151 HC1.out) Yq.out (HT.out.kept hU)).mono ?_)
 rintro e w152 ⟨l2, s2, A2, c2, E2, rfl, C2, O2, hb⟩
 refine ⟨_, rfl, hb, ?_⟩
 replace HC1 := zH HM1 HC1 hb
 replace O1 := zQ O1 hb
 replace TV := hide (Two.kept TV.out hb)
 replace O2 := hide O2.out.rd
 replace hU := zU hU hU.size hb
 clear hb
 have G2 := zGd E2 ((gm_cond Yc.out Yd.out))
 have L2 := zLe G2
 have Y2 := hide G2.by_
 clear G2
 refine zac (i := 14) (m' := 32767) rfl rfl ((below_yes A1 A2 l1 l2 c1 c2 s1 s2 _ L1.out L2.out O1.out O2.out Y1.out Y2.out (HT.out.kept hU) (by rw [E1.out, E2.out]; exact vCond_rf RS.out RA.out RB.out)).mono ?_)
 rintro e w153 ⟨rfl, hb⟩
 refine ⟨_, rfl, hb, ?_⟩
 replace HC1 := zH HM1 HC1 hb
 replace O1 := zQ O1 hb
 replace O2 := zQ O2 hb
 replace TV := hide (Two.kept TV.out hb)
 replace hU := zU hU hU.size hb
 clear hb O1 C1 L1 Y1
 clear O2 C2 L2 Y2
 refine zav (i := 15) (m' := 65535) (v := .bool true) F hQ rfl rfl (anyR_e (anyR_last (i := 16) (m' := 131071) (v := .bool true) rfl rfl (by kernel_rfl) (by kernel_rfl) (by kernel_rfl) (by kernel_rfl) (by kernel_rfl) (anyE_done (by kernel_rfl) ?_)))
 clear F hQ HC0
 refine then_normal (wp_ret ?_)
 refine (show bodyPost _ _ _ .ret _ _ from ret_sl (.bool true) rfl (by kernel_rfl) ?_)
 exact ⟨rfl, hU⟩
theorem VecMonotone_walk (Ap : Option Addr) (lp : List Int) (cp : Nat) (sp : Bool) (Aa : Option Addr) (la : List Int) (ca : Nat) (sa : Bool) (Ab : Option Addr) (lb : List Int) (cb : Nat) (sb : Bool) (Aq : Option Addr) (lq : List Int) (cq : Nat) (sq : Bool) (Ac : Option Addr) (lc : List Int) (cc : Nat) (sc : Bool) (Ad : Option Addr) (ld : List Int) (cd : Nat) (sd : Bool) (w : World) (mp : lp.length ≤ maxLen) (rp : RQ w Ap lp) (yp : By lp) (pp : Hid (lp.length ≤ cp ∧ cp ≤ maxLen)) (ma : la.length ≤ maxLen) (ra : RQ w Aa la) (ya : By la) (pa : Hid (la.length ≤ ca ∧ ca ≤ maxLen)) (mb : lb.length ≤ maxLen) (rb : RQ w Ab lb) (yb : By lb) (pb : Hid (lb.length ≤ cb ∧ cb ≤ maxLen)) (mq : lq.length ≤ maxLen) (rq : RQ w Aq lq) (yq : By lq) (pq : Hid (lq.length ≤ cq ∧ cq ≤ maxLen)) (mc : lc.length ≤ maxLen) (rc : RQ w Ac lc) (yc : By lc) (pc : Hid (lc.length ≤ cc ∧ cc ≤ maxLen)) (md : ld.length ≤ maxLen) (rd : RQ w Ad ld) (yd : By ld) (pd : Hid (ld.length ≤ cd ∧ cd ≤ maxLen)) (tn : Tab1 2 mNot w) (tb : Tab1 5 mBuf w) (ta : Tab2 3 mAnd w) (tO : Tab2 0 mOr w) (tx : Tab2 4 mXor w) (tg : Tab2 1 mAgree w) : Calls Tryz.prog 8 #[.agg #[.slice Ap lp.length cp, .bool sp], .agg #[.slice Aa la.length ca, .bool sa], .agg #[.slice Ab lb.length cb, .bool sb], .agg #[.slice Aq lq.length cq, .bool sq], .agg #[.slice Ac lc.length cc, .bool sc], .agg #[.slice Ad ld.length cd, .bool sd]] w (Mk (.bool true) w) := by
 by_cases hl : ∀ i (h : i < 6), [(Ap, lp.length, cp, sp), (Aa, la.length, ca, sa), (Ab, lb.length, cb, sb), (Aq, lq.length, cq, sq), (Ac, lc.length, cc, sc), (Ad, ld.length, cd, sd)][i].2.1 ≤ 140
 · exact VecMonotone_short Ap lp cp sp Aa la ca sa Ab lb cb sb Aq lq cq sq Ac lc cc sc Ad ld cd sd w mp rp yp pp ma ra ya pa mb rb yb pb mq rq yq pq mc rc yc pc md rd yd pd tn tb ta tO tx tg (hide hl)
 · exact VecMonotone_long Ap lp cp sp Aa la ca sa Ab lb cb sb Aq lq cq sq Ac lc cc sc Ad ld cd sd w mp rp yp pp ma ra ya pa mb rb yb pb mq rq yq pq mc rc yc pc md rd yd pd tn tb ta tO tx tg (hide (by
     rw [Classical.not_forall] at hl
     obtain ⟨i, hl⟩ := hl
     rw [Classical.not_forall] at hl
     obtain ⟨h, hl⟩ := hl
     exact ⟨i, h, Nat.lt_of_not_le hl⟩))
end
section
open Go.ChangeShapes Go.WideShapes Go.ChangeAt Go.WideMaps Go.WideElems Go.RowKit
theorem own : ownKnob Tryz.prog.godebug = none := by kernel_rfl
/-- The cells of an array of arrays of integers that reads as known rows. -/
theorem cells_of_grid {H : Type} {enc : TypeId × Value → H} {P : Program} {w : World} {base : Nat} {sp : Nat → Bool} {held : Bool} {fuel : Nat} {t e i : TypeId} {n m : Nat} {k : IntKind} {cs : List Value} {rows : List (List Int)} {p : List MemPlace}
    (ht : P.underlying t = some (.array n e)) (he : P.underlying e = some (.array m i)) (hi : P.underlying i = some (.int k)) (hci : P.cellsOf i = 1) (hce : P.cellsOf e = m)
    (h : DataW.trod enc P w base sp held fuel t cs = some (.agg (rows.map (Lib.tabData k)), p)) (r : Nat) (zs : List Int) (hr : rows[r]? = some zs) : (cs.drop (r * m)).take m = zs.map fun z => Value.int k z := by
  cases fuel with
  | zero => simp [DataW.trod] at h
  | succ fuel =>
    simp only [DataW.trod, ht, hce] at h
    split at h
    · obtain ⟨xs, hm, hx⟩ := Option.map_eq_some_iff.1 h
      have hxs : xs.map (·.1) = rows.map (Lib.tabData k) := by
        have := congrArg Prod.fst hx
        simpa using this
      have hxl : xs.length = n := by simpa using Lib.mapM_length hm
      have hrl : rows.length = n := by
        have := congrArg List.length hxs
        simp at this
        omega
      have hrn : r < n := by
        have := (List.getElem?_eq_some_iff.1 hr).1
        omega
      obtain ⟨b, hb, hf⟩ := Lib.mapM_at hm r r (by simp [hrn])
      have hb1 : b.1 = Lib.tabData k zs := by
        have h2 : (xs.map (·.1))[r]? = some b.1 := by simp [hb]
        rw [hxs] at h2
        simp only [List.getElem?_map, hr, Option.map_some, Option.some.injEq] at h2
        exact h2.symm
      obtain ⟨b1, b2⟩ := b
      simp only at hb1
      subst hb1
      exact Lib.cells_of_tab he hi hci hce hf
    · cases h
theorem tab1_of_head {name : String} {rest : List (String × DataW Unit)} {W : World} {g : Nat} {t e : TypeId} {zs : List Int} {f : Int → Int}
    (hg : Tryz.prog.globalNamed name = some g) (hty : (Tryz.prog.globals[g]?).map (·.type) = some t) (ht : Tryz.prog.underlying t = some (.array 4 e)) (he : Tryz.prog.underlying e = some (.int .u8)) (hce : Tryz.prog.cellsOf e = 1) (hct : Tryz.prog.cellsOf t = 4)
    (hz : zs = [f 0, f 1, f 2, f 3]) (hf : ∀ a, f (bst a) = f a)
    (h : laidMet Tryz.prog ((name, Lib.tabData .u8 zs) :: rest) W) : Tab1 g f W := by
  have hT := Lib.tabIs_of_head hg hty ht he hce hct h
  subst hz
  intro a h0
  have hb := bst_bd a h0
  rw [hT.cell hg _ (by simp; omega), ← hf a]
  have : bst a = 0 ∨ bst a = 1 ∨ bst a = 2 ∨ bst a = 3 := by omega
  rcases this with e | e | e | e <;> rw [e] <;> rfl
theorem tab2_of_head {name : String} {rest : List (String × DataW Unit)} {W : World} {g : Nat} {t e i : TypeId} {rows : List (List Int)} {f : Int → Int → Int}
    (hg : Tryz.prog.globalNamed name = some g) (hty : (Tryz.prog.globals[g]?).map (·.type) = some t) (ht : Tryz.prog.underlying t = some (.array 4 e)) (he : Tryz.prog.underlying e = some (.array 4 i)) (hi : Tryz.prog.underlying i = some (.int .u8)) (hci : Tryz.prog.cellsOf i = 1) (hce : Tryz.prog.cellsOf e = 4)
    (hz : rows = [[f 0 0, f 0 1, f 0 2, f 0 3], [f 1 0, f 1 1, f 1 2, f 1 3], [f 2 0, f 2 1, f 2 2, f 2 3], [f 3 0, f 3 1, f 3 2, f 3 3]]) (hf : ∀ a b, f (bst a) (bst b) = f a b)
    (h : laidMet Tryz.prog ((name, .agg (rows.map (Lib.tabData .u8))) :: rest) W) : Tab2 g f W := by
  obtain ⟨ps, ⟨g', t', cs, fuel, p, q, hg', ht', hvar, hd, _, _⟩, _⟩ := h
  obtain rfl := Option.some.inj (hg.symm.trans hg')
  obtain rfl := Option.some.inj (hty.symm.trans ht')
  have hgrid := cells_of_grid ht he hi hci hce hd
  subst hz
  intro a b h0 h1
  have ha := bst_bd a h0
  have hb := bst_bd b h1
  rw [World.var?_cell hg hvar, ← hf a b]
  have key : ∀ (r j : Nat) (zs : List Int) (z : Int), [[f 0 0, f 0 1, f 0 2, f 0 3], [f 1 0, f 1 1, f 1 2, f 1 3], [f 2 0, f 2 1, f 2 2, f 2 3], [f 3 0, f 3 1, f 3 2, f 3 3]][r]? = some zs → zs[j]? = some z → j < 4 → cs[r * 4 + j]? = some (.int .u8 z) := by
    intro r j zs z hr hj hlt
    have := congrArg (·[j]?) (hgrid r zs hr)
    simp only [List.getElem?_take, List.getElem?_drop, List.getElem?_map, hj, hlt, if_true, Option.map_some] at this
    simpa using this
  have ea : bst a = 0 ∨ bst a = 1 ∨ bst a = 2 ∨ bst a = 3 := by omega
  have eb : bst b = 0 ∨ bst b = 1 ∨ bst b = 2 ∨ bst b = 3 := by omega
  rcases ea with ea | ea | ea | ea <;> rcases eb with eb | eb | eb | eb <;> rw [ea, eb] <;> exact key _ _ _ _ rfl rfl (by decide)
section
variable {rest : List (String × DataW Unit)} {W : World}
theorem tab_notTable (h : laidMet Tryz.prog (("netlab/bit.notTable", Rows.laid_netlab_bit_notTable) :: rest) W) : Tab1 2 mNot W :=
  tab1_of_head (t := 132) (e := 48) (zs := [1, 0, 2, 2]) (by kernel_rfl) (by kernel_rfl) (by kernel_rfl) (by kernel_rfl) (by kernel_rfl) (by kernel_rfl) (by decide) mNot_bst h
theorem tab_bufTable (h : laidMet Tryz.prog (("netlab/bit.bufTable", Rows.laid_netlab_bit_bufTable) :: rest) W) : Tab1 5 mBuf W :=
  tab1_of_head (t := 132) (e := 48) (zs := [0, 1, 2, 2]) (by kernel_rfl) (by kernel_rfl) (by kernel_rfl) (by kernel_rfl) (by kernel_rfl) (by kernel_rfl) (by decide) mBuf_bst h
theorem tab_andTable (h : laidMet Tryz.prog (("netlab/bit.andTable", Rows.laid_netlab_bit_andTable) :: rest) W) : Tab2 3 mAnd W :=
  tab2_of_head (t := 133) (e := 132) (i := 48) (rows := [[0, 0, 0, 0], [0, 1, 2, 2], [0, 2, 2, 2], [0, 2, 2, 2]]) (by kernel_rfl) (by kernel_rfl) (by kernel_rfl) (by kernel_rfl) (by kernel_rfl) (by kernel_rfl) (by kernel_rfl) (by decide) mAnd_bst h
theorem tab_orTable (h : laidMet Tryz.prog (("netlab/bit.orTable", Rows.laid_netlab_bit_orTable) :: rest) W) : Tab2 0 mOr W :=
  tab2_of_head (t := 133) (e := 132) (i := 48) (rows := [[0, 1, 2, 2], [1, 1, 1, 1], [2, 1, 2, 2], [2, 1, 2, 2]]) (by kernel_rfl) (by kernel_rfl) (by kernel_rfl) (by kernel_rfl) (by kernel_rfl) (by kernel_rfl) (by kernel_rfl) (by decide) mOr_bst h
theorem tab_xorTable (h : laidMet Tryz.prog (("netlab/bit.xorTable", Rows.laid_netlab_bit_xorTable) :: rest) W) : Tab2 4 mXor W :=
  tab2_of_head (t := 133) (e := 132) (i := 48) (rows := [[0, 1, 2, 2], [1, 0, 2, 2], [2, 2, 2, 2], [2, 2, 2, 2]]) (by kernel_rfl) (by kernel_rfl) (by kernel_rfl) (by kernel_rfl) (by kernel_rfl) (by kernel_rfl) (by kernel_rfl) (by decide) mXor_bst h
theorem tab_agreeTable (h : laidMet Tryz.prog (("netlab/bit.agreeTable", Rows.laid_netlab_bit_agreeTable) :: rest) W) : Tab2 1 mAgree W :=
  tab2_of_head (t := 133) (e := 132) (i := 48) (rows := [[0, 2, 2, 2], [2, 1, 2, 2], [2, 2, 2, 2], [2, 2, 2, 2]]) (by kernel_rfl) (by kernel_rfl) (by kernel_rfl) (by kernel_rfl) (by kernel_rfl) (by kernel_rfl) (by kernel_rfl) (by decide) mAgree_bst h
end
end
section
open Go Go.ChangeShapes Go.WideShapes Go.Deep Go.RowKit Go.Joins
section
variable {H : Type} {enc : TypeId × Value → H} {P : Program} {W : World}
theorem trod_bits {t e : TypeId} {n : Nat} {v : Value} {y : DataW H × List MemPlace} (ht : P.underlying t = some (.slice e)) (he : P.underlying e = some (.int .u8)) (hce : P.cellsOf e = 1)
    (h : DataW.trod enc P W 0 (fun _ => true) true n t [v] = some y) :
    ∃ (A : Option Addr) (l : List Int) (c : Nat), v = .slice A l.length c ∧ l.length ≤ maxLen ∧ RQ W A l ∧ By l ∧ Hid (l.length ≤ c ∧ c ≤ maxLen) := by
  rcases open_ints ht he hce h with ⟨h2, -⟩ | ⟨a, len, cap, zs, hcs, hb, hl, hm, hz, hx, hcell, hwf⟩
  · simp only [List.cons.injEq, and_true] at h2
    subst h2
    exact ⟨none, [], 0, rfl, by simp, fun h => absurd h (by simp), fun i => by rw [qt_ge (by simp)]; decide, show _ ∧ _ from ⟨Nat.le_refl _, by simp [maxLen]⟩⟩
  · simp only [if_true] at hz
    simp only [List.cons.injEq, and_true] at hcs
    subst hcs
    have hlen : (zs.take len).length = len := by rw [List.length_take]; omega
    have hq : ∀ i, i < len → qt (zs.take len) i = zs.getD i 0 := fun i hi => by
      unfold qt
      rw [List.getD_eq_getElem?_getD, List.getElem?_take, if_pos hi, List.getD_eq_getElem?_getD]
    refine ⟨some a, zs.take len, cap, by rw [hlen], by omega, fun hn => ?_, fun i => ?_, show _ ∧ _ from ⟨by omega, hm⟩⟩
    · rw [hlen] at hn
      refine ⟨a, rfl, ?_, fun i hi => ?_⟩
      · have h0 := hcell 0 (by omega)
        have := block_lt_of_cell h0
        rwa [block_of_add] at this
      · rw [hlen] at hi
        rw [hcell i (by omega), hq i hi]
    · rcases Nat.lt_or_ge i len with hi | hi
      · rw [hq i hi, List.getD_eq_getElem?_getD, List.getElem?_eq_getElem (by omega : i < zs.length)]
        have h := hwf _ (List.getElem_mem (by omega : i < zs.length))
        simp only [Lit.wf, Bool.and_eq_true] at h
        exact ⟨of_decide_eq_true h.1, of_decide_eq_true h.2⟩
      · rw [qt_ge (by omega)]; decide
theorem open_vec {r : Reach} {b0 : Nat} {t e : TypeId} {f0 f1 : Field} {v : Value} {d : DataW H} {p : List MemPlace} (hs : P.underlying t = some (.struct #[f0, f1])) (hone : oneCellFields P #[f0, f1] = true) (hC : P.cellsOf t = 2)
    (h0 : P.underlying f0.type = some (.slice e)) (he : P.underlying e = some (.int .u8)) (hce : P.cellsOf e = 1) (h1 : P.underlying f1.type = some .bool)
    (hv : Value.okWide P W r b0 t v) (h : DataW.Trod enc P W 0 (fun _ => true) true t v d p) :
    ∃ (A : Option Addr) (l : List Int) (c : Nat) (s : Bool), v = .agg #[.slice A l.length c, .bool s] ∧ l.length ≤ maxLen ∧ RQ W A l ∧ By l ∧ Hid (l.length ≤ c ∧ c ≤ maxLen) := by
  obtain ⟨v0, v1, y0, y1, n, rfl, -, -, t0, t1⟩ := open_agg2 hs hone hC hv h
  obtain ⟨A, l, c, rfl, k1, k2, k3, k4⟩ := trod_bits h0 he hce t0
  obtain ⟨s, hs1, -⟩ := DataW.trod_bool h1 t1
  obtain rfl : v1 = .bool s := by simpa using hs1
  exact ⟨A, l, c, s, rfl, k1, k2, k3, k4⟩
end
end
section
open Go Go.ChangeShapes Go.WideShapes Go.WideElems Go.RowKit
section
variable {H : Type} {enc : TypeId × Value → H} {P : Program}
theorem carry_all (hl : laidOutB P = true) {W W' : World} {sp : Nat → Bool} (hb : Below W.heap.size W W') : ∀ {ts : List TypeId} {vs : List Value} {ds : List (DataW H)} {ps : List MemPlace},
    (ts.all fun t => P.readableRec t && decide (t < P.types.size)) = true → DataW.TrodAll enc P W 0 (fun _ => true) true ts vs ds ps → (∀ p ∈ ps, p.block < W.heap.size) → (∀ p ∈ ps, sp p.block = true) →
    DataW.TrodAll enc P W' 0 sp true ts vs ds ps
  | [], [], [], _, _, h, _, _ => h
  | [], [], _ :: _, _, _, h, _, _ => h.elim
  | [], _ :: _, _, _, _, h, _, _ => h.elim
  | _ :: _, [], _, _, _, h, _, _ => h.elim
  | _ :: _, _ :: _, [], _, _, h, _, _ => h.elim
  | t :: ts, v :: vs, d :: ds, ps, hr, h, hlt, hsp => by
    obtain ⟨p, q, h1, h2, e⟩ := h
    simp only [List.all_cons, Bool.and_eq_true, decide_eq_true_eq] at hr
    subst e
    exact ⟨p, q, Trod_stays hl hr.1.1 hr.1.2 h1 (fun x hx => hb.same (hlt x (by simp [hx]))) (fun x hx => hsp x (by simp [hx])),
      carry_all hl hb (by simpa using hr.2) h2 (fun x hx => hlt x (by simp [hx])) (fun x hx => hsp x (by simp [hx])), rfl⟩
theorem law_post {f : Func} {s : ChangeSpec} {bt : TypeId} {W W' : World} {args : Array Value} {ds gs : List (DataW H)} {before : List MemPlace}
    (hl : laidOutB P = true) (hr : (f.params.toList.all fun t => P.readableRec t && decide (t < P.types.size)) = true) (hbool : P.underlying bt = some .bool) (hres : f.resultTypes = #[bt]) (hvars : s.vars = [])
    (hW : DataW.Whole enc P f.params.toList s.vars false W args.toList ds gs before)
    (hf1 : (s.fn H (ds ++ gs)).results = [.lit (.bool true)]) (hf2 : (s.fn H (ds ++ gs)).args = ds) (hf3 : (s.fn H (ds ++ gs)).vars = []) (hb : Below W.heap.size W W') :
    s.post enc P f false true false false W args (.bool true) W' := by
  have hlt : ∀ p ∈ before, p.block < W.heap.size := fun p hp => hW.lt p hp
  have hW0 := hW
  obtain ⟨pa, pv, hA, hV, e, hz, hn⟩ := hW
  rw [hvars] at hV
  obtain ⟨rfl, rfl⟩ := trodVars_none hV
  rw [List.append_nil] at e
  subst e
  have hbs : (Value.bool true).resultList f.resultTypes.size = [.bool true] := by rw [hres]; rfl
  have hR : ∀ (b : Nat) (sp : Nat → Bool) (hd : Bool), DataW.TrodAll enc P W' b sp hd f.resultTypes.toList ((Value.bool true).resultList f.resultTypes.size) (s.fn H (ds ++ [])).results [] := by
    intro b sp hd
    rw [hbs, hf1, hres]
    exact trodAll_mk1 (shut_bool hbool _)
  have hG : ∀ sp : Nat → Bool, (∀ p ∈ before, sp p.block = true) → DataW.TrodAll enc P W' 0 sp true f.params.toList args.toList (s.fn H (ds ++ [])).args before := fun sp hsp => by
    rw [hf2]; exact carry_all hl hb hr hA hlt hsp
  have hVs : ∀ sp : Nat → Bool, DataW.TrodVars enc P W' sp s.vars (s.fn H (ds ++ [])).vars [] := fun sp => by rw [hf3, hvars]; rfl
  have hok : ∀ (j : Nat) (t : TypeId) (r : Value), f.resultTypes[j]? = some t → ((Value.bool true).resultList f.resultTypes.size)[j]? = some r → Value.okWide P W' .any 0 t r := ok_one hres rfl (okWide_bool_mk hbool _)
  have hold : ∀ p ∈ before, (fun b => decide (b < W.heap.size)) p.block = true := fun p hp => by simpa using hlt p hp
  refine ⟨ds, [], before, [], before, [], hW0, hR _ _ _, hG _ hold, hVs _, World.keptBut_mono (fun p hp => ⟨hp, by simpa using hp⟩) (hb.frame (· ∈ before)), fun _ => ?_⟩
  refine ⟨hok, _, _, ([] ++ before) ++ [], ⟨[] ++ before, [], trodAll_append (hG _ (fun _ _ => rfl)) (hR _ _ _), hVs _, rfl, ?_, ?_⟩, ?_⟩
  · intro b off hp
    have hin : MemPlace.cell b off ∈ before := by simpa using hp
    rw [hb.frozen (hlt _ hin)]
    exact hz b off hin
  · intro ha
    have := hn ha
    simpa using this
  · intro p hp _
    simpa using hp
end
end
end Go.Proofs.YtpiakebbndoecaaGreatDoor
