/-
  VecMQ.
-/
import Derived.Test.YtpiakebbndoecaaGreatDoorMV5
set_option linter.unusedVariables false
set_option linter.unusedSimpArgs false
set_option linter.unusedSectionVars false
namespace Go.Proofs.YtpiakebbndoecaaGreatDoor
open Go.RowKit
set_option maxRecDepth 100000
set_option linter.unusedSimpArgs false
set_option linter.unusedVariables false
theorem rf_self {a c : Vc} (h : Rf a c) : Rf c c := ⟨h.gc, h.gc, rfl, rfl, fun i => mLeq_refl _⟩
theorem refines_w (q : Bool) (A B : Option Addr) (a b : List Int) (c d : Nat) (s t : Bool) (w : World) (ha : a.length ≤ 4096) (hb : b.length ≤ 4096) (hca : Hid (a.length ≤ c ∧ c ≤ maxLen)) (hcb : Hid (b.length ≤ d ∧ d ≤ maxLen)) (hA : RQ w A a) (hB : RQ w B b) (ya : By a) (yb : By b) (h : rfB ⟨a, s⟩ ⟨b, t⟩ = q) :
    Calls Tryz.prog 83 #[.agg #[.slice A a.length c, .bool s], .agg #[.slice B b.length d, .bool t]] w (Mk (.bool q) w) := by
  rw [← h]; exact refines_any A B a b c d s t w ha hb hca hcb hA hB ya yb
theorem vResize_z (z n : Int) (A : Option Addr) (a : List Int) (c : Nat) (s : Bool) (w : World) (ha : a.length ≤ 4096) (hca : Hid (a.length ≤ c ∧ c ≤ maxLen)) (hA : RQ w A a) (ya : By a) (h : (if 1 ≤ n ∧ n ≤ 128 then (0 : Int) else 12) = z) :
    Calls Tryz.prog 41 #[.agg #[.slice A a.length c, .bool s], .int .i64 n] w (RetE z ⟨rsz (cnt ⟨a, s⟩) n.toNat, (cnt ⟨a, s⟩).s⟩ w) := by
  rw [← h]; exact vResize_any n A a c s w ha hca hA ya
theorem vRepeat_z (z n : Int) (A : Option Addr) (a : List Int) (c : Nat) (s : Bool) (w : World) (ha : a.length ≤ 4096) (hca : Hid (a.length ≤ c ∧ c ≤ maxLen)) (hA : RQ w A a) (ya : By a) (h : rpe n (cnt ⟨a, s⟩).b.length = z) :
    Calls Tryz.prog 45 #[.agg #[.slice A a.length c, .bool s], .int .i64 n] w (RetE z ⟨ql ((cnt ⟨a, s⟩).b.length * n.toNat) fun i => qt (cnt ⟨a, s⟩).b (i % (cnt ⟨a, s⟩).b.length), false⟩ w) := by
  rw [← h]; exact vRepeat_any n A a c s w ha hca hA ya
theorem vSlice_z (z hi lo : Int) (A : Option Addr) (a : List Int) (c : Nat) (s : Bool) (w : World) (ha : a.length ≤ 4096) (hca : Hid (a.length ≤ c ∧ c ≤ maxLen)) (hA : RQ w A a) (ya : By a) (b1 : -9223372036854775808 ≤ lo) (b2 : hi ≤ 9223372036854775807) (b3 : -9223372036854775808 ≤ hi) (b4 : lo ≤ 9223372036854775807) (h : spn hi lo = z) :
    Calls Tryz.prog 47 #[.agg #[.slice A a.length c, .bool s], .int .i64 hi, .int .i64 lo] w (RetE z ⟨wdw (cnt ⟨a, s⟩).b lo (hi - lo + 1).toNat 2, false⟩ w) := by
  rw [← h]; exact vSlice_any hi lo A a c s w ha hca hA ya b1 b2 b3 b4
theorem vPut_z (z hi lo : Int) (A B : Option Addr) (a b : List Int) (c d : Nat) (s t : Bool) (w : World) (ha : a.length ≤ 4096) (hb : b.length ≤ 4096) (hca : Hid (a.length ≤ c ∧ c ≤ maxLen)) (hcb : Hid (b.length ≤ d ∧ d ≤ maxLen)) (hA : RQ w A a) (hB : RQ w B b) (ya : By a) (yb : By b) (b1 : -9223372036854775808 ≤ lo) (b2 : hi ≤ 9223372036854775807) (b3 : -9223372036854775808 ≤ hi) (b4 : lo ≤ 9223372036854775807) (h : spn hi lo = z) :
    Calls Tryz.prog 49 #[.agg #[.slice A a.length c, .bool s], .int .i64 hi, .int .i64 lo, .agg #[.slice B b.length d, .bool t]] w (RetE z (vPut ⟨a, s⟩ ⟨b, t⟩ hi lo) w) := by
  rw [← h]; exact vPut_any hi lo A B a b c d s t w ha hb hca hcb hA hB ya yb b1 b2 b3 b4
theorem vConcat_z (z : Int) (g c : Nat) (vs : List Va) (w : World) (hg : g < w.heap.size) (h0 : 0 < vs.length) (hn : vs.length ≤ 4096) (hv : Vrow w g vs) (he : cte (vcs vs) = z) :
    Calls Tryz.prog 43 #[.slice (some ⟨g, 0, none⟩) vs.length c] w (RetE z ⟨cats (vcs vs), false⟩ w) := by
  rw [← he]; exact vConcat_any g c vs w hg h0 hn hv
set_option maxHeartbeats 8000000 in
theorem VecMonotoneParts_long (Aa : Option Addr) (la : List Int) (ca : Nat) (sa : Bool) (Ab : Option Addr) (lb : List Int) (cb : Nat) (sb : Bool) (Ac : Option Addr) (lc : List Int) (cc : Nat) (sc : Bool) (Ad : Option Addr) (ld : List Int) (cd : Nat) (sd : Bool) (m n : Int) (w : World) (ma : la.length ≤ maxLen) (ra : RQ w Aa la) (ya : By la) (pa : Hid (la.length ≤ ca ∧ ca ≤ maxLen)) (mb : lb.length ≤ maxLen) (rb : RQ w Ab lb) (yb : By lb) (pb : Hid (lb.length ≤ cb ∧ cb ≤ maxLen)) (mc : lc.length ≤ maxLen) (rc : RQ w Ac lc) (yc : By lc) (pc : Hid (lc.length ≤ cc ∧ cc ≤ maxLen)) (md : ld.length ≤ maxLen) (rd : RQ w Ad ld) (yd : By ld) (pd : Hid (ld.length ≤ cd ∧ cd ≤ maxLen)) (m0 : -9223372036854775808 ≤ m) (m1 : m ≤ 9223372036854775807) (n0 : -9223372036854775808 ≤ n) (n1 : n ≤ 9223372036854775807) (tn : Tab1 2 mNot w) (tb : Tab1 5 mBuf w) (ta : Tab2 3 mAnd w) (tO : Tab2 0 mOr w) (tx : Tab2 4 mXor w) (tg : Tab2 1 mAgree w) (hl : Hid (∃ i, ∃ h : i < 4, 140 < [(Aa, la.length, ca, sa), (Ab, lb.length, cb, sb), (Ac, lc.length, cc, sc), (Ad, ld.length, cd, sd)][i].2.1)) : Calls Tryz.prog 9 #[.agg #[.slice Aa la.length ca, .bool sa], .agg #[.slice Ab lb.length cb, .bool sb], .agg #[.slice Ac lc.length cc, .bool sc], .agg #[.slice Ad ld.length cd, .bool sd], .int .i64 m, .int .i64 n] w (Mk (.bool true) w) := by
  have hm : Hid (∀ i (h : i < 4), [(Aa, la.length, ca, sa), (Ab, lb.length, cb, sb), (Ac, lc.length, cc, sc), (Ad, ld.length, cd, sd)][i].2.1 ≤ maxLen) := hide fun i h => by rcases i with _ | _ | _ | _ | i <;> first | assumption | omega
  clear ma mb mc md
  have Oa := hide ra
  have Ya := hide ya
  have Ca := pa
  have Ob := hide rb
  have Yb := hide yb
  have Cb := pb
  have Oc := hide rc
  have Yc := hide yc
  have Cc := pc
  have Od := hide rd
  have Yd := hide yd
  have Cd := pd
  clear ra ya
  clear rb yb
  clear rc yc
  clear rd yd
  have HT := hide (show Tabs w from ⟨tn, tb, ta, tO, tx, tg⟩)
  clear tn tb ta tO tx tg
  have hU : Below w.heap.size w w := Below.refl _ _
  refine calls_sl (l := [.agg #[.slice Aa la.length ca, .bool sa], .agg #[.slice Ab lb.length cb, .bool sb], .agg #[.slice Ac lc.length cc, .bool sc], .agg #[.slice Ad ld.length cd, .bool sd], .int .i64 m, .int .i64 n]) 142 Tryz.func9 rfl (by kernel_rfl) (by simp) (wp_seq (reg_lit (wpl_boxvec (A := Aa) (m := la.length) (c := ca) (s := sa) rfl (by kernel_rfl) rfl (by kernel_rfl) ?_)))
  intro w1 Na Ba hNa hb
  replace Ba := hide Ba
  have hza : w.heap.size ≤ Na := Nat.le_trans hU.size hNa
  clear hNa
  replace hU := hU.trans (hb.mono hU.size)
  clear hb
  refine wpl_boxvec (A := Ab) (m := lb.length) (c := cb) (s := sb) rfl (by kernel_rfl) rfl (by kernel_rfl) ?_
  intro w2 Nb Bb hNb hb
  replace Bb := hide Bb
  replace Ba := hide (Box.kept Ba.out hb)
  have hzb : w.heap.size ≤ Nb := Nat.le_trans hU.size hNb
  clear hNb
  replace hU := hU.trans (hb.mono hU.size)
  clear hb
  refine wpl_boxvec (A := Ac) (m := lc.length) (c := cc) (s := sc) rfl (by kernel_rfl) rfl (by kernel_rfl) ?_
  intro w3 Nc Bc hNc hb
  replace Bc := hide Bc
  replace Ba := hide (Box.kept Ba.out hb)
  replace Bb := hide (Box.kept Bb.out hb)
  have hzc : w.heap.size ≤ Nc := Nat.le_trans hU.size hNc
  clear hNc
  replace hU := hU.trans (hb.mono hU.size)
  clear hb
  refine wpl_boxvec (A := Ad) (m := ld.length) (c := cd) (s := sd) rfl (by kernel_rfl) rfl (by kernel_rfl) ?_
  intro w4 Nd Bd hNd hb
  replace Bd := hide Bd
  replace Ba := hide (Box.kept Ba.out hb)
  replace Bb := hide (Box.kept Bb.out hb)
  replace Bc := hide (Box.kept Bc.out hb)
  have hzd : w.heap.size ≤ Nd := Nat.le_trans hU.size hNd
  clear hNd
  replace hU := hU.trans (hb.mono hU.size)
  clear hb
  refine wpl_r1 [(12, .bool false)] (by kernel_rfl) (wpl_end (then_normal (wp_seq (wp_seq (reg_lit (wpl_ldvec Ba.out rfl (by kernel_rfl) rfl (by kernel_rfl) (wpl_ldvec Bb.out rfl (by kernel_rfl) rfl (by kernel_rfl) ?_)))))))
  refine wpl_ldvec Bc.out rfl (by kernel_rfl) rfl (by kernel_rfl) (wpl_ldvec Bd.out rfl (by kernel_rfl) rfl (by kernel_rfl) (wpl_bsL4 rfl (by kernel_rfl) rfl (A0 := Aa) (m0 := la.length) (c0 := ca) (s0 := sa) (A1 := Ab) (m1 := lb.length) (c1 := cb) (s1 := sb) (A2 := Ac) (m2 := lc.length) (c2 := cc) (s2 := sc) (A3 := Ad) (m3 := ld.length) (c3 := cd) (s3 := sd) (by kernel_rfl) (by kernel_rfl) (by kernel_rfl) (by kernel_rfl) ?_))
  intro w5 NV5 RV5 hb
  replace RV5 := hide RV5
  replace Ba := hide (Box.kept Ba.out hb)
  replace Bb := hide (Box.kept Bb.out hb)
  replace Bc := hide (Box.kept Bc.out hb)
  replace Bd := hide (Box.kept Bd.out hb)
  replace hU := hU.trans (hb.mono hU.size)
  clear hb
  refine wpl_call rfl (by kernel_rfl) (by kernel_rfl) ((vlong_yes NV5 4 [(Aa, la.length, ca, sa), (Ab, lb.length, cb, sb), (Ac, lc.length, cc, sc), (Ad, ld.length, cd, sd)] _ (by simp) RV5.out hl.out hm.out).mono ?_)
  rintro e w' ⟨rfl, rfl⟩
  refine ⟨_, rfl, ?_⟩
  refine wpl_r4 [(27, .bool true), (26, undef), (25, undef), (24, .bool true)] (by kernel_rfl) (wpl_end (then_normal (wp_ift (by kernel_rfl) (wp_seq (reg_lit ?_)))))
  refine wpl_call rfl (by kernel_rfl) (by kernel_rfl) ((vawake_any _ (HT.out.kept hU)).mono ?_)
  rintro e w6 ⟨rfl, hb⟩
  refine ⟨_, rfl, ?_⟩
  replace Ba := hide (Box.kept Ba.out hb)
  replace Bb := hide (Box.kept Bb.out hb)
  replace Bc := hide (Box.kept Bc.out hb)
  replace Bd := hide (Box.kept Bd.out hb)
  replace hU := hU.trans (hb.mono hU.size)
  clear hb
  refine wpl_r1 [(12, .bool true)] (by kernel_rfl) (wpl_end (then_normal (wp_ret ?_)))
  refine (show bodyPost _ _ _ .ret _ _ from ret_sl (.bool true) rfl (by kernel_rfl) ?_)
  exact ⟨rfl, hU⟩
set_option maxHeartbeats 64000000 in
theorem VecMonotoneParts_short (Aa : Option Addr) (la : List Int) (ca : Nat) (sa : Bool) (Ab : Option Addr) (lb : List Int) (cb : Nat) (sb : Bool) (Ac : Option Addr) (lc : List Int) (cc : Nat) (sc : Bool) (Ad : Option Addr) (ld : List Int) (cd : Nat) (sd : Bool) (m n : Int) (w : World) (ma : la.length ≤ maxLen) (ra : RQ w Aa la) (ya : By la) (pa : Hid (la.length ≤ ca ∧ ca ≤ maxLen)) (mb : lb.length ≤ maxLen) (rb : RQ w Ab lb) (yb : By lb) (pb : Hid (lb.length ≤ cb ∧ cb ≤ maxLen)) (mc : lc.length ≤ maxLen) (rc : RQ w Ac lc) (yc : By lc) (pc : Hid (lc.length ≤ cc ∧ cc ≤ maxLen)) (md : ld.length ≤ maxLen) (rd : RQ w Ad ld) (yd : By ld) (pd : Hid (ld.length ≤ cd ∧ cd ≤ maxLen)) (m0 : -9223372036854775808 ≤ m) (m1 : m ≤ 9223372036854775807) (n0 : -9223372036854775808 ≤ n) (n1 : n ≤ 9223372036854775807) (tn : Tab1 2 mNot w) (tb : Tab1 5 mBuf w) (ta : Tab2 3 mAnd w) (tO : Tab2 0 mOr w) (tx : Tab2 4 mXor w) (tg : Tab2 1 mAgree w) (hs : Hid (∀ i (h : i < 4), [(Aa, la.length, ca, sa), (Ab, lb.length, cb, sb), (Ac, lc.length, cc, sc), (Ad, ld.length, cd, sd)][i].2.1 ≤ 140)) : Calls Tryz.prog 9 #[.agg #[.slice Aa la.length ca, .bool sa], .agg #[.slice Ab lb.length cb, .bool sb], .agg #[.slice Ac lc.length cc, .bool sc], .agg #[.slice Ad ld.length cd, .bool sd], .int .i64 m, .int .i64 n] w (Mk (.bool true) w) := by
  have La : Hid (la.length ≤ 4096) := hide (Nat.le_trans (hs.out 0 (by decide)) (by decide))
  have Lb : Hid (lb.length ≤ 4096) := hide (Nat.le_trans (hs.out 1 (by decide)) (by decide))
  have Lc : Hid (lc.length ≤ 4096) := hide (Nat.le_trans (hs.out 2 (by decide)) (by decide))
  have Ld : Hid (ld.length ≤ 4096) := hide (Nat.le_trans (hs.out 3 (by decide)) (by decide))
  clear ma mb mc md
  have Oa := hide ra
  have Ya := hide ya
  have Ca := pa
  have Ob := hide rb
  have Yb := hide yb
  have Cb := pb
  have Oc := hide rc
  have Yc := hide yc
  have Cc := pc
  have Od := hide rd
  have Yd := hide yd
  have Cd := pd
  clear ra ya
  clear rb yb
  clear rc yc
  clear rd yd
  have HT := hide (show Tabs w from ⟨tn, tb, ta, tO, tx, tg⟩)
  clear tn tb ta tO tx tg
  have hU : Below w.heap.size w w := Below.refl _ _
  refine calls_sl (l := [.agg #[.slice Aa la.length ca, .bool sa], .agg #[.slice Ab lb.length cb, .bool sb], .agg #[.slice Ac lc.length cc, .bool sc], .agg #[.slice Ad ld.length cd, .bool sd], .int .i64 m, .int .i64 n]) 142 Tryz.func9 rfl (by kernel_rfl) (by simp) (wp_seq (reg_lit (wpl_boxvec (A := Aa) (m := la.length) (c := ca) (s := sa) rfl (by kernel_rfl) rfl (by kernel_rfl) ?_)))
  intro w1 Na Ba hNa hb
  replace Ba := hide Ba
  replace Oa := hide (RQ.below Oa.out hb)
  replace Ob := hide (RQ.below Ob.out hb)
  replace Oc := hide (RQ.below Oc.out hb)
  replace Od := hide (RQ.below Od.out hb)
  have hza : w.heap.size ≤ Na := Nat.le_trans hU.size hNa
  clear hNa
  replace hU := hU.trans (hb.mono hU.size)
  clear hb
  refine wpl_boxvec (A := Ab) (m := lb.length) (c := cb) (s := sb) rfl (by kernel_rfl) rfl (by kernel_rfl) ?_
  intro w2 Nb Bb hNb hb
  replace Bb := hide Bb
  replace Oa := hide (RQ.below Oa.out hb)
  replace Ob := hide (RQ.below Ob.out hb)
  replace Oc := hide (RQ.below Oc.out hb)
  replace Od := hide (RQ.below Od.out hb)
  replace Ba := hide (Box.kept Ba.out hb)
  have hzb : w.heap.size ≤ Nb := Nat.le_trans hU.size hNb
  clear hNb
  replace hU := hU.trans (hb.mono hU.size)
  clear hb
  refine wpl_boxvec (A := Ac) (m := lc.length) (c := cc) (s := sc) rfl (by kernel_rfl) rfl (by kernel_rfl) ?_
  intro w3 Nc Bc hNc hb
  replace Bc := hide Bc
  replace Oa := hide (RQ.below Oa.out hb)
  replace Ob := hide (RQ.below Ob.out hb)
  replace Oc := hide (RQ.below Oc.out hb)
  replace Od := hide (RQ.below Od.out hb)
  replace Ba := hide (Box.kept Ba.out hb)
  replace Bb := hide (Box.kept Bb.out hb)
  have hzc : w.heap.size ≤ Nc := Nat.le_trans hU.size hNc
  clear hNc
  replace hU := hU.trans (hb.mono hU.size)
  clear hb
  refine wpl_boxvec (A := Ad) (m := ld.length) (c := cd) (s := sd) rfl (by kernel_rfl) rfl (by kernel_rfl) ?_
  intro w4 Nd Bd hNd hb
  replace Bd := hide Bd
  replace Oa := hide (RQ.below Oa.out hb)
  replace Ob := hide (RQ.below Ob.out hb)
  replace Oc := hide (RQ.below Oc.out hb)
  replace Od := hide (RQ.below Od.out hb)
  replace Ba := hide (Box.kept Ba.out hb)
  replace Bb := hide (Box.kept Bb.out hb)
  replace Bc := hide (Box.kept Bc.out hb)
  have hzd : w.heap.size ≤ Nd := Nat.le_trans hU.size hNd
  clear hNd
  replace hU := hU.trans (hb.mono hU.size)
  clear hb
  refine wpl_r1 [(12, .bool false)] (by kernel_rfl) (wpl_end (then_normal (wp_seq (wp_seq ?_))))
  obtain ⟨Pr1, HM1, HC1, p1_a, p1_b, p1_c, p1_d, q1_a, q1_b, q1_c, q1_d⟩ : ∃ Pr : World → Prop, (∀ w w', Pr w → Below w.heap.size w w' → Pr w') ∧ Hid (Pr w4) ∧ (∀ W, Pr W → RQ W Aa la) ∧ (∀ W, Pr W → RQ W Ab lb) ∧ (∀ W, Pr W → RQ W Ac lc) ∧ (∀ W, Pr W → RQ W Ad ld) ∧ (∀ W, Pr W → Box Na Aa la.length ca sa W) ∧ (∀ W, Pr W → Box Nb Ab lb.length cb sb W) ∧ (∀ W, Pr W → Box Nc Ac lc.length cc sc W) ∧ (∀ W, Pr W → Box Nd Ad ld.length cd sd W) := ⟨fun W => RQ W Aa la ∧ RQ W Ab lb ∧ RQ W Ac lc ∧ RQ W Ad ld ∧ Box Na Aa la.length ca sa W ∧ Box Nb Ab lb.length cb sb W ∧ Box Nc Ac lc.length cc sc W ∧ Box Nd Ad ld.length cd sd W, fun _ _ h hb => ⟨RQ.below h.1 hb, RQ.below h.2.1 hb, RQ.below h.2.2.1 hb, RQ.below h.2.2.2.1 hb, Box.kept h.2.2.2.2.1 hb, Box.kept h.2.2.2.2.2.1 hb, Box.kept h.2.2.2.2.2.2.1 hb, Box.kept h.2.2.2.2.2.2.2 hb⟩, hide ⟨Oa.out, Ob.out, Oc.out, Od.out, Ba.out, Bb.out, Bc.out, Bd.out⟩, fun _ h => h.1, fun _ h => h.2.1, fun _ h => h.2.2.1, fun _ h => h.2.2.2.1, fun _ h => h.2.2.2.2.1, fun _ h => h.2.2.2.2.2.1, fun _ h => h.2.2.2.2.2.2.1, fun _ h => h.2.2.2.2.2.2.2⟩
  clear Oa Ob Oc Od Ba Bb Bc Bd
  refine reg_lit (wpl_ldvec (q1_a _ HC1.out) rfl (by kernel_rfl) rfl (by kernel_rfl) (wpl_ldvec (q1_b _ HC1.out) rfl (by kernel_rfl) rfl (by kernel_rfl) (wpl_ldvec (q1_c _ HC1.out) rfl (by kernel_rfl) rfl (by kernel_rfl) (wpl_ldvec (q1_d _ HC1.out) rfl (by kernel_rfl) rfl (by kernel_rfl) (wpl_bsL4 rfl (by kernel_rfl) rfl (A0 := Aa) (m0 := la.length) (c0 := ca) (s0 := sa) (A1 := Ab) (m1 := lb.length) (c1 := cb) (s1 := sb) (A2 := Ac) (m2 := lc.length) (c2 := cc) (s2 := sc) (A3 := Ad) (m3 := ld.length) (c3 := cd) (s3 := sd) (by kernel_rfl) (by kernel_rfl) (by kernel_rfl) (by kernel_rfl) ?_)))))
  intro w5 NV5 RV5 hb
  replace RV5 := hide RV5
  replace HC1 := hide (HM1 _ _ HC1.out hb)
  replace hU := hU.trans (hb.mono hU.size)
  clear hb
  refine wpl_call rfl (by kernel_rfl) (by kernel_rfl) ((vlong_no NV5 4 [(Aa, la.length, ca, sa), (Ab, lb.length, cb, sb), (Ac, lc.length, cc, sc), (Ad, ld.length, cd, sd)] _ (by simp) RV5.out hs.out).mono ?_)
  rintro e w' ⟨rfl, rfl⟩
  refine ⟨_, rfl, ?_⟩
  clear RV5
  refine wpl_r1 [(24, .bool false)] (by kernel_rfl) ?_
  refine wpl_call rfl (by kernel_rfl) (by kernel_rfl) ((vawake_any _ (HT.out.kept hU)).mono ?_)
  rintro e w6 ⟨rfl, hb⟩
  refine ⟨_, rfl, ?_⟩
  replace HC1 := hide (HM1 _ _ HC1.out hb)
  replace hU := hU.trans (hb.mono hU.size)
  clear hb
  refine wpl_r2 [(27, .bool false), (26, .bool false)] (by kernel_rfl) (wpl_end (then_normal (wp_iff (by kernel_rfl) (wp_skip (then_normal (wp_seq (wp_seq ?_)))))))
  cases hc : rfB ⟨lc, sc⟩ ⟨la, sa⟩
  refine reg_lit (wpl_ldvec (q1_c _ HC1.out) rfl (by kernel_rfl) rfl (by kernel_rfl) (wpl_ldvec (q1_a _ HC1.out) rfl (by kernel_rfl) rfl (by kernel_rfl) ?_))
  refine wpl_call rfl (by kernel_rfl) (by kernel_rfl) ((refines_w false Ac Aa lc la cc ca sc sa _ Lc.out La.out Cc Ca (p1_c w6 HC1.out) (p1_a w6 HC1.out) Yc.out Ya.out hc).mono ?_)
  rintro e w7 ⟨rfl, hb⟩
  refine ⟨_, rfl, ?_⟩
  replace HC1 := hide (HM1 _ _ HC1.out hb)
  replace hU := hU.trans (hb.mono hU.size)
  clear hb
  refine wpl_r7 [(38, .bool true), (37, undef), (36, undef), (35, undef), (34, undef), (33, .bool true), (32, .bool true)] (by kernel_rfl) (wpl_end (then_normal (wp_ift (by kernel_rfl) (wp_seq (reg_lit (wpl_r1 [(12, .bool true)] (by kernel_rfl) (wpl_end ?_)))))))
  refine then_normal (wp_ret ?_)
  refine (show bodyPost _ _ _ .ret _ _ from ret_sl (.bool true) rfl (by kernel_rfl) ?_)
  exact ⟨rfl, hU⟩
  cases hd : rfB ⟨ld, sd⟩ ⟨lb, sb⟩
  refine reg_lit (wpl_ldvec (q1_c _ HC1.out) rfl (by kernel_rfl) rfl (by kernel_rfl) (wpl_ldvec (q1_a _ HC1.out) rfl (by kernel_rfl) rfl (by kernel_rfl) ?_))
  refine wpl_call rfl (by kernel_rfl) (by kernel_rfl) ((refines_w true Ac Aa lc la cc ca sc sa _ Lc.out La.out Cc Ca (p1_c w6 HC1.out) (p1_a w6 HC1.out) Yc.out Ya.out hc).mono ?_)
  rintro e w8 ⟨rfl, hb⟩
  refine ⟨_, rfl, ?_⟩
  replace HC1 := hide (HM1 _ _ HC1.out hb)
  replace hU := hU.trans (hb.mono hU.size)
  clear hb
  refine wpl_r2 [(33, .bool false), (32, .bool false)] (by kernel_rfl) (wpl_ldvec (q1_d _ HC1.out) rfl (by kernel_rfl) rfl (by kernel_rfl) (wpl_ldvec (q1_b _ HC1.out) rfl (by kernel_rfl) rfl (by kernel_rfl) ?_))
  refine wpl_call rfl (by kernel_rfl) (by kernel_rfl) ((refines_w false Ad Ab ld lb cd cb sd sb _ Ld.out Lb.out Cd Cb (p1_d w8 HC1.out) (p1_b w8 HC1.out) Yd.out Yb.out hd).mono ?_)
  rintro e w9 ⟨rfl, hb⟩
  refine ⟨_, rfl, ?_⟩
  replace HC1 := hide (HM1 _ _ HC1.out hb)
  replace hU := hU.trans (hb.mono hU.size)
  clear hb
  refine wpl_r2 [(38, .bool true), (37, .bool true)] (by kernel_rfl) (wpl_end (then_normal (wp_ift (by kernel_rfl) (wp_seq (reg_lit (wpl_r1 [(12, .bool true)] (by kernel_rfl) (wpl_end ?_)))))))
  refine then_normal (wp_ret ?_)
  refine (show bodyPost _ _ _ .ret _ _ from ret_sl (.bool true) rfl (by kernel_rfl) ?_)
  exact ⟨rfl, hU⟩
  have RA := hide (rf_of (a := ⟨la, sa⟩) (c := ⟨lc, sc⟩) Ya.out Yc.out hc)
  have RB := hide (rf_of (a := ⟨lb, sb⟩) (c := ⟨ld, sd⟩) Yb.out Yd.out hd)
  obtain ⟨z0, hz0⟩ : ∃ z0, (if 1 ≤ m ∧ m ≤ 128 then (0 : Int) else 12) = z0 := ⟨_, rfl⟩
  obtain ⟨z1, hz1⟩ : ∃ z1, cte [⟨la, sa⟩, ⟨lb, sb⟩] = z1 := ⟨_, rfl⟩
  obtain ⟨z2, hz2⟩ : ∃ z2, rpe m (cnt ⟨la, sa⟩).b.length = z2 := ⟨_, rfl⟩
  obtain ⟨z3, hz3⟩ : ∃ z3, spn m n = z3 := ⟨_, rfl⟩
  have H0 := hide (hz0 ▸ rse_2 m)
  have H1 := hide (hz1 ▸ cte_2' ⟨la, sa⟩ ⟨lb, sb⟩)
  have H2 := hide (hz2 ▸ rpe_3 m (cnt ⟨la, sa⟩).b.length)
  have H3 := hide (hz3 ▸ spn_3 m n)
  replace hz0 := hide hz0
  replace hz1 := hide hz1
  replace hz2 := hide hz2
  replace hz3 := hide hz3
  refine reg_lit (wpl_ldvec (q1_c _ HC1.out) rfl (by kernel_rfl) rfl (by kernel_rfl) (wpl_ldvec (q1_a _ HC1.out) rfl (by kernel_rfl) rfl (by kernel_rfl) ?_))
  refine wpl_call rfl (by kernel_rfl) (by kernel_rfl) ((refines_w true Ac Aa lc la cc ca sc sa _ Lc.out La.out Cc Ca (p1_c w6 HC1.out) (p1_a w6 HC1.out) Yc.out Ya.out hc).mono ?_)
  rintro e w10 ⟨rfl, hb⟩
  refine ⟨_, rfl, ?_⟩
  replace HC1 := hide (HM1 _ _ HC1.out hb)
  replace hU := hU.trans (hb.mono hU.size)
  clear hb
  refine wpl_r2 [(33, .bool false), (32, .bool false)] (by kernel_rfl) (wpl_ldvec (q1_d _ HC1.out) rfl (by kernel_rfl) rfl (by kernel_rfl) (wpl_ldvec (q1_b _ HC1.out) rfl (by kernel_rfl) rfl (by kernel_rfl) ?_))
  refine wpl_call rfl (by kernel_rfl) (by kernel_rfl) ((refines_w true Ad Ab ld lb cd cb sd sb _ Ld.out Lb.out Cd Cb (p1_d w10 HC1.out) (p1_b w10 HC1.out) Yd.out Yb.out hd).mono ?_)
  rintro e w11 ⟨rfl, hb⟩
  refine ⟨_, rfl, ?_⟩
  replace HC1 := hide (HM1 _ _ HC1.out hb)
  replace hU := hU.trans (hb.mono hU.size)
  clear hb
  refine wpl_r2 [(38, .bool false), (37, .bool false)] (by kernel_rfl) (wpl_end (then_normal (wp_iff (by kernel_rfl) (wp_skip (then_normal (wp_seq ?_))))))
  have HK := HC1
  have hUK := hU
  have hV : Below w11.heap.size w11 w11 := Below.refl _ _
  refine reg_lit (wpl_al5 rfl (by kernel_rfl) rfl ?_)
  intro w12 NX ZX hNX hb
  replace ZX := hide ZX
  replace HC1 := hide (HM1 _ _ HC1.out hb)
  have hzX : w11.heap.size ≤ NX := Nat.le_trans hV.size hNX
  clear hNX
  replace hU := hU.trans (hb.mono hU.size)
  replace hV := hV.trans (hb.mono hV.size)
  clear hb
  refine wpl_al5 rfl (by kernel_rfl) rfl ?_
  intro w13 NY ZY hNY hb
  replace ZY := hide ZY
  have neXY : NX ≠ NY := by have := ZX.out.lt; omega
  replace HC1 := hide (HM1 _ _ HC1.out hb)
  replace ZX := hide (Arr.kept ZX.out hb)
  have hzY : w11.heap.size ≤ NY := Nat.le_trans hV.size hNY
  clear hNY
  replace hU := hU.trans (hb.mono hU.size)
  replace hV := hV.trans (hb.mono hV.size)
  clear hb
  refine sx_n (wpl_ale5 rfl (by kernel_rfl) rfl ?_)
  intro w14 NP ZP hNP hb
  replace ZP := hide ZP
  have neXP : NX ≠ NP := by have := ZX.out.lt; omega
  have neYP : NY ≠ NP := by have := ZY.out.lt; omega
  replace HC1 := hide (HM1 _ _ HC1.out hb)
  replace ZX := hide (Arr.kept ZX.out hb)
  replace ZY := hide (Arr.kept ZY.out hb)
  have hzP : w11.heap.size ≤ NP := Nat.le_trans hV.size hNP
  clear hNP
  replace hU := hU.trans (hb.mono hU.size)
  replace hV := hV.trans (hb.mono hV.size)
  clear hb
  refine wpl_ale5 rfl (by kernel_rfl) rfl ?_
  intro w15 NQ ZQ hNQ hb
  replace ZQ := hide ZQ
  have neXQ : NX ≠ NQ := by have := ZX.out.lt; omega
  have neYQ : NY ≠ NQ := by have := ZY.out.lt; omega
  have nePQ : NP ≠ NQ := by have := ZP.out.lt; omega
  replace HC1 := hide (HM1 _ _ HC1.out hb)
  replace ZX := hide (Arr.kept ZX.out hb)
  replace ZY := hide (Arr.kept ZY.out hb)
  replace ZP := hide (Arr.kept ZP.out hb)
  have hzQ : w11.heap.size ≤ NQ := Nat.le_trans hV.size hNQ
  clear hNQ
  replace hU := hU.trans (hb.mono hU.size)
  replace hV := hV.trans (hb.mono hV.size)
  clear hb
  refine sx_n (wpl_ldvec (q1_a _ HC1.out) rfl (by kernel_rfl) rfl (by kernel_rfl) (wpl_r1 [(41, .int .i64 m)] (by kernel_rfl) ?_))
  refine wpl_call rfl (by kernel_rfl) (by kernel_rfl) ((vResize_z z0 m Aa la ca sa _ La.out Ca (p1_a w15 HC1.out) Ya.out hz0.out).mono ?_)
  rintro e w16 ⟨l1, s1, A1, c1, E1, rfl, C1, O1, hb⟩
  refine ⟨_, rfl, ?_⟩
  replace HC1 := hide (HM1 _ _ HC1.out hb)
  replace ZX := hide (Arr.kept ZX.out hb)
  replace ZY := hide (Arr.kept ZY.out hb)
  replace ZP := hide (Arr.kept ZP.out hb)
  replace ZQ := hide (Arr.kept ZQ.out hb)
  replace O1 := hide O1.out.rd
  replace hU := hU.trans (hb.mono hU.size)
  replace hV := hV.trans (hb.mono hV.size)
  clear hb
  have g := by_E E1.out (fun q0 => (gd_resize RA.out m (hz0.out.trans q0)))
  have L1 := hide g.2
  have Y1 := hide g.1
  clear g
  refine wpl_r4 [(45, .pointer (some ⟨NX, 0, none⟩)), (44, .int .i64 z0), (43, .agg #[.slice A1 l1.length c1, .bool s1]), (39, .tuple #[.agg #[.slice A1 l1.length c1, .bool s1], .int .i64 z0])] (by kernel_rfl) (wpl_starr (A := A1) (m := l1.length) (c := c1) (s := s1) 0 (.slice none 0 0) (.bool false) [.slice A1 l1.length c1, .bool s1, .slice none 0 0, .bool false, .slice none 0 0, .bool false, .slice none 0 0, .bool false, .slice none 0 0, .bool false] ZX.out rfl (by kernel_rfl) rfl (by kernel_rfl) (by kernel_rfl) rfl rfl (fun _ h => by cases h) (fun _ h => by cases h) rfl ?_)
  intro w17 hst ZX
  replace ZX := hide ZX
  replace O1 := hide (hst.rq O1.out)
  replace ZY := hide (hst.ne ZY.out (by first | exact neYX | exact neXY.symm))
  replace ZP := hide (hst.ne ZP.out (by first | exact nePX | exact neXP.symm))
  replace ZQ := hide (hst.ne ZQ.out (by first | exact neQX | exact neXQ.symm))
  replace hV := hV.trans (hst.bel hzX)
  replace HC1 := hide (HM1 _ _ HK.out hV)
  replace hU := hUK.trans (hV.mono hUK.size)
  clear hst
  refine wpl_r1 [(46, .pointer (some ⟨NP, 0, none⟩))] (by kernel_rfl) (wpl_sterr 0 z0 0 [.int .i64 z0, .int .i64 0, .int .i64 0, .int .i64 0, .int .i64 0] ZP.out rfl (by kernel_rfl) rfl (by kernel_rfl) (by kernel_rfl) rfl rfl ?_)
  intro w18 hst ZP
  replace ZP := hide ZP
  replace O1 := hide (hst.rq O1.out)
  replace ZX := hide (hst.ne ZX.out (by first | exact neXP | exact nePX.symm))
  replace ZY := hide (hst.ne ZY.out (by first | exact neYP | exact nePY.symm))
  replace ZQ := hide (hst.ne ZQ.out (by first | exact neQP | exact nePQ.symm))
  replace hV := hV.trans (hst.bel hzP)
  replace HC1 := hide (HM1 _ _ HK.out hV)
  replace hU := hUK.trans (hV.mono hUK.size)
  clear hst
  refine sx_n (wpl_ldvec (q1_c _ HC1.out) rfl (by kernel_rfl) rfl (by kernel_rfl) (wpl_r1 [(49, .int .i64 m)] (by kernel_rfl) ?_))
  refine wpl_call rfl (by kernel_rfl) (by kernel_rfl) ((vResize_z z0 m Ac lc cc sc _ Lc.out Cc (p1_c w18 HC1.out) Yc.out hz0.out).mono ?_)
  rintro e w19 ⟨l6, s6, A6, c6, E6, rfl, C6, O6, hb⟩
  refine ⟨_, rfl, ?_⟩
  replace HC1 := hide (HM1 _ _ HC1.out hb)
  replace O1 := hide (RQ.below O1.out hb)
  replace ZX := hide (Arr.kept ZX.out hb)
  replace ZY := hide (Arr.kept ZY.out hb)
  replace ZP := hide (Arr.kept ZP.out hb)
  replace ZQ := hide (Arr.kept ZQ.out hb)
  replace O6 := hide O6.out.rd
  replace hU := hU.trans (hb.mono hU.size)
  replace hV := hV.trans (hb.mono hV.size)
  clear hb
  have g := by_E E6.out (fun q0 => (gd_resize (rf_self RA.out) m (hz0.out.trans q0)))
  have L6 := hide g.2
  have Y6 := hide g.1
  clear g
  refine wpl_r4 [(53, .pointer (some ⟨NY, 0, none⟩)), (52, .int .i64 z0), (51, .agg #[.slice A6 l6.length c6, .bool s6]), (47, .tuple #[.agg #[.slice A6 l6.length c6, .bool s6], .int .i64 z0])] (by kernel_rfl) (wpl_starr (A := A6) (m := l6.length) (c := c6) (s := s6) 0 (.slice none 0 0) (.bool false) [.slice A6 l6.length c6, .bool s6, .slice none 0 0, .bool false, .slice none 0 0, .bool false, .slice none 0 0, .bool false, .slice none 0 0, .bool false] ZY.out rfl (by kernel_rfl) rfl (by kernel_rfl) (by kernel_rfl) rfl rfl (fun _ h => by cases h) (fun _ h => by cases h) rfl ?_)
  intro w20 hst ZY
  replace ZY := hide ZY
  replace O1 := hide (hst.rq O1.out)
  replace O6 := hide (hst.rq O6.out)
  replace ZX := hide (hst.ne ZX.out (by first | exact neXY | exact neYX.symm))
  replace ZP := hide (hst.ne ZP.out (by first | exact nePY | exact neYP.symm))
  replace ZQ := hide (hst.ne ZQ.out (by first | exact neQY | exact neYQ.symm))
  replace hV := hV.trans (hst.bel hzY)
  replace HC1 := hide (HM1 _ _ HK.out hV)
  replace hU := hUK.trans (hV.mono hUK.size)
  clear hst
  refine wpl_r1 [(54, .pointer (some ⟨NQ, 0, none⟩))] (by kernel_rfl) (wpl_sterr 0 z0 0 [.int .i64 z0, .int .i64 0, .int .i64 0, .int .i64 0, .int .i64 0] ZQ.out rfl (by kernel_rfl) rfl (by kernel_rfl) (by kernel_rfl) rfl rfl ?_)
  intro w21 hst ZQ
  replace ZQ := hide ZQ
  replace O1 := hide (hst.rq O1.out)
  replace O6 := hide (hst.rq O6.out)
  replace ZX := hide (hst.ne ZX.out (by first | exact neXQ | exact neQX.symm))
  replace ZY := hide (hst.ne ZY.out (by first | exact neYQ | exact neQY.symm))
  replace ZP := hide (hst.ne ZP.out (by first | exact nePQ | exact neQP.symm))
  replace hV := hV.trans (hst.bel hzQ)
  replace HC1 := hide (HM1 _ _ HK.out hV)
  replace hU := hUK.trans (hV.mono hUK.size)
  clear hst
  refine sx_n (wpl_ldvec (q1_a _ HC1.out) rfl (by kernel_rfl) rfl (by kernel_rfl) (wpl_ldvec (q1_b _ HC1.out) rfl (by kernel_rfl) rfl (by kernel_rfl) (wpl_bs2 rfl (by kernel_rfl) rfl (A0 := Aa) (l0 := la) (c0 := ca) (s0 := sa) (A1 := Ab) (l1 := lb) (c1 := cb) (s1 := sb) (by kernel_rfl) (by kernel_rfl) (p1_a w21 HC1.out) Ya.out La.out Ca (p1_b w21 HC1.out) Yb.out Lb.out Cb ?_)))
  intro w22 NV22 RV22 hlV22 hNV22 hb
  replace RV22 := hide RV22
  replace HC1 := hide (HM1 _ _ HC1.out hb)
  replace O1 := hide (RQ.below O1.out hb)
  replace O6 := hide (RQ.below O6.out hb)
  replace ZX := hide (Arr.kept ZX.out hb)
  replace ZY := hide (Arr.kept ZY.out hb)
  replace ZP := hide (Arr.kept ZP.out hb)
  replace ZQ := hide (Arr.kept ZQ.out hb)
  replace hU := hU.trans (hb.mono hU.size)
  replace hV := hV.trans (hb.mono hV.size)
  clear hb
  clear hNV22
  refine wpl_call rfl (by kernel_rfl) (by kernel_rfl) ((vConcat_z z1 NV22 2 [(Aa, la, ca, sa), (Ab, lb, cb, sb)] _ hlV22 (by simp) (by simp) RV22.out hz1.out).mono ?_)
  rintro e w23 ⟨l2, s2, A2, c2, E2, rfl, C2, O2, hb⟩
  refine ⟨_, rfl, ?_⟩
  replace HC1 := hide (HM1 _ _ HC1.out hb)
  replace O1 := hide (RQ.below O1.out hb)
  replace O6 := hide (RQ.below O6.out hb)
  replace ZX := hide (Arr.kept ZX.out hb)
  replace ZY := hide (Arr.kept ZY.out hb)
  replace ZP := hide (Arr.kept ZP.out hb)
  replace ZQ := hide (Arr.kept ZQ.out hb)
  replace O2 := hide O2.out.rd
  replace hU := hU.trans (hb.mono hU.size)
  replace hV := hV.trans (hb.mono hV.size)
  clear hb
  have g := by_E E2.out (fun q0 => (gd_cats RA.out RB.out (hz1.out.trans q0)))
  have L2 := hide g.2
  have Y2 := hide g.1
  clear g
  clear RV22 hlV22
  refine wpl_r4 [(62, .pointer (some ⟨NX, 2, none⟩)), (61, .int .i64 z1), (60, .agg #[.slice A2 l2.length c2, .bool s2]), (55, .tuple #[.agg #[.slice A2 l2.length c2, .bool s2], .int .i64 z1])] (by kernel_rfl) (wpl_starr (A := A2) (m := l2.length) (c := c2) (s := s2) 2 (.slice none 0 0) (.bool false) [.slice A1 l1.length c1, .bool s1, .slice A2 l2.length c2, .bool s2, .slice none 0 0, .bool false, .slice none 0 0, .bool false, .slice none 0 0, .bool false] ZX.out rfl (by kernel_rfl) rfl (by kernel_rfl) (by kernel_rfl) rfl rfl (fun _ h => by cases h) (fun _ h => by cases h) rfl ?_)
  intro w24 hst ZX
  replace ZX := hide ZX
  replace O1 := hide (hst.rq O1.out)
  replace O6 := hide (hst.rq O6.out)
  replace O2 := hide (hst.rq O2.out)
  replace ZY := hide (hst.ne ZY.out (by first | exact neYX | exact neXY.symm))
  replace ZP := hide (hst.ne ZP.out (by first | exact nePX | exact neXP.symm))
  replace ZQ := hide (hst.ne ZQ.out (by first | exact neQX | exact neXQ.symm))
  replace hV := hV.trans (hst.bel hzX)
  replace HC1 := hide (HM1 _ _ HK.out hV)
  replace hU := hUK.trans (hV.mono hUK.size)
  clear hst
  refine wpl_r1 [(63, .pointer (some ⟨NP, 1, none⟩))] (by kernel_rfl) (wpl_sterr 1 z1 0 [.int .i64 z0, .int .i64 z1, .int .i64 0, .int .i64 0, .int .i64 0] ZP.out rfl (by kernel_rfl) rfl (by kernel_rfl) (by kernel_rfl) rfl rfl ?_)
  intro w25 hst ZP
  replace ZP := hide ZP
  replace O1 := hide (hst.rq O1.out)
  replace O6 := hide (hst.rq O6.out)
  replace O2 := hide (hst.rq O2.out)
  replace ZX := hide (hst.ne ZX.out (by first | exact neXP | exact nePX.symm))
  replace ZY := hide (hst.ne ZY.out (by first | exact neYP | exact nePY.symm))
  replace ZQ := hide (hst.ne ZQ.out (by first | exact neQP | exact nePQ.symm))
  replace hV := hV.trans (hst.bel hzP)
  replace HC1 := hide (HM1 _ _ HK.out hV)
  replace hU := hUK.trans (hV.mono hUK.size)
  clear hst
  refine sx_n (wpl_ldvec (q1_c _ HC1.out) rfl (by kernel_rfl) rfl (by kernel_rfl) (wpl_ldvec (q1_d _ HC1.out) rfl (by kernel_rfl) rfl (by kernel_rfl) (wpl_bs2 rfl (by kernel_rfl) rfl (A0 := Ac) (l0 := lc) (c0 := cc) (s0 := sc) (A1 := Ad) (l1 := ld) (c1 := cd) (s1 := sd) (by kernel_rfl) (by kernel_rfl) (p1_c w25 HC1.out) Yc.out Lc.out Cc (p1_d w25 HC1.out) Yd.out Ld.out Cd ?_)))
  intro w26 NV26 RV26 hlV26 hNV26 hb
  replace RV26 := hide RV26
  replace HC1 := hide (HM1 _ _ HC1.out hb)
  replace O1 := hide (RQ.below O1.out hb)
  replace O6 := hide (RQ.below O6.out hb)
  replace O2 := hide (RQ.below O2.out hb)
  replace ZX := hide (Arr.kept ZX.out hb)
  replace ZY := hide (Arr.kept ZY.out hb)
  replace ZP := hide (Arr.kept ZP.out hb)
  replace ZQ := hide (Arr.kept ZQ.out hb)
  replace hU := hU.trans (hb.mono hU.size)
  replace hV := hV.trans (hb.mono hV.size)
  clear hb
  clear hNV26
  refine wpl_call rfl (by kernel_rfl) (by kernel_rfl) ((vConcat_z z1 NV26 2 [(Ac, lc, cc, sc), (Ad, ld, cd, sd)] _ hlV26 (by simp) (by simp) RV26.out ((cte_rf RA.out RB.out).trans hz1.out)).mono ?_)
  rintro e w27 ⟨l7, s7, A7, c7, E7, rfl, C7, O7, hb⟩
  refine ⟨_, rfl, ?_⟩
  replace HC1 := hide (HM1 _ _ HC1.out hb)
  replace O1 := hide (RQ.below O1.out hb)
  replace O6 := hide (RQ.below O6.out hb)
  replace O2 := hide (RQ.below O2.out hb)
  replace ZX := hide (Arr.kept ZX.out hb)
  replace ZY := hide (Arr.kept ZY.out hb)
  replace ZP := hide (Arr.kept ZP.out hb)
  replace ZQ := hide (Arr.kept ZQ.out hb)
  replace O7 := hide O7.out.rd
  replace hU := hU.trans (hb.mono hU.size)
  replace hV := hV.trans (hb.mono hV.size)
  clear hb
  have g := by_E E7.out (fun q0 => (gd_cats (rf_self RA.out) (rf_self RB.out) (((cte_rf RA.out RB.out).trans hz1.out).trans q0)))
  have L7 := hide g.2
  have Y7 := hide g.1
  clear g
  clear RV26 hlV26
  refine wpl_r4 [(71, .pointer (some ⟨NY, 2, none⟩)), (70, .int .i64 z1), (69, .agg #[.slice A7 l7.length c7, .bool s7]), (64, .tuple #[.agg #[.slice A7 l7.length c7, .bool s7], .int .i64 z1])] (by kernel_rfl) (wpl_starr (A := A7) (m := l7.length) (c := c7) (s := s7) 2 (.slice none 0 0) (.bool false) [.slice A6 l6.length c6, .bool s6, .slice A7 l7.length c7, .bool s7, .slice none 0 0, .bool false, .slice none 0 0, .bool false, .slice none 0 0, .bool false] ZY.out rfl (by kernel_rfl) rfl (by kernel_rfl) (by kernel_rfl) rfl rfl (fun _ h => by cases h) (fun _ h => by cases h) rfl ?_)
  intro w28 hst ZY
  replace ZY := hide ZY
  replace O1 := hide (hst.rq O1.out)
  replace O6 := hide (hst.rq O6.out)
  replace O2 := hide (hst.rq O2.out)
  replace O7 := hide (hst.rq O7.out)
  replace ZX := hide (hst.ne ZX.out (by first | exact neXY | exact neYX.symm))
  replace ZP := hide (hst.ne ZP.out (by first | exact nePY | exact neYP.symm))
  replace ZQ := hide (hst.ne ZQ.out (by first | exact neQY | exact neYQ.symm))
  replace hV := hV.trans (hst.bel hzY)
  replace HC1 := hide (HM1 _ _ HK.out hV)
  replace hU := hUK.trans (hV.mono hUK.size)
  clear hst
  refine wpl_r1 [(72, .pointer (some ⟨NQ, 1, none⟩))] (by kernel_rfl) (wpl_sterr 1 z1 0 [.int .i64 z0, .int .i64 z1, .int .i64 0, .int .i64 0, .int .i64 0] ZQ.out rfl (by kernel_rfl) rfl (by kernel_rfl) (by kernel_rfl) rfl rfl ?_)
  intro w29 hst ZQ
  replace ZQ := hide ZQ
  replace O1 := hide (hst.rq O1.out)
  replace O6 := hide (hst.rq O6.out)
  replace O2 := hide (hst.rq O2.out)
  replace O7 := hide (hst.rq O7.out)
  replace ZX := hide (hst.ne ZX.out (by first | exact neXQ | exact neQX.symm))
  replace ZY := hide (hst.ne ZY.out (by first | exact neYQ | exact neQY.symm))
  replace ZP := hide (hst.ne ZP.out (by first | exact nePQ | exact neQP.symm))
  replace hV := hV.trans (hst.bel hzQ)
  replace HC1 := hide (HM1 _ _ HK.out hV)
  replace hU := hUK.trans (hV.mono hUK.size)
  clear hst
  refine sx_n (wpl_ldvec (q1_a _ HC1.out) rfl (by kernel_rfl) rfl (by kernel_rfl) (wpl_r1 [(75, .int .i64 m)] (by kernel_rfl) ?_))
  refine wpl_call rfl (by kernel_rfl) (by kernel_rfl) ((vRepeat_z z2 m Aa la ca sa _ La.out Ca (p1_a w29 HC1.out) Ya.out hz2.out).mono ?_)
  rintro e w30 ⟨l3, s3, A3, c3, E3, rfl, C3, O3, hb⟩
  refine ⟨_, rfl, ?_⟩
  replace HC1 := hide (HM1 _ _ HC1.out hb)
  replace O1 := hide (RQ.below O1.out hb)
  replace O6 := hide (RQ.below O6.out hb)
  replace O2 := hide (RQ.below O2.out hb)
  replace O7 := hide (RQ.below O7.out hb)
  replace ZX := hide (Arr.kept ZX.out hb)
  replace ZY := hide (Arr.kept ZY.out hb)
  replace ZP := hide (Arr.kept ZP.out hb)
  replace ZQ := hide (Arr.kept ZQ.out hb)
  replace O3 := hide O3.out.rd
  replace hU := hU.trans (hb.mono hU.size)
  replace hV := hV.trans (hb.mono hV.size)
  clear hb
  have g := by_E E3.out (fun q0 => (gd_repeat RA.out m (hz2.out.trans q0)))
  have L3 := hide g.2
  have Y3 := hide g.1
  clear g
  refine wpl_r4 [(79, .pointer (some ⟨NX, 4, none⟩)), (78, .int .i64 z2), (77, .agg #[.slice A3 l3.length c3, .bool s3]), (73, .tuple #[.agg #[.slice A3 l3.length c3, .bool s3], .int .i64 z2])] (by kernel_rfl) (wpl_starr (A := A3) (m := l3.length) (c := c3) (s := s3) 4 (.slice none 0 0) (.bool false) [.slice A1 l1.length c1, .bool s1, .slice A2 l2.length c2, .bool s2, .slice A3 l3.length c3, .bool s3, .slice none 0 0, .bool false, .slice none 0 0, .bool false] ZX.out rfl (by kernel_rfl) rfl (by kernel_rfl) (by kernel_rfl) rfl rfl (fun _ h => by cases h) (fun _ h => by cases h) rfl ?_)
  intro w31 hst ZX
  replace ZX := hide ZX
  replace O1 := hide (hst.rq O1.out)
  replace O6 := hide (hst.rq O6.out)
  replace O2 := hide (hst.rq O2.out)
  replace O7 := hide (hst.rq O7.out)
  replace O3 := hide (hst.rq O3.out)
  replace ZY := hide (hst.ne ZY.out (by first | exact neYX | exact neXY.symm))
  replace ZP := hide (hst.ne ZP.out (by first | exact nePX | exact neXP.symm))
  replace ZQ := hide (hst.ne ZQ.out (by first | exact neQX | exact neXQ.symm))
  replace hV := hV.trans (hst.bel hzX)
  replace HC1 := hide (HM1 _ _ HK.out hV)
  replace hU := hUK.trans (hV.mono hUK.size)
  clear hst
  refine wpl_r1 [(80, .pointer (some ⟨NP, 2, none⟩))] (by kernel_rfl) (wpl_sterr 2 z2 0 [.int .i64 z0, .int .i64 z1, .int .i64 z2, .int .i64 0, .int .i64 0] ZP.out rfl (by kernel_rfl) rfl (by kernel_rfl) (by kernel_rfl) rfl rfl ?_)
  intro w32 hst ZP
  replace ZP := hide ZP
  replace O1 := hide (hst.rq O1.out)
  replace O6 := hide (hst.rq O6.out)
  replace O2 := hide (hst.rq O2.out)
  replace O7 := hide (hst.rq O7.out)
  replace O3 := hide (hst.rq O3.out)
  replace ZX := hide (hst.ne ZX.out (by first | exact neXP | exact nePX.symm))
  replace ZY := hide (hst.ne ZY.out (by first | exact neYP | exact nePY.symm))
  replace ZQ := hide (hst.ne ZQ.out (by first | exact neQP | exact nePQ.symm))
  replace hV := hV.trans (hst.bel hzP)
  replace HC1 := hide (HM1 _ _ HK.out hV)
  replace hU := hUK.trans (hV.mono hUK.size)
  clear hst
  refine sx_n (wpl_ldvec (q1_c _ HC1.out) rfl (by kernel_rfl) rfl (by kernel_rfl) (wpl_r1 [(83, .int .i64 m)] (by kernel_rfl) ?_))
  refine wpl_call rfl (by kernel_rfl) (by kernel_rfl) ((vRepeat_z z2 m Ac lc cc sc _ Lc.out Cc (p1_c w32 HC1.out) Yc.out ((rpe_rf RA.out m).trans hz2.out)).mono ?_)
  rintro e w33 ⟨l8, s8, A8, c8, E8, rfl, C8, O8, hb⟩
  refine ⟨_, rfl, ?_⟩
  replace HC1 := hide (HM1 _ _ HC1.out hb)
  replace O1 := hide (RQ.below O1.out hb)
  replace O6 := hide (RQ.below O6.out hb)
  replace O2 := hide (RQ.below O2.out hb)
  replace O7 := hide (RQ.below O7.out hb)
  replace O3 := hide (RQ.below O3.out hb)
  replace ZX := hide (Arr.kept ZX.out hb)
  replace ZY := hide (Arr.kept ZY.out hb)
  replace ZP := hide (Arr.kept ZP.out hb)
  replace ZQ := hide (Arr.kept ZQ.out hb)
  replace O8 := hide O8.out.rd
  replace hU := hU.trans (hb.mono hU.size)
  replace hV := hV.trans (hb.mono hV.size)
  clear hb
  have g := by_E E8.out (fun q0 => (gd_repeat (rf_self RA.out) m (((rpe_rf RA.out m).trans hz2.out).trans q0)))
  have L8 := hide g.2
  have Y8 := hide g.1
  clear g
  refine wpl_r4 [(87, .pointer (some ⟨NY, 4, none⟩)), (86, .int .i64 z2), (85, .agg #[.slice A8 l8.length c8, .bool s8]), (81, .tuple #[.agg #[.slice A8 l8.length c8, .bool s8], .int .i64 z2])] (by kernel_rfl) (wpl_starr (A := A8) (m := l8.length) (c := c8) (s := s8) 4 (.slice none 0 0) (.bool false) [.slice A6 l6.length c6, .bool s6, .slice A7 l7.length c7, .bool s7, .slice A8 l8.length c8, .bool s8, .slice none 0 0, .bool false, .slice none 0 0, .bool false] ZY.out rfl (by kernel_rfl) rfl (by kernel_rfl) (by kernel_rfl) rfl rfl (fun _ h => by cases h) (fun _ h => by cases h) rfl ?_)
  intro w34 hst ZY
  replace ZY := hide ZY
  replace O1 := hide (hst.rq O1.out)
  replace O6 := hide (hst.rq O6.out)
  replace O2 := hide (hst.rq O2.out)
  replace O7 := hide (hst.rq O7.out)
  replace O3 := hide (hst.rq O3.out)
  replace O8 := hide (hst.rq O8.out)
  replace ZX := hide (hst.ne ZX.out (by first | exact neXY | exact neYX.symm))
  replace ZP := hide (hst.ne ZP.out (by first | exact nePY | exact neYP.symm))
  replace ZQ := hide (hst.ne ZQ.out (by first | exact neQY | exact neYQ.symm))
  replace hV := hV.trans (hst.bel hzY)
  replace HC1 := hide (HM1 _ _ HK.out hV)
  replace hU := hUK.trans (hV.mono hUK.size)
  clear hst
  refine wpl_r1 [(88, .pointer (some ⟨NQ, 2, none⟩))] (by kernel_rfl) (wpl_sterr 2 z2 0 [.int .i64 z0, .int .i64 z1, .int .i64 z2, .int .i64 0, .int .i64 0] ZQ.out rfl (by kernel_rfl) rfl (by kernel_rfl) (by kernel_rfl) rfl rfl ?_)
  intro w35 hst ZQ
  replace ZQ := hide ZQ
  replace O1 := hide (hst.rq O1.out)
  replace O6 := hide (hst.rq O6.out)
  replace O2 := hide (hst.rq O2.out)
  replace O7 := hide (hst.rq O7.out)
  replace O3 := hide (hst.rq O3.out)
  replace O8 := hide (hst.rq O8.out)
  replace ZX := hide (hst.ne ZX.out (by first | exact neXQ | exact neQX.symm))
  replace ZY := hide (hst.ne ZY.out (by first | exact neYQ | exact neQY.symm))
  replace ZP := hide (hst.ne ZP.out (by first | exact nePQ | exact neQP.symm))
  replace hV := hV.trans (hst.bel hzQ)
  replace HC1 := hide (HM1 _ _ HK.out hV)
  replace hU := hUK.trans (hV.mono hUK.size)
  clear hst
  refine sx_n (wpl_ldvec (q1_a _ HC1.out) rfl (by kernel_rfl) rfl (by kernel_rfl) (wpl_r2 [(92, .int .i64 n), (91, .int .i64 m)] (by kernel_rfl) ?_))
  refine wpl_call rfl (by kernel_rfl) (by kernel_rfl) ((vSlice_z z3 m n Aa la ca sa _ La.out Ca (p1_a w35 HC1.out) Ya.out (by omega) (by omega) (by omega) (by omega) hz3.out).mono ?_)
  rintro e w36 ⟨l4, s4, A4, c4, E4, rfl, C4, O4, hb⟩
  refine ⟨_, rfl, ?_⟩
  replace HC1 := hide (HM1 _ _ HC1.out hb)
  replace O1 := hide (RQ.below O1.out hb)
  replace O6 := hide (RQ.below O6.out hb)
  replace O2 := hide (RQ.below O2.out hb)
  replace O7 := hide (RQ.below O7.out hb)
  replace O3 := hide (RQ.below O3.out hb)
  replace O8 := hide (RQ.below O8.out hb)
  replace ZX := hide (Arr.kept ZX.out hb)
  replace ZY := hide (Arr.kept ZY.out hb)
  replace ZP := hide (Arr.kept ZP.out hb)
  replace ZQ := hide (Arr.kept ZQ.out hb)
  replace O4 := hide O4.out.rd
  replace hU := hU.trans (hb.mono hU.size)
  replace hV := hV.trans (hb.mono hV.size)
  clear hb
  have g := by_E E4.out (fun q0 => (gd_slice RA.out m n (hz3.out.trans q0)))
  have L4 := hide g.2
  have Y4 := hide g.1
  clear g
  refine wpl_r4 [(96, .pointer (some ⟨NX, 6, none⟩)), (95, .int .i64 z3), (94, .agg #[.slice A4 l4.length c4, .bool s4]), (89, .tuple #[.agg #[.slice A4 l4.length c4, .bool s4], .int .i64 z3])] (by kernel_rfl) (wpl_starr (A := A4) (m := l4.length) (c := c4) (s := s4) 6 (.slice none 0 0) (.bool false) [.slice A1 l1.length c1, .bool s1, .slice A2 l2.length c2, .bool s2, .slice A3 l3.length c3, .bool s3, .slice A4 l4.length c4, .bool s4, .slice none 0 0, .bool false] ZX.out rfl (by kernel_rfl) rfl (by kernel_rfl) (by kernel_rfl) rfl rfl (fun _ h => by cases h) (fun _ h => by cases h) rfl ?_)
  intro w37 hst ZX
  replace ZX := hide ZX
  replace O1 := hide (hst.rq O1.out)
  replace O6 := hide (hst.rq O6.out)
  replace O2 := hide (hst.rq O2.out)
  replace O7 := hide (hst.rq O7.out)
  replace O3 := hide (hst.rq O3.out)
  replace O8 := hide (hst.rq O8.out)
  replace O4 := hide (hst.rq O4.out)
  replace ZY := hide (hst.ne ZY.out (by first | exact neYX | exact neXY.symm))
  replace ZP := hide (hst.ne ZP.out (by first | exact nePX | exact neXP.symm))
  replace ZQ := hide (hst.ne ZQ.out (by first | exact neQX | exact neXQ.symm))
  replace hV := hV.trans (hst.bel hzX)
  replace HC1 := hide (HM1 _ _ HK.out hV)
  replace hU := hUK.trans (hV.mono hUK.size)
  clear hst
  refine wpl_r1 [(97, .pointer (some ⟨NP, 3, none⟩))] (by kernel_rfl) (wpl_sterr 3 z3 0 [.int .i64 z0, .int .i64 z1, .int .i64 z2, .int .i64 z3, .int .i64 0] ZP.out rfl (by kernel_rfl) rfl (by kernel_rfl) (by kernel_rfl) rfl rfl ?_)
  intro w38 hst ZP
  replace ZP := hide ZP
  replace O1 := hide (hst.rq O1.out)
  replace O6 := hide (hst.rq O6.out)
  replace O2 := hide (hst.rq O2.out)
  replace O7 := hide (hst.rq O7.out)
  replace O3 := hide (hst.rq O3.out)
  replace O8 := hide (hst.rq O8.out)
  replace O4 := hide (hst.rq O4.out)
  replace ZX := hide (hst.ne ZX.out (by first | exact neXP | exact nePX.symm))
  replace ZY := hide (hst.ne ZY.out (by first | exact neYP | exact nePY.symm))
  replace ZQ := hide (hst.ne ZQ.out (by first | exact neQP | exact nePQ.symm))
  replace hV := hV.trans (hst.bel hzP)
  replace HC1 := hide (HM1 _ _ HK.out hV)
  replace hU := hUK.trans (hV.mono hUK.size)
  clear hst
  refine sx_n (wpl_ldvec (q1_c _ HC1.out) rfl (by kernel_rfl) rfl (by kernel_rfl) (wpl_r2 [(101, .int .i64 n), (100, .int .i64 m)] (by kernel_rfl) ?_))
  refine wpl_call rfl (by kernel_rfl) (by kernel_rfl) ((vSlice_z z3 m n Ac lc cc sc _ Lc.out Cc (p1_c w38 HC1.out) Yc.out (by omega) (by omega) (by omega) (by omega) hz3.out).mono ?_)
  rintro e w39 ⟨l9, s9, A9, c9, E9, rfl, C9, O9, hb⟩
  refine ⟨_, rfl, ?_⟩
  replace HC1 := hide (HM1 _ _ HC1.out hb)
  replace O1 := hide (RQ.below O1.out hb)
  replace O6 := hide (RQ.below O6.out hb)
  replace O2 := hide (RQ.below O2.out hb)
  replace O7 := hide (RQ.below O7.out hb)
  replace O3 := hide (RQ.below O3.out hb)
  replace O8 := hide (RQ.below O8.out hb)
  replace O4 := hide (RQ.below O4.out hb)
  replace ZX := hide (Arr.kept ZX.out hb)
  replace ZY := hide (Arr.kept ZY.out hb)
  replace ZP := hide (Arr.kept ZP.out hb)
  replace ZQ := hide (Arr.kept ZQ.out hb)
  replace O9 := hide O9.out.rd
  replace hU := hU.trans (hb.mono hU.size)
  replace hV := hV.trans (hb.mono hV.size)
  clear hb
  have g := by_E E9.out (fun q0 => (gd_slice (rf_self RA.out) m n (hz3.out.trans q0)))
  have L9 := hide g.2
  have Y9 := hide g.1
  clear g
  refine wpl_r4 [(105, .pointer (some ⟨NY, 6, none⟩)), (104, .int .i64 z3), (103, .agg #[.slice A9 l9.length c9, .bool s9]), (98, .tuple #[.agg #[.slice A9 l9.length c9, .bool s9], .int .i64 z3])] (by kernel_rfl) (wpl_starr (A := A9) (m := l9.length) (c := c9) (s := s9) 6 (.slice none 0 0) (.bool false) [.slice A6 l6.length c6, .bool s6, .slice A7 l7.length c7, .bool s7, .slice A8 l8.length c8, .bool s8, .slice A9 l9.length c9, .bool s9, .slice none 0 0, .bool false] ZY.out rfl (by kernel_rfl) rfl (by kernel_rfl) (by kernel_rfl) rfl rfl (fun _ h => by cases h) (fun _ h => by cases h) rfl ?_)
  intro w40 hst ZY
  replace ZY := hide ZY
  replace O1 := hide (hst.rq O1.out)
  replace O6 := hide (hst.rq O6.out)
  replace O2 := hide (hst.rq O2.out)
  replace O7 := hide (hst.rq O7.out)
  replace O3 := hide (hst.rq O3.out)
  replace O8 := hide (hst.rq O8.out)
  replace O4 := hide (hst.rq O4.out)
  replace O9 := hide (hst.rq O9.out)
  replace ZX := hide (hst.ne ZX.out (by first | exact neXY | exact neYX.symm))
  replace ZP := hide (hst.ne ZP.out (by first | exact nePY | exact neYP.symm))
  replace ZQ := hide (hst.ne ZQ.out (by first | exact neQY | exact neYQ.symm))
  replace hV := hV.trans (hst.bel hzY)
  replace HC1 := hide (HM1 _ _ HK.out hV)
  replace hU := hUK.trans (hV.mono hUK.size)
  clear hst
  refine wpl_r1 [(106, .pointer (some ⟨NQ, 3, none⟩))] (by kernel_rfl) (wpl_sterr 3 z3 0 [.int .i64 z0, .int .i64 z1, .int .i64 z2, .int .i64 z3, .int .i64 0] ZQ.out rfl (by kernel_rfl) rfl (by kernel_rfl) (by kernel_rfl) rfl rfl ?_)
  intro w41 hst ZQ
  replace ZQ := hide ZQ
  replace O1 := hide (hst.rq O1.out)
  replace O6 := hide (hst.rq O6.out)
  replace O2 := hide (hst.rq O2.out)
  replace O7 := hide (hst.rq O7.out)
  replace O3 := hide (hst.rq O3.out)
  replace O8 := hide (hst.rq O8.out)
  replace O4 := hide (hst.rq O4.out)
  replace O9 := hide (hst.rq O9.out)
  replace ZX := hide (hst.ne ZX.out (by first | exact neXQ | exact neQX.symm))
  replace ZY := hide (hst.ne ZY.out (by first | exact neYQ | exact neQY.symm))
  replace ZP := hide (hst.ne ZP.out (by first | exact nePQ | exact neQP.symm))
  replace hV := hV.trans (hst.bel hzQ)
  replace HC1 := hide (HM1 _ _ HK.out hV)
  replace hU := hUK.trans (hV.mono hUK.size)
  clear hst
  refine sx_n (wpl_ldvec (q1_a _ HC1.out) rfl (by kernel_rfl) rfl (by kernel_rfl) (wpl_r2 [(110, .int .i64 n), (109, .int .i64 m)] (by kernel_rfl) (wpl_ldvec (q1_b _ HC1.out) rfl (by kernel_rfl) rfl (by kernel_rfl) ?_)))
  refine wpl_call rfl (by kernel_rfl) (by kernel_rfl) ((vPut_z z3 m n Aa Ab la lb ca cb sa sb _ La.out Lb.out Ca Cb (p1_a w41 HC1.out) (p1_b w41 HC1.out) Ya.out Yb.out (by omega) (by omega) (by omega) (by omega) hz3.out).mono ?_)
  rintro e w42 ⟨l5, s5, A5, c5, E5, rfl, C5, O5, hb⟩
  refine ⟨_, rfl, ?_⟩
  replace HC1 := hide (HM1 _ _ HC1.out hb)
  replace O1 := hide (RQ.below O1.out hb)
  replace O6 := hide (RQ.below O6.out hb)
  replace O2 := hide (RQ.below O2.out hb)
  replace O7 := hide (RQ.below O7.out hb)
  replace O3 := hide (RQ.below O3.out hb)
  replace O8 := hide (RQ.below O8.out hb)
  replace O4 := hide (RQ.below O4.out hb)
  replace O9 := hide (RQ.below O9.out hb)
  replace ZX := hide (Arr.kept ZX.out hb)
  replace ZY := hide (Arr.kept ZY.out hb)
  replace ZP := hide (Arr.kept ZP.out hb)
  replace ZQ := hide (Arr.kept ZQ.out hb)
  replace O5 := hide O5.out.rd
  replace hU := hU.trans (hb.mono hU.size)
  replace hV := hV.trans (hb.mono hV.size)
  clear hb
  have g := by_E E5.out (fun q0 => (gd_vPut RA.out RB.out m n))
  have L5 := hide g.2
  have Y5 := hide g.1
  clear g
  refine wpl_r4 [(115, .pointer (some ⟨NX, 8, none⟩)), (114, .int .i64 z3), (113, .agg #[.slice A5 l5.length c5, .bool s5]), (107, .tuple #[.agg #[.slice A5 l5.length c5, .bool s5], .int .i64 z3])] (by kernel_rfl) (wpl_starr (A := A5) (m := l5.length) (c := c5) (s := s5) 8 (.slice none 0 0) (.bool false) [.slice A1 l1.length c1, .bool s1, .slice A2 l2.length c2, .bool s2, .slice A3 l3.length c3, .bool s3, .slice A4 l4.length c4, .bool s4, .slice A5 l5.length c5, .bool s5] ZX.out rfl (by kernel_rfl) rfl (by kernel_rfl) (by kernel_rfl) rfl rfl (fun _ h => by cases h) (fun _ h => by cases h) rfl ?_)
  intro w43 hst ZX
  replace ZX := hide ZX
  replace O1 := hide (hst.rq O1.out)
  replace O6 := hide (hst.rq O6.out)
  replace O2 := hide (hst.rq O2.out)
  replace O7 := hide (hst.rq O7.out)
  replace O3 := hide (hst.rq O3.out)
  replace O8 := hide (hst.rq O8.out)
  replace O4 := hide (hst.rq O4.out)
  replace O9 := hide (hst.rq O9.out)
  replace O5 := hide (hst.rq O5.out)
  replace ZY := hide (hst.ne ZY.out (by first | exact neYX | exact neXY.symm))
  replace ZP := hide (hst.ne ZP.out (by first | exact nePX | exact neXP.symm))
  replace ZQ := hide (hst.ne ZQ.out (by first | exact neQX | exact neXQ.symm))
  replace hV := hV.trans (hst.bel hzX)
  replace HC1 := hide (HM1 _ _ HK.out hV)
  replace hU := hUK.trans (hV.mono hUK.size)
  clear hst
  refine wpl_r1 [(116, .pointer (some ⟨NP, 4, none⟩))] (by kernel_rfl) (wpl_sterr 4 z3 0 [.int .i64 z0, .int .i64 z1, .int .i64 z2, .int .i64 z3, .int .i64 z3] ZP.out rfl (by kernel_rfl) rfl (by kernel_rfl) (by kernel_rfl) rfl rfl ?_)
  intro w44 hst ZP
  replace ZP := hide ZP
  replace O1 := hide (hst.rq O1.out)
  replace O6 := hide (hst.rq O6.out)
  replace O2 := hide (hst.rq O2.out)
  replace O7 := hide (hst.rq O7.out)
  replace O3 := hide (hst.rq O3.out)
  replace O8 := hide (hst.rq O8.out)
  replace O4 := hide (hst.rq O4.out)
  replace O9 := hide (hst.rq O9.out)
  replace O5 := hide (hst.rq O5.out)
  replace ZX := hide (hst.ne ZX.out (by first | exact neXP | exact nePX.symm))
  replace ZY := hide (hst.ne ZY.out (by first | exact neYP | exact nePY.symm))
  replace ZQ := hide (hst.ne ZQ.out (by first | exact neQP | exact nePQ.symm))
  replace hV := hV.trans (hst.bel hzP)
  replace HC1 := hide (HM1 _ _ HK.out hV)
  replace hU := hUK.trans (hV.mono hUK.size)
  clear hst
  refine sx_n (wpl_ldvec (q1_c _ HC1.out) rfl (by kernel_rfl) rfl (by kernel_rfl) (wpl_r2 [(120, .int .i64 n), (119, .int .i64 m)] (by kernel_rfl) (wpl_ldvec (q1_d _ HC1.out) rfl (by kernel_rfl) rfl (by kernel_rfl) ?_)))
  refine wpl_call rfl (by kernel_rfl) (by kernel_rfl) ((vPut_z z3 m n Ac Ad lc ld cc cd sc sd _ Lc.out Ld.out Cc Cd (p1_c w44 HC1.out) (p1_d w44 HC1.out) Yc.out Yd.out (by omega) (by omega) (by omega) (by omega) hz3.out).mono ?_)
  rintro e w45 ⟨l0, s0, A0, c0, E0, rfl, C0, O0, hb⟩
  refine ⟨_, rfl, ?_⟩
  replace HC1 := hide (HM1 _ _ HC1.out hb)
  replace O1 := hide (RQ.below O1.out hb)
  replace O6 := hide (RQ.below O6.out hb)
  replace O2 := hide (RQ.below O2.out hb)
  replace O7 := hide (RQ.below O7.out hb)
  replace O3 := hide (RQ.below O3.out hb)
  replace O8 := hide (RQ.below O8.out hb)
  replace O4 := hide (RQ.below O4.out hb)
  replace O9 := hide (RQ.below O9.out hb)
  replace O5 := hide (RQ.below O5.out hb)
  replace ZX := hide (Arr.kept ZX.out hb)
  replace ZY := hide (Arr.kept ZY.out hb)
  replace ZP := hide (Arr.kept ZP.out hb)
  replace ZQ := hide (Arr.kept ZQ.out hb)
  replace O0 := hide O0.out.rd
  replace hU := hU.trans (hb.mono hU.size)
  replace hV := hV.trans (hb.mono hV.size)
  clear hb
  have g := by_E E0.out (fun q0 => (gd_vPut (rf_self RA.out) (rf_self RB.out) m n))
  have L0 := hide g.2
  have Y0 := hide g.1
  clear g
  refine wpl_r4 [(125, .pointer (some ⟨NY, 8, none⟩)), (124, .int .i64 z3), (123, .agg #[.slice A0 l0.length c0, .bool s0]), (117, .tuple #[.agg #[.slice A0 l0.length c0, .bool s0], .int .i64 z3])] (by kernel_rfl) (wpl_starr (A := A0) (m := l0.length) (c := c0) (s := s0) 8 (.slice none 0 0) (.bool false) [.slice A6 l6.length c6, .bool s6, .slice A7 l7.length c7, .bool s7, .slice A8 l8.length c8, .bool s8, .slice A9 l9.length c9, .bool s9, .slice A0 l0.length c0, .bool s0] ZY.out rfl (by kernel_rfl) rfl (by kernel_rfl) (by kernel_rfl) rfl rfl (fun _ h => by cases h) (fun _ h => by cases h) rfl ?_)
  intro w46 hst ZY
  replace ZY := hide ZY
  replace O1 := hide (hst.rq O1.out)
  replace O6 := hide (hst.rq O6.out)
  replace O2 := hide (hst.rq O2.out)
  replace O7 := hide (hst.rq O7.out)
  replace O3 := hide (hst.rq O3.out)
  replace O8 := hide (hst.rq O8.out)
  replace O4 := hide (hst.rq O4.out)
  replace O9 := hide (hst.rq O9.out)
  replace O5 := hide (hst.rq O5.out)
  replace O0 := hide (hst.rq O0.out)
  replace ZX := hide (hst.ne ZX.out (by first | exact neXY | exact neYX.symm))
  replace ZP := hide (hst.ne ZP.out (by first | exact nePY | exact neYP.symm))
  replace ZQ := hide (hst.ne ZQ.out (by first | exact neQY | exact neYQ.symm))
  replace hV := hV.trans (hst.bel hzY)
  replace HC1 := hide (HM1 _ _ HK.out hV)
  replace hU := hUK.trans (hV.mono hUK.size)
  clear hst
  refine wpl_r1 [(126, .pointer (some ⟨NQ, 4, none⟩))] (by kernel_rfl) (wpl_sterr 4 z3 0 [.int .i64 z0, .int .i64 z1, .int .i64 z2, .int .i64 z3, .int .i64 z3] ZQ.out rfl (by kernel_rfl) rfl (by kernel_rfl) (by kernel_rfl) rfl rfl ?_)
  intro w47 hst ZQ
  replace ZQ := hide ZQ
  replace O1 := hide (hst.rq O1.out)
  replace O6 := hide (hst.rq O6.out)
  replace O2 := hide (hst.rq O2.out)
  replace O7 := hide (hst.rq O7.out)
  replace O3 := hide (hst.rq O3.out)
  replace O8 := hide (hst.rq O8.out)
  replace O4 := hide (hst.rq O4.out)
  replace O9 := hide (hst.rq O9.out)
  replace O5 := hide (hst.rq O5.out)
  replace O0 := hide (hst.rq O0.out)
  replace ZX := hide (hst.ne ZX.out (by first | exact neXQ | exact neQX.symm))
  replace ZY := hide (hst.ne ZY.out (by first | exact neYQ | exact neQY.symm))
  replace ZP := hide (hst.ne ZP.out (by first | exact nePQ | exact neQP.symm))
  replace hV := hV.trans (hst.bel hzQ)
  replace HC1 := hide (HM1 _ _ HK.out hV)
  replace hU := hUK.trans (hV.mono hUK.size)
  clear hst
  refine wpl_end (then_normal (wp_seq (wp_seq (reg_lit (wpl_val rfl (by kernel_rfl) (run_lde5 rfl (by kernel_rfl) ZP.out) (wpl_val rfl (by kernel_rfl) (run_lde5 rfl (by kernel_rfl) ZQ.out) (wpl_val rfl (by kernel_rfl) (run_neq5 (z0 := z0) (z1 := z1) (z2 := z2) (z3 := z3) rfl (by kernel_rfl) (by kernel_rfl) H0.out H1.out H2.out H3.out) ?_)))))))
  refine wpl_end (then_normal (wp_iff (by kernel_rfl) (wp_skip (then_normal (wp_seq (wp_seq (reg_lit ?_)))))))
  refine wpl_r1 [(17, .int .i64 0)] (by kernel_rfl) (wpl_end (then_normal (wp_block (loop_r 6 (round_s (wp_seq (sw_t [(131, .bool true), (130, .int .i64 0)] rfl (by kernel_rfl) (by kernel_rfl) ?_)))))))
  refine wp_skip (then_normal (wp_seq (wp_block (wp_seq (region_R (n := 7) (N := 8) (by kernel_rfl) (by kernel_rfl) (by kernel_rfl) (by kernel_rfl) (by kernel_rfl) (by kernel_rfl) (fun _ _ _ _ _ h => h) ?_)))))
  intro F hQ
  have HC0 := HC1
  have ZX0 := ZX
  have ZY0 := ZY
  have ZP0 := ZP
  have ZQ0 := ZQ
  refine anyR_val (i := 0) (m' := 1) (v := .int .i64 0) F hQ rfl rfl (by kernel_rfl) (by kernel_rfl) (by kernel_rfl) (by kernel_rfl) (by kernel_rfl) (fun _ _ => by kernel_rfl) (anyR_val (i := 1) (m' := 3) (v := .pointer (some ⟨NX, 0, none⟩)) F hQ rfl rfl (by kernel_rfl) (by kernel_rfl) (by kernel_rfl) (by kernel_rfl) (by kernel_rfl) (fun _ _ => by kernel_rfl) ?_)
  refine anyR_val (i := 2) (m' := 7) (v := .agg #[.slice A1 l1.length c1, .bool s1]) F hQ rfl rfl (by kernel_rfl) (by kernel_rfl) (by kernel_rfl) (by kernel_rfl) (by kernel_rfl) (fun w' hb => run_ldarr (j := 0) (A := A1) (m := l1.length) (c := c1) (s := s1) rfl (by kernel_rfl) (ZX0.out.kept hb) rfl rfl) ?_
  refine anyR_val (i := 3) (m' := 15) (v := .int .i64 0) F hQ rfl rfl (by kernel_rfl) (by kernel_rfl) (by kernel_rfl) (by kernel_rfl) (by kernel_rfl) (fun _ _ => by kernel_rfl) (anyR_val (i := 4) (m' := 31) (v := .pointer (some ⟨NY, 0, none⟩)) F hQ rfl rfl (by kernel_rfl) (by kernel_rfl) (by kernel_rfl) (by kernel_rfl) (by kernel_rfl) (fun _ _ => by kernel_rfl) ?_)
  refine anyR_val (i := 5) (m' := 63) (v := .agg #[.slice A6 l6.length c6, .bool s6]) F hQ rfl rfl (by kernel_rfl) (by kernel_rfl) (by kernel_rfl) (by kernel_rfl) (by kernel_rfl) (fun w' hb => run_ldarr (j := 0) (A := A6) (m := l6.length) (c := c6) (s := s6) rfl (by kernel_rfl) (ZY0.out.kept hb) rfl rfl) ?_
  refine anyR_call (i := 6) (m' := 127) rfl rfl (by kernel_rfl) (by kernel_rfl) (by kernel_rfl) (by kernel_rfl) (by kernel_rfl) ((below_yes A1 A6 l1 l6 c1 c6 s1 s6 _ L1.out L6.out (by exact O1.out) (by exact O6.out) Y1.out Y6.out (HT.out.kept (Below.drew hU)) (blw_E E1.out E6.out fun q0 => resize_rf RA.out m (hz0.out.trans q0))).mono ?_)
  rintro e w48 ⟨rfl, hb⟩
  refine ⟨_, rfl, hb, ?_⟩
  replace hb : Below w47.heap.size w47 w48 := Below.trans ((Below.refl _ _).drew) hb
  replace HC1 := hide (HM1 _ _ HC1.out hb)
  replace O1 := hide (RQ.below O1.out hb)
  replace O6 := hide (RQ.below O6.out hb)
  replace O2 := hide (RQ.below O2.out hb)
  replace O7 := hide (RQ.below O7.out hb)
  replace O3 := hide (RQ.below O3.out hb)
  replace O8 := hide (RQ.below O8.out hb)
  replace O4 := hide (RQ.below O4.out hb)
  replace O9 := hide (RQ.below O9.out hb)
  replace O5 := hide (RQ.below O5.out hb)
  replace O0 := hide (RQ.below O0.out hb)
  replace ZX := hide (Arr.kept ZX.out hb)
  replace ZY := hide (Arr.kept ZY.out hb)
  replace ZP := hide (Arr.kept ZP.out hb)
  replace ZQ := hide (Arr.kept ZQ.out hb)
  replace hU := hU.trans (hb.mono hU.size)
  replace hV := hV.trans (hb.mono hV.size)
  clear hb
  refine anyR_e (anyR_last (i := 7) (m' := 255) (v := .bool false) rfl rfl (by kernel_rfl) (by kernel_rfl) (by kernel_rfl) (by kernel_rfl) (by kernel_rfl) (anyE_done (by kernel_rfl) ?_))
  clear F hQ HC0 ZX0 ZY0 ZP0 ZQ0
  refine then_normal (wp_iff (by kernel_rfl) (wp_skip (block_normal (then_normal (reg_lit (wpl_r3 [(17, .int .i64 1), (133, .int .i64 1), (132, .int .i64 0)] (by kernel_rfl) (wpl_end ?_)))))))
  refine then_normal ?_
  refine round_keep [(13, .pointer (some ⟨NX, 0, none⟩)), (14, .pointer (some ⟨NY, 0, none⟩)), (17, .int .i64 1)] (Kp_c (by kernel_rfl) (Kp_c (by kernel_rfl) (Kp_c (by kernel_rfl) (Kp_n)))) (fun X => ?_)
  refine round_s (wp_seq (sw_t [(131, .bool true), (130, .int .i64 1)] rfl (by kernel_rfl) (by kernel_rfl) (wp_skip (then_normal (wp_seq (wp_block (wp_seq ?_)))))))
  refine region_R (n := 7) (N := 8) (by kernel_rfl) (by kernel_rfl) (by kernel_rfl) (by kernel_rfl) (by kernel_rfl) (by kernel_rfl) (fun _ _ _ _ _ h => h) ?_
  intro F hQ
  have HC0 := HC1
  have ZX0 := ZX
  have ZY0 := ZY
  have ZP0 := ZP
  have ZQ0 := ZQ
  refine anyR_val (i := 0) (m' := 1) (v := .int .i64 1) F hQ rfl rfl (by kernel_rfl) (by kernel_rfl) (by kernel_rfl) (by kernel_rfl) (by kernel_rfl) (fun _ _ => by kernel_rfl) (anyR_val (i := 1) (m' := 3) (v := .pointer (some ⟨NX, 2, none⟩)) F hQ rfl rfl (by kernel_rfl) (by kernel_rfl) (by kernel_rfl) (by kernel_rfl) (by kernel_rfl) (fun _ _ => by kernel_rfl) ?_)
  refine anyR_val (i := 2) (m' := 7) (v := .agg #[.slice A2 l2.length c2, .bool s2]) F hQ rfl rfl (by kernel_rfl) (by kernel_rfl) (by kernel_rfl) (by kernel_rfl) (by kernel_rfl) (fun w' hb => run_ldarr (j := 2) (A := A2) (m := l2.length) (c := c2) (s := s2) rfl (by kernel_rfl) (ZX0.out.kept hb) rfl rfl) ?_
  refine anyR_val (i := 3) (m' := 15) (v := .int .i64 1) F hQ rfl rfl (by kernel_rfl) (by kernel_rfl) (by kernel_rfl) (by kernel_rfl) (by kernel_rfl) (fun _ _ => by kernel_rfl) (anyR_val (i := 4) (m' := 31) (v := .pointer (some ⟨NY, 2, none⟩)) F hQ rfl rfl (by kernel_rfl) (by kernel_rfl) (by kernel_rfl) (by kernel_rfl) (by kernel_rfl) (fun _ _ => by kernel_rfl) ?_)
  refine anyR_val (i := 5) (m' := 63) (v := .agg #[.slice A7 l7.length c7, .bool s7]) F hQ rfl rfl (by kernel_rfl) (by kernel_rfl) (by kernel_rfl) (by kernel_rfl) (by kernel_rfl) (fun w' hb => run_ldarr (j := 2) (A := A7) (m := l7.length) (c := c7) (s := s7) rfl (by kernel_rfl) (ZY0.out.kept hb) rfl rfl) ?_
  refine anyR_call (i := 6) (m' := 127) rfl rfl (by kernel_rfl) (by kernel_rfl) (by kernel_rfl) (by kernel_rfl) (by kernel_rfl) ((below_yes A2 A7 l2 l7 c2 c7 s2 s7 _ L2.out L7.out (by exact O2.out) (by exact O7.out) Y2.out Y7.out (HT.out.kept (Below.drew hU)) (blw_E E2.out E7.out fun q0 => cats_rf RA.out RB.out)).mono ?_)
  rintro e w49 ⟨rfl, hb⟩
  refine ⟨_, rfl, hb, ?_⟩
  replace hb : Below w48.heap.size w48 w49 := Below.trans ((Below.refl _ _).drew) hb
  replace HC1 := hide (HM1 _ _ HC1.out hb)
  replace O1 := hide (RQ.below O1.out hb)
  replace O6 := hide (RQ.below O6.out hb)
  replace O2 := hide (RQ.below O2.out hb)
  replace O7 := hide (RQ.below O7.out hb)
  replace O3 := hide (RQ.below O3.out hb)
  replace O8 := hide (RQ.below O8.out hb)
  replace O4 := hide (RQ.below O4.out hb)
  replace O9 := hide (RQ.below O9.out hb)
  replace O5 := hide (RQ.below O5.out hb)
  replace O0 := hide (RQ.below O0.out hb)
  replace ZX := hide (Arr.kept ZX.out hb)
  replace ZY := hide (Arr.kept ZY.out hb)
  replace ZP := hide (Arr.kept ZP.out hb)
  replace ZQ := hide (Arr.kept ZQ.out hb)
  replace hU := hU.trans (hb.mono hU.size)
  replace hV := hV.trans (hb.mono hV.size)
  clear hb
  refine anyR_e (anyR_last (i := 7) (m' := 255) (v := .bool false) rfl rfl (by kernel_rfl) (by kernel_rfl) (by kernel_rfl) (by kernel_rfl) (by kernel_rfl) (anyE_done (by kernel_rfl) ?_))
  clear F hQ HC0 ZX0 ZY0 ZP0 ZQ0
  refine then_normal (wp_iff (by kernel_rfl) (wp_skip (block_normal (then_normal (reg_lit (wpl_r3 [(17, .int .i64 2), (133, .int .i64 2), (132, .int .i64 1)] (by kernel_rfl) (wpl_end ?_)))))))
  refine then_normal ?_
  refine round_keep [(13, .pointer (some ⟨NX, 0, none⟩)), (14, .pointer (some ⟨NY, 0, none⟩)), (17, .int .i64 2)] (Kp_c (by kernel_rfl) (Kp_c (by kernel_rfl) (Kp_c (by kernel_rfl) (Kp_n)))) (fun X => ?_)
  refine round_s (wp_seq (sw_t [(131, .bool true), (130, .int .i64 2)] rfl (by kernel_rfl) (by kernel_rfl) (wp_skip (then_normal (wp_seq (wp_block (wp_seq ?_)))))))
  refine region_R (n := 7) (N := 8) (by kernel_rfl) (by kernel_rfl) (by kernel_rfl) (by kernel_rfl) (by kernel_rfl) (by kernel_rfl) (fun _ _ _ _ _ h => h) ?_
  intro F hQ
  have HC0 := HC1
  have ZX0 := ZX
  have ZY0 := ZY
  have ZP0 := ZP
  have ZQ0 := ZQ
  refine anyR_val (i := 0) (m' := 1) (v := .int .i64 2) F hQ rfl rfl (by kernel_rfl) (by kernel_rfl) (by kernel_rfl) (by kernel_rfl) (by kernel_rfl) (fun _ _ => by kernel_rfl) (anyR_val (i := 1) (m' := 3) (v := .pointer (some ⟨NX, 4, none⟩)) F hQ rfl rfl (by kernel_rfl) (by kernel_rfl) (by kernel_rfl) (by kernel_rfl) (by kernel_rfl) (fun _ _ => by kernel_rfl) ?_)
  refine anyR_val (i := 2) (m' := 7) (v := .agg #[.slice A3 l3.length c3, .bool s3]) F hQ rfl rfl (by kernel_rfl) (by kernel_rfl) (by kernel_rfl) (by kernel_rfl) (by kernel_rfl) (fun w' hb => run_ldarr (j := 4) (A := A3) (m := l3.length) (c := c3) (s := s3) rfl (by kernel_rfl) (ZX0.out.kept hb) rfl rfl) ?_
  refine anyR_val (i := 3) (m' := 15) (v := .int .i64 2) F hQ rfl rfl (by kernel_rfl) (by kernel_rfl) (by kernel_rfl) (by kernel_rfl) (by kernel_rfl) (fun _ _ => by kernel_rfl) (anyR_val (i := 4) (m' := 31) (v := .pointer (some ⟨NY, 4, none⟩)) F hQ rfl rfl (by kernel_rfl) (by kernel_rfl) (by kernel_rfl) (by kernel_rfl) (by kernel_rfl) (fun _ _ => by kernel_rfl) ?_)
  refine anyR_val (i := 5) (m' := 63) (v := .agg #[.slice A8 l8.length c8, .bool s8]) F hQ rfl rfl (by kernel_rfl) (by kernel_rfl) (by kernel_rfl) (by kernel_rfl) (by kernel_rfl) (fun w' hb => run_ldarr (j := 4) (A := A8) (m := l8.length) (c := c8) (s := s8) rfl (by kernel_rfl) (ZY0.out.kept hb) rfl rfl) ?_
  refine anyR_call (i := 6) (m' := 127) rfl rfl (by kernel_rfl) (by kernel_rfl) (by kernel_rfl) (by kernel_rfl) (by kernel_rfl) ((below_yes A3 A8 l3 l8 c3 c8 s3 s8 _ L3.out L8.out (by exact O3.out) (by exact O8.out) Y3.out Y8.out (HT.out.kept (Below.drew hU)) (blw_E E3.out E8.out fun q0 => repeat_rf RA.out m)).mono ?_)
  rintro e w50 ⟨rfl, hb⟩
  refine ⟨_, rfl, hb, ?_⟩
  replace hb : Below w49.heap.size w49 w50 := Below.trans ((Below.refl _ _).drew) hb
  replace HC1 := hide (HM1 _ _ HC1.out hb)
  replace O1 := hide (RQ.below O1.out hb)
  replace O6 := hide (RQ.below O6.out hb)
  replace O2 := hide (RQ.below O2.out hb)
  replace O7 := hide (RQ.below O7.out hb)
  replace O3 := hide (RQ.below O3.out hb)
  replace O8 := hide (RQ.below O8.out hb)
  replace O4 := hide (RQ.below O4.out hb)
  replace O9 := hide (RQ.below O9.out hb)
  replace O5 := hide (RQ.below O5.out hb)
  replace O0 := hide (RQ.below O0.out hb)
  replace ZX := hide (Arr.kept ZX.out hb)
  replace ZY := hide (Arr.kept ZY.out hb)
  replace ZP := hide (Arr.kept ZP.out hb)
  replace ZQ := hide (Arr.kept ZQ.out hb)
  replace hU := hU.trans (hb.mono hU.size)
  replace hV := hV.trans (hb.mono hV.size)
  clear hb
  refine anyR_e (anyR_last (i := 7) (m' := 255) (v := .bool false) rfl rfl (by kernel_rfl) (by kernel_rfl) (by kernel_rfl) (by kernel_rfl) (by kernel_rfl) (anyE_done (by kernel_rfl) ?_))
  clear F hQ HC0 ZX0 ZY0 ZP0 ZQ0
  refine then_normal (wp_iff (by kernel_rfl) (wp_skip (block_normal (then_normal (reg_lit (wpl_r3 [(17, .int .i64 3), (133, .int .i64 3), (132, .int .i64 2)] (by kernel_rfl) (wpl_end ?_)))))))
  refine then_normal ?_
  refine round_keep [(13, .pointer (some ⟨NX, 0, none⟩)), (14, .pointer (some ⟨NY, 0, none⟩)), (17, .int .i64 3)] (Kp_c (by kernel_rfl) (Kp_c (by kernel_rfl) (Kp_c (by kernel_rfl) (Kp_n)))) (fun X => ?_)
  refine round_s (wp_seq (sw_t [(131, .bool true), (130, .int .i64 3)] rfl (by kernel_rfl) (by kernel_rfl) (wp_skip (then_normal (wp_seq (wp_block (wp_seq ?_)))))))
  refine region_R (n := 7) (N := 8) (by kernel_rfl) (by kernel_rfl) (by kernel_rfl) (by kernel_rfl) (by kernel_rfl) (by kernel_rfl) (fun _ _ _ _ _ h => h) ?_
  intro F hQ
  have HC0 := HC1
  have ZX0 := ZX
  have ZY0 := ZY
  have ZP0 := ZP
  have ZQ0 := ZQ
  refine anyR_val (i := 0) (m' := 1) (v := .int .i64 3) F hQ rfl rfl (by kernel_rfl) (by kernel_rfl) (by kernel_rfl) (by kernel_rfl) (by kernel_rfl) (fun _ _ => by kernel_rfl) (anyR_val (i := 1) (m' := 3) (v := .pointer (some ⟨NX, 6, none⟩)) F hQ rfl rfl (by kernel_rfl) (by kernel_rfl) (by kernel_rfl) (by kernel_rfl) (by kernel_rfl) (fun _ _ => by kernel_rfl) ?_)
  refine anyR_val (i := 2) (m' := 7) (v := .agg #[.slice A4 l4.length c4, .bool s4]) F hQ rfl rfl (by kernel_rfl) (by kernel_rfl) (by kernel_rfl) (by kernel_rfl) (by kernel_rfl) (fun w' hb => run_ldarr (j := 6) (A := A4) (m := l4.length) (c := c4) (s := s4) rfl (by kernel_rfl) (ZX0.out.kept hb) rfl rfl) ?_
  refine anyR_val (i := 3) (m' := 15) (v := .int .i64 3) F hQ rfl rfl (by kernel_rfl) (by kernel_rfl) (by kernel_rfl) (by kernel_rfl) (by kernel_rfl) (fun _ _ => by kernel_rfl) (anyR_val (i := 4) (m' := 31) (v := .pointer (some ⟨NY, 6, none⟩)) F hQ rfl rfl (by kernel_rfl) (by kernel_rfl) (by kernel_rfl) (by kernel_rfl) (by kernel_rfl) (fun _ _ => by kernel_rfl) ?_)
  refine anyR_val (i := 5) (m' := 63) (v := .agg #[.slice A9 l9.length c9, .bool s9]) F hQ rfl rfl (by kernel_rfl) (by kernel_rfl) (by kernel_rfl) (by kernel_rfl) (by kernel_rfl) (fun w' hb => run_ldarr (j := 6) (A := A9) (m := l9.length) (c := c9) (s := s9) rfl (by kernel_rfl) (ZY0.out.kept hb) rfl rfl) ?_
  refine anyR_call (i := 6) (m' := 127) rfl rfl (by kernel_rfl) (by kernel_rfl) (by kernel_rfl) (by kernel_rfl) (by kernel_rfl) ((below_yes A4 A9 l4 l9 c4 c9 s4 s9 _ L4.out L9.out (by exact O4.out) (by exact O9.out) Y4.out Y9.out (HT.out.kept (Below.drew hU)) (blw_E E4.out E9.out fun q0 => slice_rf RA.out n _)).mono ?_)
  rintro e w51 ⟨rfl, hb⟩
  refine ⟨_, rfl, hb, ?_⟩
  replace hb : Below w50.heap.size w50 w51 := Below.trans ((Below.refl _ _).drew) hb
  replace HC1 := hide (HM1 _ _ HC1.out hb)
  replace O1 := hide (RQ.below O1.out hb)
  replace O6 := hide (RQ.below O6.out hb)
  replace O2 := hide (RQ.below O2.out hb)
  replace O7 := hide (RQ.below O7.out hb)
  replace O3 := hide (RQ.below O3.out hb)
  replace O8 := hide (RQ.below O8.out hb)
  replace O4 := hide (RQ.below O4.out hb)
  replace O9 := hide (RQ.below O9.out hb)
  replace O5 := hide (RQ.below O5.out hb)
  replace O0 := hide (RQ.below O0.out hb)
  replace ZX := hide (Arr.kept ZX.out hb)
  replace ZY := hide (Arr.kept ZY.out hb)
  replace ZP := hide (Arr.kept ZP.out hb)
  replace ZQ := hide (Arr.kept ZQ.out hb)
  replace hU := hU.trans (hb.mono hU.size)
  replace hV := hV.trans (hb.mono hV.size)
  clear hb
  refine anyR_e (anyR_last (i := 7) (m' := 255) (v := .bool false) rfl rfl (by kernel_rfl) (by kernel_rfl) (by kernel_rfl) (by kernel_rfl) (by kernel_rfl) (anyE_done (by kernel_rfl) ?_))
  clear F hQ HC0 ZX0 ZY0 ZP0 ZQ0
  refine then_normal (wp_iff (by kernel_rfl) (wp_skip (block_normal (then_normal (reg_lit (wpl_r3 [(17, .int .i64 4), (133, .int .i64 4), (132, .int .i64 3)] (by kernel_rfl) (wpl_end ?_)))))))
  refine then_normal ?_
  refine round_keep [(13, .pointer (some ⟨NX, 0, none⟩)), (14, .pointer (some ⟨NY, 0, none⟩)), (17, .int .i64 4)] (Kp_c (by kernel_rfl) (Kp_c (by kernel_rfl) (Kp_c (by kernel_rfl) (Kp_n)))) (fun X => ?_)
  refine round_s (wp_seq (sw_t [(131, .bool true), (130, .int .i64 4)] rfl (by kernel_rfl) (by kernel_rfl) (wp_skip (then_normal (wp_seq (wp_block (wp_seq ?_)))))))
  refine region_R (n := 7) (N := 8) (by kernel_rfl) (by kernel_rfl) (by kernel_rfl) (by kernel_rfl) (by kernel_rfl) (by kernel_rfl) (fun _ _ _ _ _ h => h) ?_
  intro F hQ
  have HC0 := HC1
  have ZX0 := ZX
  have ZY0 := ZY
  have ZP0 := ZP
  have ZQ0 := ZQ
  refine anyR_val (i := 0) (m' := 1) (v := .int .i64 4) F hQ rfl rfl (by kernel_rfl) (by kernel_rfl) (by kernel_rfl) (by kernel_rfl) (by kernel_rfl) (fun _ _ => by kernel_rfl) (anyR_val (i := 1) (m' := 3) (v := .pointer (some ⟨NX, 8, none⟩)) F hQ rfl rfl (by kernel_rfl) (by kernel_rfl) (by kernel_rfl) (by kernel_rfl) (by kernel_rfl) (fun _ _ => by kernel_rfl) ?_)
  refine anyR_val (i := 2) (m' := 7) (v := .agg #[.slice A5 l5.length c5, .bool s5]) F hQ rfl rfl (by kernel_rfl) (by kernel_rfl) (by kernel_rfl) (by kernel_rfl) (by kernel_rfl) (fun w' hb => run_ldarr (j := 8) (A := A5) (m := l5.length) (c := c5) (s := s5) rfl (by kernel_rfl) (ZX0.out.kept hb) rfl rfl) ?_
  refine anyR_val (i := 3) (m' := 15) (v := .int .i64 4) F hQ rfl rfl (by kernel_rfl) (by kernel_rfl) (by kernel_rfl) (by kernel_rfl) (by kernel_rfl) (fun _ _ => by kernel_rfl) (anyR_val (i := 4) (m' := 31) (v := .pointer (some ⟨NY, 8, none⟩)) F hQ rfl rfl (by kernel_rfl) (by kernel_rfl) (by kernel_rfl) (by kernel_rfl) (by kernel_rfl) (fun _ _ => by kernel_rfl) ?_)
  refine anyR_val (i := 5) (m' := 63) (v := .agg #[.slice A0 l0.length c0, .bool s0]) F hQ rfl rfl (by kernel_rfl) (by kernel_rfl) (by kernel_rfl) (by kernel_rfl) (by kernel_rfl) (fun w' hb => run_ldarr (j := 8) (A := A0) (m := l0.length) (c := c0) (s := s0) rfl (by kernel_rfl) (ZY0.out.kept hb) rfl rfl) ?_
  refine anyR_call (i := 6) (m' := 127) rfl rfl (by kernel_rfl) (by kernel_rfl) (by kernel_rfl) (by kernel_rfl) (by kernel_rfl) ((below_yes A5 A0 l5 l0 c5 c0 s5 s0 _ L5.out L0.out (by exact O5.out) (by exact O0.out) Y5.out Y0.out (HT.out.kept (Below.drew hU)) (blw_E E5.out E0.out fun q0 => put_rf RA.out RB.out m n)).mono ?_)
  rintro e w52 ⟨rfl, hb⟩
  refine ⟨_, rfl, hb, ?_⟩
  replace hb : Below w51.heap.size w51 w52 := Below.trans ((Below.refl _ _).drew) hb
  replace HC1 := hide (HM1 _ _ HC1.out hb)
  replace O1 := hide (RQ.below O1.out hb)
  replace O6 := hide (RQ.below O6.out hb)
  replace O2 := hide (RQ.below O2.out hb)
  replace O7 := hide (RQ.below O7.out hb)
  replace O3 := hide (RQ.below O3.out hb)
  replace O8 := hide (RQ.below O8.out hb)
  replace O4 := hide (RQ.below O4.out hb)
  replace O9 := hide (RQ.below O9.out hb)
  replace O5 := hide (RQ.below O5.out hb)
  replace O0 := hide (RQ.below O0.out hb)
  replace ZX := hide (Arr.kept ZX.out hb)
  replace ZY := hide (Arr.kept ZY.out hb)
  replace ZP := hide (Arr.kept ZP.out hb)
  replace ZQ := hide (Arr.kept ZQ.out hb)
  replace hU := hU.trans (hb.mono hU.size)
  replace hV := hV.trans (hb.mono hV.size)
  clear hb
  refine anyR_e (anyR_last (i := 7) (m' := 255) (v := .bool false) rfl rfl (by kernel_rfl) (by kernel_rfl) (by kernel_rfl) (by kernel_rfl) (by kernel_rfl) (anyE_done (by kernel_rfl) ?_))
  clear F hQ HC0 ZX0 ZY0 ZP0 ZQ0
  refine then_normal (wp_iff (by kernel_rfl) (wp_skip (block_normal (then_normal (reg_lit (wpl_r3 [(17, .int .i64 5), (133, .int .i64 5), (132, .int .i64 4)] (by kernel_rfl) (wpl_end ?_)))))))
  refine then_normal ?_
  refine round_keep [(13, .pointer (some ⟨NX, 0, none⟩)), (14, .pointer (some ⟨NY, 0, none⟩)), (17, .int .i64 5)] (Kp_c (by kernel_rfl) (Kp_c (by kernel_rfl) (Kp_c (by kernel_rfl) (Kp_n)))) (fun X => ?_)
  refine round_s (wp_seq (sw_f [(131, .bool false), (130, .int .i64 5)] rfl (by kernel_rfl) (by kernel_rfl) (wp_exit (then_exit (then_exit (exit_here (then_normal ?_)))))))
  refine wp_seq (reg_lit (wpl_r1 [(12, .bool true)] (by kernel_rfl) (wpl_end (then_normal (wp_ret ?_)))))
  refine (show bodyPost _ _ _ .ret _ _ from ret_sl (.bool true) rfl (by kernel_rfl) ?_)
  exact ⟨rfl, hU⟩
theorem VecMonotoneParts_walk (Aa : Option Addr) (la : List Int) (ca : Nat) (sa : Bool) (Ab : Option Addr) (lb : List Int) (cb : Nat) (sb : Bool) (Ac : Option Addr) (lc : List Int) (cc : Nat) (sc : Bool) (Ad : Option Addr) (ld : List Int) (cd : Nat) (sd : Bool) (m n : Int) (w : World) (ma : la.length ≤ maxLen) (ra : RQ w Aa la) (ya : By la) (pa : Hid (la.length ≤ ca ∧ ca ≤ maxLen)) (mb : lb.length ≤ maxLen) (rb : RQ w Ab lb) (yb : By lb) (pb : Hid (lb.length ≤ cb ∧ cb ≤ maxLen)) (mc : lc.length ≤ maxLen) (rc : RQ w Ac lc) (yc : By lc) (pc : Hid (lc.length ≤ cc ∧ cc ≤ maxLen)) (md : ld.length ≤ maxLen) (rd : RQ w Ad ld) (yd : By ld) (pd : Hid (ld.length ≤ cd ∧ cd ≤ maxLen)) (m0 : -9223372036854775808 ≤ m) (m1 : m ≤ 9223372036854775807) (n0 : -9223372036854775808 ≤ n) (n1 : n ≤ 9223372036854775807) (tn : Tab1 2 mNot w) (tb : Tab1 5 mBuf w) (ta : Tab2 3 mAnd w) (tO : Tab2 0 mOr w) (tx : Tab2 4 mXor w) (tg : Tab2 1 mAgree w) : Calls Tryz.prog 9 #[.agg #[.slice Aa la.length ca, .bool sa], .agg #[.slice Ab lb.length cb, .bool sb], .agg #[.slice Ac lc.length cc, .bool sc], .agg #[.slice Ad ld.length cd, .bool sd], .int .i64 m, .int .i64 n] w (Mk (.bool true) w) := by
  by_cases hl : ∀ i (h : i < 4), [(Aa, la.length, ca, sa), (Ab, lb.length, cb, sb), (Ac, lc.length, cc, sc), (Ad, ld.length, cd, sd)][i].2.1 ≤ 140
  · exact VecMonotoneParts_short Aa la ca sa Ab lb cb sb Ac lc cc sc Ad ld cd sd m n w ma ra ya pa mb rb yb pb mc rc yc pc md rd yd pd m0 m1 n0 n1 tn tb ta tO tx tg (hide hl)
  · exact VecMonotoneParts_long Aa la ca sa Ab lb cb sb Ac lc cc sc Ad ld cd sd m n w ma ra ya pa mb rb yb pb mc rc yc pc md rd yd pd m0 m1 n0 n1 tn tb ta tO tx tg (hide (by
      rw [Classical.not_forall] at hl
      obtain ⟨i, hl⟩ := hl
      rw [Classical.not_forall] at hl
      obtain ⟨h, hl⟩ := hl
      exact ⟨i, h, Nat.lt_of_not_le hl⟩))
end Go.Proofs.YtpiakebbndoecaaGreatDoor
