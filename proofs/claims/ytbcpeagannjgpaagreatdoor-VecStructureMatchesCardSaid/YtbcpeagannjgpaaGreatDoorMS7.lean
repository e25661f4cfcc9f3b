/-
  Texts of MS joined (VecSM).
-/
import Derived.Test.YtbcpeagannjgpaaGreatDoorMS6
set_option linter.unusedVariables false
set_option linter.unusedSimpArgs false
set_option linter.unusedSectionVars false
namespace Go.Proofs.YtbcpeagannjgpaaGreatDoor
section
open Go.RowKit
set_option maxRecDepth 100000
set_option linter.unusedSimpArgs false
set_option linter.unusedVariables false
set_option maxHeartbeats 8000000 in
theorem VecStructureMatches_long (Aa : Option Addr) (la : List Int) (ca : Nat) (sa : Bool) (Ab : Option Addr) (lb : List Int) (cb : Nat) (sb : Bool) (Ac : Option Addr) (lc : List Int) (cc : Nat) (sc : Bool) (m n v : Int) (w : World) (ma : la.length ≤ maxLen) (ra : RQ w Aa la) (ya : By la) (pa : Hid (la.length ≤ ca ∧ ca ≤ maxLen)) (mb : lb.length ≤ maxLen) (rb : RQ w Ab lb) (yb : By lb) (pb : Hid (lb.length ≤ cb ∧ cb ≤ maxLen)) (mc : lc.length ≤ maxLen) (rc : RQ w Ac lc) (yc : By lc) (pc : Hid (lc.length ≤ cc ∧ cc ≤ maxLen)) (m0 : -9223372036854775808 ≤ m) (m1 : m ≤ 9223372036854775807) (n0 : -9223372036854775808 ≤ n) (n1 : n ≤ 9223372036854775807) (v0 : -9223372036854775808 ≤ v) (v1 : v ≤ 9223372036854775807) (tn : Tab1 4 mNot w) (tb : Tab1 5 mBuf w) (ta : Tab2 1 mAnd w) (tO : Tab2 2 mOr w) (tx : Tab2 3 mXor w) (tg : Tab2 0 mAgree w) (hl : Hid (∃ i, ∃ h : i < 3, 140 < [(Aa, la.length, ca, sa), (Ab, lb.length, cb, sb), (Ac, lc.length, cc, sc)][i].2.1)) : Calls Tryz.prog 4 #[.agg #[.slice Aa la.length ca, .bool sa], .agg #[.slice Ab lb.length cb, .bool sb], .agg #[.slice Ac lc.length cc, .bool sc], .int .i64 m, .int .i64 n, .int .i64 v] w (Mk (.bool true) w) := by
  have hm : Hid (∀ i (h : i < 3), [(Aa, la.length, ca, sa), (Ab, lb.length, cb, sb), (Ac, lc.length, cc, sc)][i].2.1 ≤ maxLen) := hide fun i h => by rcases i with _ | _ | _ | i <;> first | assumption | omega
  clear ma mb mc
  have Oa := hide ra
  have Ya := hide ya
  have Ca := pa
  have Ob := hide rb
  have Yb := hide yb
  have Cb := pb
  have Oc := hide rc
  have Yc := hide yc
  have Cc := pc
  clear ra ya
  clear rb yb
  clear rc yc
  have HT := hide (show Tabs w from ⟨tn, tb, ta, tO, tx, tg⟩)
  clear tn tb ta tO tx tg
  have hU : Below w.heap.size w w := Below.refl _ _
  refine calls_sl (l := [.agg #[.slice Aa la.length ca, .bool sa], .agg #[.slice Ab lb.length cb, .bool sb], .agg #[.slice Ac lc.length cc, .bool sc], .int .i64 m, .int .i64 n, .int .i64 v]) 215 Tryz.func4 rfl (by kernel_rfl) (by simp) (wp_seq (reg_lit (wpl_boxvec (A := Aa) (m := la.length) (c := ca) (s := sa) rfl (by kernel_rfl) rfl (by kernel_rfl) ?_)))
  intro w1 Na Ba hNa hb
  replace Ba := hide Ba
  have hza : w.heap.size ≤ Na := Nat.le_trans hU.size hNa
  clear hNa
  replace hU := hU.trans (hb.mono hU.size)
  clear hb
  refine wpl_boxvec (A := Ab) (m := lb.length) (c := cb) (s := sb) rfl (by kernel_rfl) rfl (by kernel_rfl) ?_
  intro w2 Nb Bb hNb hb
  replace Bb := hide Bb
  replace Ba := hide (Box.kept Ba.out hb)
  have hzb : w.heap.size ≤ Nb := Nat.le_trans hU.size hNb
  clear hNb
  replace hU := hU.trans (hb.mono hU.size)
  clear hb
  refine wpl_boxvec (A := Ac) (m := lc.length) (c := cc) (s := sc) rfl (by kernel_rfl) rfl (by kernel_rfl) ?_
  intro w3 Nc Bc hNc hb
  replace Bc := hide Bc
  replace Ba := hide (Box.kept Ba.out hb)
  replace Bb := hide (Box.kept Bb.out hb)
  have hzc : w.heap.size ≤ Nc := Nat.le_trans hU.size hNc
  clear hNc
  replace hU := hU.trans (hb.mono hU.size)
  clear hb
  refine wpl_r1 [(12, .bool false)] (by kernel_rfl) (wpl_end (then_normal (wp_seq (wp_seq (reg_lit (wpl_ldvec Ba.out rfl (by kernel_rfl) rfl (by kernel_rfl) (wpl_ldvec Bb.out rfl (by kernel_rfl) rfl (by kernel_rfl) ?_)))))))
  refine wpl_ldvec Bc.out rfl (by kernel_rfl) rfl (by kernel_rfl) (wpl_bsL3 rfl (by kernel_rfl) rfl (A0 := Aa) (m0 := la.length) (c0 := ca) (s0 := sa) (A1 := Ab) (m1 := lb.length) (c1 := cb) (s1 := sb) (A2 := Ac) (m2 := lc.length) (c2 := cc) (s2 := sc) (by kernel_rfl) (by kernel_rfl) (by kernel_rfl) ?_)
  intro w4 NV4 RV4 hb
  replace RV4 := hide RV4
  replace Ba := hide (Box.kept Ba.out hb)
  replace Bb := hide (Box.kept Bb.out hb)
  replace Bc := hide (Box.kept Bc.out hb)
  replace hU := hU.trans (hb.mono hU.size)
  clear hb
  refine wpl_call rfl (by kernel_rfl) (by kernel_rfl) ((vlong_yes NV4 3 [(Aa, la.length, ca, sa), (Ab, lb.length, cb, sb), (Ac, lc.length, cc, sc)] _ (by simp) RV4.out hl.out hm.out).mono ?_)
  rintro e w' ⟨rfl, rfl⟩
  refine ⟨_, rfl, ?_⟩
  refine wpl_end (then_normal (wp_ift (by kernel_rfl) (wp_seq (reg_lit ?_))))
  refine wpl_call rfl (by kernel_rfl) (by kernel_rfl) ((vawake_any _ (HT.out.kept hU)).mono ?_)
  rintro e w5 ⟨rfl, hb⟩
  refine ⟨_, rfl, ?_⟩
  replace Ba := hide (Box.kept Ba.out hb)
  replace Bb := hide (Box.kept Bb.out hb)
  replace Bc := hide (Box.kept Bc.out hb)
  replace hU := hU.trans (hb.mono hU.size)
  clear hb
  refine wpl_r1 [(12, .bool true)] (by kernel_rfl) (wpl_end (then_normal (wp_ret ?_)))
  refine (show bodyPost _ _ _ .ret _ _ from ret_sl (.bool true) rfl (by kernel_rfl) ?_)
  exact ⟨rfl, hU⟩
set_option maxHeartbeats 64000000 in
theorem VecStructureMatches_short (Aa : Option Addr) (la : List Int) (ca : Nat) (sa : Bool) (Ab : Option Addr) (lb : List Int) (cb : Nat) (sb : Bool) (Ac : Option Addr) (lc : List Int) (cc : Nat) (sc : Bool) (m n v : Int) (w : World) (ma : la.length ≤ maxLen) (ra : RQ w Aa la) (ya : By la) (pa : Hid (la.length ≤ ca ∧ ca ≤ maxLen)) (mb : lb.length ≤ maxLen) (rb : RQ w Ab lb) (yb : By lb) (pb : Hid (lb.length ≤ cb ∧ cb ≤ maxLen)) (mc : lc.length ≤ maxLen) (rc : RQ w Ac lc) (yc : By lc) (pc : Hid (lc.length ≤ cc ∧ cc ≤ maxLen)) (m0 : -9223372036854775808 ≤ m) (m1 : m ≤ 9223372036854775807) (n0 : -9223372036854775808 ≤ n) (n1 : n ≤ 9223372036854775807) (v0 : -9223372036854775808 ≤ v) (v1 : v ≤ 9223372036854775807) (tn : Tab1 4 mNot w) (tb : Tab1 5 mBuf w) (ta : Tab2 1 mAnd w) (tO : Tab2 2 mOr w) (tx : Tab2 3 mXor w) (tg : Tab2 0 mAgree w) (hs : Hid (∀ i (h : i < 3), [(Aa, la.length, ca, sa), (Ab, lb.length, cb, sb), (Ac, lc.length, cc, sc)][i].2.1 ≤ 140)) : Calls Tryz.prog 4 #[.agg #[.slice Aa la.length ca, .bool sa], .agg #[.slice Ab lb.length cb, .bool sb], .agg #[.slice Ac lc.length cc, .bool sc], .int .i64 m, .int .i64 n, .int .i64 v] w (Mk (.bool true) w) := by
  have La : Hid (la.length ≤ 4096) := hide (Nat.le_trans (hs.out 0 (by decide)) (by decide))
  have Lb : Hid (lb.length ≤ 4096) := hide (Nat.le_trans (hs.out 1 (by decide)) (by decide))
  have Lc : Hid (lc.length ≤ 4096) := hide (Nat.le_trans (hs.out 2 (by decide)) (by decide))
  clear ma mb mc
  have Oa := hide ra
  have Ya := hide ya
  have Ca := pa
  have Ob := hide rb
  have Yb := hide yb
  have Cb := pb
  have Oc := hide rc
  have Yc := hide yc
  have Cc := pc
  clear ra ya
  clear rb yb
  clear rc yc
  have HT := hide (show Tabs w from ⟨tn, tb, ta, tO, tx, tg⟩)
  clear tn tb ta tO tx tg
  have hU : Below w.heap.size w w := Below.refl _ _
  refine calls_sl (l := [.agg #[.slice Aa la.length ca, .bool sa], .agg #[.slice Ab lb.length cb, .bool sb], .agg #[.slice Ac lc.length cc, .bool sc], .int .i64 m, .int .i64 n, .int .i64 v]) 215 Tryz.func4 rfl (by kernel_rfl) (by simp) (wp_seq (reg_lit (wpl_boxvec (A := Aa) (m := la.length) (c := ca) (s := sa) rfl (by kernel_rfl) rfl (by kernel_rfl) ?_)))
  intro w1 Na Ba hNa hb
  replace Ba := hide Ba
  replace Oa := hide (RQ.below Oa.out hb)
  replace Ob := hide (RQ.below Ob.out hb)
  replace Oc := hide (RQ.below Oc.out hb)
  have hza : w.heap.size ≤ Na := Nat.le_trans hU.size hNa
  clear hNa
  replace hU := hU.trans (hb.mono hU.size)
  clear hb
  refine wpl_boxvec (A := Ab) (m := lb.length) (c := cb) (s := sb) rfl (by kernel_rfl) rfl (by kernel_rfl) ?_
  intro w2 Nb Bb hNb hb
  replace Bb := hide Bb
  have neab : Na ≠ Nb := by have := Ba.out.lt; omega
  replace Oa := hide (RQ.below Oa.out hb)
  replace Ob := hide (RQ.below Ob.out hb)
  replace Oc := hide (RQ.below Oc.out hb)
  replace Ba := hide (Box.kept Ba.out hb)
  have hzb : w.heap.size ≤ Nb := Nat.le_trans hU.size hNb
  clear hNb
  replace hU := hU.trans (hb.mono hU.size)
  clear hb
  refine wpl_boxvec (A := Ac) (m := lc.length) (c := cc) (s := sc) rfl (by kernel_rfl) rfl (by kernel_rfl) ?_
  intro w3 Nc Bc hNc hb
  replace Bc := hide Bc
  have neac : Na ≠ Nc := by have := Ba.out.lt; omega
  have nebc : Nb ≠ Nc := by have := Bb.out.lt; omega
  replace Oa := hide (RQ.below Oa.out hb)
  replace Ob := hide (RQ.below Ob.out hb)
  replace Oc := hide (RQ.below Oc.out hb)
  replace Ba := hide (Box.kept Ba.out hb)
  replace Bb := hide (Box.kept Bb.out hb)
  have hzc : w.heap.size ≤ Nc := Nat.le_trans hU.size hNc
  clear hNc
  replace hU := hU.trans (hb.mono hU.size)
  clear hb
  refine wpl_r1 [(12, .bool false)] (by kernel_rfl) (wpl_end (then_normal (wp_seq (wp_seq (reg_lit (wpl_ldvec Ba.out rfl (by kernel_rfl) rfl (by kernel_rfl) (wpl_ldvec Bb.out rfl (by kernel_rfl) rfl (by kernel_rfl) ?_)))))))
  refine wpl_ldvec Bc.out rfl (by kernel_rfl) rfl (by kernel_rfl) (wpl_bsL3 rfl (by kernel_rfl) rfl (A0 := Aa) (m0 := la.length) (c0 := ca) (s0 := sa) (A1 := Ab) (m1 := lb.length) (c1 := cb) (s1 := sb) (A2 := Ac) (m2 := lc.length) (c2 := cc) (s2 := sc) (by kernel_rfl) (by kernel_rfl) (by kernel_rfl) ?_)
  intro w4 NV4 RV4 hb
  replace RV4 := hide RV4
  replace Oa := hide (RQ.below Oa.out hb)
  replace Ob := hide (RQ.below Ob.out hb)
  replace Oc := hide (RQ.below Oc.out hb)
  replace Ba := hide (Box.kept Ba.out hb)
  replace Bb := hide (Box.kept Bb.out hb)
  replace Bc := hide (Box.kept Bc.out hb)
  replace hU := hU.trans (hb.mono hU.size)
  clear hb
  refine wpl_call rfl (by kernel_rfl) (by kernel_rfl) ((vlong_no NV4 3 [(Aa, la.length, ca, sa), (Ab, lb.length, cb, sb), (Ac, lc.length, cc, sc)] _ (by simp) RV4.out hs.out).mono ?_)
  rintro e w' ⟨rfl, rfl⟩
  refine ⟨_, rfl, ?_⟩
  clear RV4
  refine wpl_end (then_normal (wp_iff (by kernel_rfl) (wp_skip (then_normal (wp_seq ?_)))))
  obtain ⟨Pr1, HM1, HS1, HC1, p1_a, p1_b, p1_c, q1_a, q1_b, q1_c⟩ : ∃ Pr : World → Prop, (∀ w w', Pr w → Below w.heap.size w w' → Pr w') ∧ (∀ {N m c : Nat} {A : Option Addr} {s : Bool} {w V : World}, Std N A m c s w V → Na ≠ N → Nb ≠ N → Nc ≠ N → Pr w → Pr V) ∧ Hid (Pr w4) ∧ (∀ W, Pr W → RQ W Aa la) ∧ (∀ W, Pr W → RQ W Ab lb) ∧ (∀ W, Pr W → RQ W Ac lc) ∧ (∀ W, Pr W → Box Na Aa la.length ca sa W) ∧ (∀ W, Pr W → Box Nb Ab lb.length cb sb W) ∧ (∀ W, Pr W → Box Nc Ac lc.length cc sc W) := ⟨fun W => RQ W Aa la ∧ RQ W Ab lb ∧ RQ W Ac lc ∧ Box Na Aa la.length ca sa W ∧ Box Nb Ab lb.length cb sb W ∧ Box Nc Ac lc.length cc sc W, fun _ _ h hb => ⟨RQ.below h.1 hb, RQ.below h.2.1 hb, RQ.below h.2.2.1 hb, Box.kept h.2.2.2.1 hb, Box.kept h.2.2.2.2.1 hb, Box.kept h.2.2.2.2.2 hb⟩, fun hst na nb nc h => ⟨hst.rq h.1, hst.rq h.2.1, hst.rq h.2.2.1, hst.ne h.2.2.2.1 na, hst.ne h.2.2.2.2.1 nb, hst.ne h.2.2.2.2.2 nc⟩, hide ⟨Oa.out, Ob.out, Oc.out, Ba.out, Bb.out, Bc.out⟩, fun _ h => h.1, fun _ h => h.2.1, fun _ h => h.2.2.1, fun _ h => h.2.2.2.1, fun _ h => h.2.2.2.2.1, fun _ h => h.2.2.2.2.2⟩
  clear Oa Ob Oc Ba Bb Bc
  refine wp_cutK (α := (List Int × Bool × Option Addr × Nat) × (List Int × Bool × Option Addr × Nat) × (List Int × Bool × Option Addr × Nat) × (Nat) × (Nat) × (Nat)) (fun ((lx, sx, Ax, cx), (ly, sy, Ay, cy), (lz, sz, Az, cz), Nt, Nu, Nv) => [(0, .agg #[.slice Aa la.length ca, .bool sa]), (1, .agg #[.slice Ab lb.length cb, .bool sb]), (2, .agg #[.slice Ac lc.length cc, .bool sc]), (3, .int .i64 m), (4, .int .i64 n), (5, .int .i64 v), (6, .pointer (some ⟨Na, 0, none⟩)), (7, .pointer (some ⟨Nb, 0, none⟩)), (8, .pointer (some ⟨Nc, 0, none⟩)), (12, .bool false), (22, .agg #[.slice Aa la.length ca, .bool sa]), (23, .agg #[.slice Ab lb.length cb, .bool sb]), (24, .agg #[.slice Ac lc.length cc, .bool sc]), (25, .slice (some ⟨NV4, 0, none⟩) 3 3), (26, .bool false), (28, .agg #[.slice Aa la.length ca, .bool sa]), (30, .agg #[.slice Ab lb.length cb, .bool sb]), (32, .agg #[.slice Ac lc.length cc, .bool sc]), (29, .agg #[.slice Ax lx.length cx, .bool sx]), (31, .agg #[.slice Ay ly.length cy, .bool sy]), (33, .agg #[.slice Az lz.length cz, .bool sz]), (13, .pointer (some ⟨Nu, 0, none⟩)), (14, .pointer (some ⟨Nv, 0, none⟩)), (15, .pointer (some ⟨Nt, 0, none⟩))]) (fun ((lx, sx, Ax, cx), (ly, sy, Ay, cy), (lz, sz, Az, cz), Nt, Nu, Nv) W => Below w.heap.size w W ∧ Hid (Pr1 W) ∧ Hid ((⟨lx, sx⟩ : Vc) = ⟨la, sa⟩) ∧ Hid (RQ W Ax lx) ∧ Hid (lx.length ≤ cx ∧ cx ≤ maxLen) ∧ Hid (lx.length ≤ 4096) ∧ Hid (By lx) ∧ Hid ((⟨ly, sy⟩ : Vc) = ⟨lb, sb⟩) ∧ Hid (RQ W Ay ly) ∧ Hid (ly.length ≤ cy ∧ cy ≤ maxLen) ∧ Hid (ly.length ≤ 4096) ∧ Hid (By ly) ∧ Hid ((⟨lz, sz⟩ : Vc) = ⟨lc, sc⟩) ∧ Hid (RQ W Az lz) ∧ Hid (lz.length ≤ cz ∧ cz ≤ maxLen) ∧ Hid (lz.length ≤ 4096) ∧ Hid (By lz) ∧ Hid (Box Nt Az lz.length cz sz W) ∧ Hid (Box Nu Ax lx.length cx sx W) ∧ Hid (Box Nv Ay ly.length cy sy W) ∧ w.heap.size ≤ Nt ∧ w.heap.size ≤ Nu ∧ w.heap.size ≤ Nv) ?_ ?_
  refine region_R (n := 9) (N := 12) (by kernel_rfl) (by kernel_rfl) (by kernel_rfl) (by kernel_rfl) (by kernel_rfl) (by kernel_rfl) (fun _ _ _ _ _ h => h) ?_
  intro F hQ
  have HC0 := HC1
  refine anyR_ldvec (i := 0) (m' := 1) (q1_a _ HC0.out) F hQ rfl rfl (by kernel_rfl) (by kernel_rfl) (by kernel_rfl) (by kernel_rfl) (by kernel_rfl) rfl (by kernel_rfl) (anyR_ldvec (i := 2) (m' := 5) (q1_b _ HC0.out) F hQ rfl rfl (by kernel_rfl) (by kernel_rfl) (by kernel_rfl) (by kernel_rfl) (by kernel_rfl) rfl (by kernel_rfl) (anyR_ldvec (i := 4) (m' := 21) (q1_c _ HC0.out) F hQ rfl rfl (by kernel_rfl) (by kernel_rfl) (by kernel_rfl) (by kernel_rfl) (by kernel_rfl) rfl (by kernel_rfl) ?_))
  refine gen_anyR (fun G hG => ?_)
  have St511 : ∀ (lx : List Int) (sx : Bool) (Ax : Option Addr) (cx : Nat) (ly : List Int) (sy : Bool) (Ay : Option Addr) (cy : Nat) (lz : List Int) (sz : Bool) (Az : Option Addr) (cz : Nat) (Nt : Nat) (Nu : Nat) (Nv : Nat) (W : World), Below w.heap.size w W → Hid (Pr1 W) → Hid ((⟨lx, sx⟩ : Vc) = ⟨la, sa⟩) → Hid (RQ W Ax lx) → Hid (lx.length ≤ cx ∧ cx ≤ maxLen) → Hid (lx.length ≤ 4096) → Hid (By lx) → Hid ((⟨ly, sy⟩ : Vc) = ⟨lb, sb⟩) → Hid (RQ W Ay ly) → Hid (ly.length ≤ cy ∧ cy ≤ maxLen) → Hid (ly.length ≤ 4096) → Hid (By ly) → Hid ((⟨lz, sz⟩ : Vc) = ⟨lc, sc⟩) → Hid (RQ W Az lz) → Hid (lz.length ≤ cz ∧ cz ≤ maxLen) → Hid (lz.length ≤ 4096) → Hid (By lz) → Hid (Box Nt none 0 0 false W) → w.heap.size ≤ Nt → Hid (Box Nu none 0 0 false W) → w.heap.size ≤ Nu → Hid (Box Nv none 0 0 false W) → w.heap.size ≤ Nv → Na ≠ Nt → Nb ≠ Nt → Nc ≠ Nt → Na ≠ Nu → Nb ≠ Nu → Nc ≠ Nu → Nt ≠ Nu → Na ≠ Nv → Nb ≠ Nv → Nc ≠ Nv → Nt ≠ Nv → Nu ≠ Nv → G 3 511 [(13, .pointer (some ⟨Nu, 0, none⟩)), (14, .pointer (some ⟨Nv, 0, none⟩)), (15, .pointer (some ⟨Nt, 0, none⟩)), (29, .agg #[.slice Ax lx.length cx, .bool sx]), (31, .agg #[.slice Ay ly.length cy, .bool sy]), (33, .agg #[.slice Az lz.length cz, .bool sz])] W := by
    intro lx sx Ax cx ly sy Ay cy lz sz Az cz Nt Nu Nv W hU HC1 Ex Ox Cx Lx Yx Ey Oy Cy Ly Yy Ez Oz Cz Lz Yz Bt hzt Bu hzu Bv hzv neat nebt nect neau nebu necu netu neav nebv necv netv neuv
    refine (hG _ _ _ _).2 ?_
    refine anyR_e ?_
    refine anyE_st (i := 9) (m' := 1023) Bu.out rfl rfl (by kernel_rfl) (by kernel_rfl) (by kernel_rfl) (by kernel_rfl) rfl (by kernel_rfl) (A2 := Ax) (m2 := lx.length) (c2 := cx) (s2 := sx) (by kernel_rfl) ?_
    intro w77 hst
    replace Ox := hide (hst.rq Ox.out)
    replace Oy := hide (hst.rq Oy.out)
    replace Oz := hide (hst.rq Oz.out)
    replace HC1 := hide (HS1 hst neau nebu necu HC1.out)
    replace Bt := hide (hst.ne Bt.out (by first | exact netu | exact (Ne.symm neut) | assumption | (exact Ne.symm (by assumption)) | omega))
    replace Bv := hide (hst.ne Bv.out (by first | exact nevu | exact (Ne.symm neuv) | assumption | (exact Ne.symm (by assumption)) | omega))
    replace Bu := hide hst.box
    replace hU := hU.trans (hst.bel hzu)
    clear hst
    refine anyE_st (i := 10) (m' := 2047) Bv.out rfl rfl (by kernel_rfl) (by kernel_rfl) (by kernel_rfl) (by kernel_rfl) rfl (by kernel_rfl) (A2 := Ay) (m2 := ly.length) (c2 := cy) (s2 := sy) (by kernel_rfl) ?_
    intro w78 hst
    replace Ox := hide (hst.rq Ox.out)
    replace Oy := hide (hst.rq Oy.out)
    replace Oz := hide (hst.rq Oz.out)
    replace HC1 := hide (HS1 hst neav nebv necv HC1.out)
    replace Bt := hide (hst.ne Bt.out (by first | exact netv | exact (Ne.symm nevt) | assumption | (exact Ne.symm (by assumption)) | omega))
    replace Bu := hide (hst.ne Bu.out (by first | exact neuv | exact (Ne.symm nevu) | assumption | (exact Ne.symm (by assumption)) | omega))
    replace Bv := hide hst.box
    replace hU := hU.trans (hst.bel hzv)
    clear hst
    refine anyE_st (i := 11) (m' := 4095) Bt.out rfl rfl (by kernel_rfl) (by kernel_rfl) (by kernel_rfl) (by kernel_rfl) rfl (by kernel_rfl) (A2 := Az) (m2 := lz.length) (c2 := cz) (s2 := sz) (by kernel_rfl) ?_
    intro w79 hst
    replace Ox := hide (hst.rq Ox.out)
    replace Oy := hide (hst.rq Oy.out)
    replace Oz := hide (hst.rq Oz.out)
    replace HC1 := hide (HS1 hst neat nebt nect HC1.out)
    replace Bu := hide (hst.ne Bu.out (by first | exact neut | exact (Ne.symm netu) | assumption | (exact Ne.symm (by assumption)) | omega))
    replace Bv := hide (hst.ne Bv.out (by first | exact nevt | exact (Ne.symm netv) | assumption | (exact Ne.symm (by assumption)) | omega))
    replace Bt := hide hst.box
    replace hU := hU.trans (hst.bel hzt)
    clear hst
    refine anyE_done (by kernel_rfl) ?_
    refine then_normal ⟨((lx, sx, Ax, cx), (ly, sy, Ay, cy), (lz, sz, Az, cz), Nt, Nu, Nv), _, rfl, Kp_c (by kernel_rfl) (Kp_c (by kernel_rfl) (Kp_c (by kernel_rfl) (Kp_c (by kernel_rfl) (Kp_c (by kernel_rfl) (Kp_c (by kernel_rfl) (Kp_c (by kernel_rfl) (Kp_c (by kernel_rfl) (Kp_c (by kernel_rfl) (Kp_c (by kernel_rfl) (Kp_c (by kernel_rfl) (Kp_c (by kernel_rfl) (Kp_c (by kernel_rfl) (Kp_c (by kernel_rfl) (Kp_c (by kernel_rfl) (Kp_c (by kernel_rfl) (Kp_c (by kernel_rfl) (Kp_c (by kernel_rfl) (Kp_c (by kernel_rfl) (Kp_c (by kernel_rfl) (Kp_c (by kernel_rfl) (Kp_c (by kernel_rfl) (Kp_c (by kernel_rfl) (Kp_c (by kernel_rfl) (Kp_n)))))))))))))))))))))))), ?_⟩
    dsimp only
    exact ⟨hU, HC1, Ex, Ox, Cx, Lx, Yx, Ey, Oy, Cy, Ly, Yy, Ez, Oz, Cz, Lz, Yz, Bt, Bu, Bv, hzt, hzu, hzv⟩
  have St255 : ∀ (lx : List Int) (sx : Bool) (Ax : Option Addr) (cx : Nat) (ly : List Int) (sy : Bool) (Ay : Option Addr) (cy : Nat) (lz : List Int) (sz : Bool) (Az : Option Addr) (cz : Nat) (Nu : Nat) (Nv : Nat) (W : World), Below w.heap.size w W → Hid (Pr1 W) → Hid ((⟨lx, sx⟩ : Vc) = ⟨la, sa⟩) → Hid (RQ W Ax lx) → Hid (lx.length ≤ cx ∧ cx ≤ maxLen) → Hid (lx.length ≤ 4096) → Hid (By lx) → Hid ((⟨ly, sy⟩ : Vc) = ⟨lb, sb⟩) → Hid (RQ W Ay ly) → Hid (ly.length ≤ cy ∧ cy ≤ maxLen) → Hid (ly.length ≤ 4096) → Hid (By ly) → Hid ((⟨lz, sz⟩ : Vc) = ⟨lc, sc⟩) → Hid (RQ W Az lz) → Hid (lz.length ≤ cz ∧ cz ≤ maxLen) → Hid (lz.length ≤ 4096) → Hid (By lz) → Hid (Box Nu none 0 0 false W) → w.heap.size ≤ Nu → Hid (Box Nv none 0 0 false W) → w.heap.size ≤ Nv → Na ≠ Nu → Nb ≠ Nu → Nc ≠ Nu → Na ≠ Nv → Nb ≠ Nv → Nc ≠ Nv → Nu ≠ Nv → G 4 255 [(13, .pointer (some ⟨Nu, 0, none⟩)), (14, .pointer (some ⟨Nv, 0, none⟩)), (29, .agg #[.slice Ax lx.length cx, .bool sx]), (31, .agg #[.slice Ay ly.length cy, .bool sy]), (33, .agg #[.slice Az lz.length cz, .bool sz])] W := by
    intro lx sx Ax cx ly sy Ay cy lz sz Az cz Nu Nv W hU HC1 Ex Ox Cx Lx Yx Ey Oy Cy Ly Yy Ez Oz Cz Lz Yz Bu hzu Bv hzv neau nebu necu neav nebv necv neuv
    refine (hG _ _ _ _).2 ?_
    refine anyR_split [8] (by kernel_rfl) rfl ⟨?_, trivial⟩
    refine stepR_al (i := 8) (m' := 511) rfl rfl (by kernel_rfl) (by kernel_rfl) (by kernel_rfl) rfl ?_
    intro w73 Nt Bt hNt hb
    replace Bt := hide Bt
    have neat : Na ≠ Nt := by have := (q1_a _ HC1.out).lt; omega
    have nebt : Nb ≠ Nt := by have := (q1_b _ HC1.out).lt; omega
    have nect : Nc ≠ Nt := by have := (q1_c _ HC1.out).lt; omega
    have neut : Nu ≠ Nt := by have := Bu.out.lt; omega
    have nevt : Nv ≠ Nt := by have := Bv.out.lt; omega
    replace HC1 := hide (HM1 _ _ HC1.out hb)
    replace Ox := hide (RQ.below Ox.out hb)
    replace Oy := hide (RQ.below Oy.out hb)
    replace Oz := hide (RQ.below Oz.out hb)
    replace Bu := hide (Box.kept Bu.out hb)
    replace Bv := hide (Box.kept Bv.out hb)
    have hzt : w.heap.size ≤ Nt := Nat.le_trans hU.size hNt
    clear hNt
    replace hU := hU.trans (hb.mono hU.size)
    clear hb
    exact permG hG (by kernel_rfl) (St511 _ _ _ _ _ _ _ _ _ _ _ _ _ _ _ _ hU HC1 Ex Ox Cx Lx Yx Ey Oy Cy Ly Yy Ez Oz Cz Lz Yz Bt hzt Bu hzu Bv hzv (by first | exact neat | exact Ne.symm neta) (by first | exact nebt | exact Ne.symm netb) (by first | exact nect | exact Ne.symm netc) (by first | exact neau | exact Ne.symm neua) (by first | exact nebu | exact Ne.symm neub) (by first | exact necu | exact Ne.symm neuc) (by first | exact netu | exact Ne.symm neut) (by first | exact neav | exact Ne.symm neva) (by first | exact nebv | exact Ne.symm nevb) (by first | exact necv | exact Ne.symm nevc) (by first | exact netv | exact Ne.symm nevt) (by first | exact neuv | exact Ne.symm nevu))
  have St383 : ∀ (lx : List Int) (sx : Bool) (Ax : Option Addr) (cx : Nat) (ly : List Int) (sy : Bool) (Ay : Option Addr) (cy : Nat) (lz : List Int) (sz : Bool) (Az : Option Addr) (cz : Nat) (Nt : Nat) (Nu : Nat) (W : World), Below w.heap.size w W → Hid (Pr1 W) → Hid ((⟨lx, sx⟩ : Vc) = ⟨la, sa⟩) → Hid (RQ W Ax lx) → Hid (lx.length ≤ cx ∧ cx ≤ maxLen) → Hid (lx.length ≤ 4096) → Hid (By lx) → Hid ((⟨ly, sy⟩ : Vc) = ⟨lb, sb⟩) → Hid (RQ W Ay ly) → Hid (ly.length ≤ cy ∧ cy ≤ maxLen) → Hid (ly.length ≤ 4096) → Hid (By ly) → Hid ((⟨lz, sz⟩ : Vc) = ⟨lc, sc⟩) → Hid (RQ W Az lz) → Hid (lz.length ≤ cz ∧ cz ≤ maxLen) → Hid (lz.length ≤ 4096) → Hid (By lz) → Hid (Box Nt none 0 0 false W) → w.heap.size ≤ Nt → Hid (Box Nu none 0 0 false W) → w.heap.size ≤ Nu → Na ≠ Nt → Nb ≠ Nt → Nc ≠ Nt → Na ≠ Nu → Nb ≠ Nu → Nc ≠ Nu → Nt ≠ Nu → G 4 383 [(13, .pointer (some ⟨Nu, 0, none⟩)), (15, .pointer (some ⟨Nt, 0, none⟩)), (29, .agg #[.slice Ax lx.length cx, .bool sx]), (31, .agg #[.slice Ay ly.length cy, .bool sy]), (33, .agg #[.slice Az lz.length cz, .bool sz])] W := by
    intro lx sx Ax cx ly sy Ay cy lz sz Az cz Nt Nu W hU HC1 Ex Ox Cx Lx Yx Ey Oy Cy Ly Yy Ez Oz Cz Lz Yz Bt hzt Bu hzu neat nebt nect neau nebu necu netu
    refine (hG _ _ _ _).2 ?_
    refine anyR_split [7] (by kernel_rfl) rfl ⟨?_, trivial⟩
    refine stepR_al (i := 7) (m' := 511) rfl rfl (by kernel_rfl) (by kernel_rfl) (by kernel_rfl) rfl ?_
    intro w74 Nv Bv hNv hb
    replace Bv := hide Bv
    have neav : Na ≠ Nv := by have := (q1_a _ HC1.out).lt; omega
    have nebv : Nb ≠ Nv := by have := (q1_b _ HC1.out).lt; omega
    have necv : Nc ≠ Nv := by have := (q1_c _ HC1.out).lt; omega
    have netv : Nt ≠ Nv := by have := Bt.out.lt; omega
    have neuv : Nu ≠ Nv := by have := Bu.out.lt; omega
    replace HC1 := hide (HM1 _ _ HC1.out hb)
    replace Ox := hide (RQ.below Ox.out hb)
    replace Oy := hide (RQ.below Oy.out hb)
    replace Oz := hide (RQ.below Oz.out hb)
    replace Bt := hide (Box.kept Bt.out hb)
    replace Bu := hide (Box.kept Bu.out hb)
    have hzv : w.heap.size ≤ Nv := Nat.le_trans hU.size hNv
    clear hNv
    replace hU := hU.trans (hb.mono hU.size)
    clear hb
    exact permG hG (by kernel_rfl) (St511 _ _ _ _ _ _ _ _ _ _ _ _ _ _ _ _ hU HC1 Ex Ox Cx Lx Yx Ey Oy Cy Ly Yy Ez Oz Cz Lz Yz Bt hzt Bu hzu Bv hzv (by first | exact neat | exact Ne.symm neta) (by first | exact nebt | exact Ne.symm netb) (by first | exact nect | exact Ne.symm netc) (by first | exact neau | exact Ne.symm neua) (by first | exact nebu | exact Ne.symm neub) (by first | exact necu | exact Ne.symm neuc) (by first | exact netu | exact Ne.symm neut) (by first | exact neav | exact Ne.symm neva) (by first | exact nebv | exact Ne.symm nevb) (by first | exact necv | exact Ne.symm nevc) (by first | exact netv | exact Ne.symm nevt) (by first | exact neuv | exact Ne.symm nevu))
  have St447 : ∀ (lx : List Int) (sx : Bool) (Ax : Option Addr) (cx : Nat) (ly : List Int) (sy : Bool) (Ay : Option Addr) (cy : Nat) (lz : List Int) (sz : Bool) (Az : Option Addr) (cz : Nat) (Nt : Nat) (Nv : Nat) (W : World), Below w.heap.size w W → Hid (Pr1 W) → Hid ((⟨lx, sx⟩ : Vc) = ⟨la, sa⟩) → Hid (RQ W Ax lx) → Hid (lx.length ≤ cx ∧ cx ≤ maxLen) → Hid (lx.length ≤ 4096) → Hid (By lx) → Hid ((⟨ly, sy⟩ : Vc) = ⟨lb, sb⟩) → Hid (RQ W Ay ly) → Hid (ly.length ≤ cy ∧ cy ≤ maxLen) → Hid (ly.length ≤ 4096) → Hid (By ly) → Hid ((⟨lz, sz⟩ : Vc) = ⟨lc, sc⟩) → Hid (RQ W Az lz) → Hid (lz.length ≤ cz ∧ cz ≤ maxLen) → Hid (lz.length ≤ 4096) → Hid (By lz) → Hid (Box Nt none 0 0 false W) → w.heap.size ≤ Nt → Hid (Box Nv none 0 0 false W) → w.heap.size ≤ Nv → Na ≠ Nt → Nb ≠ Nt → Nc ≠ Nt → Na ≠ Nv → Nb ≠ Nv → Nc ≠ Nv → Nt ≠ Nv → G 4 447 [(14, .pointer (some ⟨Nv, 0, none⟩)), (15, .pointer (some ⟨Nt, 0, none⟩)), (29, .agg #[.slice Ax lx.length cx, .bool sx]), (31, .agg #[.slice Ay ly.length cy, .bool sy]), (33, .agg #[.slice Az lz.length cz, .bool sz])] W := by
    intro lx sx Ax cx ly sy Ay cy lz sz Az cz Nt Nv W hU HC1 Ex Ox Cx Lx Yx Ey Oy Cy Ly Yy Ez Oz Cz Lz Yz Bt hzt Bv hzv neat nebt nect neav nebv necv netv
    refine (hG _ _ _ _).2 ?_
    refine anyR_split [6] (by kernel_rfl) rfl ⟨?_, trivial⟩
    refine stepR_al (i := 6) (m' := 511) rfl rfl (by kernel_rfl) (by kernel_rfl) (by kernel_rfl) rfl ?_
    intro w75 Nu Bu hNu hb
    replace Bu := hide Bu
    have neau : Na ≠ Nu := by have := (q1_a _ HC1.out).lt; omega
    have nebu : Nb ≠ Nu := by have := (q1_b _ HC1.out).lt; omega
    have necu : Nc ≠ Nu := by have := (q1_c _ HC1.out).lt; omega
    have netu : Nt ≠ Nu := by have := Bt.out.lt; omega
    have nevu : Nv ≠ Nu := by have := Bv.out.lt; omega
    replace HC1 := hide (HM1 _ _ HC1.out hb)
    replace Ox := hide (RQ.below Ox.out hb)
    replace Oy := hide (RQ.below Oy.out hb)
    replace Oz := hide (RQ.below Oz.out hb)
    replace Bt := hide (Box.kept Bt.out hb)
    replace Bv := hide (Box.kept Bv.out hb)
    have hzu : w.heap.size ≤ Nu := Nat.le_trans hU.size hNu
    clear hNu
    replace hU := hU.trans (hb.mono hU.size)
    clear hb
    exact permG hG (by kernel_rfl) (St511 _ _ _ _ _ _ _ _ _ _ _ _ _ _ _ _ hU HC1 Ex Ox Cx Lx Yx Ey Oy Cy Ly Yy Ez Oz Cz Lz Yz Bt hzt Bu hzu Bv hzv (by first | exact neat | exact Ne.symm neta) (by first | exact nebt | exact Ne.symm netb) (by first | exact nect | exact Ne.symm netc) (by first | exact neau | exact Ne.symm neua) (by first | exact nebu | exact Ne.symm neub) (by first | exact necu | exact Ne.symm neuc) (by first | exact netu | exact Ne.symm neut) (by first | exact neav | exact Ne.symm neva) (by first | exact nebv | exact Ne.symm nevb) (by first | exact necv | exact Ne.symm nevc) (by first | exact netv | exact Ne.symm nevt) (by first | exact neuv | exact Ne.symm nevu))
  have St479 : ∀ (lx : List Int) (sx : Bool) (Ax : Option Addr) (cx : Nat) (ly : List Int) (sy : Bool) (Ay : Option Addr) (cy : Nat) (Nt : Nat) (Nu : Nat) (Nv : Nat) (W : World), Below w.heap.size w W → Hid (Pr1 W) → Hid ((⟨lx, sx⟩ : Vc) = ⟨la, sa⟩) → Hid (RQ W Ax lx) → Hid (lx.length ≤ cx ∧ cx ≤ maxLen) → Hid (lx.length ≤ 4096) → Hid (By lx) → Hid ((⟨ly, sy⟩ : Vc) = ⟨lb, sb⟩) → Hid (RQ W Ay ly) → Hid (ly.length ≤ cy ∧ cy ≤ maxLen) → Hid (ly.length ≤ 4096) → Hid (By ly) → Hid (Box Nt none 0 0 false W) → w.heap.size ≤ Nt → Hid (Box Nu none 0 0 false W) → w.heap.size ≤ Nu → Hid (Box Nv none 0 0 false W) → w.heap.size ≤ Nv → Na ≠ Nt → Nb ≠ Nt → Nc ≠ Nt → Na ≠ Nu → Nb ≠ Nu → Nc ≠ Nu → Nt ≠ Nu → Na ≠ Nv → Nb ≠ Nv → Nc ≠ Nv → Nt ≠ Nv → Nu ≠ Nv → G 4 479 [(13, .pointer (some ⟨Nu, 0, none⟩)), (14, .pointer (some ⟨Nv, 0, none⟩)), (15, .pointer (some ⟨Nt, 0, none⟩)), (29, .agg #[.slice Ax lx.length cx, .bool sx]), (31, .agg #[.slice Ay ly.length cy, .bool sy])] W := by
    intro lx sx Ax cx ly sy Ay cy Nt Nu Nv W hU HC1 Ex Ox Cx Lx Yx Ey Oy Cy Ly Yy Bt hzt Bu hzu Bv hzv neat nebt nect neau nebu necu netu neav nebv necv netv neuv
    refine (hG _ _ _ _).2 ?_
    refine anyR_split [5] (by kernel_rfl) rfl ⟨?_, trivial⟩
    refine stepR_call (i := 5) (m' := 511) rfl rfl (by kernel_rfl) (by kernel_rfl) (by kernel_rfl) (by kernel_rfl) ((vown_any Ac lc cc sc _ Lc.out Cc (p1_c W HC1.out) Yc.out).mono ?_)
    rintro e w76 ⟨lz, sz, Az, cz, Ez, rfl, Cz, Oz, hb⟩
    refine ⟨_, rfl, hb, ?_⟩
    replace HC1 := hide (HM1 _ _ HC1.out hb)
    replace Ox := hide (RQ.below Ox.out hb)
    replace Oy := hide (RQ.below Oy.out hb)
    replace Bt := hide (Box.kept Bt.out hb)
    replace Bu := hide (Box.kept Bu.out hb)
    replace Bv := hide (Box.kept Bv.out hb)
    replace Oz := hide Oz.out.rd
    replace hU := hU.trans (hb.mono hU.size)
    clear hb
    have g : By lz ∧ lz.length ≤ 4096 := by have h := congrArg Vc.b Ez.out; dsimp only at h; rw [h]; exact ⟨Yc.out, Lc.out⟩
    have Lz := hide g.2
    have Yz := hide g.1
    clear g
    exact permG hG (by kernel_rfl) (St511 _ _ _ _ _ _ _ _ _ _ _ _ _ _ _ _ hU HC1 Ex Ox Cx Lx Yx Ey Oy Cy Ly Yy Ez Oz Cz Lz Yz Bt hzt Bu hzu Bv hzv (by first | exact neat | exact Ne.symm neta) (by first | exact nebt | exact Ne.symm netb) (by first | exact nect | exact Ne.symm netc) (by first | exact neau | exact Ne.symm neua) (by first | exact nebu | exact Ne.symm neub) (by first | exact necu | exact Ne.symm neuc) (by first | exact netu | exact Ne.symm neut) (by first | exact neav | exact Ne.symm neva) (by first | exact nebv | exact Ne.symm nevb) (by first | exact necv | exact Ne.symm nevc) (by first | exact netv | exact Ne.symm nevt) (by first | exact neuv | exact Ne.symm nevu))
  have St127 : ∀ (lx : List Int) (sx : Bool) (Ax : Option Addr) (cx : Nat) (ly : List Int) (sy : Bool) (Ay : Option Addr) (cy : Nat) (lz : List Int) (sz : Bool) (Az : Option Addr) (cz : Nat) (Nu : Nat) (W : World), Below w.heap.size w W → Hid (Pr1 W) → Hid ((⟨lx, sx⟩ : Vc) = ⟨la, sa⟩) → Hid (RQ W Ax lx) → Hid (lx.length ≤ cx ∧ cx ≤ maxLen) → Hid (lx.length ≤ 4096) → Hid (By lx) → Hid ((⟨ly, sy⟩ : Vc) = ⟨lb, sb⟩) → Hid (RQ W Ay ly) → Hid (ly.length ≤ cy ∧ cy ≤ maxLen) → Hid (ly.length ≤ 4096) → Hid (By ly) → Hid ((⟨lz, sz⟩ : Vc) = ⟨lc, sc⟩) → Hid (RQ W Az lz) → Hid (lz.length ≤ cz ∧ cz ≤ maxLen) → Hid (lz.length ≤ 4096) → Hid (By lz) → Hid (Box Nu none 0 0 false W) → w.heap.size ≤ Nu → Na ≠ Nu → Nb ≠ Nu → Nc ≠ Nu → G 5 127 [(13, .pointer (some ⟨Nu, 0, none⟩)), (29, .agg #[.slice Ax lx.length cx, .bool sx]), (31, .agg #[.slice Ay ly.length cy, .bool sy]), (33, .agg #[.slice Az lz.length cz, .bool sz])] W := by
    intro lx sx Ax cx ly sy Ay cy lz sz Az cz Nu W hU HC1 Ex Ox Cx Lx Yx Ey Oy Cy Ly Yy Ez Oz Cz Lz Yz Bu hzu neau nebu necu
    refine (hG _ _ _ _).2 ?_
    refine anyR_split [7, 8] (by kernel_rfl) rfl ⟨?_, ?_, trivial⟩
    refine stepR_al (i := 7) (m' := 255) rfl rfl (by kernel_rfl) (by kernel_rfl) (by kernel_rfl) rfl ?_
    intro w60 Nv Bv hNv hb
    replace Bv := hide Bv
    have neav : Na ≠ Nv := by have := (q1_a _ HC1.out).lt; omega
    have nebv : Nb ≠ Nv := by have := (q1_b _ HC1.out).lt; omega
    have necv : Nc ≠ Nv := by have := (q1_c _ HC1.out).lt; omega
    have neuv : Nu ≠ Nv := by have := Bu.out.lt; omega
    replace HC1 := hide (HM1 _ _ HC1.out hb)
    replace Ox := hide (RQ.below Ox.out hb)
    replace Oy := hide (RQ.below Oy.out hb)
    replace Oz := hide (RQ.below Oz.out hb)
    replace Bu := hide (Box.kept Bu.out hb)
    have hzv : w.heap.size ≤ Nv := Nat.le_trans hU.size hNv
    clear hNv
    replace hU := hU.trans (hb.mono hU.size)
    clear hb
    exact permG hG (by kernel_rfl) (St255 _ _ _ _ _ _ _ _ _ _ _ _ _ _ _ hU HC1 Ex Ox Cx Lx Yx Ey Oy Cy Ly Yy Ez Oz Cz Lz Yz Bu hzu Bv hzv (by first | exact neau | exact Ne.symm neua) (by first | exact nebu | exact Ne.symm neub) (by first | exact necu | exact Ne.symm neuc) (by first | exact neav | exact Ne.symm neva) (by first | exact nebv | exact Ne.symm nevb) (by first | exact necv | exact Ne.symm nevc) (by first | exact neuv | exact Ne.symm nevu))
    refine stepR_al (i := 8) (m' := 383) rfl rfl (by kernel_rfl) (by kernel_rfl) (by kernel_rfl) rfl ?_
    intro w61 Nt Bt hNt hb
    replace Bt := hide Bt
    have neat : Na ≠ Nt := by have := (q1_a _ HC1.out).lt; omega
    have nebt : Nb ≠ Nt := by have := (q1_b _ HC1.out).lt; omega
    have nect : Nc ≠ Nt := by have := (q1_c _ HC1.out).lt; omega
    have neut : Nu ≠ Nt := by have := Bu.out.lt; omega
    replace HC1 := hide (HM1 _ _ HC1.out hb)
    replace Ox := hide (RQ.below Ox.out hb)
    replace Oy := hide (RQ.below Oy.out hb)
    replace Oz := hide (RQ.below Oz.out hb)
    replace Bu := hide (Box.kept Bu.out hb)
    have hzt : w.heap.size ≤ Nt := Nat.le_trans hU.size hNt
    clear hNt
    replace hU := hU.trans (hb.mono hU.size)
    clear hb
    exact permG hG (by kernel_rfl) (St383 _ _ _ _ _ _ _ _ _ _ _ _ _ _ _ hU HC1 Ex Ox Cx Lx Yx Ey Oy Cy Ly Yy Ez Oz Cz Lz Yz Bt hzt Bu hzu (by first | exact neat | exact Ne.symm neta) (by first | exact nebt | exact Ne.symm netb) (by first | exact nect | exact Ne.symm netc) (by first | exact neau | exact Ne.symm neua) (by first | exact nebu | exact Ne.symm neub) (by first | exact necu | exact Ne.symm neuc) (by first | exact netu | exact Ne.symm neut))
  have St191 : ∀ (lx : List Int) (sx : Bool) (Ax : Option Addr) (cx : Nat) (ly : List Int) (sy : Bool) (Ay : Option Addr) (cy : Nat) (lz : List Int) (sz : Bool) (Az : Option Addr) (cz : Nat) (Nv : Nat) (W : World), Below w.heap.size w W → Hid (Pr1 W) → Hid ((⟨lx, sx⟩ : Vc) = ⟨la, sa⟩) → Hid (RQ W Ax lx) → Hid (lx.length ≤ cx ∧ cx ≤ maxLen) → Hid (lx.length ≤ 4096) → Hid (By lx) → Hid ((⟨ly, sy⟩ : Vc) = ⟨lb, sb⟩) → Hid (RQ W Ay ly) → Hid (ly.length ≤ cy ∧ cy ≤ maxLen) → Hid (ly.length ≤ 4096) → Hid (By ly) → Hid ((⟨lz, sz⟩ : Vc) = ⟨lc, sc⟩) → Hid (RQ W Az lz) → Hid (lz.length ≤ cz ∧ cz ≤ maxLen) → Hid (lz.length ≤ 4096) → Hid (By lz) → Hid (Box Nv none 0 0 false W) → w.heap.size ≤ Nv → Na ≠ Nv → Nb ≠ Nv → Nc ≠ Nv → G 5 191 [(14, .pointer (some ⟨Nv, 0, none⟩)), (29, .agg #[.slice Ax lx.length cx, .bool sx]), (31, .agg #[.slice Ay ly.length cy, .bool sy]), (33, .agg #[.slice Az lz.length cz, .bool sz])] W := by
    intro lx sx Ax cx ly sy Ay cy lz sz Az cz Nv W hU HC1 Ex Ox Cx Lx Yx Ey Oy Cy Ly Yy Ez Oz Cz Lz Yz Bv hzv neav nebv necv
    refine (hG _ _ _ _).2 ?_
    refine anyR_split [6, 8] (by kernel_rfl) rfl ⟨?_, ?_, trivial⟩
    refine stepR_al (i := 6) (m' := 255) rfl rfl (by kernel_rfl) (by kernel_rfl) (by kernel_rfl) rfl ?_
    intro w62 Nu Bu hNu hb
    replace Bu := hide Bu
    have neau : Na ≠ Nu := by have := (q1_a _ HC1.out).lt; omega
    have nebu : Nb ≠ Nu := by have := (q1_b _ HC1.out).lt; omega
    have necu : Nc ≠ Nu := by have := (q1_c _ HC1.out).lt; omega
    have nevu : Nv ≠ Nu := by have := Bv.out.lt; omega
    replace HC1 := hide (HM1 _ _ HC1.out hb)
    replace Ox := hide (RQ.below Ox.out hb)
    replace Oy := hide (RQ.below Oy.out hb)
    replace Oz := hide (RQ.below Oz.out hb)
    replace Bv := hide (Box.kept Bv.out hb)
    have hzu : w.heap.size ≤ Nu := Nat.le_trans hU.size hNu
    clear hNu
    replace hU := hU.trans (hb.mono hU.size)
    clear hb
    exact permG hG (by kernel_rfl) (St255 _ _ _ _ _ _ _ _ _ _ _ _ _ _ _ hU HC1 Ex Ox Cx Lx Yx Ey Oy Cy Ly Yy Ez Oz Cz Lz Yz Bu hzu Bv hzv (by first | exact neau | exact Ne.symm neua) (by first | exact nebu | exact Ne.symm neub) (by first | exact necu | exact Ne.symm neuc) (by first | exact neav | exact Ne.symm neva) (by first | exact nebv | exact Ne.symm nevb) (by first | exact necv | exact Ne.symm nevc) (by first | exact neuv | exact Ne.symm nevu))
    refine stepR_al (i := 8) (m' := 447) rfl rfl (by kernel_rfl) (by kernel_rfl) (by kernel_rfl) rfl ?_
    intro w63 Nt Bt hNt hb
    replace Bt := hide Bt
    have neat : Na ≠ Nt := by have := (q1_a _ HC1.out).lt; omega
    have nebt : Nb ≠ Nt := by have := (q1_b _ HC1.out).lt; omega
    have nect : Nc ≠ Nt := by have := (q1_c _ HC1.out).lt; omega
    have nevt : Nv ≠ Nt := by have := Bv.out.lt; omega
    replace HC1 := hide (HM1 _ _ HC1.out hb)
    replace Ox := hide (RQ.below Ox.out hb)
    replace Oy := hide (RQ.below Oy.out hb)
    replace Oz := hide (RQ.below Oz.out hb)
    replace Bv := hide (Box.kept Bv.out hb)
    have hzt : w.heap.size ≤ Nt := Nat.le_trans hU.size hNt
    clear hNt
    replace hU := hU.trans (hb.mono hU.size)
    clear hb
    exact permG hG (by kernel_rfl) (St447 _ _ _ _ _ _ _ _ _ _ _ _ _ _ _ hU HC1 Ex Ox Cx Lx Yx Ey Oy Cy Ly Yy Ez Oz Cz Lz Yz Bt hzt Bv hzv (by first | exact neat | exact Ne.symm neta) (by first | exact nebt | exact Ne.symm netb) (by first | exact nect | exact Ne.symm netc) (by first | exact neav | exact Ne.symm neva) (by first | exact nebv | exact Ne.symm nevb) (by first | exact necv | exact Ne.symm nevc) (by first | exact netv | exact Ne.symm nevt))
  have St223 : ∀ (lx : List Int) (sx : Bool) (Ax : Option Addr) (cx : Nat) (ly : List Int) (sy : Bool) (Ay : Option Addr) (cy : Nat) (Nu : Nat) (Nv : Nat) (W : World), Below w.heap.size w W → Hid (Pr1 W) → Hid ((⟨lx, sx⟩ : Vc) = ⟨la, sa⟩) → Hid (RQ W Ax lx) → Hid (lx.length ≤ cx ∧ cx ≤ maxLen) → Hid (lx.length ≤ 4096) → Hid (By lx) → Hid ((⟨ly, sy⟩ : Vc) = ⟨lb, sb⟩) → Hid (RQ W Ay ly) → Hid (ly.length ≤ cy ∧ cy ≤ maxLen) → Hid (ly.length ≤ 4096) → Hid (By ly) → Hid (Box Nu none 0 0 false W) → w.heap.size ≤ Nu → Hid (Box Nv none 0 0 false W) → w.heap.size ≤ Nv → Na ≠ Nu → Nb ≠ Nu → Nc ≠ Nu → Na ≠ Nv → Nb ≠ Nv → Nc ≠ Nv → Nu ≠ Nv → G 5 223 [(13, .pointer (some ⟨Nu, 0, none⟩)), (14, .pointer (some ⟨Nv, 0, none⟩)), (29, .agg #[.slice Ax lx.length cx, .bool sx]), (31, .agg #[.slice Ay ly.length cy, .bool sy])] W := by
    intro lx sx Ax cx ly sy Ay cy Nu Nv W hU HC1 Ex Ox Cx Lx Yx Ey Oy Cy Ly Yy Bu hzu Bv hzv neau nebu necu neav nebv necv neuv
    refine (hG _ _ _ _).2 ?_
    refine anyR_split [5, 8] (by kernel_rfl) rfl ⟨?_, ?_, trivial⟩
    refine stepR_call (i := 5) (m' := 255) rfl rfl (by kernel_rfl) (by kernel_rfl) (by kernel_rfl) (by kernel_rfl) ((vown_any Ac lc cc sc _ Lc.out Cc (p1_c W HC1.out) Yc.out).mono ?_)
    rintro e w66 ⟨lz, sz, Az, cz, Ez, rfl, Cz, Oz, hb⟩
    refine ⟨_, rfl, hb, ?_⟩
    replace HC1 := hide (HM1 _ _ HC1.out hb)
    replace Ox := hide (RQ.below Ox.out hb)
    replace Oy := hide (RQ.below Oy.out hb)
    replace Bu := hide (Box.kept Bu.out hb)
    replace Bv := hide (Box.kept Bv.out hb)
    replace Oz := hide Oz.out.rd
    replace hU := hU.trans (hb.mono hU.size)
    clear hb
    have g : By lz ∧ lz.length ≤ 4096 := by have h := congrArg Vc.b Ez.out; dsimp only at h; rw [h]; exact ⟨Yc.out, Lc.out⟩
    have Lz := hide g.2
    have Yz := hide g.1
    clear g
    exact permG hG (by kernel_rfl) (St255 _ _ _ _ _ _ _ _ _ _ _ _ _ _ _ hU HC1 Ex Ox Cx Lx Yx Ey Oy Cy Ly Yy Ez Oz Cz Lz Yz Bu hzu Bv hzv (by first | exact neau | exact Ne.symm neua) (by first | exact nebu | exact Ne.symm neub) (by first | exact necu | exact Ne.symm neuc) (by first | exact neav | exact Ne.symm neva) (by first | exact nebv | exact Ne.symm nevb) (by first | exact necv | exact Ne.symm nevc) (by first | exact neuv | exact Ne.symm nevu))
    refine stepR_al (i := 8) (m' := 479) rfl rfl (by kernel_rfl) (by kernel_rfl) (by kernel_rfl) rfl ?_
    intro w67 Nt Bt hNt hb
    replace Bt := hide Bt
    have neat : Na ≠ Nt := by have := (q1_a _ HC1.out).lt; omega
    have nebt : Nb ≠ Nt := by have := (q1_b _ HC1.out).lt; omega
    have nect : Nc ≠ Nt := by have := (q1_c _ HC1.out).lt; omega
    have neut : Nu ≠ Nt := by have := Bu.out.lt; omega
    have nevt : Nv ≠ Nt := by have := Bv.out.lt; omega
    replace HC1 := hide (HM1 _ _ HC1.out hb)
    replace Ox := hide (RQ.below Ox.out hb)
    replace Oy := hide (RQ.below Oy.out hb)
    replace Bu := hide (Box.kept Bu.out hb)
    replace Bv := hide (Box.kept Bv.out hb)
    have hzt : w.heap.size ≤ Nt := Nat.le_trans hU.size hNt
    clear hNt
    replace hU := hU.trans (hb.mono hU.size)
    clear hb
    exact permG hG (by kernel_rfl) (St479 _ _ _ _ _ _ _ _ _ _ _ _ hU HC1 Ex Ox Cx Lx Yx Ey Oy Cy Ly Yy Bt hzt Bu hzu Bv hzv (by first | exact neat | exact Ne.symm neta) (by first | exact nebt | exact Ne.symm netb) (by first | exact nect | exact Ne.symm netc) (by first | exact neau | exact Ne.symm neua) (by first | exact nebu | exact Ne.symm neub) (by first | exact necu | exact Ne.symm neuc) (by first | exact netu | exact Ne.symm neut) (by first | exact neav | exact Ne.symm neva) (by first | exact nebv | exact Ne.symm nevb) (by first | exact necv | exact Ne.symm nevc) (by first | exact netv | exact Ne.symm nevt) (by first | exact neuv | exact Ne.symm nevu))
  have St319 : ∀ (lx : List Int) (sx : Bool) (Ax : Option Addr) (cx : Nat) (ly : List Int) (sy : Bool) (Ay : Option Addr) (cy : Nat) (lz : List Int) (sz : Bool) (Az : Option Addr) (cz : Nat) (Nt : Nat) (W : World), Below w.heap.size w W → Hid (Pr1 W) → Hid ((⟨lx, sx⟩ : Vc) = ⟨la, sa⟩) → Hid (RQ W Ax lx) → Hid (lx.length ≤ cx ∧ cx ≤ maxLen) → Hid (lx.length ≤ 4096) → Hid (By lx) → Hid ((⟨ly, sy⟩ : Vc) = ⟨lb, sb⟩) → Hid (RQ W Ay ly) → Hid (ly.length ≤ cy ∧ cy ≤ maxLen) → Hid (ly.length ≤ 4096) → Hid (By ly) → Hid ((⟨lz, sz⟩ : Vc) = ⟨lc, sc⟩) → Hid (RQ W Az lz) → Hid (lz.length ≤ cz ∧ cz ≤ maxLen) → Hid (lz.length ≤ 4096) → Hid (By lz) → Hid (Box Nt none 0 0 false W) → w.heap.size ≤ Nt → Na ≠ Nt → Nb ≠ Nt → Nc ≠ Nt → G 5 319 [(15, .pointer (some ⟨Nt, 0, none⟩)), (29, .agg #[.slice Ax lx.length cx, .bool sx]), (31, .agg #[.slice Ay ly.length cy, .bool sy]), (33, .agg #[.slice Az lz.length cz, .bool sz])] W := by
    intro lx sx Ax cx ly sy Ay cy lz sz Az cz Nt W hU HC1 Ex Ox Cx Lx Yx Ey Oy Cy Ly Yy Ez Oz Cz Lz Yz Bt hzt neat nebt nect
    refine (hG _ _ _ _).2 ?_
    refine anyR_split [6, 7] (by kernel_rfl) rfl ⟨?_, ?_, trivial⟩
    refine stepR_al (i := 6) (m' := 383) rfl rfl (by kernel_rfl) (by kernel_rfl) (by kernel_rfl) rfl ?_
    intro w64 Nu Bu hNu hb
    replace Bu := hide Bu
    have neau : Na ≠ Nu := by have := (q1_a _ HC1.out).lt; omega
    have nebu : Nb ≠ Nu := by have := (q1_b _ HC1.out).lt; omega
    have necu : Nc ≠ Nu := by have := (q1_c _ HC1.out).lt; omega
    have netu : Nt ≠ Nu := by have := Bt.out.lt; omega
    replace HC1 := hide (HM1 _ _ HC1.out hb)
    replace Ox := hide (RQ.below Ox.out hb)
    replace Oy := hide (RQ.below Oy.out hb)
    replace Oz := hide (RQ.below Oz.out hb)
    replace Bt := hide (Box.kept Bt.out hb)
    have hzu : w.heap.size ≤ Nu := Nat.le_trans hU.size hNu
    clear hNu
    replace hU := hU.trans (hb.mono hU.size)
    clear hb
    exact permG hG (by kernel_rfl) (St383 _ _ _ _ _ _ _ _ _ _ _ _ _ _ _ hU HC1 Ex Ox Cx Lx Yx Ey Oy Cy Ly Yy Ez Oz Cz Lz Yz Bt hzt Bu hzu (by first | exact neat | exact Ne.symm neta) (by first | exact nebt | exact Ne.symm netb) (by first | exact nect | exact Ne.symm netc) (by first | exact neau | exact Ne.symm neua) (by first | exact nebu | exact Ne.symm neub) (by first | exact necu | exact Ne.symm neuc) (by first | exact netu | exact Ne.symm neut))
    refine stepR_al (i := 7) (m' := 447) rfl rfl (by kernel_rfl) (by kernel_rfl) (by kernel_rfl) rfl ?_
    intro w65 Nv Bv hNv hb
    replace Bv := hide Bv
    have neav : Na ≠ Nv := by have := (q1_a _ HC1.out).lt; omega
    have nebv : Nb ≠ Nv := by have := (q1_b _ HC1.out).lt; omega
    have necv : Nc ≠ Nv := by have := (q1_c _ HC1.out).lt; omega
    have netv : Nt ≠ Nv := by have := Bt.out.lt; omega
    replace HC1 := hide (HM1 _ _ HC1.out hb)
    replace Ox := hide (RQ.below Ox.out hb)
    replace Oy := hide (RQ.below Oy.out hb)
    replace Oz := hide (RQ.below Oz.out hb)
    replace Bt := hide (Box.kept Bt.out hb)
    have hzv : w.heap.size ≤ Nv := Nat.le_trans hU.size hNv
    clear hNv
    replace hU := hU.trans (hb.mono hU.size)
    clear hb
    exact permG hG (by kernel_rfl) (St447 _ _ _ _ _ _ _ _ _ _ _ _ _ _ _ hU HC1 Ex Ox Cx Lx Yx Ey Oy Cy Ly Yy Ez Oz Cz Lz Yz Bt hzt Bv hzv (by first | exact neat | exact Ne.symm neta) (by first | exact nebt | exact Ne.symm netb) (by first | exact nect | exact Ne.symm netc) (by first | exact neav | exact Ne.symm neva) (by first | exact nebv | exact Ne.symm nevb) (by first | exact necv | exact Ne.symm nevc) (by first | exact netv | exact Ne.symm nevt))
  have St351 : ∀ (lx : List Int) (sx : Bool) (Ax : Option Addr) (cx : Nat) (ly : List Int) (sy : Bool) (Ay : Option Addr) (cy : Nat) (Nt : Nat) (Nu : Nat) (W : World), Below w.heap.size w W → Hid (Pr1 W) → Hid ((⟨lx, sx⟩ : Vc) = ⟨la, sa⟩) → Hid (RQ W Ax lx) → Hid (lx.length ≤ cx ∧ cx ≤ maxLen) → Hid (lx.length ≤ 4096) → Hid (By lx) → Hid ((⟨ly, sy⟩ : Vc) = ⟨lb, sb⟩) → Hid (RQ W Ay ly) → Hid (ly.length ≤ cy ∧ cy ≤ maxLen) → Hid (ly.length ≤ 4096) → Hid (By ly) → Hid (Box Nt none 0 0 false W) → w.heap.size ≤ Nt → Hid (Box Nu none 0 0 false W) → w.heap.size ≤ Nu → Na ≠ Nt → Nb ≠ Nt → Nc ≠ Nt → Na ≠ Nu → Nb ≠ Nu → Nc ≠ Nu → Nt ≠ Nu → G 5 351 [(13, .pointer (some ⟨Nu, 0, none⟩)), (15, .pointer (some ⟨Nt, 0, none⟩)), (29, .agg #[.slice Ax lx.length cx, .bool sx]), (31, .agg #[.slice Ay ly.length cy, .bool sy])] W := by
    intro lx sx Ax cx ly sy Ay cy Nt Nu W hU HC1 Ex Ox Cx Lx Yx Ey Oy Cy Ly Yy Bt hzt Bu hzu neat nebt nect neau nebu necu netu
    refine (hG _ _ _ _).2 ?_
    refine anyR_split [5, 7] (by kernel_rfl) rfl ⟨?_, ?_, trivial⟩
    refine stepR_call (i := 5) (m' := 383) rfl rfl (by kernel_rfl) (by kernel_rfl) (by kernel_rfl) (by kernel_rfl) ((vown_any Ac lc cc sc _ Lc.out Cc (p1_c W HC1.out) Yc.out).mono ?_)
    rintro e w68 ⟨lz, sz, Az, cz, Ez, rfl, Cz, Oz, hb⟩
    refine ⟨_, rfl, hb, ?_⟩
    replace HC1 := hide (HM1 _ _ HC1.out hb)
    replace Ox := hide (RQ.below Ox.out hb)
    replace Oy := hide (RQ.below Oy.out hb)
    replace Bt := hide (Box.kept Bt.out hb)
    replace Bu := hide (Box.kept Bu.out hb)
    replace Oz := hide Oz.out.rd
    replace hU := hU.trans (hb.mono hU.size)
    clear hb
    have g : By lz ∧ lz.length ≤ 4096 := by have h := congrArg Vc.b Ez.out; dsimp only at h; rw [h]; exact ⟨Yc.out, Lc.out⟩
    have Lz := hide g.2
    have Yz := hide g.1
    clear g
    exact permG hG (by kernel_rfl) (St383 _ _ _ _ _ _ _ _ _ _ _ _ _ _ _ hU HC1 Ex Ox Cx Lx Yx Ey Oy Cy Ly Yy Ez Oz Cz Lz Yz Bt hzt Bu hzu (by first | exact neat | exact Ne.symm neta) (by first | exact nebt | exact Ne.symm netb) (by first | exact nect | exact Ne.symm netc) (by first | exact neau | exact Ne.symm neua) (by first | exact nebu | exact Ne.symm neub) (by first | exact necu | exact Ne.symm neuc) (by first | exact netu | exact Ne.symm neut))
    refine stepR_al (i := 7) (m' := 479) rfl rfl (by kernel_rfl) (by kernel_rfl) (by kernel_rfl) rfl ?_
    intro w69 Nv Bv hNv hb
    replace Bv := hide Bv
    have neav : Na ≠ Nv := by have := (q1_a _ HC1.out).lt; omega
    have nebv : Nb ≠ Nv := by have := (q1_b _ HC1.out).lt; omega
    have necv : Nc ≠ Nv := by have := (q1_c _ HC1.out).lt; omega
    have netv : Nt ≠ Nv := by have := Bt.out.lt; omega
    have neuv : Nu ≠ Nv := by have := Bu.out.lt; omega
    replace HC1 := hide (HM1 _ _ HC1.out hb)
    replace Ox := hide (RQ.below Ox.out hb)
    replace Oy := hide (RQ.below Oy.out hb)
    replace Bt := hide (Box.kept Bt.out hb)
    replace Bu := hide (Box.kept Bu.out hb)
    have hzv : w.heap.size ≤ Nv := Nat.le_trans hU.size hNv
    clear hNv
    replace hU := hU.trans (hb.mono hU.size)
    clear hb
    exact permG hG (by kernel_rfl) (St479 _ _ _ _ _ _ _ _ _ _ _ _ hU HC1 Ex Ox Cx Lx Yx Ey Oy Cy Ly Yy Bt hzt Bu hzu Bv hzv (by first | exact neat | exact Ne.symm neta) (by first | exact nebt | exact Ne.symm netb) (by first | exact nect | exact Ne.symm netc) (by first | exact neau | exact Ne.symm neua) (by first | exact nebu | exact Ne.symm neub) (by first | exact necu | exact Ne.symm neuc) (by first | exact netu | exact Ne.symm neut) (by first | exact neav | exact Ne.symm neva) (by first | exact nebv | exact Ne.symm nevb) (by first | exact necv | exact Ne.symm nevc) (by first | exact netv | exact Ne.symm nevt) (by first | exact neuv | exact Ne.symm nevu))
  have St415 : ∀ (lx : List Int) (sx : Bool) (Ax : Option Addr) (cx : Nat) (ly : List Int) (sy : Bool) (Ay : Option Addr) (cy : Nat) (Nt : Nat) (Nv : Nat) (W : World), Below w.heap.size w W → Hid (Pr1 W) → Hid ((⟨lx, sx⟩ : Vc) = ⟨la, sa⟩) → Hid (RQ W Ax lx) → Hid (lx.length ≤ cx ∧ cx ≤ maxLen) → Hid (lx.length ≤ 4096) → Hid (By lx) → Hid ((⟨ly, sy⟩ : Vc) = ⟨lb, sb⟩) → Hid (RQ W Ay ly) → Hid (ly.length ≤ cy ∧ cy ≤ maxLen) → Hid (ly.length ≤ 4096) → Hid (By ly) → Hid (Box Nt none 0 0 false W) → w.heap.size ≤ Nt → Hid (Box Nv none 0 0 false W) → w.heap.size ≤ Nv → Na ≠ Nt → Nb ≠ Nt → Nc ≠ Nt → Na ≠ Nv → Nb ≠ Nv → Nc ≠ Nv → Nt ≠ Nv → G 5 415 [(14, .pointer (some ⟨Nv, 0, none⟩)), (15, .pointer (some ⟨Nt, 0, none⟩)), (29, .agg #[.slice Ax lx.length cx, .bool sx]), (31, .agg #[.slice Ay ly.length cy, .bool sy])] W := by
    intro lx sx Ax cx ly sy Ay cy Nt Nv W hU HC1 Ex Ox Cx Lx Yx Ey Oy Cy Ly Yy Bt hzt Bv hzv neat nebt nect neav nebv necv netv
    refine (hG _ _ _ _).2 ?_
    refine anyR_split [5, 6] (by kernel_rfl) rfl ⟨?_, ?_, trivial⟩
    refine stepR_call (i := 5) (m' := 447) rfl rfl (by kernel_rfl) (by kernel_rfl) (by kernel_rfl) (by kernel_rfl) ((vown_any Ac lc cc sc _ Lc.out Cc (p1_c W HC1.out) Yc.out).mono ?_)
    rintro e w70 ⟨lz, sz, Az, cz, Ez, rfl, Cz, Oz, hb⟩
    refine ⟨_, rfl, hb, ?_⟩
    replace HC1 := hide (HM1 _ _ HC1.out hb)
    replace Ox := hide (RQ.below Ox.out hb)
    replace Oy := hide (RQ.below Oy.out hb)
    replace Bt := hide (Box.kept Bt.out hb)
    replace Bv := hide (Box.kept Bv.out hb)
    replace Oz := hide Oz.out.rd
    replace hU := hU.trans (hb.mono hU.size)
    clear hb
    have g : By lz ∧ lz.length ≤ 4096 := by have h := congrArg Vc.b Ez.out; dsimp only at h; rw [h]; exact ⟨Yc.out, Lc.out⟩
    have Lz := hide g.2
    have Yz := hide g.1
    clear g
    exact permG hG (by kernel_rfl) (St447 _ _ _ _ _ _ _ _ _ _ _ _ _ _ _ hU HC1 Ex Ox Cx Lx Yx Ey Oy Cy Ly Yy Ez Oz Cz Lz Yz Bt hzt Bv hzv (by first | exact neat | exact Ne.symm neta) (by first | exact nebt | exact Ne.symm netb) (by first | exact nect | exact Ne.symm netc) (by first | exact neav | exact Ne.symm neva) (by first | exact nebv | exact Ne.symm nevb) (by first | exact necv | exact Ne.symm nevc) (by first | exact netv | exact Ne.symm nevt))
    refine stepR_al (i := 6) (m' := 479) rfl rfl (by kernel_rfl) (by kernel_rfl) (by kernel_rfl) rfl ?_
    intro w71 Nu Bu hNu hb
    replace Bu := hide Bu
    have neau : Na ≠ Nu := by have := (q1_a _ HC1.out).lt; omega
    have nebu : Nb ≠ Nu := by have := (q1_b _ HC1.out).lt; omega
    have necu : Nc ≠ Nu := by have := (q1_c _ HC1.out).lt; omega
    have netu : Nt ≠ Nu := by have := Bt.out.lt; omega
    have nevu : Nv ≠ Nu := by have := Bv.out.lt; omega
    replace HC1 := hide (HM1 _ _ HC1.out hb)
    replace Ox := hide (RQ.below Ox.out hb)
    replace Oy := hide (RQ.below Oy.out hb)
    replace Bt := hide (Box.kept Bt.out hb)
    replace Bv := hide (Box.kept Bv.out hb)
    have hzu : w.heap.size ≤ Nu := Nat.le_trans hU.size hNu
    clear hNu
    replace hU := hU.trans (hb.mono hU.size)
    clear hb
    exact permG hG (by kernel_rfl) (St479 _ _ _ _ _ _ _ _ _ _ _ _ hU HC1 Ex Ox Cx Lx Yx Ey Oy Cy Ly Yy Bt hzt Bu hzu Bv hzv (by first | exact neat | exact Ne.symm neta) (by first | exact nebt | exact Ne.symm netb) (by first | exact nect | exact Ne.symm netc) (by first | exact neau | exact Ne.symm neua) (by first | exact nebu | exact Ne.symm neub) (by first | exact necu | exact Ne.symm neuc) (by first | exact netu | exact Ne.symm neut) (by first | exact neav | exact Ne.symm neva) (by first | exact nebv | exact Ne.symm nevb) (by first | exact necv | exact Ne.symm nevc) (by first | exact netv | exact Ne.symm nevt) (by first | exact neuv | exact Ne.symm nevu))
  have St471 : ∀ (lx : List Int) (sx : Bool) (Ax : Option Addr) (cx : Nat) (Nt : Nat) (Nu : Nat) (Nv : Nat) (W : World), Below w.heap.size w W → Hid (Pr1 W) → Hid ((⟨lx, sx⟩ : Vc) = ⟨la, sa⟩) → Hid (RQ W Ax lx) → Hid (lx.length ≤ cx ∧ cx ≤ maxLen) → Hid (lx.length ≤ 4096) → Hid (By lx) → Hid (Box Nt none 0 0 false W) → w.heap.size ≤ Nt → Hid (Box Nu none 0 0 false W) → w.heap.size ≤ Nu → Hid (Box Nv none 0 0 false W) → w.heap.size ≤ Nv → Na ≠ Nt → Nb ≠ Nt → Nc ≠ Nt → Na ≠ Nu → Nb ≠ Nu → Nc ≠ Nu → Nt ≠ Nu → Na ≠ Nv → Nb ≠ Nv → Nc ≠ Nv → Nt ≠ Nv → Nu ≠ Nv → G 5 471 [(13, .pointer (some ⟨Nu, 0, none⟩)), (14, .pointer (some ⟨Nv, 0, none⟩)), (15, .pointer (some ⟨Nt, 0, none⟩)), (29, .agg #[.slice Ax lx.length cx, .bool sx])] W := by
    intro lx sx Ax cx Nt Nu Nv W hU HC1 Ex Ox Cx Lx Yx Bt hzt Bu hzu Bv hzv neat nebt nect neau nebu necu netu neav nebv necv netv neuv
    refine (hG _ _ _ _).2 ?_
    refine anyR_split [3] (by kernel_rfl) rfl ⟨?_, trivial⟩
    refine stepR_call (i := 3) (m' := 479) rfl rfl (by kernel_rfl) (by kernel_rfl) (by kernel_rfl) (by kernel_rfl) ((vown_any Ab lb cb sb _ Lb.out Cb (p1_b W HC1.out) Yb.out).mono ?_)
    rintro e w72 ⟨ly, sy, Ay, cy, Ey, rfl, Cy, Oy, hb⟩
    refine ⟨_, rfl, hb, ?_⟩
    replace HC1 := hide (HM1 _ _ HC1.out hb)
    replace Ox := hide (RQ.below Ox.out hb)
    replace Bt := hide (Box.kept Bt.out hb)
    replace Bu := hide (Box.kept Bu.out hb)
    replace Bv := hide (Box.kept Bv.out hb)
    replace Oy := hide Oy.out.rd
    replace hU := hU.trans (hb.mono hU.size)
    clear hb
    have g : By ly ∧ ly.length ≤ 4096 := by have h := congrArg Vc.b Ey.out; dsimp only at h; rw [h]; exact ⟨Yb.out, Lb.out⟩
    have Ly := hide g.2
    have Yy := hide g.1
    clear g
    exact permG hG (by kernel_rfl) (St479 _ _ _ _ _ _ _ _ _ _ _ _ hU HC1 Ex Ox Cx Lx Yx Ey Oy Cy Ly Yy Bt hzt Bu hzu Bv hzv (by first | exact neat | exact Ne.symm neta) (by first | exact nebt | exact Ne.symm netb) (by first | exact nect | exact Ne.symm netc) (by first | exact neau | exact Ne.symm neua) (by first | exact nebu | exact Ne.symm neub) (by first | exact necu | exact Ne.symm neuc) (by first | exact netu | exact Ne.symm neut) (by first | exact neav | exact Ne.symm neva) (by first | exact nebv | exact Ne.symm nevb) (by first | exact necv | exact Ne.symm nevc) (by first | exact netv | exact Ne.symm nevt) (by first | exact neuv | exact Ne.symm nevu))
  have St63 : ∀ (lx : List Int) (sx : Bool) (Ax : Option Addr) (cx : Nat) (ly : List Int) (sy : Bool) (Ay : Option Addr) (cy : Nat) (lz : List Int) (sz : Bool) (Az : Option Addr) (cz : Nat) (W : World), Below w.heap.size w W → Hid (Pr1 W) → Hid ((⟨lx, sx⟩ : Vc) = ⟨la, sa⟩) → Hid (RQ W Ax lx) → Hid (lx.length ≤ cx ∧ cx ≤ maxLen) → Hid (lx.length ≤ 4096) → Hid (By lx) → Hid ((⟨ly, sy⟩ : Vc) = ⟨lb, sb⟩) → Hid (RQ W Ay ly) → Hid (ly.length ≤ cy ∧ cy ≤ maxLen) → Hid (ly.length ≤ 4096) → Hid (By ly) → Hid ((⟨lz, sz⟩ : Vc) = ⟨lc, sc⟩) → Hid (RQ W Az lz) → Hid (lz.length ≤ cz ∧ cz ≤ maxLen) → Hid (lz.length ≤ 4096) → Hid (By lz) → G 6 63 [(29, .agg #[.slice Ax lx.length cx, .bool sx]), (31, .agg #[.slice Ay ly.length cy, .bool sy]), (33, .agg #[.slice Az lz.length cz, .bool sz])] W := by
    intro lx sx Ax cx ly sy Ay cy lz sz Az cz W hU HC1 Ex Ox Cx Lx Yx Ey Oy Cy Ly Yy Ez Oz Cz Lz Yz
    refine (hG _ _ _ _).2 ?_
    refine anyR_split [6, 7, 8] (by kernel_rfl) rfl ⟨?_, ?_, ?_, trivial⟩
    refine stepR_al (i := 6) (m' := 127) rfl rfl (by kernel_rfl) (by kernel_rfl) (by kernel_rfl) rfl ?_
    intro w41 Nu Bu hNu hb
    replace Bu := hide Bu
    have neau : Na ≠ Nu := by have := (q1_a _ HC1.out).lt; omega
    have nebu : Nb ≠ Nu := by have := (q1_b _ HC1.out).lt; omega
    have necu : Nc ≠ Nu := by have := (q1_c _ HC1.out).lt; omega
    replace HC1 := hide (HM1 _ _ HC1.out hb)
    replace Ox := hide (RQ.below Ox.out hb)
    replace Oy := hide (RQ.below Oy.out hb)
    replace Oz := hide (RQ.below Oz.out hb)
    have hzu : w.heap.size ≤ Nu := Nat.le_trans hU.size hNu
    clear hNu
    replace hU := hU.trans (hb.mono hU.size)
    clear hb
    exact permG hG (by kernel_rfl) (St127 _ _ _ _ _ _ _ _ _ _ _ _ _ _ hU HC1 Ex Ox Cx Lx Yx Ey Oy Cy Ly Yy Ez Oz Cz Lz Yz Bu hzu (by first | exact neau | exact Ne.symm neua) (by first | exact nebu | exact Ne.symm neub) (by first | exact necu | exact Ne.symm neuc))
    refine stepR_al (i := 7) (m' := 191) rfl rfl (by kernel_rfl) (by kernel_rfl) (by kernel_rfl) rfl ?_
    intro w42 Nv Bv hNv hb
    replace Bv := hide Bv
    have neav : Na ≠ Nv := by have := (q1_a _ HC1.out).lt; omega
    have nebv : Nb ≠ Nv := by have := (q1_b _ HC1.out).lt; omega
    have necv : Nc ≠ Nv := by have := (q1_c _ HC1.out).lt; omega
    replace HC1 := hide (HM1 _ _ HC1.out hb)
    replace Ox := hide (RQ.below Ox.out hb)
    replace Oy := hide (RQ.below Oy.out hb)
    replace Oz := hide (RQ.below Oz.out hb)
    have hzv : w.heap.size ≤ Nv := Nat.le_trans hU.size hNv
    clear hNv
    replace hU := hU.trans (hb.mono hU.size)
    clear hb
    exact permG hG (by kernel_rfl) (St191 _ _ _ _ _ _ _ _ _ _ _ _ _ _ hU HC1 Ex Ox Cx Lx Yx Ey Oy Cy Ly Yy Ez Oz Cz Lz Yz Bv hzv (by first | exact neav | exact Ne.symm neva) (by first | exact nebv | exact Ne.symm nevb) (by first | exact necv | exact Ne.symm nevc))
    refine stepR_al (i := 8) (m' := 319) rfl rfl (by kernel_rfl) (by kernel_rfl) (by kernel_rfl) rfl ?_
    intro w43 Nt Bt hNt hb
    replace Bt := hide Bt
    have neat : Na ≠ Nt := by have := (q1_a _ HC1.out).lt; omega
    have nebt : Nb ≠ Nt := by have := (q1_b _ HC1.out).lt; omega
    have nect : Nc ≠ Nt := by have := (q1_c _ HC1.out).lt; omega
    replace HC1 := hide (HM1 _ _ HC1.out hb)
    replace Ox := hide (RQ.below Ox.out hb)
    replace Oy := hide (RQ.below Oy.out hb)
    replace Oz := hide (RQ.below Oz.out hb)
    have hzt : w.heap.size ≤ Nt := Nat.le_trans hU.size hNt
    clear hNt
    replace hU := hU.trans (hb.mono hU.size)
    clear hb
    exact permG hG (by kernel_rfl) (St319 _ _ _ _ _ _ _ _ _ _ _ _ _ _ hU HC1 Ex Ox Cx Lx Yx Ey Oy Cy Ly Yy Ez Oz Cz Lz Yz Bt hzt (by first | exact neat | exact Ne.symm neta) (by first | exact nebt | exact Ne.symm netb) (by first | exact nect | exact Ne.symm netc))
  have St95 : ∀ (lx : List Int) (sx : Bool) (Ax : Option Addr) (cx : Nat) (ly : List Int) (sy : Bool) (Ay : Option Addr) (cy : Nat) (Nu : Nat) (W : World), Below w.heap.size w W → Hid (Pr1 W) → Hid ((⟨lx, sx⟩ : Vc) = ⟨la, sa⟩) → Hid (RQ W Ax lx) → Hid (lx.length ≤ cx ∧ cx ≤ maxLen) → Hid (lx.length ≤ 4096) → Hid (By lx) → Hid ((⟨ly, sy⟩ : Vc) = ⟨lb, sb⟩) → Hid (RQ W Ay ly) → Hid (ly.length ≤ cy ∧ cy ≤ maxLen) → Hid (ly.length ≤ 4096) → Hid (By ly) → Hid (Box Nu none 0 0 false W) → w.heap.size ≤ Nu → Na ≠ Nu → Nb ≠ Nu → Nc ≠ Nu → G 6 95 [(13, .pointer (some ⟨Nu, 0, none⟩)), (29, .agg #[.slice Ax lx.length cx, .bool sx]), (31, .agg #[.slice Ay ly.length cy, .bool sy])] W := by
    intro lx sx Ax cx ly sy Ay cy Nu W hU HC1 Ex Ox Cx Lx Yx Ey Oy Cy Ly Yy Bu hzu neau nebu necu
    refine (hG _ _ _ _).2 ?_
    refine anyR_split [5, 7, 8] (by kernel_rfl) rfl ⟨?_, ?_, ?_, trivial⟩
    refine stepR_call (i := 5) (m' := 127) rfl rfl (by kernel_rfl) (by kernel_rfl) (by kernel_rfl) (by kernel_rfl) ((vown_any Ac lc cc sc _ Lc.out Cc (p1_c W HC1.out) Yc.out).mono ?_)
    rintro e w44 ⟨lz, sz, Az, cz, Ez, rfl, Cz, Oz, hb⟩
    refine ⟨_, rfl, hb, ?_⟩
    replace HC1 := hide (HM1 _ _ HC1.out hb)
    replace Ox := hide (RQ.below Ox.out hb)
    replace Oy := hide (RQ.below Oy.out hb)
    replace Bu := hide (Box.kept Bu.out hb)
    replace Oz := hide Oz.out.rd
    replace hU := hU.trans (hb.mono hU.size)
    clear hb
    have g : By lz ∧ lz.length ≤ 4096 := by have h := congrArg Vc.b Ez.out; dsimp only at h; rw [h]; exact ⟨Yc.out, Lc.out⟩
    have Lz := hide g.2
    have Yz := hide g.1
    clear g
    exact permG hG (by kernel_rfl) (St127 _ _ _ _ _ _ _ _ _ _ _ _ _ _ hU HC1 Ex Ox Cx Lx Yx Ey Oy Cy Ly Yy Ez Oz Cz Lz Yz Bu hzu (by first | exact neau | exact Ne.symm neua) (by first | exact nebu | exact Ne.symm neub) (by first | exact necu | exact Ne.symm neuc))
    refine stepR_al (i := 7) (m' := 223) rfl rfl (by kernel_rfl) (by kernel_rfl) (by kernel_rfl) rfl ?_
    intro w45 Nv Bv hNv hb
    replace Bv := hide Bv
    have neav : Na ≠ Nv := by have := (q1_a _ HC1.out).lt; omega
    have nebv : Nb ≠ Nv := by have := (q1_b _ HC1.out).lt; omega
    have necv : Nc ≠ Nv := by have := (q1_c _ HC1.out).lt; omega
    have neuv : Nu ≠ Nv := by have := Bu.out.lt; omega
    replace HC1 := hide (HM1 _ _ HC1.out hb)
    replace Ox := hide (RQ.below Ox.out hb)
    replace Oy := hide (RQ.below Oy.out hb)
    replace Bu := hide (Box.kept Bu.out hb)
    have hzv : w.heap.size ≤ Nv := Nat.le_trans hU.size hNv
    clear hNv
    replace hU := hU.trans (hb.mono hU.size)
    clear hb
    exact permG hG (by kernel_rfl) (St223 _ _ _ _ _ _ _ _ _ _ _ hU HC1 Ex Ox Cx Lx Yx Ey Oy Cy Ly Yy Bu hzu Bv hzv (by first | exact neau | exact Ne.symm neua) (by first | exact nebu | exact Ne.symm neub) (by first | exact necu | exact Ne.symm neuc) (by first | exact neav | exact Ne.symm neva) (by first | exact nebv | exact Ne.symm nevb) (by first | exact necv | exact Ne.symm nevc) (by first | exact neuv | exact Ne.symm nevu))
    refine stepR_al (i := 8) (m' := 351) rfl rfl (by kernel_rfl) (by kernel_rfl) (by kernel_rfl) rfl ?_
    intro w46 Nt Bt hNt hb
    replace Bt := hide Bt
    have neat : Na ≠ Nt := by have := (q1_a _ HC1.out).lt; omega
    have nebt : Nb ≠ Nt := by have := (q1_b _ HC1.out).lt; omega
    have nect : Nc ≠ Nt := by have := (q1_c _ HC1.out).lt; omega
    have neut : Nu ≠ Nt := by have := Bu.out.lt; omega
    replace HC1 := hide (HM1 _ _ HC1.out hb)
    replace Ox := hide (RQ.below Ox.out hb)
    replace Oy := hide (RQ.below Oy.out hb)
    replace Bu := hide (Box.kept Bu.out hb)
    have hzt : w.heap.size ≤ Nt := Nat.le_trans hU.size hNt
    clear hNt
    replace hU := hU.trans (hb.mono hU.size)
    clear hb
    exact permG hG (by kernel_rfl) (St351 _ _ _ _ _ _ _ _ _ _ _ hU HC1 Ex Ox Cx Lx Yx Ey Oy Cy Ly Yy Bt hzt Bu hzu (by first | exact neat | exact Ne.symm neta) (by first | exact nebt | exact Ne.symm netb) (by first | exact nect | exact Ne.symm netc) (by first | exact neau | exact Ne.symm neua) (by first | exact nebu | exact Ne.symm neub) (by first | exact necu | exact Ne.symm neuc) (by first | exact netu | exact Ne.symm neut))
  have St159 : ∀ (lx : List Int) (sx : Bool) (Ax : Option Addr) (cx : Nat) (ly : List Int) (sy : Bool) (Ay : Option Addr) (cy : Nat) (Nv : Nat) (W : World), Below w.heap.size w W → Hid (Pr1 W) → Hid ((⟨lx, sx⟩ : Vc) = ⟨la, sa⟩) → Hid (RQ W Ax lx) → Hid (lx.length ≤ cx ∧ cx ≤ maxLen) → Hid (lx.length ≤ 4096) → Hid (By lx) → Hid ((⟨ly, sy⟩ : Vc) = ⟨lb, sb⟩) → Hid (RQ W Ay ly) → Hid (ly.length ≤ cy ∧ cy ≤ maxLen) → Hid (ly.length ≤ 4096) → Hid (By ly) → Hid (Box Nv none 0 0 false W) → w.heap.size ≤ Nv → Na ≠ Nv → Nb ≠ Nv → Nc ≠ Nv → G 6 159 [(14, .pointer (some ⟨Nv, 0, none⟩)), (29, .agg #[.slice Ax lx.length cx, .bool sx]), (31, .agg #[.slice Ay ly.length cy, .bool sy])] W := by
    intro lx sx Ax cx ly sy Ay cy Nv W hU HC1 Ex Ox Cx Lx Yx Ey Oy Cy Ly Yy Bv hzv neav nebv necv
    refine (hG _ _ _ _).2 ?_
    refine anyR_split [5, 6, 8] (by kernel_rfl) rfl ⟨?_, ?_, ?_, trivial⟩
    refine stepR_call (i := 5) (m' := 191) rfl rfl (by kernel_rfl) (by kernel_rfl) (by kernel_rfl) (by kernel_rfl) ((vown_any Ac lc cc sc _ Lc.out Cc (p1_c W HC1.out) Yc.out).mono ?_)
    rintro e w47 ⟨lz, sz, Az, cz, Ez, rfl, Cz, Oz, hb⟩
    refine ⟨_, rfl, hb, ?_⟩
    replace HC1 := hide (HM1 _ _ HC1.out hb)
    replace Ox := hide (RQ.below Ox.out hb)
    replace Oy := hide (RQ.below Oy.out hb)
    replace Bv := hide (Box.kept Bv.out hb)
    replace Oz := hide Oz.out.rd
    replace hU := hU.trans (hb.mono hU.size)
    clear hb
    have g : By lz ∧ lz.length ≤ 4096 := by have h := congrArg Vc.b Ez.out; dsimp only at h; rw [h]; exact ⟨Yc.out, Lc.out⟩
    have Lz := hide g.2
    have Yz := hide g.1
    clear g
    exact permG hG (by kernel_rfl) (St191 _ _ _ _ _ _ _ _ _ _ _ _ _ _ hU HC1 Ex Ox Cx Lx Yx Ey Oy Cy Ly Yy Ez Oz Cz Lz Yz Bv hzv (by first | exact neav | exact Ne.symm neva) (by first | exact nebv | exact Ne.symm nevb) (by first | exact necv | exact Ne.symm nevc))
    refine stepR_al (i := 6) (m' := 223) rfl rfl (by kernel_rfl) (by kernel_rfl) (by kernel_rfl) rfl ?_
    intro w48 Nu Bu hNu hb
    replace Bu := hide Bu
    have neau : Na ≠ Nu := by have := (q1_a _ HC1.out).lt; omega
    have nebu : Nb ≠ Nu := by have := (q1_b _ HC1.out).lt; omega
    have necu : Nc ≠ Nu := by have := (q1_c _ HC1.out).lt; omega
    have nevu : Nv ≠ Nu := by have := Bv.out.lt; omega
    replace HC1 := hide (HM1 _ _ HC1.out hb)
    replace Ox := hide (RQ.below Ox.out hb)
    replace Oy := hide (RQ.below Oy.out hb)
    replace Bv := hide (Box.kept Bv.out hb)
    have hzu : w.heap.size ≤ Nu := Nat.le_trans hU.size hNu
    clear hNu
    replace hU := hU.trans (hb.mono hU.size)
    clear hb
    exact permG hG (by kernel_rfl) (St223 _ _ _ _ _ _ _ _ _ _ _ hU HC1 Ex Ox Cx Lx Yx Ey Oy Cy Ly Yy Bu hzu Bv hzv (by first | exact neau | exact Ne.symm neua) (by first | exact nebu | exact Ne.symm neub) (by first | exact necu | exact Ne.symm neuc) (by first | exact neav | exact Ne.symm neva) (by first | exact nebv | exact Ne.symm nevb) (by first | exact necv | exact Ne.symm nevc) (by first | exact neuv | exact Ne.symm nevu))
    refine stepR_al (i := 8) (m' := 415) rfl rfl (by kernel_rfl) (by kernel_rfl) (by kernel_rfl) rfl ?_
    intro w49 Nt Bt hNt hb
    replace Bt := hide Bt
    have neat : Na ≠ Nt := by have := (q1_a _ HC1.out).lt; omega
    have nebt : Nb ≠ Nt := by have := (q1_b _ HC1.out).lt; omega
    have nect : Nc ≠ Nt := by have := (q1_c _ HC1.out).lt; omega
    have nevt : Nv ≠ Nt := by have := Bv.out.lt; omega
    replace HC1 := hide (HM1 _ _ HC1.out hb)
    replace Ox := hide (RQ.below Ox.out hb)
    replace Oy := hide (RQ.below Oy.out hb)
    replace Bv := hide (Box.kept Bv.out hb)
    have hzt : w.heap.size ≤ Nt := Nat.le_trans hU.size hNt
    clear hNt
    replace hU := hU.trans (hb.mono hU.size)
    clear hb
    exact permG hG (by kernel_rfl) (St415 _ _ _ _ _ _ _ _ _ _ _ hU HC1 Ex Ox Cx Lx Yx Ey Oy Cy Ly Yy Bt hzt Bv hzv (by first | exact neat | exact Ne.symm neta) (by first | exact nebt | exact Ne.symm netb) (by first | exact nect | exact Ne.symm netc) (by first | exact neav | exact Ne.symm neva) (by first | exact nebv | exact Ne.symm nevb) (by first | exact necv | exact Ne.symm nevc) (by first | exact netv | exact Ne.symm nevt))
  have St215 : ∀ (lx : List Int) (sx : Bool) (Ax : Option Addr) (cx : Nat) (Nu : Nat) (Nv : Nat) (W : World), Below w.heap.size w W → Hid (Pr1 W) → Hid ((⟨lx, sx⟩ : Vc) = ⟨la, sa⟩) → Hid (RQ W Ax lx) → Hid (lx.length ≤ cx ∧ cx ≤ maxLen) → Hid (lx.length ≤ 4096) → Hid (By lx) → Hid (Box Nu none 0 0 false W) → w.heap.size ≤ Nu → Hid (Box Nv none 0 0 false W) → w.heap.size ≤ Nv → Na ≠ Nu → Nb ≠ Nu → Nc ≠ Nu → Na ≠ Nv → Nb ≠ Nv → Nc ≠ Nv → Nu ≠ Nv → G 6 215 [(13, .pointer (some ⟨Nu, 0, none⟩)), (14, .pointer (some ⟨Nv, 0, none⟩)), (29, .agg #[.slice Ax lx.length cx, .bool sx])] W := by
    intro lx sx Ax cx Nu Nv W hU HC1 Ex Ox Cx Lx Yx Bu hzu Bv hzv neau nebu necu neav nebv necv neuv
    refine (hG _ _ _ _).2 ?_
    refine anyR_split [3, 8] (by kernel_rfl) rfl ⟨?_, ?_, trivial⟩
    refine stepR_call (i := 3) (m' := 223) rfl rfl (by kernel_rfl) (by kernel_rfl) (by kernel_rfl) (by kernel_rfl) ((vown_any Ab lb cb sb _ Lb.out Cb (p1_b W HC1.out) Yb.out).mono ?_)
    rintro e w53 ⟨ly, sy, Ay, cy, Ey, rfl, Cy, Oy, hb⟩
    refine ⟨_, rfl, hb, ?_⟩
    replace HC1 := hide (HM1 _ _ HC1.out hb)
    replace Ox := hide (RQ.below Ox.out hb)
    replace Bu := hide (Box.kept Bu.out hb)
    replace Bv := hide (Box.kept Bv.out hb)
    replace Oy := hide Oy.out.rd
    replace hU := hU.trans (hb.mono hU.size)
    clear hb
    have g : By ly ∧ ly.length ≤ 4096 := by have h := congrArg Vc.b Ey.out; dsimp only at h; rw [h]; exact ⟨Yb.out, Lb.out⟩
    have Ly := hide g.2
    have Yy := hide g.1
    clear g
    exact permG hG (by kernel_rfl) (St223 _ _ _ _ _ _ _ _ _ _ _ hU HC1 Ex Ox Cx Lx Yx Ey Oy Cy Ly Yy Bu hzu Bv hzv (by first | exact neau | exact Ne.symm neua) (by first | exact nebu | exact Ne.symm neub) (by first | exact necu | exact Ne.symm neuc) (by first | exact neav | exact Ne.symm neva) (by first | exact nebv | exact Ne.symm nevb) (by first | exact necv | exact Ne.symm nevc) (by first | exact neuv | exact Ne.symm nevu))
    refine stepR_al (i := 8) (m' := 471) rfl rfl (by kernel_rfl) (by kernel_rfl) (by kernel_rfl) rfl ?_
    intro w54 Nt Bt hNt hb
    replace Bt := hide Bt
    have neat : Na ≠ Nt := by have := (q1_a _ HC1.out).lt; omega
    have nebt : Nb ≠ Nt := by have := (q1_b _ HC1.out).lt; omega
    have nect : Nc ≠ Nt := by have := (q1_c _ HC1.out).lt; omega
    have neut : Nu ≠ Nt := by have := Bu.out.lt; omega
    have nevt : Nv ≠ Nt := by have := Bv.out.lt; omega
    replace HC1 := hide (HM1 _ _ HC1.out hb)
    replace Ox := hide (RQ.below Ox.out hb)
    replace Bu := hide (Box.kept Bu.out hb)
    replace Bv := hide (Box.kept Bv.out hb)
    have hzt : w.heap.size ≤ Nt := Nat.le_trans hU.size hNt
    clear hNt
    replace hU := hU.trans (hb.mono hU.size)
    clear hb
    exact permG hG (by kernel_rfl) (St471 _ _ _ _ _ _ _ _ hU HC1 Ex Ox Cx Lx Yx Bt hzt Bu hzu Bv hzv (by first | exact neat | exact Ne.symm neta) (by first | exact nebt | exact Ne.symm netb) (by first | exact nect | exact Ne.symm netc) (by first | exact neau | exact Ne.symm neua) (by first | exact nebu | exact Ne.symm neub) (by first | exact necu | exact Ne.symm neuc) (by first | exact netu | exact Ne.symm neut) (by first | exact neav | exact Ne.symm neva) (by first | exact nebv | exact Ne.symm nevb) (by first | exact necv | exact Ne.symm nevc) (by first | exact netv | exact Ne.symm nevt) (by first | exact neuv | exact Ne.symm nevu))
  have St287 : ∀ (lx : List Int) (sx : Bool) (Ax : Option Addr) (cx : Nat) (ly : List Int) (sy : Bool) (Ay : Option Addr) (cy : Nat) (Nt : Nat) (W : World), Below w.heap.size w W → Hid (Pr1 W) → Hid ((⟨lx, sx⟩ : Vc) = ⟨la, sa⟩) → Hid (RQ W Ax lx) → Hid (lx.length ≤ cx ∧ cx ≤ maxLen) → Hid (lx.length ≤ 4096) → Hid (By lx) → Hid ((⟨ly, sy⟩ : Vc) = ⟨lb, sb⟩) → Hid (RQ W Ay ly) → Hid (ly.length ≤ cy ∧ cy ≤ maxLen) → Hid (ly.length ≤ 4096) → Hid (By ly) → Hid (Box Nt none 0 0 false W) → w.heap.size ≤ Nt → Na ≠ Nt → Nb ≠ Nt → Nc ≠ Nt → G 6 287 [(15, .pointer (some ⟨Nt, 0, none⟩)), (29, .agg #[.slice Ax lx.length cx, .bool sx]), (31, .agg #[.slice Ay ly.length cy, .bool sy])] W := by
    intro lx sx Ax cx ly sy Ay cy Nt W hU HC1 Ex Ox Cx Lx Yx Ey Oy Cy Ly Yy Bt hzt neat nebt nect
    refine (hG _ _ _ _).2 ?_
    refine anyR_split [5, 6, 7] (by kernel_rfl) rfl ⟨?_, ?_, ?_, trivial⟩
    refine stepR_call (i := 5) (m' := 319) rfl rfl (by kernel_rfl) (by kernel_rfl) (by kernel_rfl) (by kernel_rfl) ((vown_any Ac lc cc sc _ Lc.out Cc (p1_c W HC1.out) Yc.out).mono ?_)
    rintro e w50 ⟨lz, sz, Az, cz, Ez, rfl, Cz, Oz, hb⟩
    refine ⟨_, rfl, hb, ?_⟩
    replace HC1 := hide (HM1 _ _ HC1.out hb)
    replace Ox := hide (RQ.below Ox.out hb)
    replace Oy := hide (RQ.below Oy.out hb)
    replace Bt := hide (Box.kept Bt.out hb)
    replace Oz := hide Oz.out.rd
    replace hU := hU.trans (hb.mono hU.size)
    clear hb
    have g : By lz ∧ lz.length ≤ 4096 := by have h := congrArg Vc.b Ez.out; dsimp only at h; rw [h]; exact ⟨Yc.out, Lc.out⟩
    have Lz := hide g.2
    have Yz := hide g.1
    clear g
    exact permG hG (by kernel_rfl) (St319 _ _ _ _ _ _ _ _ _ _ _ _ _ _ hU HC1 Ex Ox Cx Lx Yx Ey Oy Cy Ly Yy Ez Oz Cz Lz Yz Bt hzt (by first | exact neat | exact Ne.symm neta) (by first | exact nebt | exact Ne.symm netb) (by first | exact nect | exact Ne.symm netc))
    refine stepR_al (i := 6) (m' := 351) rfl rfl (by kernel_rfl) (by kernel_rfl) (by kernel_rfl) rfl ?_
    intro w51 Nu Bu hNu hb
    replace Bu := hide Bu
    have neau : Na ≠ Nu := by have := (q1_a _ HC1.out).lt; omega
    have nebu : Nb ≠ Nu := by have := (q1_b _ HC1.out).lt; omega
    have necu : Nc ≠ Nu := by have := (q1_c _ HC1.out).lt; omega
    have netu : Nt ≠ Nu := by have := Bt.out.lt; omega
    replace HC1 := hide (HM1 _ _ HC1.out hb)
    replace Ox := hide (RQ.below Ox.out hb)
    replace Oy := hide (RQ.below Oy.out hb)
    replace Bt := hide (Box.kept Bt.out hb)
    have hzu : w.heap.size ≤ Nu := Nat.le_trans hU.size hNu
    clear hNu
    replace hU := hU.trans (hb.mono hU.size)
    clear hb
    exact permG hG (by kernel_rfl) (St351 _ _ _ _ _ _ _ _ _ _ _ hU HC1 Ex Ox Cx Lx Yx Ey Oy Cy Ly Yy Bt hzt Bu hzu (by first | exact neat | exact Ne.symm neta) (by first | exact nebt | exact Ne.symm netb) (by first | exact nect | exact Ne.symm netc) (by first | exact neau | exact Ne.symm neua) (by first | exact nebu | exact Ne.symm neub) (by first | exact necu | exact Ne.symm neuc) (by first | exact netu | exact Ne.symm neut))
    refine stepR_al (i := 7) (m' := 415) rfl rfl (by kernel_rfl) (by kernel_rfl) (by kernel_rfl) rfl ?_
    intro w52 Nv Bv hNv hb
    replace Bv := hide Bv
    have neav : Na ≠ Nv := by have := (q1_a _ HC1.out).lt; omega
    have nebv : Nb ≠ Nv := by have := (q1_b _ HC1.out).lt; omega
    have necv : Nc ≠ Nv := by have := (q1_c _ HC1.out).lt; omega
    have netv : Nt ≠ Nv := by have := Bt.out.lt; omega
    replace HC1 := hide (HM1 _ _ HC1.out hb)
    replace Ox := hide (RQ.below Ox.out hb)
    replace Oy := hide (RQ.below Oy.out hb)
    replace Bt := hide (Box.kept Bt.out hb)
    have hzv : w.heap.size ≤ Nv := Nat.le_trans hU.size hNv
    clear hNv
    replace hU := hU.trans (hb.mono hU.size)
    clear hb
    exact permG hG (by kernel_rfl) (St415 _ _ _ _ _ _ _ _ _ _ _ hU HC1 Ex Ox Cx Lx Yx Ey Oy Cy Ly Yy Bt hzt Bv hzv (by first | exact neat | exact Ne.symm neta) (by first | exact nebt | exact Ne.symm netb) (by first | exact nect | exact Ne.symm netc) (by first | exact neav | exact Ne.symm neva) (by first | exact nebv | exact Ne.symm nevb) (by first | exact necv | exact Ne.symm nevc) (by first | exact netv | exact Ne.symm nevt))
  have St343 : ∀ (lx : List Int) (sx : Bool) (Ax : Option Addr) (cx : Nat) (Nt : Nat) (Nu : Nat) (W : World), Below w.heap.size w W → Hid (Pr1 W) → Hid ((⟨lx, sx⟩ : Vc) = ⟨la, sa⟩) → Hid (RQ W Ax lx) → Hid (lx.length ≤ cx ∧ cx ≤ maxLen) → Hid (lx.length ≤ 4096) → Hid (By lx) → Hid (Box Nt none 0 0 false W) → w.heap.size ≤ Nt → Hid (Box Nu none 0 0 false W) → w.heap.size ≤ Nu → Na ≠ Nt → Nb ≠ Nt → Nc ≠ Nt → Na ≠ Nu → Nb ≠ Nu → Nc ≠ Nu → Nt ≠ Nu → G 6 343 [(13, .pointer (some ⟨Nu, 0, none⟩)), (15, .pointer (some ⟨Nt, 0, none⟩)), (29, .agg #[.slice Ax lx.length cx, .bool sx])] W := by
    intro lx sx Ax cx Nt Nu W hU HC1 Ex Ox Cx Lx Yx Bt hzt Bu hzu neat nebt nect neau nebu necu netu
    refine (hG _ _ _ _).2 ?_
    refine anyR_split [3, 7] (by kernel_rfl) rfl ⟨?_, ?_, trivial⟩
    refine stepR_call (i := 3) (m' := 351) rfl rfl (by kernel_rfl) (by kernel_rfl) (by kernel_rfl) (by kernel_rfl) ((vown_any Ab lb cb sb _ Lb.out Cb (p1_b W HC1.out) Yb.out).mono ?_)
    rintro e w55 ⟨ly, sy, Ay, cy, Ey, rfl, Cy, Oy, hb⟩
    refine ⟨_, rfl, hb, ?_⟩
    replace HC1 := hide (HM1 _ _ HC1.out hb)
    replace Ox := hide (RQ.below Ox.out hb)
    replace Bt := hide (Box.kept Bt.out hb)
    replace Bu := hide (Box.kept Bu.out hb)
    replace Oy := hide Oy.out.rd
    replace hU := hU.trans (hb.mono hU.size)
    clear hb
    have g : By ly ∧ ly.length ≤ 4096 := by have h := congrArg Vc.b Ey.out; dsimp only at h; rw [h]; exact ⟨Yb.out, Lb.out⟩
    have Ly := hide g.2
    have Yy := hide g.1
    clear g
    exact permG hG (by kernel_rfl) (St351 _ _ _ _ _ _ _ _ _ _ _ hU HC1 Ex Ox Cx Lx Yx Ey Oy Cy Ly Yy Bt hzt Bu hzu (by first | exact neat | exact Ne.symm neta) (by first | exact nebt | exact Ne.symm netb) (by first | exact nect | exact Ne.symm netc) (by first | exact neau | exact Ne.symm neua) (by first | exact nebu | exact Ne.symm neub) (by first | exact necu | exact Ne.symm neuc) (by first | exact netu | exact Ne.symm neut))
    refine stepR_al (i := 7) (m' := 471) rfl rfl (by kernel_rfl) (by kernel_rfl) (by kernel_rfl) rfl ?_
    intro w56 Nv Bv hNv hb
    replace Bv := hide Bv
    have neav : Na ≠ Nv := by have := (q1_a _ HC1.out).lt; omega
    have nebv : Nb ≠ Nv := by have := (q1_b _ HC1.out).lt; omega
    have necv : Nc ≠ Nv := by have := (q1_c _ HC1.out).lt; omega
    have netv : Nt ≠ Nv := by have := Bt.out.lt; omega
    have neuv : Nu ≠ Nv := by have := Bu.out.lt; omega
    replace HC1 := hide (HM1 _ _ HC1.out hb)
    replace Ox := hide (RQ.below Ox.out hb)
    replace Bt := hide (Box.kept Bt.out hb)
    replace Bu := hide (Box.kept Bu.out hb)
    have hzv : w.heap.size ≤ Nv := Nat.le_trans hU.size hNv
    clear hNv
    replace hU := hU.trans (hb.mono hU.size)
    clear hb
    exact permG hG (by kernel_rfl) (St471 _ _ _ _ _ _ _ _ hU HC1 Ex Ox Cx Lx Yx Bt hzt Bu hzu Bv hzv (by first | exact neat | exact Ne.symm neta) (by first | exact nebt | exact Ne.symm netb) (by first | exact nect | exact Ne.symm netc) (by first | exact neau | exact Ne.symm neua) (by first | exact nebu | exact Ne.symm neub) (by first | exact necu | exact Ne.symm neuc) (by first | exact netu | exact Ne.symm neut) (by first | exact neav | exact Ne.symm neva) (by first | exact nebv | exact Ne.symm nevb) (by first | exact necv | exact Ne.symm nevc) (by first | exact netv | exact Ne.symm nevt) (by first | exact neuv | exact Ne.symm nevu))
  have St407 : ∀ (lx : List Int) (sx : Bool) (Ax : Option Addr) (cx : Nat) (Nt : Nat) (Nv : Nat) (W : World), Below w.heap.size w W → Hid (Pr1 W) → Hid ((⟨lx, sx⟩ : Vc) = ⟨la, sa⟩) → Hid (RQ W Ax lx) → Hid (lx.length ≤ cx ∧ cx ≤ maxLen) → Hid (lx.length ≤ 4096) → Hid (By lx) → Hid (Box Nt none 0 0 false W) → w.heap.size ≤ Nt → Hid (Box Nv none 0 0 false W) → w.heap.size ≤ Nv → Na ≠ Nt → Nb ≠ Nt → Nc ≠ Nt → Na ≠ Nv → Nb ≠ Nv → Nc ≠ Nv → Nt ≠ Nv → G 6 407 [(14, .pointer (some ⟨Nv, 0, none⟩)), (15, .pointer (some ⟨Nt, 0, none⟩)), (29, .agg #[.slice Ax lx.length cx, .bool sx])] W := by
    intro lx sx Ax cx Nt Nv W hU HC1 Ex Ox Cx Lx Yx Bt hzt Bv hzv neat nebt nect neav nebv necv netv
    refine (hG _ _ _ _).2 ?_
    refine anyR_split [3, 6] (by kernel_rfl) rfl ⟨?_, ?_, trivial⟩
    refine stepR_call (i := 3) (m' := 415) rfl rfl (by kernel_rfl) (by kernel_rfl) (by kernel_rfl) (by kernel_rfl) ((vown_any Ab lb cb sb _ Lb.out Cb (p1_b W HC1.out) Yb.out).mono ?_)
    rintro e w57 ⟨ly, sy, Ay, cy, Ey, rfl, Cy, Oy, hb⟩
    refine ⟨_, rfl, hb, ?_⟩
    replace HC1 := hide (HM1 _ _ HC1.out hb)
    replace Ox := hide (RQ.below Ox.out hb)
    replace Bt := hide (Box.kept Bt.out hb)
    replace Bv := hide (Box.kept Bv.out hb)
    replace Oy := hide Oy.out.rd
    replace hU := hU.trans (hb.mono hU.size)
    clear hb
    have g : By ly ∧ ly.length ≤ 4096 := by have h := congrArg Vc.b Ey.out; dsimp only at h; rw [h]; exact ⟨Yb.out, Lb.out⟩
    have Ly := hide g.2
    have Yy := hide g.1
    clear g
    exact permG hG (by kernel_rfl) (St415 _ _ _ _ _ _ _ _ _ _ _ hU HC1 Ex Ox Cx Lx Yx Ey Oy Cy Ly Yy Bt hzt Bv hzv (by first | exact neat | exact Ne.symm neta) (by first | exact nebt | exact Ne.symm netb) (by first | exact nect | exact Ne.symm netc) (by first | exact neav | exact Ne.symm neva) (by first | exact nebv | exact Ne.symm nevb) (by first | exact necv | exact Ne.symm nevc) (by first | exact netv | exact Ne.symm nevt))
    refine stepR_al (i := 6) (m' := 471) rfl rfl (by kernel_rfl) (by kernel_rfl) (by kernel_rfl) rfl ?_
    intro w58 Nu Bu hNu hb
    replace Bu := hide Bu
    have neau : Na ≠ Nu := by have := (q1_a _ HC1.out).lt; omega
    have nebu : Nb ≠ Nu := by have := (q1_b _ HC1.out).lt; omega
    have necu : Nc ≠ Nu := by have := (q1_c _ HC1.out).lt; omega
    have netu : Nt ≠ Nu := by have := Bt.out.lt; omega
    have nevu : Nv ≠ Nu := by have := Bv.out.lt; omega
    replace HC1 := hide (HM1 _ _ HC1.out hb)
    replace Ox := hide (RQ.below Ox.out hb)
    replace Bt := hide (Box.kept Bt.out hb)
    replace Bv := hide (Box.kept Bv.out hb)
    have hzu : w.heap.size ≤ Nu := Nat.le_trans hU.size hNu
    clear hNu
    replace hU := hU.trans (hb.mono hU.size)
    clear hb
    exact permG hG (by kernel_rfl) (St471 _ _ _ _ _ _ _ _ hU HC1 Ex Ox Cx Lx Yx Bt hzt Bu hzu Bv hzv (by first | exact neat | exact Ne.symm neta) (by first | exact nebt | exact Ne.symm netb) (by first | exact nect | exact Ne.symm netc) (by first | exact neau | exact Ne.symm neua) (by first | exact nebu | exact Ne.symm neub) (by first | exact necu | exact Ne.symm neuc) (by first | exact netu | exact Ne.symm neut) (by first | exact neav | exact Ne.symm neva) (by first | exact nebv | exact Ne.symm nevb) (by first | exact necv | exact Ne.symm nevc) (by first | exact netv | exact Ne.symm nevt) (by first | exact neuv | exact Ne.symm nevu))
  have St469 : ∀ (Nt : Nat) (Nu : Nat) (Nv : Nat) (W : World), Below w.heap.size w W → Hid (Pr1 W) → Hid (Box Nt none 0 0 false W) → w.heap.size ≤ Nt → Hid (Box Nu none 0 0 false W) → w.heap.size ≤ Nu → Hid (Box Nv none 0 0 false W) → w.heap.size ≤ Nv → Na ≠ Nt → Nb ≠ Nt → Nc ≠ Nt → Na ≠ Nu → Nb ≠ Nu → Nc ≠ Nu → Nt ≠ Nu → Na ≠ Nv → Nb ≠ Nv → Nc ≠ Nv → Nt ≠ Nv → Nu ≠ Nv → G 6 469 [(13, .pointer (some ⟨Nu, 0, none⟩)), (14, .pointer (some ⟨Nv, 0, none⟩)), (15, .pointer (some ⟨Nt, 0, none⟩))] W := by
    intro Nt Nu Nv W hU HC1 Bt hzt Bu hzu Bv hzv neat nebt nect neau nebu necu netu neav nebv necv netv neuv
    refine (hG _ _ _ _).2 ?_
    refine anyR_split [1] (by kernel_rfl) rfl ⟨?_, trivial⟩
    refine stepR_call (i := 1) (m' := 471) rfl rfl (by kernel_rfl) (by kernel_rfl) (by kernel_rfl) (by kernel_rfl) ((vown_any Aa la ca sa _ La.out Ca (p1_a W HC1.out) Ya.out).mono ?_)
    rintro e w59 ⟨lx, sx, Ax, cx, Ex, rfl, Cx, Ox, hb⟩
    refine ⟨_, rfl, hb, ?_⟩
    replace HC1 := hide (HM1 _ _ HC1.out hb)
    replace Bt := hide (Box.kept Bt.out hb)
    replace Bu := hide (Box.kept Bu.out hb)
    replace Bv := hide (Box.kept Bv.out hb)
    replace Ox := hide Ox.out.rd
    replace hU := hU.trans (hb.mono hU.size)
    clear hb
    have g : By lx ∧ lx.length ≤ 4096 := by have h := congrArg Vc.b Ex.out; dsimp only at h; rw [h]; exact ⟨Ya.out, La.out⟩
    have Lx := hide g.2
    have Yx := hide g.1
    clear g
    exact permG hG (by kernel_rfl) (St471 _ _ _ _ _ _ _ _ hU HC1 Ex Ox Cx Lx Yx Bt hzt Bu hzu Bv hzv (by first | exact neat | exact Ne.symm neta) (by first | exact nebt | exact Ne.symm netb) (by first | exact nect | exact Ne.symm netc) (by first | exact neau | exact Ne.symm neua) (by first | exact nebu | exact Ne.symm neub) (by first | exact necu | exact Ne.symm neuc) (by first | exact netu | exact Ne.symm neut) (by first | exact neav | exact Ne.symm neva) (by first | exact nebv | exact Ne.symm nevb) (by first | exact necv | exact Ne.symm nevc) (by first | exact netv | exact Ne.symm nevt) (by first | exact neuv | exact Ne.symm nevu))
  have St31 : ∀ (lx : List Int) (sx : Bool) (Ax : Option Addr) (cx : Nat) (ly : List Int) (sy : Bool) (Ay : Option Addr) (cy : Nat) (W : World), Below w.heap.size w W → Hid (Pr1 W) → Hid ((⟨lx, sx⟩ : Vc) = ⟨la, sa⟩) → Hid (RQ W Ax lx) → Hid (lx.length ≤ cx ∧ cx ≤ maxLen) → Hid (lx.length ≤ 4096) → Hid (By lx) → Hid ((⟨ly, sy⟩ : Vc) = ⟨lb, sb⟩) → Hid (RQ W Ay ly) → Hid (ly.length ≤ cy ∧ cy ≤ maxLen) → Hid (ly.length ≤ 4096) → Hid (By ly) → G 7 31 [(29, .agg #[.slice Ax lx.length cx, .bool sx]), (31, .agg #[.slice Ay ly.length cy, .bool sy])] W := by
    intro lx sx Ax cx ly sy Ay cy W hU HC1 Ex Ox Cx Lx Yx Ey Oy Cy Ly Yy
    refine (hG _ _ _ _).2 ?_
    refine anyR_split [5, 6, 7, 8] (by kernel_rfl) rfl ⟨?_, ?_, ?_, ?_, trivial⟩
    refine stepR_call (i := 5) (m' := 63) rfl rfl (by kernel_rfl) (by kernel_rfl) (by kernel_rfl) (by kernel_rfl) ((vown_any Ac lc cc sc _ Lc.out Cc (p1_c W HC1.out) Yc.out).mono ?_)
    rintro e w22 ⟨lz, sz, Az, cz, Ez, rfl, Cz, Oz, hb⟩
    refine ⟨_, rfl, hb, ?_⟩
    replace HC1 := hide (HM1 _ _ HC1.out hb)
    replace Ox := hide (RQ.below Ox.out hb)
    replace Oy := hide (RQ.below Oy.out hb)
    replace Oz := hide Oz.out.rd
    replace hU := hU.trans (hb.mono hU.size)
    clear hb
    have g : By lz ∧ lz.length ≤ 4096 := by have h := congrArg Vc.b Ez.out; dsimp only at h; rw [h]; exact ⟨Yc.out, Lc.out⟩
    have Lz := hide g.2
    have Yz := hide g.1
    clear g
    exact permG hG (by kernel_rfl) (St63 _ _ _ _ _ _ _ _ _ _ _ _ _ hU HC1 Ex Ox Cx Lx Yx Ey Oy Cy Ly Yy Ez Oz Cz Lz Yz)
    refine stepR_al (i := 6) (m' := 95) rfl rfl (by kernel_rfl) (by kernel_rfl) (by kernel_rfl) rfl ?_
    intro w23 Nu Bu hNu hb
    replace Bu := hide Bu
    have neau : Na ≠ Nu := by have := (q1_a _ HC1.out).lt; omega
    have nebu : Nb ≠ Nu := by have := (q1_b _ HC1.out).lt; omega
    have necu : Nc ≠ Nu := by have := (q1_c _ HC1.out).lt; omega
    replace HC1 := hide (HM1 _ _ HC1.out hb)
    replace Ox := hide (RQ.below Ox.out hb)
    replace Oy := hide (RQ.below Oy.out hb)
    have hzu : w.heap.size ≤ Nu := Nat.le_trans hU.size hNu
    clear hNu
    replace hU := hU.trans (hb.mono hU.size)
    clear hb
    exact permG hG (by kernel_rfl) (St95 _ _ _ _ _ _ _ _ _ _ hU HC1 Ex Ox Cx Lx Yx Ey Oy Cy Ly Yy Bu hzu (by first | exact neau | exact Ne.symm neua) (by first | exact nebu | exact Ne.symm neub) (by first | exact necu | exact Ne.symm neuc))
    refine stepR_al (i := 7) (m' := 159) rfl rfl (by kernel_rfl) (by kernel_rfl) (by kernel_rfl) rfl ?_
    intro w24 Nv Bv hNv hb
    replace Bv := hide Bv
    have neav : Na ≠ Nv := by have := (q1_a _ HC1.out).lt; omega
    have nebv : Nb ≠ Nv := by have := (q1_b _ HC1.out).lt; omega
    have necv : Nc ≠ Nv := by have := (q1_c _ HC1.out).lt; omega
    replace HC1 := hide (HM1 _ _ HC1.out hb)
    replace Ox := hide (RQ.below Ox.out hb)
    replace Oy := hide (RQ.below Oy.out hb)
    have hzv : w.heap.size ≤ Nv := Nat.le_trans hU.size hNv
    clear hNv
    replace hU := hU.trans (hb.mono hU.size)
    clear hb
    exact permG hG (by kernel_rfl) (St159 _ _ _ _ _ _ _ _ _ _ hU HC1 Ex Ox Cx Lx Yx Ey Oy Cy Ly Yy Bv hzv (by first | exact neav | exact Ne.symm neva) (by first | exact nebv | exact Ne.symm nevb) (by first | exact necv | exact Ne.symm nevc))
    refine stepR_al (i := 8) (m' := 287) rfl rfl (by kernel_rfl) (by kernel_rfl) (by kernel_rfl) rfl ?_
    intro w25 Nt Bt hNt hb
    replace Bt := hide Bt
    have neat : Na ≠ Nt := by have := (q1_a _ HC1.out).lt; omega
    have nebt : Nb ≠ Nt := by have := (q1_b _ HC1.out).lt; omega
    have nect : Nc ≠ Nt := by have := (q1_c _ HC1.out).lt; omega
    replace HC1 := hide (HM1 _ _ HC1.out hb)
    replace Ox := hide (RQ.below Ox.out hb)
    replace Oy := hide (RQ.below Oy.out hb)
    have hzt : w.heap.size ≤ Nt := Nat.le_trans hU.size hNt
    clear hNt
    replace hU := hU.trans (hb.mono hU.size)
    clear hb
    exact permG hG (by kernel_rfl) (St287 _ _ _ _ _ _ _ _ _ _ hU HC1 Ex Ox Cx Lx Yx Ey Oy Cy Ly Yy Bt hzt (by first | exact neat | exact Ne.symm neta) (by first | exact nebt | exact Ne.symm netb) (by first | exact nect | exact Ne.symm netc))
  have St87 : ∀ (lx : List Int) (sx : Bool) (Ax : Option Addr) (cx : Nat) (Nu : Nat) (W : World), Below w.heap.size w W → Hid (Pr1 W) → Hid ((⟨lx, sx⟩ : Vc) = ⟨la, sa⟩) → Hid (RQ W Ax lx) → Hid (lx.length ≤ cx ∧ cx ≤ maxLen) → Hid (lx.length ≤ 4096) → Hid (By lx) → Hid (Box Nu none 0 0 false W) → w.heap.size ≤ Nu → Na ≠ Nu → Nb ≠ Nu → Nc ≠ Nu → G 7 87 [(13, .pointer (some ⟨Nu, 0, none⟩)), (29, .agg #[.slice Ax lx.length cx, .bool sx])] W := by
    intro lx sx Ax cx Nu W hU HC1 Ex Ox Cx Lx Yx Bu hzu neau nebu necu
    refine (hG _ _ _ _).2 ?_
    refine anyR_split [3, 7, 8] (by kernel_rfl) rfl ⟨?_, ?_, ?_, trivial⟩
    refine stepR_call (i := 3) (m' := 95) rfl rfl (by kernel_rfl) (by kernel_rfl) (by kernel_rfl) (by kernel_rfl) ((vown_any Ab lb cb sb _ Lb.out Cb (p1_b W HC1.out) Yb.out).mono ?_)
    rintro e w26 ⟨ly, sy, Ay, cy, Ey, rfl, Cy, Oy, hb⟩
    refine ⟨_, rfl, hb, ?_⟩
    replace HC1 := hide (HM1 _ _ HC1.out hb)
    replace Ox := hide (RQ.below Ox.out hb)
    replace Bu := hide (Box.kept Bu.out hb)
    replace Oy := hide Oy.out.rd
    replace hU := hU.trans (hb.mono hU.size)
    clear hb
    have g : By ly ∧ ly.length ≤ 4096 := by have h := congrArg Vc.b Ey.out; dsimp only at h; rw [h]; exact ⟨Yb.out, Lb.out⟩
    have Ly := hide g.2
    have Yy := hide g.1
    clear g
    exact permG hG (by kernel_rfl) (St95 _ _ _ _ _ _ _ _ _ _ hU HC1 Ex Ox Cx Lx Yx Ey Oy Cy Ly Yy Bu hzu (by first | exact neau | exact Ne.symm neua) (by first | exact nebu | exact Ne.symm neub) (by first | exact necu | exact Ne.symm neuc))
    refine stepR_al (i := 7) (m' := 215) rfl rfl (by kernel_rfl) (by kernel_rfl) (by kernel_rfl) rfl ?_
    intro w27 Nv Bv hNv hb
    replace Bv := hide Bv
    have neav : Na ≠ Nv := by have := (q1_a _ HC1.out).lt; omega
    have nebv : Nb ≠ Nv := by have := (q1_b _ HC1.out).lt; omega
    have necv : Nc ≠ Nv := by have := (q1_c _ HC1.out).lt; omega
    have neuv : Nu ≠ Nv := by have := Bu.out.lt; omega
    replace HC1 := hide (HM1 _ _ HC1.out hb)
    replace Ox := hide (RQ.below Ox.out hb)
    replace Bu := hide (Box.kept Bu.out hb)
    have hzv : w.heap.size ≤ Nv := Nat.le_trans hU.size hNv
    clear hNv
    replace hU := hU.trans (hb.mono hU.size)
    clear hb
    exact permG hG (by kernel_rfl) (St215 _ _ _ _ _ _ _ hU HC1 Ex Ox Cx Lx Yx Bu hzu Bv hzv (by first | exact neau | exact Ne.symm neua) (by first | exact nebu | exact Ne.symm neub) (by first | exact necu | exact Ne.symm neuc) (by first | exact neav | exact Ne.symm neva) (by first | exact nebv | exact Ne.symm nevb) (by first | exact necv | exact Ne.symm nevc) (by first | exact neuv | exact Ne.symm nevu))
    refine stepR_al (i := 8) (m' := 343) rfl rfl (by kernel_rfl) (by kernel_rfl) (by kernel_rfl) rfl ?_
    intro w28 Nt Bt hNt hb
    replace Bt := hide Bt
    have neat : Na ≠ Nt := by have := (q1_a _ HC1.out).lt; omega
    have nebt : Nb ≠ Nt := by have := (q1_b _ HC1.out).lt; omega
    have nect : Nc ≠ Nt := by have := (q1_c _ HC1.out).lt; omega
    have neut : Nu ≠ Nt := by have := Bu.out.lt; omega
    replace HC1 := hide (HM1 _ _ HC1.out hb)
    replace Ox := hide (RQ.below Ox.out hb)
    replace Bu := hide (Box.kept Bu.out hb)
    have hzt : w.heap.size ≤ Nt := Nat.le_trans hU.size hNt
    clear hNt
    replace hU := hU.trans (hb.mono hU.size)
    clear hb
    exact permG hG (by kernel_rfl) (St343 _ _ _ _ _ _ _ hU HC1 Ex Ox Cx Lx Yx Bt hzt Bu hzu (by first | exact neat | exact Ne.symm neta) (by first | exact nebt | exact Ne.symm netb) (by first | exact nect | exact Ne.symm netc) (by first | exact neau | exact Ne.symm neua) (by first | exact nebu | exact Ne.symm neub) (by first | exact necu | exact Ne.symm neuc) (by first | exact netu | exact Ne.symm neut))
  have St151 : ∀ (lx : List Int) (sx : Bool) (Ax : Option Addr) (cx : Nat) (Nv : Nat) (W : World), Below w.heap.size w W → Hid (Pr1 W) → Hid ((⟨lx, sx⟩ : Vc) = ⟨la, sa⟩) → Hid (RQ W Ax lx) → Hid (lx.length ≤ cx ∧ cx ≤ maxLen) → Hid (lx.length ≤ 4096) → Hid (By lx) → Hid (Box Nv none 0 0 false W) → w.heap.size ≤ Nv → Na ≠ Nv → Nb ≠ Nv → Nc ≠ Nv → G 7 151 [(14, .pointer (some ⟨Nv, 0, none⟩)), (29, .agg #[.slice Ax lx.length cx, .bool sx])] W := by
    intro lx sx Ax cx Nv W hU HC1 Ex Ox Cx Lx Yx Bv hzv neav nebv necv
    refine (hG _ _ _ _).2 ?_
    refine anyR_split [3, 6, 8] (by kernel_rfl) rfl ⟨?_, ?_, ?_, trivial⟩
    refine stepR_call (i := 3) (m' := 159) rfl rfl (by kernel_rfl) (by kernel_rfl) (by kernel_rfl) (by kernel_rfl) ((vown_any Ab lb cb sb _ Lb.out Cb (p1_b W HC1.out) Yb.out).mono ?_)
    rintro e w29 ⟨ly, sy, Ay, cy, Ey, rfl, Cy, Oy, hb⟩
    refine ⟨_, rfl, hb, ?_⟩
    replace HC1 := hide (HM1 _ _ HC1.out hb)
    replace Ox := hide (RQ.below Ox.out hb)
    replace Bv := hide (Box.kept Bv.out hb)
    replace Oy := hide Oy.out.rd
    replace hU := hU.trans (hb.mono hU.size)
    clear hb
    have g : By ly ∧ ly.length ≤ 4096 := by have h := congrArg Vc.b Ey.out; dsimp only at h; rw [h]; exact ⟨Yb.out, Lb.out⟩
    have Ly := hide g.2
    have Yy := hide g.1
    clear g
    exact permG hG (by kernel_rfl) (St159 _ _ _ _ _ _ _ _ _ _ hU HC1 Ex Ox Cx Lx Yx Ey Oy Cy Ly Yy Bv hzv (by first | exact neav | exact Ne.symm neva) (by first | exact nebv | exact Ne.symm nevb) (by first | exact necv | exact Ne.symm nevc))
    refine stepR_al (i := 6) (m' := 215) rfl rfl (by kernel_rfl) (by kernel_rfl) (by kernel_rfl) rfl ?_
    intro w30 Nu Bu hNu hb
    replace Bu := hide Bu
    have neau : Na ≠ Nu := by have := (q1_a _ HC1.out).lt; omega
    have nebu : Nb ≠ Nu := by have := (q1_b _ HC1.out).lt; omega
    have necu : Nc ≠ Nu := by have := (q1_c _ HC1.out).lt; omega
    have nevu : Nv ≠ Nu := by have := Bv.out.lt; omega
    replace HC1 := hide (HM1 _ _ HC1.out hb)
    replace Ox := hide (RQ.below Ox.out hb)
    replace Bv := hide (Box.kept Bv.out hb)
    have hzu : w.heap.size ≤ Nu := Nat.le_trans hU.size hNu
    clear hNu
    replace hU := hU.trans (hb.mono hU.size)
    clear hb
    exact permG hG (by kernel_rfl) (St215 _ _ _ _ _ _ _ hU HC1 Ex Ox Cx Lx Yx Bu hzu Bv hzv (by first | exact neau | exact Ne.symm neua) (by first | exact nebu | exact Ne.symm neub) (by first | exact necu | exact Ne.symm neuc) (by first | exact neav | exact Ne.symm neva) (by first | exact nebv | exact Ne.symm nevb) (by first | exact necv | exact Ne.symm nevc) (by first | exact neuv | exact Ne.symm nevu))
    refine stepR_al (i := 8) (m' := 407) rfl rfl (by kernel_rfl) (by kernel_rfl) (by kernel_rfl) rfl ?_
    intro w31 Nt Bt hNt hb
    replace Bt := hide Bt
    have neat : Na ≠ Nt := by have := (q1_a _ HC1.out).lt; omega
    have nebt : Nb ≠ Nt := by have := (q1_b _ HC1.out).lt; omega
    have nect : Nc ≠ Nt := by have := (q1_c _ HC1.out).lt; omega
    have nevt : Nv ≠ Nt := by have := Bv.out.lt; omega
    replace HC1 := hide (HM1 _ _ HC1.out hb)
    replace Ox := hide (RQ.below Ox.out hb)
    replace Bv := hide (Box.kept Bv.out hb)
    have hzt : w.heap.size ≤ Nt := Nat.le_trans hU.size hNt
    clear hNt
    replace hU := hU.trans (hb.mono hU.size)
    clear hb
    exact permG hG (by kernel_rfl) (St407 _ _ _ _ _ _ _ hU HC1 Ex Ox Cx Lx Yx Bt hzt Bv hzv (by first | exact neat | exact Ne.symm neta) (by first | exact nebt | exact Ne.symm netb) (by first | exact nect | exact Ne.symm netc) (by first | exact neav | exact Ne.symm neva) (by first | exact nebv | exact Ne.symm nevb) (by first | exact necv | exact Ne.symm nevc) (by first | exact netv | exact Ne.symm nevt))
  have St213 : ∀ (Nu : Nat) (Nv : Nat) (W : World), Below w.heap.size w W → Hid (Pr1 W) → Hid (Box Nu none 0 0 false W) → w.heap.size ≤ Nu → Hid (Box Nv none 0 0 false W) → w.heap.size ≤ Nv → Na ≠ Nu → Nb ≠ Nu → Nc ≠ Nu → Na ≠ Nv → Nb ≠ Nv → Nc ≠ Nv → Nu ≠ Nv → G 7 213 [(13, .pointer (some ⟨Nu, 0, none⟩)), (14, .pointer (some ⟨Nv, 0, none⟩))] W := by
    intro Nu Nv W hU HC1 Bu hzu Bv hzv neau nebu necu neav nebv necv neuv
    refine (hG _ _ _ _).2 ?_
    refine anyR_split [1, 8] (by kernel_rfl) rfl ⟨?_, ?_, trivial⟩
    refine stepR_call (i := 1) (m' := 215) rfl rfl (by kernel_rfl) (by kernel_rfl) (by kernel_rfl) (by kernel_rfl) ((vown_any Aa la ca sa _ La.out Ca (p1_a W HC1.out) Ya.out).mono ?_)
    rintro e w35 ⟨lx, sx, Ax, cx, Ex, rfl, Cx, Ox, hb⟩
    refine ⟨_, rfl, hb, ?_⟩
    replace HC1 := hide (HM1 _ _ HC1.out hb)
    replace Bu := hide (Box.kept Bu.out hb)
    replace Bv := hide (Box.kept Bv.out hb)
    replace Ox := hide Ox.out.rd
    replace hU := hU.trans (hb.mono hU.size)
    clear hb
    have g : By lx ∧ lx.length ≤ 4096 := by have h := congrArg Vc.b Ex.out; dsimp only at h; rw [h]; exact ⟨Ya.out, La.out⟩
    have Lx := hide g.2
    have Yx := hide g.1
    clear g
    exact permG hG (by kernel_rfl) (St215 _ _ _ _ _ _ _ hU HC1 Ex Ox Cx Lx Yx Bu hzu Bv hzv (by first | exact neau | exact Ne.symm neua) (by first | exact nebu | exact Ne.symm neub) (by first | exact necu | exact Ne.symm neuc) (by first | exact neav | exact Ne.symm neva) (by first | exact nebv | exact Ne.symm nevb) (by first | exact necv | exact Ne.symm nevc) (by first | exact neuv | exact Ne.symm nevu))
    refine stepR_al (i := 8) (m' := 469) rfl rfl (by kernel_rfl) (by kernel_rfl) (by kernel_rfl) rfl ?_
    intro w36 Nt Bt hNt hb
    replace Bt := hide Bt
    have neat : Na ≠ Nt := by have := (q1_a _ HC1.out).lt; omega
    have nebt : Nb ≠ Nt := by have := (q1_b _ HC1.out).lt; omega
    have nect : Nc ≠ Nt := by have := (q1_c _ HC1.out).lt; omega
    have neut : Nu ≠ Nt := by have := Bu.out.lt; omega
    have nevt : Nv ≠ Nt := by have := Bv.out.lt; omega
    replace HC1 := hide (HM1 _ _ HC1.out hb)
    replace Bu := hide (Box.kept Bu.out hb)
    replace Bv := hide (Box.kept Bv.out hb)
    have hzt : w.heap.size ≤ Nt := Nat.le_trans hU.size hNt
    clear hNt
    replace hU := hU.trans (hb.mono hU.size)
    clear hb
    exact permG hG (by kernel_rfl) (St469 _ _ _ _ hU HC1 Bt hzt Bu hzu Bv hzv (by first | exact neat | exact Ne.symm neta) (by first | exact nebt | exact Ne.symm netb) (by first | exact nect | exact Ne.symm netc) (by first | exact neau | exact Ne.symm neua) (by first | exact nebu | exact Ne.symm neub) (by first | exact necu | exact Ne.symm neuc) (by first | exact netu | exact Ne.symm neut) (by first | exact neav | exact Ne.symm neva) (by first | exact nebv | exact Ne.symm nevb) (by first | exact necv | exact Ne.symm nevc) (by first | exact netv | exact Ne.symm nevt) (by first | exact neuv | exact Ne.symm nevu))
  have St279 : ∀ (lx : List Int) (sx : Bool) (Ax : Option Addr) (cx : Nat) (Nt : Nat) (W : World), Below w.heap.size w W → Hid (Pr1 W) → Hid ((⟨lx, sx⟩ : Vc) = ⟨la, sa⟩) → Hid (RQ W Ax lx) → Hid (lx.length ≤ cx ∧ cx ≤ maxLen) → Hid (lx.length ≤ 4096) → Hid (By lx) → Hid (Box Nt none 0 0 false W) → w.heap.size ≤ Nt → Na ≠ Nt → Nb ≠ Nt → Nc ≠ Nt → G 7 279 [(15, .pointer (some ⟨Nt, 0, none⟩)), (29, .agg #[.slice Ax lx.length cx, .bool sx])] W := by
    intro lx sx Ax cx Nt W hU HC1 Ex Ox Cx Lx Yx Bt hzt neat nebt nect
    refine (hG _ _ _ _).2 ?_
    refine anyR_split [3, 6, 7] (by kernel_rfl) rfl ⟨?_, ?_, ?_, trivial⟩
    refine stepR_call (i := 3) (m' := 287) rfl rfl (by kernel_rfl) (by kernel_rfl) (by kernel_rfl) (by kernel_rfl) ((vown_any Ab lb cb sb _ Lb.out Cb (p1_b W HC1.out) Yb.out).mono ?_)
    rintro e w32 ⟨ly, sy, Ay, cy, Ey, rfl, Cy, Oy, hb⟩
    refine ⟨_, rfl, hb, ?_⟩
    replace HC1 := hide (HM1 _ _ HC1.out hb)
    replace Ox := hide (RQ.below Ox.out hb)
    replace Bt := hide (Box.kept Bt.out hb)
    replace Oy := hide Oy.out.rd
    replace hU := hU.trans (hb.mono hU.size)
    clear hb
    have g : By ly ∧ ly.length ≤ 4096 := by have h := congrArg Vc.b Ey.out; dsimp only at h; rw [h]; exact ⟨Yb.out, Lb.out⟩
    have Ly := hide g.2
    have Yy := hide g.1
    clear g
    exact permG hG (by kernel_rfl) (St287 _ _ _ _ _ _ _ _ _ _ hU HC1 Ex Ox Cx Lx Yx Ey Oy Cy Ly Yy Bt hzt (by first | exact neat | exact Ne.symm neta) (by first | exact nebt | exact Ne.symm netb) (by first | exact nect | exact Ne.symm netc))
    refine stepR_al (i := 6) (m' := 343) rfl rfl (by kernel_rfl) (by kernel_rfl) (by kernel_rfl) rfl ?_
    intro w33 Nu Bu hNu hb
    replace Bu := hide Bu
    have neau : Na ≠ Nu := by have := (q1_a _ HC1.out).lt; omega
    have nebu : Nb ≠ Nu := by have := (q1_b _ HC1.out).lt; omega
    have necu : Nc ≠ Nu := by have := (q1_c _ HC1.out).lt; omega
    have netu : Nt ≠ Nu := by have := Bt.out.lt; omega
    replace HC1 := hide (HM1 _ _ HC1.out hb)
    replace Ox := hide (RQ.below Ox.out hb)
    replace Bt := hide (Box.kept Bt.out hb)
    have hzu : w.heap.size ≤ Nu := Nat.le_trans hU.size hNu
    clear hNu
    replace hU := hU.trans (hb.mono hU.size)
    clear hb
    exact permG hG (by kernel_rfl) (St343 _ _ _ _ _ _ _ hU HC1 Ex Ox Cx Lx Yx Bt hzt Bu hzu (by first | exact neat | exact Ne.symm neta) (by first | exact nebt | exact Ne.symm netb) (by first | exact nect | exact Ne.symm netc) (by first | exact neau | exact Ne.symm neua) (by first | exact nebu | exact Ne.symm neub) (by first | exact necu | exact Ne.symm neuc) (by first | exact netu | exact Ne.symm neut))
    refine stepR_al (i := 7) (m' := 407) rfl rfl (by kernel_rfl) (by kernel_rfl) (by kernel_rfl) rfl ?_
    intro w34 Nv Bv hNv hb
    replace Bv := hide Bv
    have neav : Na ≠ Nv := by have := (q1_a _ HC1.out).lt; omega
    have nebv : Nb ≠ Nv := by have := (q1_b _ HC1.out).lt; omega
    have necv : Nc ≠ Nv := by have := (q1_c _ HC1.out).lt; omega
    have netv : Nt ≠ Nv := by have := Bt.out.lt; omega
    replace HC1 := hide (HM1 _ _ HC1.out hb)
    replace Ox := hide (RQ.below Ox.out hb)
    replace Bt := hide (Box.kept Bt.out hb)
    have hzv : w.heap.size ≤ Nv := Nat.le_trans hU.size hNv
    clear hNv
    replace hU := hU.trans (hb.mono hU.size)
    clear hb
    exact permG hG (by kernel_rfl) (St407 _ _ _ _ _ _ _ hU HC1 Ex Ox Cx Lx Yx Bt hzt Bv hzv (by first | exact neat | exact Ne.symm neta) (by first | exact nebt | exact Ne.symm netb) (by first | exact nect | exact Ne.symm netc) (by first | exact neav | exact Ne.symm neva) (by first | exact nebv | exact Ne.symm nevb) (by first | exact necv | exact Ne.symm nevc) (by first | exact netv | exact Ne.symm nevt))
  have St341 : ∀ (Nt : Nat) (Nu : Nat) (W : World), Below w.heap.size w W → Hid (Pr1 W) → Hid (Box Nt none 0 0 false W) → w.heap.size ≤ Nt → Hid (Box Nu none 0 0 false W) → w.heap.size ≤ Nu → Na ≠ Nt → Nb ≠ Nt → Nc ≠ Nt → Na ≠ Nu → Nb ≠ Nu → Nc ≠ Nu → Nt ≠ Nu → G 7 341 [(13, .pointer (some ⟨Nu, 0, none⟩)), (15, .pointer (some ⟨Nt, 0, none⟩))] W := by
    intro Nt Nu W hU HC1 Bt hzt Bu hzu neat nebt nect neau nebu necu netu
    refine (hG _ _ _ _).2 ?_
    refine anyR_split [1, 7] (by kernel_rfl) rfl ⟨?_, ?_, trivial⟩
    refine stepR_call (i := 1) (m' := 343) rfl rfl (by kernel_rfl) (by kernel_rfl) (by kernel_rfl) (by kernel_rfl) ((vown_any Aa la ca sa _ La.out Ca (p1_a W HC1.out) Ya.out).mono ?_)
    rintro e w37 ⟨lx, sx, Ax, cx, Ex, rfl, Cx, Ox, hb⟩
    refine ⟨_, rfl, hb, ?_⟩
    replace HC1 := hide (HM1 _ _ HC1.out hb)
    replace Bt := hide (Box.kept Bt.out hb)
    replace Bu := hide (Box.kept Bu.out hb)
    replace Ox := hide Ox.out.rd
    replace hU := hU.trans (hb.mono hU.size)
    clear hb
    have g : By lx ∧ lx.length ≤ 4096 := by have h := congrArg Vc.b Ex.out; dsimp only at h; rw [h]; exact ⟨Ya.out, La.out⟩
    have Lx := hide g.2
    have Yx := hide g.1
    clear g
    exact permG hG (by kernel_rfl) (St343 _ _ _ _ _ _ _ hU HC1 Ex Ox Cx Lx Yx Bt hzt Bu hzu (by first | exact neat | exact Ne.symm neta) (by first | exact nebt | exact Ne.symm netb) (by first | exact nect | exact Ne.symm netc) (by first | exact neau | exact Ne.symm neua) (by first | exact nebu | exact Ne.symm neub) (by first | exact necu | exact Ne.symm neuc) (by first | exact netu | exact Ne.symm neut))
    refine stepR_al (i := 7) (m' := 469) rfl rfl (by kernel_rfl) (by kernel_rfl) (by kernel_rfl) rfl ?_
    intro w38 Nv Bv hNv hb
    replace Bv := hide Bv
    have neav : Na ≠ Nv := by have := (q1_a _ HC1.out).lt; omega
    have nebv : Nb ≠ Nv := by have := (q1_b _ HC1.out).lt; omega
    have necv : Nc ≠ Nv := by have := (q1_c _ HC1.out).lt; omega
    have netv : Nt ≠ Nv := by have := Bt.out.lt; omega
    have neuv : Nu ≠ Nv := by have := Bu.out.lt; omega
    replace HC1 := hide (HM1 _ _ HC1.out hb)
    replace Bt := hide (Box.kept Bt.out hb)
    replace Bu := hide (Box.kept Bu.out hb)
    have hzv : w.heap.size ≤ Nv := Nat.le_trans hU.size hNv
    clear hNv
    replace hU := hU.trans (hb.mono hU.size)
    clear hb
    exact permG hG (by kernel_rfl) (St469 _ _ _ _ hU HC1 Bt hzt Bu hzu Bv hzv (by first | exact neat | exact Ne.symm neta) (by first | exact nebt | exact Ne.symm netb) (by first | exact nect | exact Ne.symm netc) (by first | exact neau | exact Ne.symm neua) (by first | exact nebu | exact Ne.symm neub) (by first | exact necu | exact Ne.symm neuc) (by first | exact netu | exact Ne.symm neut) (by first | exact neav | exact Ne.symm neva) (by first | exact nebv | exact Ne.symm nevb) (by first | exact necv | exact Ne.symm nevc) (by first | exact netv | exact Ne.symm nevt) (by first | exact neuv | exact Ne.symm nevu))
  have St405 : ∀ (Nt : Nat) (Nv : Nat) (W : World), Below w.heap.size w W → Hid (Pr1 W) → Hid (Box Nt none 0 0 false W) → w.heap.size ≤ Nt → Hid (Box Nv none 0 0 false W) → w.heap.size ≤ Nv → Na ≠ Nt → Nb ≠ Nt → Nc ≠ Nt → Na ≠ Nv → Nb ≠ Nv → Nc ≠ Nv → Nt ≠ Nv → G 7 405 [(14, .pointer (some ⟨Nv, 0, none⟩)), (15, .pointer (some ⟨Nt, 0, none⟩))] W := by
    intro Nt Nv W hU HC1 Bt hzt Bv hzv neat nebt nect neav nebv necv netv
    refine (hG _ _ _ _).2 ?_
    refine anyR_split [1, 6] (by kernel_rfl) rfl ⟨?_, ?_, trivial⟩
    refine stepR_call (i := 1) (m' := 407) rfl rfl (by kernel_rfl) (by kernel_rfl) (by kernel_rfl) (by kernel_rfl) ((vown_any Aa la ca sa _ La.out Ca (p1_a W HC1.out) Ya.out).mono ?_)
    rintro e w39 ⟨lx, sx, Ax, cx, Ex, rfl, Cx, Ox, hb⟩
    refine ⟨_, rfl, hb, ?_⟩
    replace HC1 := hide (HM1 _ _ HC1.out hb)
    replace Bt := hide (Box.kept Bt.out hb)
    replace Bv := hide (Box.kept Bv.out hb)
    replace Ox := hide Ox.out.rd
    replace hU := hU.trans (hb.mono hU.size)
    clear hb
    have g : By lx ∧ lx.length ≤ 4096 := by have h := congrArg Vc.b Ex.out; dsimp only at h; rw [h]; exact ⟨Ya.out, La.out⟩
    have Lx := hide g.2
    have Yx := hide g.1
    clear g
    exact permG hG (by kernel_rfl) (St407 _ _ _ _ _ _ _ hU HC1 Ex Ox Cx Lx Yx Bt hzt Bv hzv (by first | exact neat | exact Ne.symm neta) (by first | exact nebt | exact Ne.symm netb) (by first | exact nect | exact Ne.symm netc) (by first | exact neav | exact Ne.symm neva) (by first | exact nebv | exact Ne.symm nevb) (by first | exact necv | exact Ne.symm nevc) (by first | exact netv | exact Ne.symm nevt))
    refine stepR_al (i := 6) (m' := 469) rfl rfl (by kernel_rfl) (by kernel_rfl) (by kernel_rfl) rfl ?_
    intro w40 Nu Bu hNu hb
    replace Bu := hide Bu
    have neau : Na ≠ Nu := by have := (q1_a _ HC1.out).lt; omega
    have nebu : Nb ≠ Nu := by have := (q1_b _ HC1.out).lt; omega
    have necu : Nc ≠ Nu := by have := (q1_c _ HC1.out).lt; omega
    have netu : Nt ≠ Nu := by have := Bt.out.lt; omega
    have nevu : Nv ≠ Nu := by have := Bv.out.lt; omega
    replace HC1 := hide (HM1 _ _ HC1.out hb)
    replace Bt := hide (Box.kept Bt.out hb)
    replace Bv := hide (Box.kept Bv.out hb)
    have hzu : w.heap.size ≤ Nu := Nat.le_trans hU.size hNu
    clear hNu
    replace hU := hU.trans (hb.mono hU.size)
    clear hb
    exact permG hG (by kernel_rfl) (St469 _ _ _ _ hU HC1 Bt hzt Bu hzu Bv hzv (by first | exact neat | exact Ne.symm neta) (by first | exact nebt | exact Ne.symm netb) (by first | exact nect | exact Ne.symm netc) (by first | exact neau | exact Ne.symm neua) (by first | exact nebu | exact Ne.symm neub) (by first | exact necu | exact Ne.symm neuc) (by first | exact netu | exact Ne.symm neut) (by first | exact neav | exact Ne.symm neva) (by first | exact nebv | exact Ne.symm nevb) (by first | exact necv | exact Ne.symm nevc) (by first | exact netv | exact Ne.symm nevt) (by first | exact neuv | exact Ne.symm nevu))
  have St23 : ∀ (lx : List Int) (sx : Bool) (Ax : Option Addr) (cx : Nat) (W : World), Below w.heap.size w W → Hid (Pr1 W) → Hid ((⟨lx, sx⟩ : Vc) = ⟨la, sa⟩) → Hid (RQ W Ax lx) → Hid (lx.length ≤ cx ∧ cx ≤ maxLen) → Hid (lx.length ≤ 4096) → Hid (By lx) → G 8 23 [(29, .agg #[.slice Ax lx.length cx, .bool sx])] W := by
    intro lx sx Ax cx W hU HC1 Ex Ox Cx Lx Yx
    refine (hG _ _ _ _).2 ?_
    refine anyR_split [3, 6, 7, 8] (by kernel_rfl) rfl ⟨?_, ?_, ?_, ?_, trivial⟩
    refine stepR_call (i := 3) (m' := 31) rfl rfl (by kernel_rfl) (by kernel_rfl) (by kernel_rfl) (by kernel_rfl) ((vown_any Ab lb cb sb _ Lb.out Cb (p1_b W HC1.out) Yb.out).mono ?_)
    rintro e w9 ⟨ly, sy, Ay, cy, Ey, rfl, Cy, Oy, hb⟩
    refine ⟨_, rfl, hb, ?_⟩
    replace HC1 := hide (HM1 _ _ HC1.out hb)
    replace Ox := hide (RQ.below Ox.out hb)
    replace Oy := hide Oy.out.rd
    replace hU := hU.trans (hb.mono hU.size)
    clear hb
    have g : By ly ∧ ly.length ≤ 4096 := by have h := congrArg Vc.b Ey.out; dsimp only at h; rw [h]; exact ⟨Yb.out, Lb.out⟩
    have Ly := hide g.2
    have Yy := hide g.1
    clear g
    exact permG hG (by kernel_rfl) (St31 _ _ _ _ _ _ _ _ _ hU HC1 Ex Ox Cx Lx Yx Ey Oy Cy Ly Yy)
    refine stepR_al (i := 6) (m' := 87) rfl rfl (by kernel_rfl) (by kernel_rfl) (by kernel_rfl) rfl ?_
    intro w10 Nu Bu hNu hb
    replace Bu := hide Bu
    have neau : Na ≠ Nu := by have := (q1_a _ HC1.out).lt; omega
    have nebu : Nb ≠ Nu := by have := (q1_b _ HC1.out).lt; omega
    have necu : Nc ≠ Nu := by have := (q1_c _ HC1.out).lt; omega
    replace HC1 := hide (HM1 _ _ HC1.out hb)
    replace Ox := hide (RQ.below Ox.out hb)
    have hzu : w.heap.size ≤ Nu := Nat.le_trans hU.size hNu
    clear hNu
    replace hU := hU.trans (hb.mono hU.size)
    clear hb
    exact permG hG (by kernel_rfl) (St87 _ _ _ _ _ _ hU HC1 Ex Ox Cx Lx Yx Bu hzu (by first | exact neau | exact Ne.symm neua) (by first | exact nebu | exact Ne.symm neub) (by first | exact necu | exact Ne.symm neuc))
    refine stepR_al (i := 7) (m' := 151) rfl rfl (by kernel_rfl) (by kernel_rfl) (by kernel_rfl) rfl ?_
    intro w11 Nv Bv hNv hb
    replace Bv := hide Bv
    have neav : Na ≠ Nv := by have := (q1_a _ HC1.out).lt; omega
    have nebv : Nb ≠ Nv := by have := (q1_b _ HC1.out).lt; omega
    have necv : Nc ≠ Nv := by have := (q1_c _ HC1.out).lt; omega
    replace HC1 := hide (HM1 _ _ HC1.out hb)
    replace Ox := hide (RQ.below Ox.out hb)
    have hzv : w.heap.size ≤ Nv := Nat.le_trans hU.size hNv
    clear hNv
    replace hU := hU.trans (hb.mono hU.size)
    clear hb
    exact permG hG (by kernel_rfl) (St151 _ _ _ _ _ _ hU HC1 Ex Ox Cx Lx Yx Bv hzv (by first | exact neav | exact Ne.symm neva) (by first | exact nebv | exact Ne.symm nevb) (by first | exact necv | exact Ne.symm nevc))
    refine stepR_al (i := 8) (m' := 279) rfl rfl (by kernel_rfl) (by kernel_rfl) (by kernel_rfl) rfl ?_
    intro w12 Nt Bt hNt hb
    replace Bt := hide Bt
    have neat : Na ≠ Nt := by have := (q1_a _ HC1.out).lt; omega
    have nebt : Nb ≠ Nt := by have := (q1_b _ HC1.out).lt; omega
    have nect : Nc ≠ Nt := by have := (q1_c _ HC1.out).lt; omega
    replace HC1 := hide (HM1 _ _ HC1.out hb)
    replace Ox := hide (RQ.below Ox.out hb)
    have hzt : w.heap.size ≤ Nt := Nat.le_trans hU.size hNt
    clear hNt
    replace hU := hU.trans (hb.mono hU.size)
    clear hb
    exact permG hG (by kernel_rfl) (St279 _ _ _ _ _ _ hU HC1 Ex Ox Cx Lx Yx Bt hzt (by first | exact neat | exact Ne.symm neta) (by first | exact nebt | exact Ne.symm netb) (by first | exact nect | exact Ne.symm netc))
  have St85 : ∀ (Nu : Nat) (W : World), Below w.heap.size w W → Hid (Pr1 W) → Hid (Box Nu none 0 0 false W) → w.heap.size ≤ Nu → Na ≠ Nu → Nb ≠ Nu → Nc ≠ Nu → G 8 85 [(13, .pointer (some ⟨Nu, 0, none⟩))] W := by
    intro Nu W hU HC1 Bu hzu neau nebu necu
    refine (hG _ _ _ _).2 ?_
    refine anyR_split [1, 7, 8] (by kernel_rfl) rfl ⟨?_, ?_, ?_, trivial⟩
    refine stepR_call (i := 1) (m' := 87) rfl rfl (by kernel_rfl) (by kernel_rfl) (by kernel_rfl) (by kernel_rfl) ((vown_any Aa la ca sa _ La.out Ca (p1_a W HC1.out) Ya.out).mono ?_)
    rintro e w13 ⟨lx, sx, Ax, cx, Ex, rfl, Cx, Ox, hb⟩
    refine ⟨_, rfl, hb, ?_⟩
    replace HC1 := hide (HM1 _ _ HC1.out hb)
    replace Bu := hide (Box.kept Bu.out hb)
    replace Ox := hide Ox.out.rd
    replace hU := hU.trans (hb.mono hU.size)
    clear hb
    have g : By lx ∧ lx.length ≤ 4096 := by have h := congrArg Vc.b Ex.out; dsimp only at h; rw [h]; exact ⟨Ya.out, La.out⟩
    have Lx := hide g.2
    have Yx := hide g.1
    clear g
    exact permG hG (by kernel_rfl) (St87 _ _ _ _ _ _ hU HC1 Ex Ox Cx Lx Yx Bu hzu (by first | exact neau | exact Ne.symm neua) (by first | exact nebu | exact Ne.symm neub) (by first | exact necu | exact Ne.symm neuc))
    refine stepR_al (i := 7) (m' := 213) rfl rfl (by kernel_rfl) (by kernel_rfl) (by kernel_rfl) rfl ?_
    intro w14 Nv Bv hNv hb
    replace Bv := hide Bv
    have neav : Na ≠ Nv := by have := (q1_a _ HC1.out).lt; omega
    have nebv : Nb ≠ Nv := by have := (q1_b _ HC1.out).lt; omega
    have necv : Nc ≠ Nv := by have := (q1_c _ HC1.out).lt; omega
    have neuv : Nu ≠ Nv := by have := Bu.out.lt; omega
    replace HC1 := hide (HM1 _ _ HC1.out hb)
    replace Bu := hide (Box.kept Bu.out hb)
    have hzv : w.heap.size ≤ Nv := Nat.le_trans hU.size hNv
    clear hNv
    replace hU := hU.trans (hb.mono hU.size)
    clear hb
    exact permG hG (by kernel_rfl) (St213 _ _ _ hU HC1 Bu hzu Bv hzv (by first | exact neau | exact Ne.symm neua) (by first | exact nebu | exact Ne.symm neub) (by first | exact necu | exact Ne.symm neuc) (by first | exact neav | exact Ne.symm neva) (by first | exact nebv | exact Ne.symm nevb) (by first | exact necv | exact Ne.symm nevc) (by first | exact neuv | exact Ne.symm nevu))
    refine stepR_al (i := 8) (m' := 341) rfl rfl (by kernel_rfl) (by kernel_rfl) (by kernel_rfl) rfl ?_
    intro w15 Nt Bt hNt hb
    replace Bt := hide Bt
    have neat : Na ≠ Nt := by have := (q1_a _ HC1.out).lt; omega
    have nebt : Nb ≠ Nt := by have := (q1_b _ HC1.out).lt; omega
    have nect : Nc ≠ Nt := by have := (q1_c _ HC1.out).lt; omega
    have neut : Nu ≠ Nt := by have := Bu.out.lt; omega
    replace HC1 := hide (HM1 _ _ HC1.out hb)
    replace Bu := hide (Box.kept Bu.out hb)
    have hzt : w.heap.size ≤ Nt := Nat.le_trans hU.size hNt
    clear hNt
    replace hU := hU.trans (hb.mono hU.size)
    clear hb
    exact permG hG (by kernel_rfl) (St341 _ _ _ hU HC1 Bt hzt Bu hzu (by first | exact neat | exact Ne.symm neta) (by first | exact nebt | exact Ne.symm netb) (by first | exact nect | exact Ne.symm netc) (by first | exact neau | exact Ne.symm neua) (by first | exact nebu | exact Ne.symm neub) (by first | exact necu | exact Ne.symm neuc) (by first | exact netu | exact Ne.symm neut))
  have St149 : ∀ (Nv : Nat) (W : World), Below w.heap.size w W → Hid (Pr1 W) → Hid (Box Nv none 0 0 false W) → w.heap.size ≤ Nv → Na ≠ Nv → Nb ≠ Nv → Nc ≠ Nv → G 8 149 [(14, .pointer (some ⟨Nv, 0, none⟩))] W := by
    intro Nv W hU HC1 Bv hzv neav nebv necv
    refine (hG _ _ _ _).2 ?_
    refine anyR_split [1, 6, 8] (by kernel_rfl) rfl ⟨?_, ?_, ?_, trivial⟩
    refine stepR_call (i := 1) (m' := 151) rfl rfl (by kernel_rfl) (by kernel_rfl) (by kernel_rfl) (by kernel_rfl) ((vown_any Aa la ca sa _ La.out Ca (p1_a W HC1.out) Ya.out).mono ?_)
    rintro e w16 ⟨lx, sx, Ax, cx, Ex, rfl, Cx, Ox, hb⟩
    refine ⟨_, rfl, hb, ?_⟩
    replace HC1 := hide (HM1 _ _ HC1.out hb)
    replace Bv := hide (Box.kept Bv.out hb)
    replace Ox := hide Ox.out.rd
    replace hU := hU.trans (hb.mono hU.size)
    clear hb
    have g : By lx ∧ lx.length ≤ 4096 := by have h := congrArg Vc.b Ex.out; dsimp only at h; rw [h]; exact ⟨Ya.out, La.out⟩
    have Lx := hide g.2
    have Yx := hide g.1
    clear g
    exact permG hG (by kernel_rfl) (St151 _ _ _ _ _ _ hU HC1 Ex Ox Cx Lx Yx Bv hzv (by first | exact neav | exact Ne.symm neva) (by first | exact nebv | exact Ne.symm nevb) (by first | exact necv | exact Ne.symm nevc))
    refine stepR_al (i := 6) (m' := 213) rfl rfl (by kernel_rfl) (by kernel_rfl) (by kernel_rfl) rfl ?_
    intro w17 Nu Bu hNu hb
    replace Bu := hide Bu
    have neau : Na ≠ Nu := by have := (q1_a _ HC1.out).lt; omega
    have nebu : Nb ≠ Nu := by have := (q1_b _ HC1.out).lt; omega
    have necu : Nc ≠ Nu := by have := (q1_c _ HC1.out).lt; omega
    have nevu : Nv ≠ Nu := by have := Bv.out.lt; omega
    replace HC1 := hide (HM1 _ _ HC1.out hb)
    replace Bv := hide (Box.kept Bv.out hb)
    have hzu : w.heap.size ≤ Nu := Nat.le_trans hU.size hNu
    clear hNu
    replace hU := hU.trans (hb.mono hU.size)
    clear hb
    exact permG hG (by kernel_rfl) (St213 _ _ _ hU HC1 Bu hzu Bv hzv (by first | exact neau | exact Ne.symm neua) (by first | exact nebu | exact Ne.symm neub) (by first | exact necu | exact Ne.symm neuc) (by first | exact neav | exact Ne.symm neva) (by first | exact nebv | exact Ne.symm nevb) (by first | exact necv | exact Ne.symm nevc) (by first | exact neuv | exact Ne.symm nevu))
    refine stepR_al (i := 8) (m' := 405) rfl rfl (by kernel_rfl) (by kernel_rfl) (by kernel_rfl) rfl ?_
    intro w18 Nt Bt hNt hb
    replace Bt := hide Bt
    have neat : Na ≠ Nt := by have := (q1_a _ HC1.out).lt; omega
    have nebt : Nb ≠ Nt := by have := (q1_b _ HC1.out).lt; omega
    have nect : Nc ≠ Nt := by have := (q1_c _ HC1.out).lt; omega
    have nevt : Nv ≠ Nt := by have := Bv.out.lt; omega
    replace HC1 := hide (HM1 _ _ HC1.out hb)
    replace Bv := hide (Box.kept Bv.out hb)
    have hzt : w.heap.size ≤ Nt := Nat.le_trans hU.size hNt
    clear hNt
    replace hU := hU.trans (hb.mono hU.size)
    clear hb
    exact permG hG (by kernel_rfl) (St405 _ _ _ hU HC1 Bt hzt Bv hzv (by first | exact neat | exact Ne.symm neta) (by first | exact nebt | exact Ne.symm netb) (by first | exact nect | exact Ne.symm netc) (by first | exact neav | exact Ne.symm neva) (by first | exact nebv | exact Ne.symm nevb) (by first | exact necv | exact Ne.symm nevc) (by first | exact netv | exact Ne.symm nevt))
  have St277 : ∀ (Nt : Nat) (W : World), Below w.heap.size w W → Hid (Pr1 W) → Hid (Box Nt none 0 0 false W) → w.heap.size ≤ Nt → Na ≠ Nt → Nb ≠ Nt → Nc ≠ Nt → G 8 277 [(15, .pointer (some ⟨Nt, 0, none⟩))] W := by
    intro Nt W hU HC1 Bt hzt neat nebt nect
    refine (hG _ _ _ _).2 ?_
    refine anyR_split [1, 6, 7] (by kernel_rfl) rfl ⟨?_, ?_, ?_, trivial⟩
    refine stepR_call (i := 1) (m' := 279) rfl rfl (by kernel_rfl) (by kernel_rfl) (by kernel_rfl) (by kernel_rfl) ((vown_any Aa la ca sa _ La.out Ca (p1_a W HC1.out) Ya.out).mono ?_)
    rintro e w19 ⟨lx, sx, Ax, cx, Ex, rfl, Cx, Ox, hb⟩
    refine ⟨_, rfl, hb, ?_⟩
    replace HC1 := hide (HM1 _ _ HC1.out hb)
    replace Bt := hide (Box.kept Bt.out hb)
    replace Ox := hide Ox.out.rd
    replace hU := hU.trans (hb.mono hU.size)
    clear hb
    have g : By lx ∧ lx.length ≤ 4096 := by have h := congrArg Vc.b Ex.out; dsimp only at h; rw [h]; exact ⟨Ya.out, La.out⟩
    have Lx := hide g.2
    have Yx := hide g.1
    clear g
    exact permG hG (by kernel_rfl) (St279 _ _ _ _ _ _ hU HC1 Ex Ox Cx Lx Yx Bt hzt (by first | exact neat | exact Ne.symm neta) (by first | exact nebt | exact Ne.symm netb) (by first | exact nect | exact Ne.symm netc))
    refine stepR_al (i := 6) (m' := 341) rfl rfl (by kernel_rfl) (by kernel_rfl) (by kernel_rfl) rfl ?_
    intro w20 Nu Bu hNu hb
    replace Bu := hide Bu
    have neau : Na ≠ Nu := by have := (q1_a _ HC1.out).lt; omega
    have nebu : Nb ≠ Nu := by have := (q1_b _ HC1.out).lt; omega
    have necu : Nc ≠ Nu := by have := (q1_c _ HC1.out).lt; omega
    have netu : Nt ≠ Nu := by have := Bt.out.lt; omega
    replace HC1 := hide (HM1 _ _ HC1.out hb)
    replace Bt := hide (Box.kept Bt.out hb)
    have hzu : w.heap.size ≤ Nu := Nat.le_trans hU.size hNu
    clear hNu
    replace hU := hU.trans (hb.mono hU.size)
    clear hb
    exact permG hG (by kernel_rfl) (St341 _ _ _ hU HC1 Bt hzt Bu hzu (by first | exact neat | exact Ne.symm neta) (by first | exact nebt | exact Ne.symm netb) (by first | exact nect | exact Ne.symm netc) (by first | exact neau | exact Ne.symm neua) (by first | exact nebu | exact Ne.symm neub) (by first | exact necu | exact Ne.symm neuc) (by first | exact netu | exact Ne.symm neut))
    refine stepR_al (i := 7) (m' := 405) rfl rfl (by kernel_rfl) (by kernel_rfl) (by kernel_rfl) rfl ?_
    intro w21 Nv Bv hNv hb
    replace Bv := hide Bv
    have neav : Na ≠ Nv := by have := (q1_a _ HC1.out).lt; omega
    have nebv : Nb ≠ Nv := by have := (q1_b _ HC1.out).lt; omega
    have necv : Nc ≠ Nv := by have := (q1_c _ HC1.out).lt; omega
    have netv : Nt ≠ Nv := by have := Bt.out.lt; omega
    replace HC1 := hide (HM1 _ _ HC1.out hb)
    replace Bt := hide (Box.kept Bt.out hb)
    have hzv : w.heap.size ≤ Nv := Nat.le_trans hU.size hNv
    clear hNv
    replace hU := hU.trans (hb.mono hU.size)
    clear hb
    exact permG hG (by kernel_rfl) (St405 _ _ _ hU HC1 Bt hzt Bv hzv (by first | exact neat | exact Ne.symm neta) (by first | exact nebt | exact Ne.symm netb) (by first | exact nect | exact Ne.symm netc) (by first | exact neav | exact Ne.symm neva) (by first | exact nebv | exact Ne.symm nevb) (by first | exact necv | exact Ne.symm nevc) (by first | exact netv | exact Ne.symm nevt))
  have St21 : ∀ (W : World), Below w.heap.size w W → Hid (Pr1 W) → G 9 21 [] W := by
    intro W hU HC1
    refine (hG _ _ _ _).2 ?_
    refine anyR_split [1, 6, 7, 8] (by kernel_rfl) rfl ⟨?_, ?_, ?_, ?_, trivial⟩
    refine stepR_call (i := 1) (m' := 23) rfl rfl (by kernel_rfl) (by kernel_rfl) (by kernel_rfl) (by kernel_rfl) ((vown_any Aa la ca sa _ La.out Ca (p1_a W HC1.out) Ya.out).mono ?_)
    rintro e w5 ⟨lx, sx, Ax, cx, Ex, rfl, Cx, Ox, hb⟩
    refine ⟨_, rfl, hb, ?_⟩
    replace HC1 := hide (HM1 _ _ HC1.out hb)
    replace Ox := hide Ox.out.rd
    replace hU := hU.trans (hb.mono hU.size)
    clear hb
    have g : By lx ∧ lx.length ≤ 4096 := by have h := congrArg Vc.b Ex.out; dsimp only at h; rw [h]; exact ⟨Ya.out, La.out⟩
    have Lx := hide g.2
    have Yx := hide g.1
    clear g
    exact permG hG (by kernel_rfl) (St23 _ _ _ _ _ hU HC1 Ex Ox Cx Lx Yx)
    refine stepR_al (i := 6) (m' := 85) rfl rfl (by kernel_rfl) (by kernel_rfl) (by kernel_rfl) rfl ?_
    intro w6 Nu Bu hNu hb
    replace Bu := hide Bu
    have neau : Na ≠ Nu := by have := (q1_a _ HC1.out).lt; omega
    have nebu : Nb ≠ Nu := by have := (q1_b _ HC1.out).lt; omega
    have necu : Nc ≠ Nu := by have := (q1_c _ HC1.out).lt; omega
    replace HC1 := hide (HM1 _ _ HC1.out hb)
    have hzu : w.heap.size ≤ Nu := Nat.le_trans hU.size hNu
    clear hNu
    replace hU := hU.trans (hb.mono hU.size)
    clear hb
    exact permG hG (by kernel_rfl) (St85 _ _ hU HC1 Bu hzu (by first | exact neau | exact Ne.symm neua) (by first | exact nebu | exact Ne.symm neub) (by first | exact necu | exact Ne.symm neuc))
    refine stepR_al (i := 7) (m' := 149) rfl rfl (by kernel_rfl) (by kernel_rfl) (by kernel_rfl) rfl ?_
    intro w7 Nv Bv hNv hb
    replace Bv := hide Bv
    have neav : Na ≠ Nv := by have := (q1_a _ HC1.out).lt; omega
    have nebv : Nb ≠ Nv := by have := (q1_b _ HC1.out).lt; omega
    have necv : Nc ≠ Nv := by have := (q1_c _ HC1.out).lt; omega
    replace HC1 := hide (HM1 _ _ HC1.out hb)
    have hzv : w.heap.size ≤ Nv := Nat.le_trans hU.size hNv
    clear hNv
    replace hU := hU.trans (hb.mono hU.size)
    clear hb
    exact permG hG (by kernel_rfl) (St149 _ _ hU HC1 Bv hzv (by first | exact neav | exact Ne.symm neva) (by first | exact nebv | exact Ne.symm nevb) (by first | exact necv | exact Ne.symm nevc))
    refine stepR_al (i := 8) (m' := 277) rfl rfl (by kernel_rfl) (by kernel_rfl) (by kernel_rfl) rfl ?_
    intro w8 Nt Bt hNt hb
    replace Bt := hide Bt
    have neat : Na ≠ Nt := by have := (q1_a _ HC1.out).lt; omega
    have nebt : Nb ≠ Nt := by have := (q1_b _ HC1.out).lt; omega
    have nect : Nc ≠ Nt := by have := (q1_c _ HC1.out).lt; omega
    replace HC1 := hide (HM1 _ _ HC1.out hb)
    have hzt : w.heap.size ≤ Nt := Nat.le_trans hU.size hNt
    clear hNt
    replace hU := hU.trans (hb.mono hU.size)
    clear hb
    exact permG hG (by kernel_rfl) (St277 _ _ hU HC1 Bt hzt (by first | exact neat | exact Ne.symm neta) (by first | exact nebt | exact Ne.symm netb) (by first | exact nect | exact Ne.symm netc))
  generalize hw : World.drew w4 = W
  have hb : Below w4.heap.size w4 W := by rw [← hw]; exact (Below.refl _ _).drew
  clear hw
  replace HC1 := hide (HM1 _ _ HC1.out hb)
  replace hU := hU.trans (hb.mono hU.size)
  clear hb
  exact St21 _ hU HC1
  rintro ⟨⟨lx, sx, Ax, cx⟩, ⟨ly, sy, Ay, cy⟩, ⟨lz, sz, Az, cz⟩, Nt, Nu, Nv⟩ X80 w80 h
  clear hU HC1
  dsimp only at h
  obtain ⟨hU, HC1, Ex, Ox, Cx, Lx, Yx, Ey, Oy, Cy, Ly, Yy, Ez, Oz, Cz, Lz, Yz, Bt, Bu, Bv, hzt, hzu, hzv⟩ := h
  refine then_normal (wp_seq (wp_seq ?_))
  obtain ⟨Pr2, HM2, HC2, p2_x, p2_y, p2_z, p2_a, p2_b, p2_c, q2_a, q2_b, q2_c, q2_t, q2_u, q2_v⟩ : ∃ Pr : World → Prop, (∀ w w', Pr w → Below w.heap.size w w' → Pr w') ∧ Hid (Pr w80) ∧ (∀ W, Pr W → RQ W Ax lx) ∧ (∀ W, Pr W → RQ W Ay ly) ∧ (∀ W, Pr W → RQ W Az lz) ∧ (∀ W, Pr W → RQ W Aa la) ∧ (∀ W, Pr W → RQ W Ab lb) ∧ (∀ W, Pr W → RQ W Ac lc) ∧ (∀ W, Pr W → Box Na Aa la.length ca sa W) ∧ (∀ W, Pr W → Box Nb Ab lb.length cb sb W) ∧ (∀ W, Pr W → Box Nc Ac lc.length cc sc W) ∧ (∀ W, Pr W → Box Nt Az lz.length cz sz W) ∧ (∀ W, Pr W → Box Nu Ax lx.length cx sx W) ∧ (∀ W, Pr W → Box Nv Ay ly.length cy sy W) := ⟨fun W => RQ W Ax lx ∧ RQ W Ay ly ∧ RQ W Az lz ∧ RQ W Aa la ∧ RQ W Ab lb ∧ RQ W Ac lc ∧ Box Na Aa la.length ca sa W ∧ Box Nb Ab lb.length cb sb W ∧ Box Nc Ac lc.length cc sc W ∧ Box Nt Az lz.length cz sz W ∧ Box Nu Ax lx.length cx sx W ∧ Box Nv Ay ly.length cy sy W, fun _ _ h hb => ⟨RQ.below h.1 hb, RQ.below h.2.1 hb, RQ.below h.2.2.1 hb, RQ.below h.2.2.2.1 hb, RQ.below h.2.2.2.2.1 hb, RQ.below h.2.2.2.2.2.1 hb, Box.kept h.2.2.2.2.2.2.1 hb, Box.kept h.2.2.2.2.2.2.2.1 hb, Box.kept h.2.2.2.2.2.2.2.2.1 hb, Box.kept h.2.2.2.2.2.2.2.2.2.1 hb, Box.kept h.2.2.2.2.2.2.2.2.2.2.1 hb, Box.kept h.2.2.2.2.2.2.2.2.2.2.2 hb⟩, hide ⟨Ox.out, Oy.out, Oz.out, (p1_a w80 HC1.out), (p1_b w80 HC1.out), (p1_c w80 HC1.out), (q1_a _ HC1.out), (q1_b _ HC1.out), (q1_c _ HC1.out), Bt.out, Bu.out, Bv.out⟩, fun _ h => h.1, fun _ h => h.2.1, fun _ h => h.2.2.1, fun _ h => h.2.2.2.1, fun _ h => h.2.2.2.2.1, fun _ h => h.2.2.2.2.2.1, fun _ h => h.2.2.2.2.2.2.1, fun _ h => h.2.2.2.2.2.2.2.1, fun _ h => h.2.2.2.2.2.2.2.2.1, fun _ h => h.2.2.2.2.2.2.2.2.2.1, fun _ h => h.2.2.2.2.2.2.2.2.2.2.1, fun _ h => h.2.2.2.2.2.2.2.2.2.2.2⟩
  clear Ox Oy Oz Bt Bu Bv HC1
  obtain ⟨z0, hz0⟩ : ∃ z0, (if 1 ≤ m ∧ m ≤ 128 then (0 : Int) else 12) = z0 := ⟨_, rfl⟩
  obtain ⟨z1, hz1⟩ : ∃ z1, cte [⟨la, sa⟩, ⟨lb, sb⟩, ⟨lc, sc⟩] = z1 := ⟨_, rfl⟩
  obtain ⟨z2, hz2⟩ : ∃ z2, rpe m (cnt ⟨la, sa⟩).b.length = z2 := ⟨_, rfl⟩
  obtain ⟨z3, hz3⟩ : ∃ z3, spn m n = z3 := ⟨_, rfl⟩
  obtain ⟨z4, hz4⟩ : ∃ z4, cte [⟨lb, sb⟩] = z4 := ⟨_, rfl⟩
  have H0 := hide (hz0 ▸ wid_2 m)
  have H1 := hide (hz1 ▸ cte_02 ⟨la, sa⟩ [⟨lb, sb⟩, ⟨lc, sc⟩])
  have H2 := hide (hz2 ▸ rpe_02 m (cnt ⟨la, sa⟩).b.length)
  have H3 := hide (hz3 ▸ spn_02 m n)
  have H4 := hide (hz4 ▸ cte_02 ⟨lb, sb⟩ [])
  replace hz0 := hide hz0
  replace hz1 := hide hz1
  replace hz2 := hide hz2
  replace hz3 := hide hz3
  replace hz4 := hide hz4
  refine reg_lit (wpl_r1 [(16, .int .i64 0)] (by kernel_rfl) (wpl_end (then_normal (wp_block (loop_r (2 + 1) ?_)))))
  refine loop_inv (N := 2) (fun k E W => Kp [(16, .int .i64 (k : Nat)), (3, .int .i64 m), (4, .int .i64 n), (5, .int .i64 v), (6, .pointer (some ⟨Na, 0, none⟩)), (7, .pointer (some ⟨Nb, 0, none⟩)), (8, .pointer (some ⟨Nc, 0, none⟩)), (13, .pointer (some ⟨Nu, 0, none⟩)), (14, .pointer (some ⟨Nv, 0, none⟩)), (15, .pointer (some ⟨Nt, 0, none⟩))] E ∧ Below w.heap.size w W ∧ Pr2 W) ?_ _ 0 _ _ (Nat.zero_le _) (by omega) ⟨Kp_c (by kernel_rfl) (Kp_c (by kernel_rfl) (Kp_c (by kernel_rfl) (Kp_c (by kernel_rfl) (Kp_c (by kernel_rfl) (Kp_c (by kernel_rfl) (Kp_c (by kernel_rfl) (Kp_c (by kernel_rfl) (Kp_c (by kernel_rfl) (Kp_c (by kernel_rfl) (Kp_n)))))))))), hU, HC2.out⟩
  clear hU HC2
  intro k E W next hk hI hnext
  obtain ⟨hKp, hU, hPr⟩ := hI
  have HC2 := hide hPr
  clear hPr
  refine wp_keep _ hKp (fun X => ?_)
  clear hKp
  refine wp_seq (wp_seq ?_)
  rcases Nat.lt_or_ge k 2 with hlt | hge
  refine reg_lit (wpl_r1 [(34, .int .i64 ((k : Nat)))] (by kernel_rfl) (wpl_val rfl (by kernel_rfl) (run_lss (a := (k : Int)) (b := 2) rfl (by kernel_rfl) (by kernel_rfl) (decide_eq_true (by omega))) (wpl_end (then_normal (wp_ift (by kernel_rfl) (wp_skip (then_normal ?_)))))))
  refine wp_seq (wp_block (wp_seq ?_))
  have HK := HC2
  have hUK := hU
  have hV : Below W.heap.size W W := Below.refl _ _
  refine reg_lit (wpl_al8 rfl (by kernel_rfl) rfl ?_)
  intro w81 NG ZG hNG hb
  replace ZG := hide ZG
  replace HC2 := hide (HM2 _ _ HC2.out hb)
  have hzG : W.heap.size ≤ NG := Nat.le_trans hV.size hNG
  clear hNG
  replace hU := hU.trans (hb.mono hU.size)
  replace hV := hV.trans (hb.mono hV.size)
  clear hb
  refine wpl_al8 rfl (by kernel_rfl) rfl ?_
  intro w82 NH ZH hNH hb
  replace ZH := hide ZH
  have neGH : NG ≠ NH := by have := ZG.out.lt; omega
  replace HC2 := hide (HM2 _ _ HC2.out hb)
  replace ZG := hide (Arr.kept ZG.out hb)
  have hzH : W.heap.size ≤ NH := Nat.le_trans hV.size hNH
  clear hNH
  replace hU := hU.trans (hb.mono hU.size)
  replace hV := hV.trans (hb.mono hV.size)
  clear hb
  refine sx_n (wpl_ale8 rfl (by kernel_rfl) rfl ?_)
  intro w83 NI ZI hNI hb
  replace ZI := hide ZI
  have neGI : NG ≠ NI := by have := ZG.out.lt; omega
  have neHI : NH ≠ NI := by have := ZH.out.lt; omega
  replace HC2 := hide (HM2 _ _ HC2.out hb)
  replace ZG := hide (Arr.kept ZG.out hb)
  replace ZH := hide (Arr.kept ZH.out hb)
  have hzI : W.heap.size ≤ NI := Nat.le_trans hV.size hNI
  clear hNI
  replace hU := hU.trans (hb.mono hU.size)
  replace hV := hV.trans (hb.mono hV.size)
  clear hb
  refine wpl_ale8 rfl (by kernel_rfl) rfl ?_
  intro w84 NJ ZJ hNJ hb
  replace ZJ := hide ZJ
  have neGJ : NG ≠ NJ := by have := ZG.out.lt; omega
  have neHJ : NH ≠ NJ := by have := ZH.out.lt; omega
  have neIJ : NI ≠ NJ := by have := ZI.out.lt; omega
  replace HC2 := hide (HM2 _ _ HC2.out hb)
  replace ZG := hide (Arr.kept ZG.out hb)
  replace ZH := hide (Arr.kept ZH.out hb)
  replace ZI := hide (Arr.kept ZI.out hb)
  have hzJ : W.heap.size ≤ NJ := Nat.le_trans hV.size hNJ
  clear hNJ
  replace hU := hU.trans (hb.mono hU.size)
  replace hV := hV.trans (hb.mono hV.size)
  clear hb
  refine sx_n (wpl_r3 [(41, .pointer (some ⟨Nb, 1, none⟩)), (40, .int .i64 m), (39, .int .i64 v)] (by kernel_rfl) (wpl_ldsg (q2_b _ HC2.out) rfl (by kernel_rfl) rfl (by kernel_rfl) ?_))
  refine wpl_call rfl (by kernel_rfl) (by kernel_rfl) ((fromint_w sb _ z0 v m v0 v1 hz0.out).mono ?_)
  rintro e w85 ⟨lg0, sg0, Ag0, cg0, Eg0, rfl, Cg0, Og0, hb⟩
  refine ⟨_, rfl, ?_⟩
  have kg0 : W.heap.size ≤ w84.heap.size := hV.size
  replace HC2 := hide (HM2 _ _ HC2.out hb)
  replace ZG := hide (Arr.kept ZG.out hb)
  replace ZH := hide (Arr.kept ZH.out hb)
  replace ZI := hide (Arr.kept ZI.out hb)
  replace ZJ := hide (Arr.kept ZJ.out hb)
  replace hU := hU.trans (hb.mono hU.size)
  replace hV := hV.trans (hb.mono hV.size)
  clear hb
  have Lg0 := hide (len_E Eg0.out (fun q0 => (by rw [fb_length, vz_length]; exact (wid_0 (hz0.out.trans q0)))))
  refine wpl_r4 [(46, .pointer (some ⟨NG, 0, none⟩)), (45, .int .i64 z0), (44, .agg #[.slice Ag0 lg0.length cg0, .bool sg0]), (38, .tuple #[.agg #[.slice Ag0 lg0.length cg0, .bool sg0], .int .i64 z0])] (by kernel_rfl) (wpl_stark (A := Ag0) (m := lg0.length) (c := cg0) (s := sg0) 0 (.slice none 0 0) (.bool false) [.slice Ag0 lg0.length cg0, .bool sg0, .slice none 0 0, .bool false, .slice none 0 0, .bool false, .slice none 0 0, .bool false, .slice none 0 0, .bool false, .slice none 0 0, .bool false, .slice none 0 0, .bool false, .slice none 0 0, .bool false] ZG.out rfl (by kernel_rfl) rfl (by kernel_rfl) (by kernel_rfl) rfl rfl (fun _ h => by cases h) (fun _ h => by cases h) rfl ?_)
  intro w86 hst hkp Zn
  replace Og0 := hide (OwQ.arr Og0.out ZG.out rfl (fun _ h => by cases h) hkp)
  replace ZG := hide Zn
  clear hkp
  replace ZH := hide (hst.ne ZH.out (by first | exact neHG | exact neGH.symm))
  replace ZI := hide (hst.ne ZI.out (by first | exact neIG | exact neGI.symm))
  replace ZJ := hide (hst.ne ZJ.out (by first | exact neJG | exact neGJ.symm))
  replace hV := hV.trans (hst.bel hzG)
  replace HC2 := hide (HM2 _ _ HK.out hV)
  replace hU := hUK.trans (hV.mono hUK.size)
  clear hst
  refine wpl_r1 [(47, .pointer (some ⟨NI, 0, none⟩))] (by kernel_rfl) (wpl_sterk 0 z0 0 [.int .i64 z0, .int .i64 0, .int .i64 0, .int .i64 0, .int .i64 0, .int .i64 0, .int .i64 0, .int .i64 0] ZI.out rfl (by kernel_rfl) rfl (by kernel_rfl) (by kernel_rfl) rfl rfl ?_)
  intro w87 hst hkp Zn
  replace Og0 := hide (OwQ.arr Og0.out ZI.out rfl (fun _ h => by cases h) hkp)
  replace ZI := hide Zn
  clear hkp
  replace ZG := hide (hst.ne ZG.out (by first | exact neGI | exact neIG.symm))
  replace ZH := hide (hst.ne ZH.out (by first | exact neHI | exact neIH.symm))
  replace ZJ := hide (hst.ne ZJ.out (by first | exact neJI | exact neIJ.symm))
  replace hV := hV.trans (hst.bel hzI)
  replace HC2 := hide (HM2 _ _ HK.out hV)
  replace hU := hUK.trans (hV.mono hUK.size)
  clear hst
  refine sx_n (wpl_r3 [(51, .pointer (some ⟨Nb, 1, none⟩)), (50, .int .i64 m), (49, .int .i64 v)] (by kernel_rfl) (wpl_ldsg (q2_b _ HC2.out) rfl (by kernel_rfl) rfl (by kernel_rfl) ?_))
  refine wpl_call rfl (by kernel_rfl) (by kernel_rfl) ((rfromint_w sb _ z0 v m v0 v1 hz0.out).mono ?_)
  rintro e w88 ⟨lh0, sh0, Ah0, ch0, Eh0, rfl, Ch0, Oh0, hb⟩
  refine ⟨_, rfl, ?_⟩
  replace HC2 := hide (HM2 _ _ HC2.out hb)
  replace Og0 := hide (OwQ.kept Og0.out hb)
  replace ZG := hide (Arr.kept ZG.out hb)
  replace ZH := hide (Arr.kept ZH.out hb)
  replace ZI := hide (Arr.kept ZI.out hb)
  replace ZJ := hide (Arr.kept ZJ.out hb)
  replace Oh0 := hide Oh0.out.rd
  replace hU := hU.trans (hb.mono hU.size)
  replace hV := hV.trans (hb.mono hV.size)
  clear hb
  have Lh0 := hide (len_E Eh0.out (fun q0 => (by rw [fb_length, vz_length]; exact (wid_0 (hz0.out.trans q0)))))
  refine wpl_r4 [(56, .pointer (some ⟨NH, 0, none⟩)), (55, .int .i64 z0), (54, .agg #[.slice Ah0 lh0.length ch0, .bool sh0]), (48, .tuple #[.agg #[.slice Ah0 lh0.length ch0, .bool sh0], .int .i64 z0])] (by kernel_rfl) (wpl_stark (A := Ah0) (m := lh0.length) (c := ch0) (s := sh0) 0 (.slice none 0 0) (.bool false) [.slice Ah0 lh0.length ch0, .bool sh0, .slice none 0 0, .bool false, .slice none 0 0, .bool false, .slice none 0 0, .bool false, .slice none 0 0, .bool false, .slice none 0 0, .bool false, .slice none 0 0, .bool false, .slice none 0 0, .bool false] ZH.out rfl (by kernel_rfl) rfl (by kernel_rfl) (by kernel_rfl) rfl rfl (fun _ h => by cases h) (fun _ h => by cases h) rfl ?_)
  intro w89 hst hkp Zn
  replace Og0 := hide (OwQ.arr Og0.out ZH.out rfl (fun _ h => by cases h) hkp)
  replace Oh0 := hide (hst.rq Oh0.out)
  replace ZH := hide Zn
  clear hkp
  replace ZG := hide (hst.ne ZG.out (by first | exact neGH | exact neHG.symm))
  replace ZI := hide (hst.ne ZI.out (by first | exact neIH | exact neHI.symm))
  replace ZJ := hide (hst.ne ZJ.out (by first | exact neJH | exact neHJ.symm))
  replace hV := hV.trans (hst.bel hzH)
  replace HC2 := hide (HM2 _ _ HK.out hV)
  replace hU := hUK.trans (hV.mono hUK.size)
  clear hst
  refine wpl_r1 [(57, .pointer (some ⟨NJ, 0, none⟩))] (by kernel_rfl) (wpl_sterk 0 z0 0 [.int .i64 z0, .int .i64 0, .int .i64 0, .int .i64 0, .int .i64 0, .int .i64 0, .int .i64 0, .int .i64 0] ZJ.out rfl (by kernel_rfl) rfl (by kernel_rfl) (by kernel_rfl) rfl rfl ?_)
  intro w90 hst hkp Zn
  replace Og0 := hide (OwQ.arr Og0.out ZJ.out rfl (fun _ h => by cases h) hkp)
  replace Oh0 := hide (hst.rq Oh0.out)
  replace ZJ := hide Zn
  clear hkp
  replace ZG := hide (hst.ne ZG.out (by first | exact neGJ | exact neJG.symm))
  replace ZH := hide (hst.ne ZH.out (by first | exact neHJ | exact neJH.symm))
  replace ZI := hide (hst.ne ZI.out (by first | exact neIJ | exact neJI.symm))
  replace hV := hV.trans (hst.bel hzJ)
  replace HC2 := hide (HM2 _ _ HK.out hV)
  replace hU := hUK.trans (hV.mono hUK.size)
  clear hst
  refine sx_n (wpl_r2 [(60, .pointer (some ⟨Na, 1, none⟩)), (59, .int .i64 m)] (by kernel_rfl) (wpl_ldsg (q2_a _ HC2.out) rfl (by kernel_rfl) rfl (by kernel_rfl) ?_))
  refine wpl_call rfl (by kernel_rfl) (by kernel_rfl) ((unknown_w sa _ z0 m hz0.out).mono ?_)
  rintro e w91 ⟨lg1, sg1, Ag1, cg1, Eg1, rfl, Cg1, Og1, hb⟩
  refine ⟨_, rfl, ?_⟩
  have kg1 : W.heap.size ≤ w90.heap.size := hV.size
  replace HC2 := hide (HM2 _ _ HC2.out hb)
  replace Og0 := hide (OwQ.kept Og0.out hb)
  replace Oh0 := hide (RQ.below Oh0.out hb)
  replace ZG := hide (Arr.kept ZG.out hb)
  replace ZH := hide (Arr.kept ZH.out hb)
  replace ZI := hide (Arr.kept ZI.out hb)
  replace ZJ := hide (Arr.kept ZJ.out hb)
  replace hU := hU.trans (hb.mono hU.size)
  replace hV := hV.trans (hb.mono hV.size)
  clear hb
  have Lg1 := hide (len_E Eg1.out (fun q0 => (by show (ql _ _).length ≤ 4096; rw [ql_length]; exact (wid_0 (hz0.out.trans q0)))))
  refine wpl_r4 [(65, .pointer (some ⟨NG, 2, none⟩)), (64, .int .i64 z0), (63, .agg #[.slice Ag1 lg1.length cg1, .bool sg1]), (58, .tuple #[.agg #[.slice Ag1 lg1.length cg1, .bool sg1], .int .i64 z0])] (by kernel_rfl) (wpl_stark (A := Ag1) (m := lg1.length) (c := cg1) (s := sg1) 2 (.slice none 0 0) (.bool false) [.slice Ag0 lg0.length cg0, .bool sg0, .slice Ag1 lg1.length cg1, .bool sg1, .slice none 0 0, .bool false, .slice none 0 0, .bool false, .slice none 0 0, .bool false, .slice none 0 0, .bool false, .slice none 0 0, .bool false, .slice none 0 0, .bool false] ZG.out rfl (by kernel_rfl) rfl (by kernel_rfl) (by kernel_rfl) rfl rfl (fun _ h => by cases h) (fun _ h => by cases h) rfl ?_)
  intro w92 hst hkp Zn
  replace Og0 := hide (OwQ.arr Og0.out ZG.out rfl (fun _ h => by cases h) hkp)
  replace Oh0 := hide (hst.rq Oh0.out)
  replace Og1 := hide (OwQ.arr Og1.out ZG.out rfl (fun _ h => by cases h) hkp)
  replace ZG := hide Zn
  clear hkp
  replace ZH := hide (hst.ne ZH.out (by first | exact neHG | exact neGH.symm))
  replace ZI := hide (hst.ne ZI.out (by first | exact neIG | exact neGI.symm))
  replace ZJ := hide (hst.ne ZJ.out (by first | exact neJG | exact neGJ.symm))
  replace hV := hV.trans (hst.bel hzG)
  replace HC2 := hide (HM2 _ _ HK.out hV)
  replace hU := hUK.trans (hV.mono hUK.size)
  clear hst
  refine wpl_r1 [(66, .pointer (some ⟨NI, 1, none⟩))] (by kernel_rfl) (wpl_sterk 1 z0 0 [.int .i64 z0, .int .i64 z0, .int .i64 0, .int .i64 0, .int .i64 0, .int .i64 0, .int .i64 0, .int .i64 0] ZI.out rfl (by kernel_rfl) rfl (by kernel_rfl) (by kernel_rfl) rfl rfl ?_)
  intro w93 hst hkp Zn
  replace Og0 := hide (OwQ.arr Og0.out ZI.out rfl (fun _ h => by cases h) hkp)
  replace Oh0 := hide (hst.rq Oh0.out)
  replace Og1 := hide (OwQ.arr Og1.out ZI.out rfl (fun _ h => by cases h) hkp)
  replace ZI := hide Zn
  clear hkp
  replace ZG := hide (hst.ne ZG.out (by first | exact neGI | exact neIG.symm))
  replace ZH := hide (hst.ne ZH.out (by first | exact neHI | exact neIH.symm))
  replace ZJ := hide (hst.ne ZJ.out (by first | exact neJI | exact neIJ.symm))
  replace hV := hV.trans (hst.bel hzI)
  replace HC2 := hide (HM2 _ _ HK.out hV)
  replace hU := hUK.trans (hV.mono hUK.size)
  clear hst
  refine sx_n (wpl_r2 [(69, .pointer (some ⟨Na, 1, none⟩)), (68, .int .i64 m)] (by kernel_rfl) (wpl_ldsg (q2_a _ HC2.out) rfl (by kernel_rfl) rfl (by kernel_rfl) ?_))
  refine wpl_call rfl (by kernel_rfl) (by kernel_rfl) ((runknown_w sa _ z0 m hz0.out).mono ?_)
  rintro e w94 ⟨lh1, sh1, Ah1, ch1, Eh1, rfl, Ch1, Oh1, hb⟩
  refine ⟨_, rfl, ?_⟩
  replace HC2 := hide (HM2 _ _ HC2.out hb)
  replace Og0 := hide (OwQ.kept Og0.out hb)
  replace Oh0 := hide (RQ.below Oh0.out hb)
  replace Og1 := hide (OwQ.kept Og1.out hb)
  replace ZG := hide (Arr.kept ZG.out hb)
  replace ZH := hide (Arr.kept ZH.out hb)
  replace ZI := hide (Arr.kept ZI.out hb)
  replace ZJ := hide (Arr.kept ZJ.out hb)
  replace Oh1 := hide Oh1.out.rd
  replace hU := hU.trans (hb.mono hU.size)
  replace hV := hV.trans (hb.mono hV.size)
  clear hb
  have Lh1 := hide (len_E Eh1.out (fun q0 => (by show (ql _ _).length ≤ 4096; rw [ql_length]; exact (wid_0 (hz0.out.trans q0)))))
  refine wpl_r4 [(74, .pointer (some ⟨NH, 2, none⟩)), (73, .int .i64 z0), (72, .agg #[.slice Ah1 lh1.length ch1, .bool sh1]), (67, .tuple #[.agg #[.slice Ah1 lh1.length ch1, .bool sh1], .int .i64 z0])] (by kernel_rfl) (wpl_stark (A := Ah1) (m := lh1.length) (c := ch1) (s := sh1) 2 (.slice none 0 0) (.bool false) [.slice Ah0 lh0.length ch0, .bool sh0, .slice Ah1 lh1.length ch1, .bool sh1, .slice none 0 0, .bool false, .slice none 0 0, .bool false, .slice none 0 0, .bool false, .slice none 0 0, .bool false, .slice none 0 0, .bool false, .slice none 0 0, .bool false] ZH.out rfl (by kernel_rfl) rfl (by kernel_rfl) (by kernel_rfl) rfl rfl (fun _ h => by cases h) (fun _ h => by cases h) rfl ?_)
  intro w95 hst hkp Zn
  replace Og0 := hide (OwQ.arr Og0.out ZH.out rfl (fun _ h => by cases h) hkp)
  replace Oh0 := hide (hst.rq Oh0.out)
  replace Og1 := hide (OwQ.arr Og1.out ZH.out rfl (fun _ h => by cases h) hkp)
  replace Oh1 := hide (hst.rq Oh1.out)
  replace ZH := hide Zn
  clear hkp
  replace ZG := hide (hst.ne ZG.out (by first | exact neGH | exact neHG.symm))
  replace ZI := hide (hst.ne ZI.out (by first | exact neIH | exact neHI.symm))
  replace ZJ := hide (hst.ne ZJ.out (by first | exact neJH | exact neHJ.symm))
  replace hV := hV.trans (hst.bel hzH)
  replace HC2 := hide (HM2 _ _ HK.out hV)
  replace hU := hUK.trans (hV.mono hUK.size)
  clear hst
  refine wpl_r1 [(75, .pointer (some ⟨NJ, 1, none⟩))] (by kernel_rfl) (wpl_sterk 1 z0 0 [.int .i64 z0, .int .i64 z0, .int .i64 0, .int .i64 0, .int .i64 0, .int .i64 0, .int .i64 0, .int .i64 0] ZJ.out rfl (by kernel_rfl) rfl (by kernel_rfl) (by kernel_rfl) rfl rfl ?_)
  intro w96 hst hkp Zn
  replace Og0 := hide (OwQ.arr Og0.out ZJ.out rfl (fun _ h => by cases h) hkp)
  replace Oh0 := hide (hst.rq Oh0.out)
  replace Og1 := hide (OwQ.arr Og1.out ZJ.out rfl (fun _ h => by cases h) hkp)
  replace Oh1 := hide (hst.rq Oh1.out)
  replace ZJ := hide Zn
  clear hkp
  replace ZG := hide (hst.ne ZG.out (by first | exact neGJ | exact neJG.symm))
  replace ZH := hide (hst.ne ZH.out (by first | exact neHJ | exact neJH.symm))
  replace ZI := hide (hst.ne ZI.out (by first | exact neIJ | exact neJI.symm))
  replace hV := hV.trans (hst.bel hzJ)
  replace HC2 := hide (HM2 _ _ HK.out hV)
  replace hU := hUK.trans (hV.mono hUK.size)
  clear hst
  refine sx_n (wpl_ldvec (q2_u _ HC2.out) rfl (by kernel_rfl) rfl (by kernel_rfl) (wpl_r1 [(78, .int .i64 m)] (by kernel_rfl) ?_))
  refine wpl_call rfl (by kernel_rfl) (by kernel_rfl) ((resize_w Ax lx cx sx _ z0 m Lx.out Cx (p2_x w96 HC2.out) Yx.out hz0.out).mono ?_)
  rintro e w97 ⟨lg2, sg2, Ag2, cg2, Eg2, rfl, Cg2, Og2, hb⟩
  refine ⟨_, rfl, ?_⟩
  have kg2 : W.heap.size ≤ w96.heap.size := hV.size
  replace HC2 := hide (HM2 _ _ HC2.out hb)
  replace Og0 := hide (OwQ.kept Og0.out hb)
  replace Oh0 := hide (RQ.below Oh0.out hb)
  replace Og1 := hide (OwQ.kept Og1.out hb)
  replace Oh1 := hide (RQ.below Oh1.out hb)
  replace ZG := hide (Arr.kept ZG.out hb)
  replace ZH := hide (Arr.kept ZH.out hb)
  replace ZI := hide (Arr.kept ZI.out hb)
  replace ZJ := hide (Arr.kept ZJ.out hb)
  replace hU := hU.trans (hb.mono hU.size)
  replace hV := hV.trans (hb.mono hV.size)
  clear hb
  have Lg2 := hide (len_E Eg2.out (fun q0 => (by rw [rsz_length]; exact (wid_0 (hz0.out.trans q0)))))
  refine wpl_r4 [(82, .pointer (some ⟨NG, 4, none⟩)), (81, .int .i64 z0), (80, .agg #[.slice Ag2 lg2.length cg2, .bool sg2]), (76, .tuple #[.agg #[.slice Ag2 lg2.length cg2, .bool sg2], .int .i64 z0])] (by kernel_rfl) (wpl_stark (A := Ag2) (m := lg2.length) (c := cg2) (s := sg2) 4 (.slice none 0 0) (.bool false) [.slice Ag0 lg0.length cg0, .bool sg0, .slice Ag1 lg1.length cg1, .bool sg1, .slice Ag2 lg2.length cg2, .bool sg2, .slice none 0 0, .bool false, .slice none 0 0, .bool false, .slice none 0 0, .bool false, .slice none 0 0, .bool false, .slice none 0 0, .bool false] ZG.out rfl (by kernel_rfl) rfl (by kernel_rfl) (by kernel_rfl) rfl rfl (fun _ h => by cases h) (fun _ h => by cases h) rfl ?_)
  intro w98 hst hkp Zn
  replace Og0 := hide (OwQ.arr Og0.out ZG.out rfl (fun _ h => by cases h) hkp)
  replace Oh0 := hide (hst.rq Oh0.out)
  replace Og1 := hide (OwQ.arr Og1.out ZG.out rfl (fun _ h => by cases h) hkp)
  replace Oh1 := hide (hst.rq Oh1.out)
  replace Og2 := hide (OwQ.arr Og2.out ZG.out rfl (fun _ h => by cases h) hkp)
  replace ZG := hide Zn
  clear hkp
  replace ZH := hide (hst.ne ZH.out (by first | exact neHG | exact neGH.symm))
  replace ZI := hide (hst.ne ZI.out (by first | exact neIG | exact neGI.symm))
  replace ZJ := hide (hst.ne ZJ.out (by first | exact neJG | exact neGJ.symm))
  replace hV := hV.trans (hst.bel hzG)
  replace HC2 := hide (HM2 _ _ HK.out hV)
  replace hU := hUK.trans (hV.mono hUK.size)
  clear hst
  refine wpl_r1 [(83, .pointer (some ⟨NI, 2, none⟩))] (by kernel_rfl) (wpl_sterk 2 z0 0 [.int .i64 z0, .int .i64 z0, .int .i64 z0, .int .i64 0, .int .i64 0, .int .i64 0, .int .i64 0, .int .i64 0] ZI.out rfl (by kernel_rfl) rfl (by kernel_rfl) (by kernel_rfl) rfl rfl ?_)
  intro w99 hst hkp Zn
  replace Og0 := hide (OwQ.arr Og0.out ZI.out rfl (fun _ h => by cases h) hkp)
  replace Oh0 := hide (hst.rq Oh0.out)
  replace Og1 := hide (OwQ.arr Og1.out ZI.out rfl (fun _ h => by cases h) hkp)
  replace Oh1 := hide (hst.rq Oh1.out)
  replace Og2 := hide (OwQ.arr Og2.out ZI.out rfl (fun _ h => by cases h) hkp)
  replace ZI := hide Zn
  clear hkp
  replace ZG := hide (hst.ne ZG.out (by first | exact neGI | exact neIG.symm))
  replace ZH := hide (hst.ne ZH.out (by first | exact neHI | exact neIH.symm))
  replace ZJ := hide (hst.ne ZJ.out (by first | exact neJI | exact neIJ.symm))
  replace hV := hV.trans (hst.bel hzI)
  replace HC2 := hide (HM2 _ _ HK.out hV)
  replace hU := hUK.trans (hV.mono hUK.size)
  clear hst
  refine sx_n (wpl_ldvec (q2_a _ HC2.out) rfl (by kernel_rfl) rfl (by kernel_rfl) (wpl_r1 [(86, .int .i64 m)] (by kernel_rfl) ?_))
  refine wpl_call rfl (by kernel_rfl) (by kernel_rfl) ((rresize_w Aa la ca sa _ z0 m La.out Ca (p2_a w99 HC2.out) Ya.out hz0.out).mono ?_)
  rintro e w100 ⟨lh2, sh2, Ah2, ch2, Eh2, rfl, Ch2, Oh2, hb⟩
  refine ⟨_, rfl, ?_⟩
  replace HC2 := hide (HM2 _ _ HC2.out hb)
  replace Og0 := hide (OwQ.kept Og0.out hb)
  replace Oh0 := hide (RQ.below Oh0.out hb)
  replace Og1 := hide (OwQ.kept Og1.out hb)
  replace Oh1 := hide (RQ.below Oh1.out hb)
  replace Og2 := hide (OwQ.kept Og2.out hb)
  replace ZG := hide (Arr.kept ZG.out hb)
  replace ZH := hide (Arr.kept ZH.out hb)
  replace ZI := hide (Arr.kept ZI.out hb)
  replace ZJ := hide (Arr.kept ZJ.out hb)
  replace Oh2 := hide Oh2.out.rd
  replace hU := hU.trans (hb.mono hU.size)
  replace hV := hV.trans (hb.mono hV.size)
  clear hb
  have Lh2 := hide (len_E Eh2.out (fun q0 => (by rw [rsz_length]; exact (wid_0 (hz0.out.trans q0)))))
  refine wpl_r4 [(90, .pointer (some ⟨NH, 4, none⟩)), (89, .int .i64 z0), (88, .agg #[.slice Ah2 lh2.length ch2, .bool sh2]), (84, .tuple #[.agg #[.slice Ah2 lh2.length ch2, .bool sh2], .int .i64 z0])] (by kernel_rfl) (wpl_stark (A := Ah2) (m := lh2.length) (c := ch2) (s := sh2) 4 (.slice none 0 0) (.bool false) [.slice Ah0 lh0.length ch0, .bool sh0, .slice Ah1 lh1.length ch1, .bool sh1, .slice Ah2 lh2.length ch2, .bool sh2, .slice none 0 0, .bool false, .slice none 0 0, .bool false, .slice none 0 0, .bool false, .slice none 0 0, .bool false, .slice none 0 0, .bool false] ZH.out rfl (by kernel_rfl) rfl (by kernel_rfl) (by kernel_rfl) rfl rfl (fun _ h => by cases h) (fun _ h => by cases h) rfl ?_)
  intro w101 hst hkp Zn
  replace Og0 := hide (OwQ.arr Og0.out ZH.out rfl (fun _ h => by cases h) hkp)
  replace Oh0 := hide (hst.rq Oh0.out)
  replace Og1 := hide (OwQ.arr Og1.out ZH.out rfl (fun _ h => by cases h) hkp)
  replace Oh1 := hide (hst.rq Oh1.out)
  replace Og2 := hide (OwQ.arr Og2.out ZH.out rfl (fun _ h => by cases h) hkp)
  replace Oh2 := hide (hst.rq Oh2.out)
  replace ZH := hide Zn
  clear hkp
  replace ZG := hide (hst.ne ZG.out (by first | exact neGH | exact neHG.symm))
  replace ZI := hide (hst.ne ZI.out (by first | exact neIH | exact neHI.symm))
  replace ZJ := hide (hst.ne ZJ.out (by first | exact neJH | exact neHJ.symm))
  replace hV := hV.trans (hst.bel hzH)
  replace HC2 := hide (HM2 _ _ HK.out hV)
  replace hU := hUK.trans (hV.mono hUK.size)
  clear hst
  refine wpl_r1 [(91, .pointer (some ⟨NJ, 2, none⟩))] (by kernel_rfl) (wpl_sterk 2 z0 0 [.int .i64 z0, .int .i64 z0, .int .i64 z0, .int .i64 0, .int .i64 0, .int .i64 0, .int .i64 0, .int .i64 0] ZJ.out rfl (by kernel_rfl) rfl (by kernel_rfl) (by kernel_rfl) rfl rfl ?_)
  intro w102 hst hkp Zn
  replace Og0 := hide (OwQ.arr Og0.out ZJ.out rfl (fun _ h => by cases h) hkp)
  replace Oh0 := hide (hst.rq Oh0.out)
  replace Og1 := hide (OwQ.arr Og1.out ZJ.out rfl (fun _ h => by cases h) hkp)
  replace Oh1 := hide (hst.rq Oh1.out)
  replace Og2 := hide (OwQ.arr Og2.out ZJ.out rfl (fun _ h => by cases h) hkp)
  replace Oh2 := hide (hst.rq Oh2.out)
  replace ZJ := hide Zn
  clear hkp
  replace ZG := hide (hst.ne ZG.out (by first | exact neGJ | exact neJG.symm))
  replace ZH := hide (hst.ne ZH.out (by first | exact neHJ | exact neJH.symm))
  replace ZI := hide (hst.ne ZI.out (by first | exact neIJ | exact neJI.symm))
  replace hV := hV.trans (hst.bel hzJ)
  replace HC2 := hide (HM2 _ _ HK.out hV)
  replace hU := hUK.trans (hV.mono hUK.size)
  clear hst
  refine sx_n (wpl_ldvec (q2_u _ HC2.out) rfl (by kernel_rfl) rfl (by kernel_rfl) (wpl_ldvec (q2_v _ HC2.out) rfl (by kernel_rfl) rfl (by kernel_rfl) (wpl_ldvec (q2_t _ HC2.out) rfl (by kernel_rfl) rfl (by kernel_rfl) (wpl_bs3 rfl (by kernel_rfl) rfl (A0 := Ax) (l0 := lx) (c0 := cx) (s0 := sx) (A1 := Ay) (l1 := ly) (c1 := cy) (s1 := sy) (A2 := Az) (l2 := lz) (c2 := cz) (s2 := sz) (by kernel_rfl) (by kernel_rfl) (by kernel_rfl) (p2_x w102 HC2.out) Yx.out Lx.out Cx (p2_y w102 HC2.out) Yy.out Ly.out Cy (p2_z w102 HC2.out) Yz.out Lz.out Cz ?_))))
  intro w103 NV103 RV103 hlV103 hNV103 hb
  replace RV103 := hide RV103
  replace HC2 := hide (HM2 _ _ HC2.out hb)
  replace Og0 := hide (OwQ.kept Og0.out hb)
  replace Oh0 := hide (RQ.below Oh0.out hb)
  replace Og1 := hide (OwQ.kept Og1.out hb)
  replace Oh1 := hide (RQ.below Oh1.out hb)
  replace Og2 := hide (OwQ.kept Og2.out hb)
  replace Oh2 := hide (RQ.below Oh2.out hb)
  replace ZG := hide (Arr.kept ZG.out hb)
  replace ZH := hide (Arr.kept ZH.out hb)
  replace ZI := hide (Arr.kept ZI.out hb)
  replace ZJ := hide (Arr.kept ZJ.out hb)
  replace hU := hU.trans (hb.mono hU.size)
  replace hV := hV.trans (hb.mono hV.size)
  clear hb
  clear hNV103
  refine wpl_call rfl (by kernel_rfl) (by kernel_rfl) ((concat_w z1 NV103 3 [(Ax, lx, cx, sx), (Ay, ly, cy, sy), (Az, lz, cz, sz)] _ hlV103 (by simp) (by simp) RV103.out (show cte [⟨lx, sx⟩, ⟨ly, sy⟩, ⟨lz, sz⟩] = z1 by rw [Ex.out, Ey.out, Ez.out]; exact hz1.out)).mono ?_)
  rintro e w104 ⟨lg3, sg3, Ag3, cg3, Eg3, rfl, Cg3, Og3, hb⟩
  refine ⟨_, rfl, ?_⟩
  have kg3 : W.heap.size ≤ w103.heap.size := hV.size
  replace HC2 := hide (HM2 _ _ HC2.out hb)
  replace Og0 := hide (OwQ.kept Og0.out hb)
  replace Oh0 := hide (RQ.below Oh0.out hb)
  replace Og1 := hide (OwQ.kept Og1.out hb)
  replace Oh1 := hide (RQ.below Oh1.out hb)
  replace Og2 := hide (OwQ.kept Og2.out hb)
  replace Oh2 := hide (RQ.below Oh2.out hb)
  replace ZG := hide (Arr.kept ZG.out hb)
  replace ZH := hide (Arr.kept ZH.out hb)
  replace ZI := hide (Arr.kept ZI.out hb)
  replace ZJ := hide (Arr.kept ZJ.out hb)
  replace hU := hU.trans (hb.mono hU.size)
  replace hV := hV.trans (hb.mono hV.size)
  clear hb
  have Lg3 := hide (len_E Eg3.out (fun q0 => (cte_le ((show cte [⟨lx, sx⟩, ⟨ly, sy⟩, ⟨lz, sz⟩] = z1 by rw [Ex.out, Ey.out, Ez.out]; exact hz1.out).trans q0))))
  clear RV103 hlV103
  refine wpl_r4 [(100, .pointer (some ⟨NG, 6, none⟩)), (99, .int .i64 z1), (98, .agg #[.slice Ag3 lg3.length cg3, .bool sg3]), (92, .tuple #[.agg #[.slice Ag3 lg3.length cg3, .bool sg3], .int .i64 z1])] (by kernel_rfl) (wpl_stark (A := Ag3) (m := lg3.length) (c := cg3) (s := sg3) 6 (.slice none 0 0) (.bool false) [.slice Ag0 lg0.length cg0, .bool sg0, .slice Ag1 lg1.length cg1, .bool sg1, .slice Ag2 lg2.length cg2, .bool sg2, .slice Ag3 lg3.length cg3, .bool sg3, .slice none 0 0, .bool false, .slice none 0 0, .bool false, .slice none 0 0, .bool false, .slice none 0 0, .bool false] ZG.out rfl (by kernel_rfl) rfl (by kernel_rfl) (by kernel_rfl) rfl rfl (fun _ h => by cases h) (fun _ h => by cases h) rfl ?_)
  intro w105 hst hkp Zn
  replace Og0 := hide (OwQ.arr Og0.out ZG.out rfl (fun _ h => by cases h) hkp)
  replace Oh0 := hide (hst.rq Oh0.out)
  replace Og1 := hide (OwQ.arr Og1.out ZG.out rfl (fun _ h => by cases h) hkp)
  replace Oh1 := hide (hst.rq Oh1.out)
  replace Og2 := hide (OwQ.arr Og2.out ZG.out rfl (fun _ h => by cases h) hkp)
  replace Oh2 := hide (hst.rq Oh2.out)
  replace Og3 := hide (OwQ.arr Og3.out ZG.out rfl (fun _ h => by cases h) hkp)
  replace ZG := hide Zn
  clear hkp
  replace ZH := hide (hst.ne ZH.out (by first | exact neHG | exact neGH.symm))
  replace ZI := hide (hst.ne ZI.out (by first | exact neIG | exact neGI.symm))
  replace ZJ := hide (hst.ne ZJ.out (by first | exact neJG | exact neGJ.symm))
  replace hV := hV.trans (hst.bel hzG)
  replace HC2 := hide (HM2 _ _ HK.out hV)
  replace hU := hUK.trans (hV.mono hUK.size)
  clear hst
  refine wpl_r1 [(101, .pointer (some ⟨NI, 3, none⟩))] (by kernel_rfl) (wpl_sterk 3 z1 0 [.int .i64 z0, .int .i64 z0, .int .i64 z0, .int .i64 z1, .int .i64 0, .int .i64 0, .int .i64 0, .int .i64 0] ZI.out rfl (by kernel_rfl) rfl (by kernel_rfl) (by kernel_rfl) rfl rfl ?_)
  intro w106 hst hkp Zn
  replace Og0 := hide (OwQ.arr Og0.out ZI.out rfl (fun _ h => by cases h) hkp)
  replace Oh0 := hide (hst.rq Oh0.out)
  replace Og1 := hide (OwQ.arr Og1.out ZI.out rfl (fun _ h => by cases h) hkp)
  replace Oh1 := hide (hst.rq Oh1.out)
  replace Og2 := hide (OwQ.arr Og2.out ZI.out rfl (fun _ h => by cases h) hkp)
  replace Oh2 := hide (hst.rq Oh2.out)
  replace Og3 := hide (OwQ.arr Og3.out ZI.out rfl (fun _ h => by cases h) hkp)
  replace ZI := hide Zn
  clear hkp
  replace ZG := hide (hst.ne ZG.out (by first | exact neGI | exact neIG.symm))
  replace ZH := hide (hst.ne ZH.out (by first | exact neHI | exact neIH.symm))
  replace ZJ := hide (hst.ne ZJ.out (by first | exact neJI | exact neIJ.symm))
  replace hV := hV.trans (hst.bel hzI)
  replace HC2 := hide (HM2 _ _ HK.out hV)
  replace hU := hUK.trans (hV.mono hUK.size)
  clear hst
  refine sx_n (wpl_ldvec (q2_a _ HC2.out) rfl (by kernel_rfl) rfl (by kernel_rfl) (wpl_ldvec (q2_b _ HC2.out) rfl (by kernel_rfl) rfl (by kernel_rfl) (wpl_ldvec (q2_c _ HC2.out) rfl (by kernel_rfl) rfl (by kernel_rfl) (wpl_bs3 rfl (by kernel_rfl) rfl (A0 := Aa) (l0 := la) (c0 := ca) (s0 := sa) (A1 := Ab) (l1 := lb) (c1 := cb) (s1 := sb) (A2 := Ac) (l2 := lc) (c2 := cc) (s2 := sc) (by kernel_rfl) (by kernel_rfl) (by kernel_rfl) (p2_a w106 HC2.out) Ya.out La.out Ca (p2_b w106 HC2.out) Yb.out Lb.out Cb (p2_c w106 HC2.out) Yc.out Lc.out Cc ?_))))
  intro w107 NV107 RV107 hlV107 hNV107 hb
  replace RV107 := hide RV107
  replace HC2 := hide (HM2 _ _ HC2.out hb)
  replace Og0 := hide (OwQ.kept Og0.out hb)
  replace Oh0 := hide (RQ.below Oh0.out hb)
  replace Og1 := hide (OwQ.kept Og1.out hb)
  replace Oh1 := hide (RQ.below Oh1.out hb)
  replace Og2 := hide (OwQ.kept Og2.out hb)
  replace Oh2 := hide (RQ.below Oh2.out hb)
  replace Og3 := hide (OwQ.kept Og3.out hb)
  replace ZG := hide (Arr.kept ZG.out hb)
  replace ZH := hide (Arr.kept ZH.out hb)
  replace ZI := hide (Arr.kept ZI.out hb)
  replace ZJ := hide (Arr.kept ZJ.out hb)
  replace hU := hU.trans (hb.mono hU.size)
  replace hV := hV.trans (hb.mono hV.size)
  clear hb
  clear hNV107
  refine wpl_call rfl (by kernel_rfl) (by kernel_rfl) ((rconcat_z z1 NV107 3 [(Aa, la, ca, sa), (Ab, lb, cb, sb), (Ac, lc, cc, sc)] _ hlV107 (by simp) (by simp) RV107.out hz1.out).mono ?_)
  rintro e w108 ⟨lh3, sh3, Ah3, ch3, Eh3, rfl, Ch3, Oh3, hb⟩
  refine ⟨_, rfl, ?_⟩
  replace HC2 := hide (HM2 _ _ HC2.out hb)
  replace Og0 := hide (OwQ.kept Og0.out hb)
  replace Oh0 := hide (RQ.below Oh0.out hb)
  replace Og1 := hide (OwQ.kept Og1.out hb)
  replace Oh1 := hide (RQ.below Oh1.out hb)
  replace Og2 := hide (OwQ.kept Og2.out hb)
  replace Oh2 := hide (RQ.below Oh2.out hb)
  replace Og3 := hide (OwQ.kept Og3.out hb)
  replace ZG := hide (Arr.kept ZG.out hb)
  replace ZH := hide (Arr.kept ZH.out hb)
  replace ZI := hide (Arr.kept ZI.out hb)
  replace ZJ := hide (Arr.kept ZJ.out hb)
  replace Oh3 := hide Oh3.out.rd
  replace hU := hU.trans (hb.mono hU.size)
  replace hV := hV.trans (hb.mono hV.size)
  clear hb
  have Lh3 := hide (len_E Eh3.out (fun q0 => (cte_le (hz1.out.trans q0))))
  clear RV107 hlV107
  refine wpl_r4 [(110, .pointer (some ⟨NH, 6, none⟩)), (109, .int .i64 z1), (108, .agg #[.slice Ah3 lh3.length ch3, .bool sh3]), (102, .tuple #[.agg #[.slice Ah3 lh3.length ch3, .bool sh3], .int .i64 z1])] (by kernel_rfl) (wpl_stark (A := Ah3) (m := lh3.length) (c := ch3) (s := sh3) 6 (.slice none 0 0) (.bool false) [.slice Ah0 lh0.length ch0, .bool sh0, .slice Ah1 lh1.length ch1, .bool sh1, .slice Ah2 lh2.length ch2, .bool sh2, .slice Ah3 lh3.length ch3, .bool sh3, .slice none 0 0, .bool false, .slice none 0 0, .bool false, .slice none 0 0, .bool false, .slice none 0 0, .bool false] ZH.out rfl (by kernel_rfl) rfl (by kernel_rfl) (by kernel_rfl) rfl rfl (fun _ h => by cases h) (fun _ h => by cases h) rfl ?_)
  intro w109 hst hkp Zn
  replace Og0 := hide (OwQ.arr Og0.out ZH.out rfl (fun _ h => by cases h) hkp)
  replace Oh0 := hide (hst.rq Oh0.out)
  replace Og1 := hide (OwQ.arr Og1.out ZH.out rfl (fun _ h => by cases h) hkp)
  replace Oh1 := hide (hst.rq Oh1.out)
  replace Og2 := hide (OwQ.arr Og2.out ZH.out rfl (fun _ h => by cases h) hkp)
  replace Oh2 := hide (hst.rq Oh2.out)
  replace Og3 := hide (OwQ.arr Og3.out ZH.out rfl (fun _ h => by cases h) hkp)
  replace Oh3 := hide (hst.rq Oh3.out)
  replace ZH := hide Zn
  clear hkp
  replace ZG := hide (hst.ne ZG.out (by first | exact neGH | exact neHG.symm))
  replace ZI := hide (hst.ne ZI.out (by first | exact neIH | exact neHI.symm))
  replace ZJ := hide (hst.ne ZJ.out (by first | exact neJH | exact neHJ.symm))
  replace hV := hV.trans (hst.bel hzH)
  replace HC2 := hide (HM2 _ _ HK.out hV)
  replace hU := hUK.trans (hV.mono hUK.size)
  clear hst
  refine wpl_r1 [(111, .pointer (some ⟨NJ, 3, none⟩))] (by kernel_rfl) (wpl_sterk 3 z1 0 [.int .i64 z0, .int .i64 z0, .int .i64 z0, .int .i64 z1, .int .i64 0, .int .i64 0, .int .i64 0, .int .i64 0] ZJ.out rfl (by kernel_rfl) rfl (by kernel_rfl) (by kernel_rfl) rfl rfl ?_)
  intro w110 hst hkp Zn
  replace Og0 := hide (OwQ.arr Og0.out ZJ.out rfl (fun _ h => by cases h) hkp)
  replace Oh0 := hide (hst.rq Oh0.out)
  replace Og1 := hide (OwQ.arr Og1.out ZJ.out rfl (fun _ h => by cases h) hkp)
  replace Oh1 := hide (hst.rq Oh1.out)
  replace Og2 := hide (OwQ.arr Og2.out ZJ.out rfl (fun _ h => by cases h) hkp)
  replace Oh2 := hide (hst.rq Oh2.out)
  replace Og3 := hide (OwQ.arr Og3.out ZJ.out rfl (fun _ h => by cases h) hkp)
  replace Oh3 := hide (hst.rq Oh3.out)
  replace ZJ := hide Zn
  clear hkp
  replace ZG := hide (hst.ne ZG.out (by first | exact neGJ | exact neJG.symm))
  replace ZH := hide (hst.ne ZH.out (by first | exact neHJ | exact neJH.symm))
  replace ZI := hide (hst.ne ZI.out (by first | exact neIJ | exact neJI.symm))
  replace hV := hV.trans (hst.bel hzJ)
  replace HC2 := hide (HM2 _ _ HK.out hV)
  replace hU := hUK.trans (hV.mono hUK.size)
  clear hst
  refine sx_n (wpl_ldvec (q2_u _ HC2.out) rfl (by kernel_rfl) rfl (by kernel_rfl) (wpl_r1 [(114, .int .i64 m)] (by kernel_rfl) ?_))
  refine wpl_call rfl (by kernel_rfl) (by kernel_rfl) ((repeat_w Ax lx cx sx _ z2 m Lx.out Cx (p2_x w110 HC2.out) Yx.out (show rpe m (cnt ⟨lx, sx⟩).b.length = z2 by rw [Ex.out]; exact hz2.out)).mono ?_)
  rintro e w111 ⟨lg4, sg4, Ag4, cg4, Eg4, rfl, Cg4, Og4, hb⟩
  refine ⟨_, rfl, ?_⟩
  have kg4 : W.heap.size ≤ w110.heap.size := hV.size
  replace HC2 := hide (HM2 _ _ HC2.out hb)
  replace Og0 := hide (OwQ.kept Og0.out hb)
  replace Oh0 := hide (RQ.below Oh0.out hb)
  replace Og1 := hide (OwQ.kept Og1.out hb)
  replace Oh1 := hide (RQ.below Oh1.out hb)
  replace Og2 := hide (OwQ.kept Og2.out hb)
  replace Oh2 := hide (RQ.below Oh2.out hb)
  replace Og3 := hide (OwQ.kept Og3.out hb)
  replace Oh3 := hide (RQ.below Oh3.out hb)
  replace ZG := hide (Arr.kept ZG.out hb)
  replace ZH := hide (Arr.kept ZH.out hb)
  replace ZI := hide (Arr.kept ZI.out hb)
  replace ZJ := hide (Arr.kept ZJ.out hb)
  replace hU := hU.trans (hb.mono hU.size)
  replace hV := hV.trans (hb.mono hV.size)
  clear hb
  have Lg4 := hide (len_E Eg4.out (fun q0 => (by rw [ql_length]; exact rpe_le (cnt_gd (v := ⟨lx, sx⟩) Yx.out).pos ((show rpe m (cnt ⟨lx, sx⟩).b.length = z2 by rw [Ex.out]; exact hz2.out).trans q0))))
  refine wpl_r4 [(118, .pointer (some ⟨NG, 8, none⟩)), (117, .int .i64 z2), (116, .agg #[.slice Ag4 lg4.length cg4, .bool sg4]), (112, .tuple #[.agg #[.slice Ag4 lg4.length cg4, .bool sg4], .int .i64 z2])] (by kernel_rfl) (wpl_stark (A := Ag4) (m := lg4.length) (c := cg4) (s := sg4) 8 (.slice none 0 0) (.bool false) [.slice Ag0 lg0.length cg0, .bool sg0, .slice Ag1 lg1.length cg1, .bool sg1, .slice Ag2 lg2.length cg2, .bool sg2, .slice Ag3 lg3.length cg3, .bool sg3, .slice Ag4 lg4.length cg4, .bool sg4, .slice none 0 0, .bool false, .slice none 0 0, .bool false, .slice none 0 0, .bool false] ZG.out rfl (by kernel_rfl) rfl (by kernel_rfl) (by kernel_rfl) rfl rfl (fun _ h => by cases h) (fun _ h => by cases h) rfl ?_)
  intro w112 hst hkp Zn
  replace Og0 := hide (OwQ.arr Og0.out ZG.out rfl (fun _ h => by cases h) hkp)
  replace Oh0 := hide (hst.rq Oh0.out)
  replace Og1 := hide (OwQ.arr Og1.out ZG.out rfl (fun _ h => by cases h) hkp)
  replace Oh1 := hide (hst.rq Oh1.out)
  replace Og2 := hide (OwQ.arr Og2.out ZG.out rfl (fun _ h => by cases h) hkp)
  replace Oh2 := hide (hst.rq Oh2.out)
  replace Og3 := hide (OwQ.arr Og3.out ZG.out rfl (fun _ h => by cases h) hkp)
  replace Oh3 := hide (hst.rq Oh3.out)
  replace Og4 := hide (OwQ.arr Og4.out ZG.out rfl (fun _ h => by cases h) hkp)
  replace ZG := hide Zn
  clear hkp
  replace ZH := hide (hst.ne ZH.out (by first | exact neHG | exact neGH.symm))
  replace ZI := hide (hst.ne ZI.out (by first | exact neIG | exact neGI.symm))
  replace ZJ := hide (hst.ne ZJ.out (by first | exact neJG | exact neGJ.symm))
  replace hV := hV.trans (hst.bel hzG)
  replace HC2 := hide (HM2 _ _ HK.out hV)
  replace hU := hUK.trans (hV.mono hUK.size)
  clear hst
  refine wpl_r1 [(119, .pointer (some ⟨NI, 4, none⟩))] (by kernel_rfl) (wpl_sterk 4 z2 0 [.int .i64 z0, .int .i64 z0, .int .i64 z0, .int .i64 z1, .int .i64 z2, .int .i64 0, .int .i64 0, .int .i64 0] ZI.out rfl (by kernel_rfl) rfl (by kernel_rfl) (by kernel_rfl) rfl rfl ?_)
  intro w113 hst hkp Zn
  replace Og0 := hide (OwQ.arr Og0.out ZI.out rfl (fun _ h => by cases h) hkp)
  replace Oh0 := hide (hst.rq Oh0.out)
  replace Og1 := hide (OwQ.arr Og1.out ZI.out rfl (fun _ h => by cases h) hkp)
  replace Oh1 := hide (hst.rq Oh1.out)
  replace Og2 := hide (OwQ.arr Og2.out ZI.out rfl (fun _ h => by cases h) hkp)
  replace Oh2 := hide (hst.rq Oh2.out)
  replace Og3 := hide (OwQ.arr Og3.out ZI.out rfl (fun _ h => by cases h) hkp)
  replace Oh3 := hide (hst.rq Oh3.out)
  replace Og4 := hide (OwQ.arr Og4.out ZI.out rfl (fun _ h => by cases h) hkp)
  replace ZI := hide Zn
  clear hkp
  replace ZG := hide (hst.ne ZG.out (by first | exact neGI | exact neIG.symm))
  replace ZH := hide (hst.ne ZH.out (by first | exact neHI | exact neIH.symm))
  replace ZJ := hide (hst.ne ZJ.out (by first | exact neJI | exact neIJ.symm))
  replace hV := hV.trans (hst.bel hzI)
  replace HC2 := hide (HM2 _ _ HK.out hV)
  replace hU := hUK.trans (hV.mono hUK.size)
  clear hst
  refine sx_n (wpl_ldvec (q2_a _ HC2.out) rfl (by kernel_rfl) rfl (by kernel_rfl) (wpl_r1 [(122, .int .i64 m)] (by kernel_rfl) ?_))
  refine wpl_call rfl (by kernel_rfl) (by kernel_rfl) ((rrepeat_z z2 m Aa la ca sa _ La.out Ca (p2_a w113 HC2.out) Ya.out hz2.out).mono ?_)
  rintro e w114 ⟨lh4, sh4, Ah4, ch4, Eh4, rfl, Ch4, Oh4, hb⟩
  refine ⟨_, rfl, ?_⟩
  replace HC2 := hide (HM2 _ _ HC2.out hb)
  replace Og0 := hide (OwQ.kept Og0.out hb)
  replace Oh0 := hide (RQ.below Oh0.out hb)
  replace Og1 := hide (OwQ.kept Og1.out hb)
  replace Oh1 := hide (RQ.below Oh1.out hb)
  replace Og2 := hide (OwQ.kept Og2.out hb)
  replace Oh2 := hide (RQ.below Oh2.out hb)
  replace Og3 := hide (OwQ.kept Og3.out hb)
  replace Oh3 := hide (RQ.below Oh3.out hb)
  replace Og4 := hide (OwQ.kept Og4.out hb)
  replace ZG := hide (Arr.kept ZG.out hb)
  replace ZH := hide (Arr.kept ZH.out hb)
  replace ZI := hide (Arr.kept ZI.out hb)
  replace ZJ := hide (Arr.kept ZJ.out hb)
  replace Oh4 := hide Oh4.out.rd
  replace hU := hU.trans (hb.mono hU.size)
  replace hV := hV.trans (hb.mono hV.size)
  clear hb
  have Lh4 := hide (len_E Eh4.out (fun q0 => (by rw [ql_length]; exact rpe_le (cnt_gd (v := ⟨la, sa⟩) Ya.out).pos (hz2.out.trans q0))))
  refine wpl_r4 [(126, .pointer (some ⟨NH, 8, none⟩)), (125, .int .i64 z2), (124, .agg #[.slice Ah4 lh4.length ch4, .bool sh4]), (120, .tuple #[.agg #[.slice Ah4 lh4.length ch4, .bool sh4], .int .i64 z2])] (by kernel_rfl) (wpl_stark (A := Ah4) (m := lh4.length) (c := ch4) (s := sh4) 8 (.slice none 0 0) (.bool false) [.slice Ah0 lh0.length ch0, .bool sh0, .slice Ah1 lh1.length ch1, .bool sh1, .slice Ah2 lh2.length ch2, .bool sh2, .slice Ah3 lh3.length ch3, .bool sh3, .slice Ah4 lh4.length ch4, .bool sh4, .slice none 0 0, .bool false, .slice none 0 0, .bool false, .slice none 0 0, .bool false] ZH.out rfl (by kernel_rfl) rfl (by kernel_rfl) (by kernel_rfl) rfl rfl (fun _ h => by cases h) (fun _ h => by cases h) rfl ?_)
  intro w115 hst hkp Zn
  replace Og0 := hide (OwQ.arr Og0.out ZH.out rfl (fun _ h => by cases h) hkp)
  replace Oh0 := hide (hst.rq Oh0.out)
  replace Og1 := hide (OwQ.arr Og1.out ZH.out rfl (fun _ h => by cases h) hkp)
  replace Oh1 := hide (hst.rq Oh1.out)
  replace Og2 := hide (OwQ.arr Og2.out ZH.out rfl (fun _ h => by cases h) hkp)
  replace Oh2 := hide (hst.rq Oh2.out)
  replace Og3 := hide (OwQ.arr Og3.out ZH.out rfl (fun _ h => by cases h) hkp)
  replace Oh3 := hide (hst.rq Oh3.out)
  replace Og4 := hide (OwQ.arr Og4.out ZH.out rfl (fun _ h => by cases h) hkp)
  replace Oh4 := hide (hst.rq Oh4.out)
  replace ZH := hide Zn
  clear hkp
  replace ZG := hide (hst.ne ZG.out (by first | exact neGH | exact neHG.symm))
  replace ZI := hide (hst.ne ZI.out (by first | exact neIH | exact neHI.symm))
  replace ZJ := hide (hst.ne ZJ.out (by first | exact neJH | exact neHJ.symm))
  replace hV := hV.trans (hst.bel hzH)
  replace HC2 := hide (HM2 _ _ HK.out hV)
  replace hU := hUK.trans (hV.mono hUK.size)
  clear hst
  refine wpl_r1 [(127, .pointer (some ⟨NJ, 4, none⟩))] (by kernel_rfl) (wpl_sterk 4 z2 0 [.int .i64 z0, .int .i64 z0, .int .i64 z0, .int .i64 z1, .int .i64 z2, .int .i64 0, .int .i64 0, .int .i64 0] ZJ.out rfl (by kernel_rfl) rfl (by kernel_rfl) (by kernel_rfl) rfl rfl ?_)
  intro w116 hst hkp Zn
  replace Og0 := hide (OwQ.arr Og0.out ZJ.out rfl (fun _ h => by cases h) hkp)
  replace Oh0 := hide (hst.rq Oh0.out)
  replace Og1 := hide (OwQ.arr Og1.out ZJ.out rfl (fun _ h => by cases h) hkp)
  replace Oh1 := hide (hst.rq Oh1.out)
  replace Og2 := hide (OwQ.arr Og2.out ZJ.out rfl (fun _ h => by cases h) hkp)
  replace Oh2 := hide (hst.rq Oh2.out)
  replace Og3 := hide (OwQ.arr Og3.out ZJ.out rfl (fun _ h => by cases h) hkp)
  replace Oh3 := hide (hst.rq Oh3.out)
  replace Og4 := hide (OwQ.arr Og4.out ZJ.out rfl (fun _ h => by cases h) hkp)
  replace Oh4 := hide (hst.rq Oh4.out)
  replace ZJ := hide Zn
  clear hkp
  replace ZG := hide (hst.ne ZG.out (by first | exact neGJ | exact neJG.symm))
  replace ZH := hide (hst.ne ZH.out (by first | exact neHJ | exact neJH.symm))
  replace ZI := hide (hst.ne ZI.out (by first | exact neIJ | exact neJI.symm))
  replace hV := hV.trans (hst.bel hzJ)
  replace HC2 := hide (HM2 _ _ HK.out hV)
  replace hU := hUK.trans (hV.mono hUK.size)
  clear hst
  refine sx_n (wpl_ldvec (q2_u _ HC2.out) rfl (by kernel_rfl) rfl (by kernel_rfl) (wpl_r2 [(131, .int .i64 n), (130, .int .i64 m)] (by kernel_rfl) ?_))
  refine wpl_call rfl (by kernel_rfl) (by kernel_rfl) ((slice_w Ax lx cx sx _ z3 m n Lx.out Cx (p2_x w116 HC2.out) Yx.out n0 m1 m0 n1 hz3.out).mono ?_)
  rintro e w117 ⟨lg5, sg5, Ag5, cg5, Eg5, rfl, Cg5, Og5, hb⟩
  refine ⟨_, rfl, ?_⟩
  have kg5 : W.heap.size ≤ w116.heap.size := hV.size
  replace HC2 := hide (HM2 _ _ HC2.out hb)
  replace Og0 := hide (OwQ.kept Og0.out hb)
  replace Oh0 := hide (RQ.below Oh0.out hb)
  replace Og1 := hide (OwQ.kept Og1.out hb)
  replace Oh1 := hide (RQ.below Oh1.out hb)
  replace Og2 := hide (OwQ.kept Og2.out hb)
  replace Oh2 := hide (RQ.below Oh2.out hb)
  replace Og3 := hide (OwQ.kept Og3.out hb)
  replace Oh3 := hide (RQ.below Oh3.out hb)
  replace Og4 := hide (OwQ.kept Og4.out hb)
  replace Oh4 := hide (RQ.below Oh4.out hb)
  replace ZG := hide (Arr.kept ZG.out hb)
  replace ZH := hide (Arr.kept ZH.out hb)
  replace ZI := hide (Arr.kept ZI.out hb)
  replace ZJ := hide (Arr.kept ZJ.out hb)
  replace hU := hU.trans (hb.mono hU.size)
  replace hV := hV.trans (hb.mono hV.size)
  clear hb
  have Lg5 := hide (len_E Eg5.out (fun q0 => (by show (ql _ _).length ≤ 4096; rw [ql_length]; exact spn_le (hz3.out.trans q0))))
  refine wpl_r4 [(135, .pointer (some ⟨NG, 10, none⟩)), (134, .int .i64 z3), (133, .agg #[.slice Ag5 lg5.length cg5, .bool sg5]), (128, .tuple #[.agg #[.slice Ag5 lg5.length cg5, .bool sg5], .int .i64 z3])] (by kernel_rfl) (wpl_stark (A := Ag5) (m := lg5.length) (c := cg5) (s := sg5) 10 (.slice none 0 0) (.bool false) [.slice Ag0 lg0.length cg0, .bool sg0, .slice Ag1 lg1.length cg1, .bool sg1, .slice Ag2 lg2.length cg2, .bool sg2, .slice Ag3 lg3.length cg3, .bool sg3, .slice Ag4 lg4.length cg4, .bool sg4, .slice Ag5 lg5.length cg5, .bool sg5, .slice none 0 0, .bool false, .slice none 0 0, .bool false] ZG.out rfl (by kernel_rfl) rfl (by kernel_rfl) (by kernel_rfl) rfl rfl (fun _ h => by cases h) (fun _ h => by cases h) rfl ?_)
  intro w118 hst hkp Zn
  replace Og0 := hide (OwQ.arr Og0.out ZG.out rfl (fun _ h => by cases h) hkp)
  replace Oh0 := hide (hst.rq Oh0.out)
  replace Og1 := hide (OwQ.arr Og1.out ZG.out rfl (fun _ h => by cases h) hkp)
  replace Oh1 := hide (hst.rq Oh1.out)
  replace Og2 := hide (OwQ.arr Og2.out ZG.out rfl (fun _ h => by cases h) hkp)
  replace Oh2 := hide (hst.rq Oh2.out)
  replace Og3 := hide (OwQ.arr Og3.out ZG.out rfl (fun _ h => by cases h) hkp)
  replace Oh3 := hide (hst.rq Oh3.out)
  replace Og4 := hide (OwQ.arr Og4.out ZG.out rfl (fun _ h => by cases h) hkp)
  replace Oh4 := hide (hst.rq Oh4.out)
  replace Og5 := hide (OwQ.arr Og5.out ZG.out rfl (fun _ h => by cases h) hkp)
  replace ZG := hide Zn
  clear hkp
  replace ZH := hide (hst.ne ZH.out (by first | exact neHG | exact neGH.symm))
  replace ZI := hide (hst.ne ZI.out (by first | exact neIG | exact neGI.symm))
  replace ZJ := hide (hst.ne ZJ.out (by first | exact neJG | exact neGJ.symm))
  replace hV := hV.trans (hst.bel hzG)
  replace HC2 := hide (HM2 _ _ HK.out hV)
  replace hU := hUK.trans (hV.mono hUK.size)
  clear hst
  refine wpl_r1 [(136, .pointer (some ⟨NI, 5, none⟩))] (by kernel_rfl) (wpl_sterk 5 z3 0 [.int .i64 z0, .int .i64 z0, .int .i64 z0, .int .i64 z1, .int .i64 z2, .int .i64 z3, .int .i64 0, .int .i64 0] ZI.out rfl (by kernel_rfl) rfl (by kernel_rfl) (by kernel_rfl) rfl rfl ?_)
  intro w119 hst hkp Zn
  replace Og0 := hide (OwQ.arr Og0.out ZI.out rfl (fun _ h => by cases h) hkp)
  replace Oh0 := hide (hst.rq Oh0.out)
  replace Og1 := hide (OwQ.arr Og1.out ZI.out rfl (fun _ h => by cases h) hkp)
  replace Oh1 := hide (hst.rq Oh1.out)
  replace Og2 := hide (OwQ.arr Og2.out ZI.out rfl (fun _ h => by cases h) hkp)
  replace Oh2 := hide (hst.rq Oh2.out)
  replace Og3 := hide (OwQ.arr Og3.out ZI.out rfl (fun _ h => by cases h) hkp)
  replace Oh3 := hide (hst.rq Oh3.out)
  replace Og4 := hide (OwQ.arr Og4.out ZI.out rfl (fun _ h => by cases h) hkp)
  replace Oh4 := hide (hst.rq Oh4.out)
  replace Og5 := hide (OwQ.arr Og5.out ZI.out rfl (fun _ h => by cases h) hkp)
  replace ZI := hide Zn
  clear hkp
  replace ZG := hide (hst.ne ZG.out (by first | exact neGI | exact neIG.symm))
  replace ZH := hide (hst.ne ZH.out (by first | exact neHI | exact neIH.symm))
  replace ZJ := hide (hst.ne ZJ.out (by first | exact neJI | exact neIJ.symm))
  replace hV := hV.trans (hst.bel hzI)
  replace HC2 := hide (HM2 _ _ HK.out hV)
  replace hU := hUK.trans (hV.mono hUK.size)
  clear hst
  refine sx_n (wpl_ldvec (q2_a _ HC2.out) rfl (by kernel_rfl) rfl (by kernel_rfl) (wpl_r2 [(140, .int .i64 n), (139, .int .i64 m)] (by kernel_rfl) ?_))
  refine wpl_call rfl (by kernel_rfl) (by kernel_rfl) ((rslice_w Aa la ca sa _ z3 m n La.out Ca (p2_a w119 HC2.out) Ya.out n0 m1 m0 n1 hz3.out).mono ?_)
  rintro e w120 ⟨lh5, sh5, Ah5, ch5, Eh5, rfl, Ch5, Oh5, hb⟩
  refine ⟨_, rfl, ?_⟩
  replace HC2 := hide (HM2 _ _ HC2.out hb)
  replace Og0 := hide (OwQ.kept Og0.out hb)
  replace Oh0 := hide (RQ.below Oh0.out hb)
  replace Og1 := hide (OwQ.kept Og1.out hb)
  replace Oh1 := hide (RQ.below Oh1.out hb)
  replace Og2 := hide (OwQ.kept Og2.out hb)
  replace Oh2 := hide (RQ.below Oh2.out hb)
  replace Og3 := hide (OwQ.kept Og3.out hb)
  replace Oh3 := hide (RQ.below Oh3.out hb)
  replace Og4 := hide (OwQ.kept Og4.out hb)
  replace Oh4 := hide (RQ.below Oh4.out hb)
  replace Og5 := hide (OwQ.kept Og5.out hb)
  replace ZG := hide (Arr.kept ZG.out hb)
  replace ZH := hide (Arr.kept ZH.out hb)
  replace ZI := hide (Arr.kept ZI.out hb)
  replace ZJ := hide (Arr.kept ZJ.out hb)
  replace Oh5 := hide Oh5.out.rd
  replace hU := hU.trans (hb.mono hU.size)
  replace hV := hV.trans (hb.mono hV.size)
  clear hb
  have Lh5 := hide (len_E Eh5.out (fun q0 => (by show (ql _ _).length ≤ 4096; rw [ql_length]; exact spn_le (hz3.out.trans q0))))
  refine wpl_r4 [(144, .pointer (some ⟨NH, 10, none⟩)), (143, .int .i64 z3), (142, .agg #[.slice Ah5 lh5.length ch5, .bool sh5]), (137, .tuple #[.agg #[.slice Ah5 lh5.length ch5, .bool sh5], .int .i64 z3])] (by kernel_rfl) (wpl_stark (A := Ah5) (m := lh5.length) (c := ch5) (s := sh5) 10 (.slice none 0 0) (.bool false) [.slice Ah0 lh0.length ch0, .bool sh0, .slice Ah1 lh1.length ch1, .bool sh1, .slice Ah2 lh2.length ch2, .bool sh2, .slice Ah3 lh3.length ch3, .bool sh3, .slice Ah4 lh4.length ch4, .bool sh4, .slice Ah5 lh5.length ch5, .bool sh5, .slice none 0 0, .bool false, .slice none 0 0, .bool false] ZH.out rfl (by kernel_rfl) rfl (by kernel_rfl) (by kernel_rfl) rfl rfl (fun _ h => by cases h) (fun _ h => by cases h) rfl ?_)
  intro w121 hst hkp Zn
  replace Og0 := hide (OwQ.arr Og0.out ZH.out rfl (fun _ h => by cases h) hkp)
  replace Oh0 := hide (hst.rq Oh0.out)
  replace Og1 := hide (OwQ.arr Og1.out ZH.out rfl (fun _ h => by cases h) hkp)
  replace Oh1 := hide (hst.rq Oh1.out)
  replace Og2 := hide (OwQ.arr Og2.out ZH.out rfl (fun _ h => by cases h) hkp)
  replace Oh2 := hide (hst.rq Oh2.out)
  replace Og3 := hide (OwQ.arr Og3.out ZH.out rfl (fun _ h => by cases h) hkp)
  replace Oh3 := hide (hst.rq Oh3.out)
  replace Og4 := hide (OwQ.arr Og4.out ZH.out rfl (fun _ h => by cases h) hkp)
  replace Oh4 := hide (hst.rq Oh4.out)
  replace Og5 := hide (OwQ.arr Og5.out ZH.out rfl (fun _ h => by cases h) hkp)
  replace Oh5 := hide (hst.rq Oh5.out)
  replace ZH := hide Zn
  clear hkp
  replace ZG := hide (hst.ne ZG.out (by first | exact neGH | exact neHG.symm))
  replace ZI := hide (hst.ne ZI.out (by first | exact neIH | exact neHI.symm))
  replace ZJ := hide (hst.ne ZJ.out (by first | exact neJH | exact neHJ.symm))
  replace hV := hV.trans (hst.bel hzH)
  replace HC2 := hide (HM2 _ _ HK.out hV)
  replace hU := hUK.trans (hV.mono hUK.size)
  clear hst
  refine wpl_r1 [(145, .pointer (some ⟨NJ, 5, none⟩))] (by kernel_rfl) (wpl_sterk 5 z3 0 [.int .i64 z0, .int .i64 z0, .int .i64 z0, .int .i64 z1, .int .i64 z2, .int .i64 z3, .int .i64 0, .int .i64 0] ZJ.out rfl (by kernel_rfl) rfl (by kernel_rfl) (by kernel_rfl) rfl rfl ?_)
  intro w122 hst hkp Zn
  replace Og0 := hide (OwQ.arr Og0.out ZJ.out rfl (fun _ h => by cases h) hkp)
  replace Oh0 := hide (hst.rq Oh0.out)
  replace Og1 := hide (OwQ.arr Og1.out ZJ.out rfl (fun _ h => by cases h) hkp)
  replace Oh1 := hide (hst.rq Oh1.out)
  replace Og2 := hide (OwQ.arr Og2.out ZJ.out rfl (fun _ h => by cases h) hkp)
  replace Oh2 := hide (hst.rq Oh2.out)
  replace Og3 := hide (OwQ.arr Og3.out ZJ.out rfl (fun _ h => by cases h) hkp)
  replace Oh3 := hide (hst.rq Oh3.out)
  replace Og4 := hide (OwQ.arr Og4.out ZJ.out rfl (fun _ h => by cases h) hkp)
  replace Oh4 := hide (hst.rq Oh4.out)
  replace Og5 := hide (OwQ.arr Og5.out ZJ.out rfl (fun _ h => by cases h) hkp)
  replace Oh5 := hide (hst.rq Oh5.out)
  replace ZJ := hide Zn
  clear hkp
  replace ZG := hide (hst.ne ZG.out (by first | exact neGJ | exact neJG.symm))
  replace ZH := hide (hst.ne ZH.out (by first | exact neHJ | exact neJH.symm))
  replace ZI := hide (hst.ne ZI.out (by first | exact neIJ | exact neJI.symm))
  replace hV := hV.trans (hst.bel hzJ)
  replace HC2 := hide (HM2 _ _ HK.out hV)
  replace hU := hUK.trans (hV.mono hUK.size)
  clear hst
  refine sx_n (wpl_ldvec (q2_u _ HC2.out) rfl (by kernel_rfl) rfl (by kernel_rfl) (wpl_r2 [(149, .int .i64 n), (148, .int .i64 m)] (by kernel_rfl) (wpl_ldvec (q2_v _ HC2.out) rfl (by kernel_rfl) rfl (by kernel_rfl) ?_)))
  refine wpl_call rfl (by kernel_rfl) (by kernel_rfl) ((put_w Ax Ay lx ly cx cy sx sy _ z3 m n Lx.out Ly.out Cx Cy (p2_x w122 HC2.out) (p2_y w122 HC2.out) Yx.out Yy.out n0 m1 m0 n1 hz3.out).mono ?_)
  rintro e w123 ⟨lg6, sg6, Ag6, cg6, Eg6, rfl, Cg6, Og6, hb⟩
  refine ⟨_, rfl, ?_⟩
  have kg6 : W.heap.size ≤ w122.heap.size := hV.size
  replace HC2 := hide (HM2 _ _ HC2.out hb)
  replace Og0 := hide (OwQ.kept Og0.out hb)
  replace Oh0 := hide (RQ.below Oh0.out hb)
  replace Og1 := hide (OwQ.kept Og1.out hb)
  replace Oh1 := hide (RQ.below Oh1.out hb)
  replace Og2 := hide (OwQ.kept Og2.out hb)
  replace Oh2 := hide (RQ.below Oh2.out hb)
  replace Og3 := hide (OwQ.kept Og3.out hb)
  replace Oh3 := hide (RQ.below Oh3.out hb)
  replace Og4 := hide (OwQ.kept Og4.out hb)
  replace Oh4 := hide (RQ.below Oh4.out hb)
  replace Og5 := hide (OwQ.kept Og5.out hb)
  replace Oh5 := hide (RQ.below Oh5.out hb)
  replace ZG := hide (Arr.kept ZG.out hb)
  replace ZH := hide (Arr.kept ZH.out hb)
  replace ZI := hide (Arr.kept ZI.out hb)
  replace ZJ := hide (Arr.kept ZJ.out hb)
  replace hU := hU.trans (hb.mono hU.size)
  replace hV := hV.trans (hb.mono hV.size)
  clear hb
  have Lg6 := hide (len_E Eg6.out (fun q0 => (put_le (a := ⟨lx, sx⟩) Yx.out _ _)))
  refine wpl_r4 [(154, .pointer (some ⟨NG, 12, none⟩)), (153, .int .i64 z3), (152, .agg #[.slice Ag6 lg6.length cg6, .bool sg6]), (146, .tuple #[.agg #[.slice Ag6 lg6.length cg6, .bool sg6], .int .i64 z3])] (by kernel_rfl) (wpl_stark (A := Ag6) (m := lg6.length) (c := cg6) (s := sg6) 12 (.slice none 0 0) (.bool false) [.slice Ag0 lg0.length cg0, .bool sg0, .slice Ag1 lg1.length cg1, .bool sg1, .slice Ag2 lg2.length cg2, .bool sg2, .slice Ag3 lg3.length cg3, .bool sg3, .slice Ag4 lg4.length cg4, .bool sg4, .slice Ag5 lg5.length cg5, .bool sg5, .slice Ag6 lg6.length cg6, .bool sg6, .slice none 0 0, .bool false] ZG.out rfl (by kernel_rfl) rfl (by kernel_rfl) (by kernel_rfl) rfl rfl (fun _ h => by cases h) (fun _ h => by cases h) rfl ?_)
  intro w124 hst hkp Zn
  replace Og0 := hide (OwQ.arr Og0.out ZG.out rfl (fun _ h => by cases h) hkp)
  replace Oh0 := hide (hst.rq Oh0.out)
  replace Og1 := hide (OwQ.arr Og1.out ZG.out rfl (fun _ h => by cases h) hkp)
  replace Oh1 := hide (hst.rq Oh1.out)
  replace Og2 := hide (OwQ.arr Og2.out ZG.out rfl (fun _ h => by cases h) hkp)
  replace Oh2 := hide (hst.rq Oh2.out)
  replace Og3 := hide (OwQ.arr Og3.out ZG.out rfl (fun _ h => by cases h) hkp)
  replace Oh3 := hide (hst.rq Oh3.out)
  replace Og4 := hide (OwQ.arr Og4.out ZG.out rfl (fun _ h => by cases h) hkp)
  replace Oh4 := hide (hst.rq Oh4.out)
  replace Og5 := hide (OwQ.arr Og5.out ZG.out rfl (fun _ h => by cases h) hkp)
  replace Oh5 := hide (hst.rq Oh5.out)
  replace Og6 := hide (OwQ.arr Og6.out ZG.out rfl (fun _ h => by cases h) hkp)
  replace ZG := hide Zn
  clear hkp
  replace ZH := hide (hst.ne ZH.out (by first | exact neHG | exact neGH.symm))
  replace ZI := hide (hst.ne ZI.out (by first | exact neIG | exact neGI.symm))
  replace ZJ := hide (hst.ne ZJ.out (by first | exact neJG | exact neGJ.symm))
  replace hV := hV.trans (hst.bel hzG)
  replace HC2 := hide (HM2 _ _ HK.out hV)
  replace hU := hUK.trans (hV.mono hUK.size)
  clear hst
  refine wpl_r1 [(155, .pointer (some ⟨NI, 6, none⟩))] (by kernel_rfl) (wpl_sterk 6 z3 0 [.int .i64 z0, .int .i64 z0, .int .i64 z0, .int .i64 z1, .int .i64 z2, .int .i64 z3, .int .i64 z3, .int .i64 0] ZI.out rfl (by kernel_rfl) rfl (by kernel_rfl) (by kernel_rfl) rfl rfl ?_)
  intro w125 hst hkp Zn
  replace Og0 := hide (OwQ.arr Og0.out ZI.out rfl (fun _ h => by cases h) hkp)
  replace Oh0 := hide (hst.rq Oh0.out)
  replace Og1 := hide (OwQ.arr Og1.out ZI.out rfl (fun _ h => by cases h) hkp)
  replace Oh1 := hide (hst.rq Oh1.out)
  replace Og2 := hide (OwQ.arr Og2.out ZI.out rfl (fun _ h => by cases h) hkp)
  replace Oh2 := hide (hst.rq Oh2.out)
  replace Og3 := hide (OwQ.arr Og3.out ZI.out rfl (fun _ h => by cases h) hkp)
  replace Oh3 := hide (hst.rq Oh3.out)
  replace Og4 := hide (OwQ.arr Og4.out ZI.out rfl (fun _ h => by cases h) hkp)
  replace Oh4 := hide (hst.rq Oh4.out)
  replace Og5 := hide (OwQ.arr Og5.out ZI.out rfl (fun _ h => by cases h) hkp)
  replace Oh5 := hide (hst.rq Oh5.out)
  replace Og6 := hide (OwQ.arr Og6.out ZI.out rfl (fun _ h => by cases h) hkp)
  replace ZI := hide Zn
  clear hkp
  replace ZG := hide (hst.ne ZG.out (by first | exact neGI | exact neIG.symm))
  replace ZH := hide (hst.ne ZH.out (by first | exact neHI | exact neIH.symm))
  replace ZJ := hide (hst.ne ZJ.out (by first | exact neJI | exact neIJ.symm))
  replace hV := hV.trans (hst.bel hzI)
  replace HC2 := hide (HM2 _ _ HK.out hV)
  replace hU := hUK.trans (hV.mono hUK.size)
  clear hst
  refine sx_n (wpl_ldvec (q2_a _ HC2.out) rfl (by kernel_rfl) rfl (by kernel_rfl) (wpl_r2 [(159, .int .i64 n), (158, .int .i64 m)] (by kernel_rfl) (wpl_ldvec (q2_b _ HC2.out) rfl (by kernel_rfl) rfl (by kernel_rfl) ?_)))
  refine wpl_call rfl (by kernel_rfl) (by kernel_rfl) ((rput_w Aa Ab la lb ca cb sa sb _ z3 m n La.out Lb.out Ca Cb (p2_a w125 HC2.out) (p2_b w125 HC2.out) Ya.out Yb.out n0 m1 m0 n1 hz3.out).mono ?_)
  rintro e w126 ⟨lh6, sh6, Ah6, ch6, Eh6, rfl, Ch6, Oh6, hb⟩
  refine ⟨_, rfl, ?_⟩
  replace HC2 := hide (HM2 _ _ HC2.out hb)
  replace Og0 := hide (OwQ.kept Og0.out hb)
  replace Oh0 := hide (RQ.below Oh0.out hb)
  replace Og1 := hide (OwQ.kept Og1.out hb)
  replace Oh1 := hide (RQ.below Oh1.out hb)
  replace Og2 := hide (OwQ.kept Og2.out hb)
  replace Oh2 := hide (RQ.below Oh2.out hb)
  replace Og3 := hide (OwQ.kept Og3.out hb)
  replace Oh3 := hide (RQ.below Oh3.out hb)
  replace Og4 := hide (OwQ.kept Og4.out hb)
  replace Oh4 := hide (RQ.below Oh4.out hb)
  replace Og5 := hide (OwQ.kept Og5.out hb)
  replace Oh5 := hide (RQ.below Oh5.out hb)
  replace Og6 := hide (OwQ.kept Og6.out hb)
  replace ZG := hide (Arr.kept ZG.out hb)
  replace ZH := hide (Arr.kept ZH.out hb)
  replace ZI := hide (Arr.kept ZI.out hb)
  replace ZJ := hide (Arr.kept ZJ.out hb)
  replace Oh6 := hide Oh6.out.rd
  replace hU := hU.trans (hb.mono hU.size)
  replace hV := hV.trans (hb.mono hV.size)
  clear hb
  have Lh6 := hide (len_E Eh6.out (fun q0 => (put_le (a := ⟨la, sa⟩) Ya.out _ _)))
  refine wpl_r4 [(164, .pointer (some ⟨NH, 12, none⟩)), (163, .int .i64 z3), (162, .agg #[.slice Ah6 lh6.length ch6, .bool sh6]), (156, .tuple #[.agg #[.slice Ah6 lh6.length ch6, .bool sh6], .int .i64 z3])] (by kernel_rfl) (wpl_stark (A := Ah6) (m := lh6.length) (c := ch6) (s := sh6) 12 (.slice none 0 0) (.bool false) [.slice Ah0 lh0.length ch0, .bool sh0, .slice Ah1 lh1.length ch1, .bool sh1, .slice Ah2 lh2.length ch2, .bool sh2, .slice Ah3 lh3.length ch3, .bool sh3, .slice Ah4 lh4.length ch4, .bool sh4, .slice Ah5 lh5.length ch5, .bool sh5, .slice Ah6 lh6.length ch6, .bool sh6, .slice none 0 0, .bool false] ZH.out rfl (by kernel_rfl) rfl (by kernel_rfl) (by kernel_rfl) rfl rfl (fun _ h => by cases h) (fun _ h => by cases h) rfl ?_)
  intro w127 hst hkp Zn
  replace Og0 := hide (OwQ.arr Og0.out ZH.out rfl (fun _ h => by cases h) hkp)
  replace Oh0 := hide (hst.rq Oh0.out)
  replace Og1 := hide (OwQ.arr Og1.out ZH.out rfl (fun _ h => by cases h) hkp)
  replace Oh1 := hide (hst.rq Oh1.out)
  replace Og2 := hide (OwQ.arr Og2.out ZH.out rfl (fun _ h => by cases h) hkp)
  replace Oh2 := hide (hst.rq Oh2.out)
  replace Og3 := hide (OwQ.arr Og3.out ZH.out rfl (fun _ h => by cases h) hkp)
  replace Oh3 := hide (hst.rq Oh3.out)
  replace Og4 := hide (OwQ.arr Og4.out ZH.out rfl (fun _ h => by cases h) hkp)
  replace Oh4 := hide (hst.rq Oh4.out)
  replace Og5 := hide (OwQ.arr Og5.out ZH.out rfl (fun _ h => by cases h) hkp)
  replace Oh5 := hide (hst.rq Oh5.out)
  replace Og6 := hide (OwQ.arr Og6.out ZH.out rfl (fun _ h => by cases h) hkp)
  replace Oh6 := hide (hst.rq Oh6.out)
  replace ZH := hide Zn
  clear hkp
  replace ZG := hide (hst.ne ZG.out (by first | exact neGH | exact neHG.symm))
  replace ZI := hide (hst.ne ZI.out (by first | exact neIH | exact neHI.symm))
  replace ZJ := hide (hst.ne ZJ.out (by first | exact neJH | exact neHJ.symm))
  replace hV := hV.trans (hst.bel hzH)
  replace HC2 := hide (HM2 _ _ HK.out hV)
  replace hU := hUK.trans (hV.mono hUK.size)
  clear hst
  refine wpl_r1 [(165, .pointer (some ⟨NJ, 6, none⟩))] (by kernel_rfl) (wpl_sterk 6 z3 0 [.int .i64 z0, .int .i64 z0, .int .i64 z0, .int .i64 z1, .int .i64 z2, .int .i64 z3, .int .i64 z3, .int .i64 0] ZJ.out rfl (by kernel_rfl) rfl (by kernel_rfl) (by kernel_rfl) rfl rfl ?_)
  intro w128 hst hkp Zn
  replace Og0 := hide (OwQ.arr Og0.out ZJ.out rfl (fun _ h => by cases h) hkp)
  replace Oh0 := hide (hst.rq Oh0.out)
  replace Og1 := hide (OwQ.arr Og1.out ZJ.out rfl (fun _ h => by cases h) hkp)
  replace Oh1 := hide (hst.rq Oh1.out)
  replace Og2 := hide (OwQ.arr Og2.out ZJ.out rfl (fun _ h => by cases h) hkp)
  replace Oh2 := hide (hst.rq Oh2.out)
  replace Og3 := hide (OwQ.arr Og3.out ZJ.out rfl (fun _ h => by cases h) hkp)
  replace Oh3 := hide (hst.rq Oh3.out)
  replace Og4 := hide (OwQ.arr Og4.out ZJ.out rfl (fun _ h => by cases h) hkp)
  replace Oh4 := hide (hst.rq Oh4.out)
  replace Og5 := hide (OwQ.arr Og5.out ZJ.out rfl (fun _ h => by cases h) hkp)
  replace Oh5 := hide (hst.rq Oh5.out)
  replace Og6 := hide (OwQ.arr Og6.out ZJ.out rfl (fun _ h => by cases h) hkp)
  replace Oh6 := hide (hst.rq Oh6.out)
  replace ZJ := hide Zn
  clear hkp
  replace ZG := hide (hst.ne ZG.out (by first | exact neGJ | exact neJG.symm))
  replace ZH := hide (hst.ne ZH.out (by first | exact neHJ | exact neJH.symm))
  replace ZI := hide (hst.ne ZI.out (by first | exact neIJ | exact neJI.symm))
  replace hV := hV.trans (hst.bel hzJ)
  replace HC2 := hide (HM2 _ _ HK.out hV)
  replace hU := hUK.trans (hV.mono hUK.size)
  clear hst
  refine sx_n (wpl_ldvec (q2_v _ HC2.out) rfl (by kernel_rfl) rfl (by kernel_rfl) (wpl_bs1 rfl (by kernel_rfl) rfl (A0 := Ay) (l0 := ly) (c0 := cy) (s0 := sy) (by kernel_rfl) (p2_y w128 HC2.out) Yy.out Ly.out Cy ?_))
  intro w129 NV129 RV129 hlV129 hNV129 hb
  replace RV129 := hide RV129
  replace HC2 := hide (HM2 _ _ HC2.out hb)
  replace Og0 := hide (OwQ.kept Og0.out hb)
  replace Oh0 := hide (RQ.below Oh0.out hb)
  replace Og1 := hide (OwQ.kept Og1.out hb)
  replace Oh1 := hide (RQ.below Oh1.out hb)
  replace Og2 := hide (OwQ.kept Og2.out hb)
  replace Oh2 := hide (RQ.below Oh2.out hb)
  replace Og3 := hide (OwQ.kept Og3.out hb)
  replace Oh3 := hide (RQ.below Oh3.out hb)
  replace Og4 := hide (OwQ.kept Og4.out hb)
  replace Oh4 := hide (RQ.below Oh4.out hb)
  replace Og5 := hide (OwQ.kept Og5.out hb)
  replace Oh5 := hide (RQ.below Oh5.out hb)
  replace Og6 := hide (OwQ.kept Og6.out hb)
  replace Oh6 := hide (RQ.below Oh6.out hb)
  replace ZG := hide (Arr.kept ZG.out hb)
  replace ZH := hide (Arr.kept ZH.out hb)
  replace ZI := hide (Arr.kept ZI.out hb)
  replace ZJ := hide (Arr.kept ZJ.out hb)
  replace hU := hU.trans (hb.mono hU.size)
  replace hV := hV.trans (hb.mono hV.size)
  clear hb
  clear hNV129
  refine wpl_call rfl (by kernel_rfl) (by kernel_rfl) ((concat_w z4 NV129 1 [(Ay, ly, cy, sy)] _ hlV129 (by simp) (by simp) RV129.out (show cte [⟨ly, sy⟩] = z4 by rw [Ey.out]; exact hz4.out)).mono ?_)
  rintro e w130 ⟨lg7, sg7, Ag7, cg7, Eg7, rfl, Cg7, Og7, hb⟩
  refine ⟨_, rfl, ?_⟩
  have kg7 : W.heap.size ≤ w129.heap.size := hV.size
  replace HC2 := hide (HM2 _ _ HC2.out hb)
  replace Og0 := hide (OwQ.kept Og0.out hb)
  replace Oh0 := hide (RQ.below Oh0.out hb)
  replace Og1 := hide (OwQ.kept Og1.out hb)
  replace Oh1 := hide (RQ.below Oh1.out hb)
  replace Og2 := hide (OwQ.kept Og2.out hb)
  replace Oh2 := hide (RQ.below Oh2.out hb)
  replace Og3 := hide (OwQ.kept Og3.out hb)
  replace Oh3 := hide (RQ.below Oh3.out hb)
  replace Og4 := hide (OwQ.kept Og4.out hb)
  replace Oh4 := hide (RQ.below Oh4.out hb)
  replace Og5 := hide (OwQ.kept Og5.out hb)
  replace Oh5 := hide (RQ.below Oh5.out hb)
  replace Og6 := hide (OwQ.kept Og6.out hb)
  replace Oh6 := hide (RQ.below Oh6.out hb)
  replace ZG := hide (Arr.kept ZG.out hb)
  replace ZH := hide (Arr.kept ZH.out hb)
  replace ZI := hide (Arr.kept ZI.out hb)
  replace ZJ := hide (Arr.kept ZJ.out hb)
  replace hU := hU.trans (hb.mono hU.size)
  replace hV := hV.trans (hb.mono hV.size)
  clear hb
  have Lg7 := hide (len_E Eg7.out (fun q0 => (cte_le ((show cte [⟨ly, sy⟩] = z4 by rw [Ey.out]; exact hz4.out).trans q0))))
  clear RV129 hlV129
  refine wpl_r4 [(172, .pointer (some ⟨NG, 14, none⟩)), (171, .int .i64 z4), (170, .agg #[.slice Ag7 lg7.length cg7, .bool sg7]), (166, .tuple #[.agg #[.slice Ag7 lg7.length cg7, .bool sg7], .int .i64 z4])] (by kernel_rfl) (wpl_stark (A := Ag7) (m := lg7.length) (c := cg7) (s := sg7) 14 (.slice none 0 0) (.bool false) [.slice Ag0 lg0.length cg0, .bool sg0, .slice Ag1 lg1.length cg1, .bool sg1, .slice Ag2 lg2.length cg2, .bool sg2, .slice Ag3 lg3.length cg3, .bool sg3, .slice Ag4 lg4.length cg4, .bool sg4, .slice Ag5 lg5.length cg5, .bool sg5, .slice Ag6 lg6.length cg6, .bool sg6, .slice Ag7 lg7.length cg7, .bool sg7] ZG.out rfl (by kernel_rfl) rfl (by kernel_rfl) (by kernel_rfl) rfl rfl (fun _ h => by cases h) (fun _ h => by cases h) rfl ?_)
  intro w131 hst hkp Zn
  replace Og0 := hide (OwQ.arr Og0.out ZG.out rfl (fun _ h => by cases h) hkp)
  replace Oh0 := hide (hst.rq Oh0.out)
  replace Og1 := hide (OwQ.arr Og1.out ZG.out rfl (fun _ h => by cases h) hkp)
  replace Oh1 := hide (hst.rq Oh1.out)
  replace Og2 := hide (OwQ.arr Og2.out ZG.out rfl (fun _ h => by cases h) hkp)
  replace Oh2 := hide (hst.rq Oh2.out)
  replace Og3 := hide (OwQ.arr Og3.out ZG.out rfl (fun _ h => by cases h) hkp)
  replace Oh3 := hide (hst.rq Oh3.out)
  replace Og4 := hide (OwQ.arr Og4.out ZG.out rfl (fun _ h => by cases h) hkp)
  replace Oh4 := hide (hst.rq Oh4.out)
  replace Og5 := hide (OwQ.arr Og5.out ZG.out rfl (fun _ h => by cases h) hkp)
  replace Oh5 := hide (hst.rq Oh5.out)
  replace Og6 := hide (OwQ.arr Og6.out ZG.out rfl (fun _ h => by cases h) hkp)
  replace Oh6 := hide (hst.rq Oh6.out)
  replace Og7 := hide (OwQ.arr Og7.out ZG.out rfl (fun _ h => by cases h) hkp)
  replace ZG := hide Zn
  clear hkp
  replace ZH := hide (hst.ne ZH.out (by first | exact neHG | exact neGH.symm))
  replace ZI := hide (hst.ne ZI.out (by first | exact neIG | exact neGI.symm))
  replace ZJ := hide (hst.ne ZJ.out (by first | exact neJG | exact neGJ.symm))
  replace hV := hV.trans (hst.bel hzG)
  replace HC2 := hide (HM2 _ _ HK.out hV)
  replace hU := hUK.trans (hV.mono hUK.size)
  clear hst
  refine wpl_r1 [(173, .pointer (some ⟨NI, 7, none⟩))] (by kernel_rfl) (wpl_sterk 7 z4 0 [.int .i64 z0, .int .i64 z0, .int .i64 z0, .int .i64 z1, .int .i64 z2, .int .i64 z3, .int .i64 z3, .int .i64 z4] ZI.out rfl (by kernel_rfl) rfl (by kernel_rfl) (by kernel_rfl) rfl rfl ?_)
  intro w132 hst hkp Zn
  replace Og0 := hide (OwQ.arr Og0.out ZI.out rfl (fun _ h => by cases h) hkp)
  replace Oh0 := hide (hst.rq Oh0.out)
  replace Og1 := hide (OwQ.arr Og1.out ZI.out rfl (fun _ h => by cases h) hkp)
  replace Oh1 := hide (hst.rq Oh1.out)
  replace Og2 := hide (OwQ.arr Og2.out ZI.out rfl (fun _ h => by cases h) hkp)
  replace Oh2 := hide (hst.rq Oh2.out)
  replace Og3 := hide (OwQ.arr Og3.out ZI.out rfl (fun _ h => by cases h) hkp)
  replace Oh3 := hide (hst.rq Oh3.out)
  replace Og4 := hide (OwQ.arr Og4.out ZI.out rfl (fun _ h => by cases h) hkp)
  replace Oh4 := hide (hst.rq Oh4.out)
  replace Og5 := hide (OwQ.arr Og5.out ZI.out rfl (fun _ h => by cases h) hkp)
  replace Oh5 := hide (hst.rq Oh5.out)
  replace Og6 := hide (OwQ.arr Og6.out ZI.out rfl (fun _ h => by cases h) hkp)
  replace Oh6 := hide (hst.rq Oh6.out)
  replace Og7 := hide (OwQ.arr Og7.out ZI.out rfl (fun _ h => by cases h) hkp)
  replace ZI := hide Zn
  clear hkp
  replace ZG := hide (hst.ne ZG.out (by first | exact neGI | exact neIG.symm))
  replace ZH := hide (hst.ne ZH.out (by first | exact neHI | exact neIH.symm))
  replace ZJ := hide (hst.ne ZJ.out (by first | exact neJI | exact neIJ.symm))
  replace hV := hV.trans (hst.bel hzI)
  replace HC2 := hide (HM2 _ _ HK.out hV)
  replace hU := hUK.trans (hV.mono hUK.size)
  clear hst
  refine sx_n (wpl_ldvec (q2_b _ HC2.out) rfl (by kernel_rfl) rfl (by kernel_rfl) (wpl_bs1 rfl (by kernel_rfl) rfl (A0 := Ab) (l0 := lb) (c0 := cb) (s0 := sb) (by kernel_rfl) (p2_b w132 HC2.out) Yb.out Lb.out Cb ?_))
  intro w133 NV133 RV133 hlV133 hNV133 hb
  replace RV133 := hide RV133
  replace HC2 := hide (HM2 _ _ HC2.out hb)
  replace Og0 := hide (OwQ.kept Og0.out hb)
  replace Oh0 := hide (RQ.below Oh0.out hb)
  replace Og1 := hide (OwQ.kept Og1.out hb)
  replace Oh1 := hide (RQ.below Oh1.out hb)
  replace Og2 := hide (OwQ.kept Og2.out hb)
  replace Oh2 := hide (RQ.below Oh2.out hb)
  replace Og3 := hide (OwQ.kept Og3.out hb)
  replace Oh3 := hide (RQ.below Oh3.out hb)
  replace Og4 := hide (OwQ.kept Og4.out hb)
  replace Oh4 := hide (RQ.below Oh4.out hb)
  replace Og5 := hide (OwQ.kept Og5.out hb)
  replace Oh5 := hide (RQ.below Oh5.out hb)
  replace Og6 := hide (OwQ.kept Og6.out hb)
  replace Oh6 := hide (RQ.below Oh6.out hb)
  replace Og7 := hide (OwQ.kept Og7.out hb)
  replace ZG := hide (Arr.kept ZG.out hb)
  replace ZH := hide (Arr.kept ZH.out hb)
  replace ZI := hide (Arr.kept ZI.out hb)
  replace ZJ := hide (Arr.kept ZJ.out hb)
  replace hU := hU.trans (hb.mono hU.size)
  replace hV := hV.trans (hb.mono hV.size)
  clear hb
  clear hNV133
  refine wpl_call rfl (by kernel_rfl) (by kernel_rfl) ((rconcat_z z4 NV133 1 [(Ab, lb, cb, sb)] _ hlV133 (by simp) (by simp) RV133.out hz4.out).mono ?_)
  rintro e w134 ⟨lh7, sh7, Ah7, ch7, Eh7, rfl, Ch7, Oh7, hb⟩
  refine ⟨_, rfl, ?_⟩
  replace HC2 := hide (HM2 _ _ HC2.out hb)
  replace Og0 := hide (OwQ.kept Og0.out hb)
  replace Oh0 := hide (RQ.below Oh0.out hb)
  replace Og1 := hide (OwQ.kept Og1.out hb)
  replace Oh1 := hide (RQ.below Oh1.out hb)
  replace Og2 := hide (OwQ.kept Og2.out hb)
  replace Oh2 := hide (RQ.below Oh2.out hb)
  replace Og3 := hide (OwQ.kept Og3.out hb)
  replace Oh3 := hide (RQ.below Oh3.out hb)
  replace Og4 := hide (OwQ.kept Og4.out hb)
  replace Oh4 := hide (RQ.below Oh4.out hb)
  replace Og5 := hide (OwQ.kept Og5.out hb)
  replace Oh5 := hide (RQ.below Oh5.out hb)
  replace Og6 := hide (OwQ.kept Og6.out hb)
  replace Oh6 := hide (RQ.below Oh6.out hb)
  replace Og7 := hide (OwQ.kept Og7.out hb)
  replace ZG := hide (Arr.kept ZG.out hb)
  replace ZH := hide (Arr.kept ZH.out hb)
  replace ZI := hide (Arr.kept ZI.out hb)
  replace ZJ := hide (Arr.kept ZJ.out hb)
  replace Oh7 := hide Oh7.out.rd
  replace hU := hU.trans (hb.mono hU.size)
  replace hV := hV.trans (hb.mono hV.size)
  clear hb
  have Lh7 := hide (len_E Eh7.out (fun q0 => (cte_le (hz4.out.trans q0))))
  clear RV133 hlV133
  refine wpl_r4 [(180, .pointer (some ⟨NH, 14, none⟩)), (179, .int .i64 z4), (178, .agg #[.slice Ah7 lh7.length ch7, .bool sh7]), (174, .tuple #[.agg #[.slice Ah7 lh7.length ch7, .bool sh7], .int .i64 z4])] (by kernel_rfl) (wpl_stark (A := Ah7) (m := lh7.length) (c := ch7) (s := sh7) 14 (.slice none 0 0) (.bool false) [.slice Ah0 lh0.length ch0, .bool sh0, .slice Ah1 lh1.length ch1, .bool sh1, .slice Ah2 lh2.length ch2, .bool sh2, .slice Ah3 lh3.length ch3, .bool sh3, .slice Ah4 lh4.length ch4, .bool sh4, .slice Ah5 lh5.length ch5, .bool sh5, .slice Ah6 lh6.length ch6, .bool sh6, .slice Ah7 lh7.length ch7, .bool sh7] ZH.out rfl (by kernel_rfl) rfl (by kernel_rfl) (by kernel_rfl) rfl rfl (fun _ h => by cases h) (fun _ h => by cases h) rfl ?_)
  intro w135 hst hkp Zn
  replace Og0 := hide (OwQ.arr Og0.out ZH.out rfl (fun _ h => by cases h) hkp)
  replace Oh0 := hide (hst.rq Oh0.out)
  replace Og1 := hide (OwQ.arr Og1.out ZH.out rfl (fun _ h => by cases h) hkp)
  replace Oh1 := hide (hst.rq Oh1.out)
  replace Og2 := hide (OwQ.arr Og2.out ZH.out rfl (fun _ h => by cases h) hkp)
  replace Oh2 := hide (hst.rq Oh2.out)
  replace Og3 := hide (OwQ.arr Og3.out ZH.out rfl (fun _ h => by cases h) hkp)
  replace Oh3 := hide (hst.rq Oh3.out)
  replace Og4 := hide (OwQ.arr Og4.out ZH.out rfl (fun _ h => by cases h) hkp)
  replace Oh4 := hide (hst.rq Oh4.out)
  replace Og5 := hide (OwQ.arr Og5.out ZH.out rfl (fun _ h => by cases h) hkp)
  replace Oh5 := hide (hst.rq Oh5.out)
  replace Og6 := hide (OwQ.arr Og6.out ZH.out rfl (fun _ h => by cases h) hkp)
  replace Oh6 := hide (hst.rq Oh6.out)
  replace Og7 := hide (OwQ.arr Og7.out ZH.out rfl (fun _ h => by cases h) hkp)
  replace Oh7 := hide (hst.rq Oh7.out)
  replace ZH := hide Zn
  clear hkp
  replace ZG := hide (hst.ne ZG.out (by first | exact neGH | exact neHG.symm))
  replace ZI := hide (hst.ne ZI.out (by first | exact neIH | exact neHI.symm))
  replace ZJ := hide (hst.ne ZJ.out (by first | exact neJH | exact neHJ.symm))
  replace hV := hV.trans (hst.bel hzH)
  replace HC2 := hide (HM2 _ _ HK.out hV)
  replace hU := hUK.trans (hV.mono hUK.size)
  clear hst
  refine wpl_r1 [(181, .pointer (some ⟨NJ, 7, none⟩))] (by kernel_rfl) (wpl_sterk 7 z4 0 [.int .i64 z0, .int .i64 z0, .int .i64 z0, .int .i64 z1, .int .i64 z2, .int .i64 z3, .int .i64 z3, .int .i64 z4] ZJ.out rfl (by kernel_rfl) rfl (by kernel_rfl) (by kernel_rfl) rfl rfl ?_)
  intro w136 hst hkp Zn
  replace Og0 := hide (OwQ.arr Og0.out ZJ.out rfl (fun _ h => by cases h) hkp)
  replace Oh0 := hide (hst.rq Oh0.out)
  replace Og1 := hide (OwQ.arr Og1.out ZJ.out rfl (fun _ h => by cases h) hkp)
  replace Oh1 := hide (hst.rq Oh1.out)
  replace Og2 := hide (OwQ.arr Og2.out ZJ.out rfl (fun _ h => by cases h) hkp)
  replace Oh2 := hide (hst.rq Oh2.out)
  replace Og3 := hide (OwQ.arr Og3.out ZJ.out rfl (fun _ h => by cases h) hkp)
  replace Oh3 := hide (hst.rq Oh3.out)
  replace Og4 := hide (OwQ.arr Og4.out ZJ.out rfl (fun _ h => by cases h) hkp)
  replace Oh4 := hide (hst.rq Oh4.out)
  replace Og5 := hide (OwQ.arr Og5.out ZJ.out rfl (fun _ h => by cases h) hkp)
  replace Oh5 := hide (hst.rq Oh5.out)
  replace Og6 := hide (OwQ.arr Og6.out ZJ.out rfl (fun _ h => by cases h) hkp)
  replace Oh6 := hide (hst.rq Oh6.out)
  replace Og7 := hide (OwQ.arr Og7.out ZJ.out rfl (fun _ h => by cases h) hkp)
  replace Oh7 := hide (hst.rq Oh7.out)
  replace ZJ := hide Zn
  clear hkp
  replace ZG := hide (hst.ne ZG.out (by first | exact neGJ | exact neJG.symm))
  replace ZH := hide (hst.ne ZH.out (by first | exact neHJ | exact neJH.symm))
  replace ZI := hide (hst.ne ZI.out (by first | exact neIJ | exact neJI.symm))
  replace hV := hV.trans (hst.bel hzJ)
  replace HC2 := hide (HM2 _ _ HK.out hV)
  replace hU := hUK.trans (hV.mono hUK.size)
  clear hst
  refine wpl_end (then_normal (wp_seq (wp_seq (reg_lit (wpl_val rfl (by kernel_rfl) (run_lde8 rfl (by kernel_rfl) ZI.out) (wpl_val rfl (by kernel_rfl) (run_lde8 rfl (by kernel_rfl) ZJ.out) (wpl_val rfl (by kernel_rfl) (run_neq8 (z0 := z0) (z1 := z1) (z2 := z2) (z3 := z3) (z4 := z4) rfl (by kernel_rfl) (by kernel_rfl) H0.out H1.out H2.out H3.out H4.out) ?_)))))))
  refine wpl_end (then_normal (wp_iff (by kernel_rfl) (wp_skip (then_normal (wp_seq (wp_seq (reg_lit ?_)))))))
  refine wpl_r1 [(21, .int .i64 0)] (by kernel_rfl) (wpl_end (then_normal (wp_block (loop_r 9 (round_s (wp_seq (sw_t [(186, .bool true), (185, .int .i64 0)] rfl (by kernel_rfl) (by kernel_rfl) ?_)))))))
  refine wp_skip (then_normal (wp_seq (wp_block (wp_seq (region_R (n := 7) (N := 8) (by kernel_rfl) (by kernel_rfl) (by kernel_rfl) (by kernel_rfl) (by kernel_rfl) (by kernel_rfl) (fun _ _ _ _ _ h => h) ?_)))))
  intro F hQ
  have HC0 := HC2
  have ZG0 := ZG
  have ZH0 := ZH
  have ZI0 := ZI
  have ZJ0 := ZJ
  refine anyR_val (i := 0) (m' := 1) (v := .int .i64 0) F hQ rfl rfl (by kernel_rfl) (by kernel_rfl) (by kernel_rfl) (by kernel_rfl) (by kernel_rfl) (fun _ _ => by kernel_rfl) (anyR_val (i := 1) (m' := 3) (v := .pointer (some ⟨NG, 0, none⟩)) F hQ rfl rfl (by kernel_rfl) (by kernel_rfl) (by kernel_rfl) (by kernel_rfl) (by kernel_rfl) (fun _ _ => by kernel_rfl) ?_)
  refine anyR_val (i := 2) (m' := 7) (v := .agg #[.slice Ag0 lg0.length cg0, .bool sg0]) F hQ rfl rfl (by kernel_rfl) (by kernel_rfl) (by kernel_rfl) (by kernel_rfl) (by kernel_rfl) (fun w' hb => run_ldarr (j := 0) (A := Ag0) (m := lg0.length) (c := cg0) (s := sg0) rfl (by kernel_rfl) (ZG0.out.kept hb) rfl rfl) ?_
  refine anyR_val (i := 3) (m' := 15) (v := .int .i64 0) F hQ rfl rfl (by kernel_rfl) (by kernel_rfl) (by kernel_rfl) (by kernel_rfl) (by kernel_rfl) (fun _ _ => by kernel_rfl) (anyR_val (i := 4) (m' := 31) (v := .pointer (some ⟨NH, 0, none⟩)) F hQ rfl rfl (by kernel_rfl) (by kernel_rfl) (by kernel_rfl) (by kernel_rfl) (by kernel_rfl) (fun _ _ => by kernel_rfl) ?_)
  refine anyR_val (i := 5) (m' := 63) (v := .agg #[.slice Ah0 lh0.length ch0, .bool sh0]) F hQ rfl rfl (by kernel_rfl) (by kernel_rfl) (by kernel_rfl) (by kernel_rfl) (by kernel_rfl) (fun w' hb => run_ldarr (j := 0) (A := Ah0) (m := lh0.length) (c := ch0) (s := sh0) rfl (by kernel_rfl) (ZH0.out.kept hb) rfl rfl) ?_
  refine anyR_call (i := 6) (m' := 127) rfl rfl (by kernel_rfl) (by kernel_rfl) (by kernel_rfl) (by kernel_rfl) (by kernel_rfl) ((rsame_yes Ag0 Ah0 lg0 lh0 cg0 ch0 sg0 sh0 _ Lg0.out Lh0.out (by exact Og0.out.rd) (by exact Oh0.out) (eq_E Eg0.out Eh0.out)).mono ?_)
  rintro e w137 ⟨rfl, hb⟩
  refine ⟨_, rfl, hb, ?_⟩
  replace hb : Below w136.heap.size w136 w137 := Below.trans ((Below.refl _ _).drew) hb
  replace HC2 := hide (HM2 _ _ HC2.out hb)
  replace Og0 := hide (OwQ.kept Og0.out hb)
  replace Oh0 := hide (RQ.below Oh0.out hb)
  replace Og1 := hide (OwQ.kept Og1.out hb)
  replace Oh1 := hide (RQ.below Oh1.out hb)
  replace Og2 := hide (OwQ.kept Og2.out hb)
  replace Oh2 := hide (RQ.below Oh2.out hb)
  replace Og3 := hide (OwQ.kept Og3.out hb)
  replace Oh3 := hide (RQ.below Oh3.out hb)
  replace Og4 := hide (OwQ.kept Og4.out hb)
  replace Oh4 := hide (RQ.below Oh4.out hb)
  replace Og5 := hide (OwQ.kept Og5.out hb)
  replace Oh5 := hide (RQ.below Oh5.out hb)
  replace Og6 := hide (OwQ.kept Og6.out hb)
  replace Oh6 := hide (RQ.below Oh6.out hb)
  replace Og7 := hide (OwQ.kept Og7.out hb)
  replace Oh7 := hide (RQ.below Oh7.out hb)
  replace ZG := hide (Arr.kept ZG.out hb)
  replace ZH := hide (Arr.kept ZH.out hb)
  replace ZI := hide (Arr.kept ZI.out hb)
  replace ZJ := hide (Arr.kept ZJ.out hb)
  replace hU := hU.trans (hb.mono hU.size)
  replace hV := hV.trans (hb.mono hV.size)
  clear hb
  refine anyR_e (anyR_last (i := 7) (m' := 255) (v := .bool false) rfl rfl (by kernel_rfl) (by kernel_rfl) (by kernel_rfl) (by kernel_rfl) (by kernel_rfl) (anyE_done (by kernel_rfl) ?_))
  clear F hQ HC0 ZG0 ZH0 ZI0 ZJ0
  refine then_normal (wp_iff (by kernel_rfl) (wp_skip (block_normal (then_normal (reg_lit (wpl_r3 [(21, .int .i64 1), (188, .int .i64 1), (187, .int .i64 0)] (by kernel_rfl) (wpl_end ?_)))))))
  refine then_normal ?_
  refine round_keep [(3, .int .i64 m), (4, .int .i64 n), (5, .int .i64 v), (6, .pointer (some ⟨Na, 0, none⟩)), (7, .pointer (some ⟨Nb, 0, none⟩)), (8, .pointer (some ⟨Nc, 0, none⟩)), (13, .pointer (some ⟨Nu, 0, none⟩)), (14, .pointer (some ⟨Nv, 0, none⟩)), (15, .pointer (some ⟨Nt, 0, none⟩)), (16, .int .i64 ((k : Nat))), (17, .pointer (some ⟨NG, 0, none⟩)), (18, .pointer (some ⟨NH, 0, none⟩)), (21, .int .i64 1)] (Kp_c (by kernel_rfl) (Kp_c (by kernel_rfl) (Kp_c (by kernel_rfl) (Kp_c (by kernel_rfl) (Kp_c (by kernel_rfl) (Kp_c (by kernel_rfl) (Kp_c (by kernel_rfl) (Kp_c (by kernel_rfl) (Kp_c (by kernel_rfl) (Kp_c (by kernel_rfl) (Kp_c (by kernel_rfl) (Kp_c (by kernel_rfl) (Kp_c (by kernel_rfl) (Kp_n)))))))))))))) (fun X => ?_)
  refine round_s (wp_seq (sw_t [(186, .bool true), (185, .int .i64 1)] rfl (by kernel_rfl) (by kernel_rfl) (wp_skip (then_normal (wp_seq (wp_block (wp_seq ?_)))))))
  refine region_R (n := 7) (N := 8) (by kernel_rfl) (by kernel_rfl) (by kernel_rfl) (by kernel_rfl) (by kernel_rfl) (by kernel_rfl) (fun _ _ _ _ _ h => h) ?_
  intro F hQ
  have HC0 := HC2
  have ZG0 := ZG
  have ZH0 := ZH
  have ZI0 := ZI
  have ZJ0 := ZJ
  refine anyR_val (i := 0) (m' := 1) (v := .int .i64 1) F hQ rfl rfl (by kernel_rfl) (by kernel_rfl) (by kernel_rfl) (by kernel_rfl) (by kernel_rfl) (fun _ _ => by kernel_rfl) (anyR_val (i := 1) (m' := 3) (v := .pointer (some ⟨NG, 2, none⟩)) F hQ rfl rfl (by kernel_rfl) (by kernel_rfl) (by kernel_rfl) (by kernel_rfl) (by kernel_rfl) (fun _ _ => by kernel_rfl) ?_)
  refine anyR_val (i := 2) (m' := 7) (v := .agg #[.slice Ag1 lg1.length cg1, .bool sg1]) F hQ rfl rfl (by kernel_rfl) (by kernel_rfl) (by kernel_rfl) (by kernel_rfl) (by kernel_rfl) (fun w' hb => run_ldarr (j := 2) (A := Ag1) (m := lg1.length) (c := cg1) (s := sg1) rfl (by kernel_rfl) (ZG0.out.kept hb) rfl rfl) ?_
  refine anyR_val (i := 3) (m' := 15) (v := .int .i64 1) F hQ rfl rfl (by kernel_rfl) (by kernel_rfl) (by kernel_rfl) (by kernel_rfl) (by kernel_rfl) (fun _ _ => by kernel_rfl) (anyR_val (i := 4) (m' := 31) (v := .pointer (some ⟨NH, 2, none⟩)) F hQ rfl rfl (by kernel_rfl) (by kernel_rfl) (by kernel_rfl) (by kernel_rfl) (by kernel_rfl) (fun _ _ => by kernel_rfl) ?_)
  refine anyR_val (i := 5) (m' := 63) (v := .agg #[.slice Ah1 lh1.length ch1, .bool sh1]) F hQ rfl rfl (by kernel_rfl) (by kernel_rfl) (by kernel_rfl) (by kernel_rfl) (by kernel_rfl) (fun w' hb => run_ldarr (j := 2) (A := Ah1) (m := lh1.length) (c := ch1) (s := sh1) rfl (by kernel_rfl) (ZH0.out.kept hb) rfl rfl) ?_
  refine anyR_call (i := 6) (m' := 127) rfl rfl (by kernel_rfl) (by kernel_rfl) (by kernel_rfl) (by kernel_rfl) (by kernel_rfl) ((rsame_yes Ag1 Ah1 lg1 lh1 cg1 ch1 sg1 sh1 _ Lg1.out Lh1.out (by exact Og1.out.rd) (by exact Oh1.out) (eq_E Eg1.out Eh1.out)).mono ?_)
  rintro e w138 ⟨rfl, hb⟩
  refine ⟨_, rfl, hb, ?_⟩
  replace hb : Below w137.heap.size w137 w138 := Below.trans ((Below.refl _ _).drew) hb
  replace HC2 := hide (HM2 _ _ HC2.out hb)
  replace Og0 := hide (OwQ.kept Og0.out hb)
  replace Oh0 := hide (RQ.below Oh0.out hb)
  replace Og1 := hide (OwQ.kept Og1.out hb)
  replace Oh1 := hide (RQ.below Oh1.out hb)
  replace Og2 := hide (OwQ.kept Og2.out hb)
  replace Oh2 := hide (RQ.below Oh2.out hb)
  replace Og3 := hide (OwQ.kept Og3.out hb)
  replace Oh3 := hide (RQ.below Oh3.out hb)
  replace Og4 := hide (OwQ.kept Og4.out hb)
  replace Oh4 := hide (RQ.below Oh4.out hb)
  replace Og5 := hide (OwQ.kept Og5.out hb)
  replace Oh5 := hide (RQ.below Oh5.out hb)
  replace Og6 := hide (OwQ.kept Og6.out hb)
  replace Oh6 := hide (RQ.below Oh6.out hb)
  replace Og7 := hide (OwQ.kept Og7.out hb)
  replace Oh7 := hide (RQ.below Oh7.out hb)
  replace ZG := hide (Arr.kept ZG.out hb)
  replace ZH := hide (Arr.kept ZH.out hb)
  replace ZI := hide (Arr.kept ZI.out hb)
  replace ZJ := hide (Arr.kept ZJ.out hb)
  replace hU := hU.trans (hb.mono hU.size)
  replace hV := hV.trans (hb.mono hV.size)
  clear hb
  refine anyR_e (anyR_last (i := 7) (m' := 255) (v := .bool false) rfl rfl (by kernel_rfl) (by kernel_rfl) (by kernel_rfl) (by kernel_rfl) (by kernel_rfl) (anyE_done (by kernel_rfl) ?_))
  clear F hQ HC0 ZG0 ZH0 ZI0 ZJ0
  refine then_normal (wp_iff (by kernel_rfl) (wp_skip (block_normal (then_normal (reg_lit (wpl_r3 [(21, .int .i64 2), (188, .int .i64 2), (187, .int .i64 1)] (by kernel_rfl) (wpl_end ?_)))))))
  refine then_normal ?_
  refine round_keep [(3, .int .i64 m), (4, .int .i64 n), (5, .int .i64 v), (6, .pointer (some ⟨Na, 0, none⟩)), (7, .pointer (some ⟨Nb, 0, none⟩)), (8, .pointer (some ⟨Nc, 0, none⟩)), (13, .pointer (some ⟨Nu, 0, none⟩)), (14, .pointer (some ⟨Nv, 0, none⟩)), (15, .pointer (some ⟨Nt, 0, none⟩)), (16, .int .i64 ((k : Nat))), (17, .pointer (some ⟨NG, 0, none⟩)), (18, .pointer (some ⟨NH, 0, none⟩)), (21, .int .i64 2)] (Kp_c (by kernel_rfl) (Kp_c (by kernel_rfl) (Kp_c (by kernel_rfl) (Kp_c (by kernel_rfl) (Kp_c (by kernel_rfl) (Kp_c (by kernel_rfl) (Kp_c (by kernel_rfl) (Kp_c (by kernel_rfl) (Kp_c (by kernel_rfl) (Kp_c (by kernel_rfl) (Kp_c (by kernel_rfl) (Kp_c (by kernel_rfl) (Kp_c (by kernel_rfl) (Kp_n)))))))))))))) (fun X => ?_)
  refine round_s (wp_seq (sw_t [(186, .bool true), (185, .int .i64 2)] rfl (by kernel_rfl) (by kernel_rfl) (wp_skip (then_normal (wp_seq (wp_block (wp_seq ?_)))))))
  refine region_R (n := 7) (N := 8) (by kernel_rfl) (by kernel_rfl) (by kernel_rfl) (by kernel_rfl) (by kernel_rfl) (by kernel_rfl) (fun _ _ _ _ _ h => h) ?_
  intro F hQ
  have HC0 := HC2
  have ZG0 := ZG
  have ZH0 := ZH
  have ZI0 := ZI
  have ZJ0 := ZJ
  refine anyR_val (i := 0) (m' := 1) (v := .int .i64 2) F hQ rfl rfl (by kernel_rfl) (by kernel_rfl) (by kernel_rfl) (by kernel_rfl) (by kernel_rfl) (fun _ _ => by kernel_rfl) (anyR_val (i := 1) (m' := 3) (v := .pointer (some ⟨NG, 4, none⟩)) F hQ rfl rfl (by kernel_rfl) (by kernel_rfl) (by kernel_rfl) (by kernel_rfl) (by kernel_rfl) (fun _ _ => by kernel_rfl) ?_)
  refine anyR_val (i := 2) (m' := 7) (v := .agg #[.slice Ag2 lg2.length cg2, .bool sg2]) F hQ rfl rfl (by kernel_rfl) (by kernel_rfl) (by kernel_rfl) (by kernel_rfl) (by kernel_rfl) (fun w' hb => run_ldarr (j := 4) (A := Ag2) (m := lg2.length) (c := cg2) (s := sg2) rfl (by kernel_rfl) (ZG0.out.kept hb) rfl rfl) ?_
  refine anyR_val (i := 3) (m' := 15) (v := .int .i64 2) F hQ rfl rfl (by kernel_rfl) (by kernel_rfl) (by kernel_rfl) (by kernel_rfl) (by kernel_rfl) (fun _ _ => by kernel_rfl) (anyR_val (i := 4) (m' := 31) (v := .pointer (some ⟨NH, 4, none⟩)) F hQ rfl rfl (by kernel_rfl) (by kernel_rfl) (by kernel_rfl) (by kernel_rfl) (by kernel_rfl) (fun _ _ => by kernel_rfl) ?_)
  refine anyR_val (i := 5) (m' := 63) (v := .agg #[.slice Ah2 lh2.length ch2, .bool sh2]) F hQ rfl rfl (by kernel_rfl) (by kernel_rfl) (by kernel_rfl) (by kernel_rfl) (by kernel_rfl) (fun w' hb => run_ldarr (j := 4) (A := Ah2) (m := lh2.length) (c := ch2) (s := sh2) rfl (by kernel_rfl) (ZH0.out.kept hb) rfl rfl) ?_
  refine anyR_call (i := 6) (m' := 127) rfl rfl (by kernel_rfl) (by kernel_rfl) (by kernel_rfl) (by kernel_rfl) (by kernel_rfl) ((rsame_yes Ag2 Ah2 lg2 lh2 cg2 ch2 sg2 sh2 _ Lg2.out Lh2.out (by exact Og2.out.rd) (by exact Oh2.out) (eq_E (by have h := Eg2.out; rw [Ex.out] at h; exact h) Eh2.out)).mono ?_)
  rintro e w139 ⟨rfl, hb⟩
  refine ⟨_, rfl, hb, ?_⟩
  replace hb : Below w138.heap.size w138 w139 := Below.trans ((Below.refl _ _).drew) hb
  replace HC2 := hide (HM2 _ _ HC2.out hb)
  replace Og0 := hide (OwQ.kept Og0.out hb)
  replace Oh0 := hide (RQ.below Oh0.out hb)
  replace Og1 := hide (OwQ.kept Og1.out hb)
  replace Oh1 := hide (RQ.below Oh1.out hb)
  replace Og2 := hide (OwQ.kept Og2.out hb)
  replace Oh2 := hide (RQ.below Oh2.out hb)
  replace Og3 := hide (OwQ.kept Og3.out hb)
  replace Oh3 := hide (RQ.below Oh3.out hb)
  replace Og4 := hide (OwQ.kept Og4.out hb)
  replace Oh4 := hide (RQ.below Oh4.out hb)
  replace Og5 := hide (OwQ.kept Og5.out hb)
  replace Oh5 := hide (RQ.below Oh5.out hb)
  replace Og6 := hide (OwQ.kept Og6.out hb)
  replace Oh6 := hide (RQ.below Oh6.out hb)
  replace Og7 := hide (OwQ.kept Og7.out hb)
  replace Oh7 := hide (RQ.below Oh7.out hb)
  replace ZG := hide (Arr.kept ZG.out hb)
  replace ZH := hide (Arr.kept ZH.out hb)
  replace ZI := hide (Arr.kept ZI.out hb)
  replace ZJ := hide (Arr.kept ZJ.out hb)
  replace hU := hU.trans (hb.mono hU.size)
  replace hV := hV.trans (hb.mono hV.size)
  clear hb
  refine anyR_e (anyR_last (i := 7) (m' := 255) (v := .bool false) rfl rfl (by kernel_rfl) (by kernel_rfl) (by kernel_rfl) (by kernel_rfl) (by kernel_rfl) (anyE_done (by kernel_rfl) ?_))
  clear F hQ HC0 ZG0 ZH0 ZI0 ZJ0
  refine then_normal (wp_iff (by kernel_rfl) (wp_skip (block_normal (then_normal (reg_lit (wpl_r3 [(21, .int .i64 3), (188, .int .i64 3), (187, .int .i64 2)] (by kernel_rfl) (wpl_end ?_)))))))
  refine then_normal ?_
  refine round_keep [(3, .int .i64 m), (4, .int .i64 n), (5, .int .i64 v), (6, .pointer (some ⟨Na, 0, none⟩)), (7, .pointer (some ⟨Nb, 0, none⟩)), (8, .pointer (some ⟨Nc, 0, none⟩)), (13, .pointer (some ⟨Nu, 0, none⟩)), (14, .pointer (some ⟨Nv, 0, none⟩)), (15, .pointer (some ⟨Nt, 0, none⟩)), (16, .int .i64 ((k : Nat))), (17, .pointer (some ⟨NG, 0, none⟩)), (18, .pointer (some ⟨NH, 0, none⟩)), (21, .int .i64 3)] (Kp_c (by kernel_rfl) (Kp_c (by kernel_rfl) (Kp_c (by kernel_rfl) (Kp_c (by kernel_rfl) (Kp_c (by kernel_rfl) (Kp_c (by kernel_rfl) (Kp_c (by kernel_rfl) (Kp_c (by kernel_rfl) (Kp_c (by kernel_rfl) (Kp_c (by kernel_rfl) (Kp_c (by kernel_rfl) (Kp_c (by kernel_rfl) (Kp_c (by kernel_rfl) (Kp_n)))))))))))))) (fun X => ?_)
  refine round_s (wp_seq (sw_t [(186, .bool true), (185, .int .i64 3)] rfl (by kernel_rfl) (by kernel_rfl) (wp_skip (then_normal (wp_seq (wp_block (wp_seq ?_)))))))
  refine region_R (n := 7) (N := 8) (by kernel_rfl) (by kernel_rfl) (by kernel_rfl) (by kernel_rfl) (by kernel_rfl) (by kernel_rfl) (fun _ _ _ _ _ h => h) ?_
  intro F hQ
  have HC0 := HC2
  have ZG0 := ZG
  have ZH0 := ZH
  have ZI0 := ZI
  have ZJ0 := ZJ
  refine anyR_val (i := 0) (m' := 1) (v := .int .i64 3) F hQ rfl rfl (by kernel_rfl) (by kernel_rfl) (by kernel_rfl) (by kernel_rfl) (by kernel_rfl) (fun _ _ => by kernel_rfl) (anyR_val (i := 1) (m' := 3) (v := .pointer (some ⟨NG, 6, none⟩)) F hQ rfl rfl (by kernel_rfl) (by kernel_rfl) (by kernel_rfl) (by kernel_rfl) (by kernel_rfl) (fun _ _ => by kernel_rfl) ?_)
  refine anyR_val (i := 2) (m' := 7) (v := .agg #[.slice Ag3 lg3.length cg3, .bool sg3]) F hQ rfl rfl (by kernel_rfl) (by kernel_rfl) (by kernel_rfl) (by kernel_rfl) (by kernel_rfl) (fun w' hb => run_ldarr (j := 6) (A := Ag3) (m := lg3.length) (c := cg3) (s := sg3) rfl (by kernel_rfl) (ZG0.out.kept hb) rfl rfl) ?_
  refine anyR_val (i := 3) (m' := 15) (v := .int .i64 3) F hQ rfl rfl (by kernel_rfl) (by kernel_rfl) (by kernel_rfl) (by kernel_rfl) (by kernel_rfl) (fun _ _ => by kernel_rfl) (anyR_val (i := 4) (m' := 31) (v := .pointer (some ⟨NH, 6, none⟩)) F hQ rfl rfl (by kernel_rfl) (by kernel_rfl) (by kernel_rfl) (by kernel_rfl) (by kernel_rfl) (fun _ _ => by kernel_rfl) ?_)
  refine anyR_val (i := 5) (m' := 63) (v := .agg #[.slice Ah3 lh3.length ch3, .bool sh3]) F hQ rfl rfl (by kernel_rfl) (by kernel_rfl) (by kernel_rfl) (by kernel_rfl) (by kernel_rfl) (fun w' hb => run_ldarr (j := 6) (A := Ah3) (m := lh3.length) (c := ch3) (s := sh3) rfl (by kernel_rfl) (ZH0.out.kept hb) rfl rfl) ?_
  refine anyR_call (i := 6) (m' := 127) rfl rfl (by kernel_rfl) (by kernel_rfl) (by kernel_rfl) (by kernel_rfl) (by kernel_rfl) ((rsame_yes Ag3 Ah3 lg3 lh3 cg3 ch3 sg3 sh3 _ Lg3.out Lh3.out (by exact Og3.out.rd) (by exact Oh3.out) (eq_E (by have h := Eg3.out; rw [show vcs [(Ax, lx, cx, sx), (Ay, ly, cy, sy), (Az, lz, cz, sz)] = vcs [(Aa, la, ca, sa), (Ab, lb, cb, sb), (Ac, lc, cc, sc)] by show [(⟨lx, sx⟩ : Vc), ⟨ly, sy⟩, ⟨lz, sz⟩] = _; rw [Ex.out, Ey.out, Ez.out]; rfl] at h; exact h) Eh3.out)).mono ?_)
  rintro e w140 ⟨rfl, hb⟩
  refine ⟨_, rfl, hb, ?_⟩
  replace hb : Below w139.heap.size w139 w140 := Below.trans ((Below.refl _ _).drew) hb
  replace HC2 := hide (HM2 _ _ HC2.out hb)
  replace Og0 := hide (OwQ.kept Og0.out hb)
  replace Oh0 := hide (RQ.below Oh0.out hb)
  replace Og1 := hide (OwQ.kept Og1.out hb)
  replace Oh1 := hide (RQ.below Oh1.out hb)
  replace Og2 := hide (OwQ.kept Og2.out hb)
  replace Oh2 := hide (RQ.below Oh2.out hb)
  replace Og3 := hide (OwQ.kept Og3.out hb)
  replace Oh3 := hide (RQ.below Oh3.out hb)
  replace Og4 := hide (OwQ.kept Og4.out hb)
  replace Oh4 := hide (RQ.below Oh4.out hb)
  replace Og5 := hide (OwQ.kept Og5.out hb)
  replace Oh5 := hide (RQ.below Oh5.out hb)
  replace Og6 := hide (OwQ.kept Og6.out hb)
  replace Oh6 := hide (RQ.below Oh6.out hb)
  replace Og7 := hide (OwQ.kept Og7.out hb)
  replace Oh7 := hide (RQ.below Oh7.out hb)
  replace ZG := hide (Arr.kept ZG.out hb)
  replace ZH := hide (Arr.kept ZH.out hb)
  replace ZI := hide (Arr.kept ZI.out hb)
  replace ZJ := hide (Arr.kept ZJ.out hb)
  replace hU := hU.trans (hb.mono hU.size)
  replace hV := hV.trans (hb.mono hV.size)
  clear hb
  refine anyR_e (anyR_last (i := 7) (m' := 255) (v := .bool false) rfl rfl (by kernel_rfl) (by kernel_rfl) (by kernel_rfl) (by kernel_rfl) (by kernel_rfl) (anyE_done (by kernel_rfl) ?_))
  clear F hQ HC0 ZG0 ZH0 ZI0 ZJ0
  refine then_normal (wp_iff (by kernel_rfl) (wp_skip (block_normal (then_normal (reg_lit (wpl_r3 [(21, .int .i64 4), (188, .int .i64 4), (187, .int .i64 3)] (by kernel_rfl) (wpl_end ?_)))))))
  refine then_normal ?_
  refine round_keep [(3, .int .i64 m), (4, .int .i64 n), (5, .int .i64 v), (6, .pointer (some ⟨Na, 0, none⟩)), (7, .pointer (some ⟨Nb, 0, none⟩)), (8, .pointer (some ⟨Nc, 0, none⟩)), (13, .pointer (some ⟨Nu, 0, none⟩)), (14, .pointer (some ⟨Nv, 0, none⟩)), (15, .pointer (some ⟨Nt, 0, none⟩)), (16, .int .i64 ((k : Nat))), (17, .pointer (some ⟨NG, 0, none⟩)), (18, .pointer (some ⟨NH, 0, none⟩)), (21, .int .i64 4)] (Kp_c (by kernel_rfl) (Kp_c (by kernel_rfl) (Kp_c (by kernel_rfl) (Kp_c (by kernel_rfl) (Kp_c (by kernel_rfl) (Kp_c (by kernel_rfl) (Kp_c (by kernel_rfl) (Kp_c (by kernel_rfl) (Kp_c (by kernel_rfl) (Kp_c (by kernel_rfl) (Kp_c (by kernel_rfl) (Kp_c (by kernel_rfl) (Kp_c (by kernel_rfl) (Kp_n)))))))))))))) (fun X => ?_)
  refine round_s (wp_seq (sw_t [(186, .bool true), (185, .int .i64 4)] rfl (by kernel_rfl) (by kernel_rfl) (wp_skip (then_normal (wp_seq (wp_block (wp_seq ?_)))))))
  refine region_R (n := 7) (N := 8) (by kernel_rfl) (by kernel_rfl) (by kernel_rfl) (by kernel_rfl) (by kernel_rfl) (by kernel_rfl) (fun _ _ _ _ _ h => h) ?_
  intro F hQ
  have HC0 := HC2
  have ZG0 := ZG
  have ZH0 := ZH
  have ZI0 := ZI
  have ZJ0 := ZJ
  refine anyR_val (i := 0) (m' := 1) (v := .int .i64 4) F hQ rfl rfl (by kernel_rfl) (by kernel_rfl) (by kernel_rfl) (by kernel_rfl) (by kernel_rfl) (fun _ _ => by kernel_rfl) (anyR_val (i := 1) (m' := 3) (v := .pointer (some ⟨NG, 8, none⟩)) F hQ rfl rfl (by kernel_rfl) (by kernel_rfl) (by kernel_rfl) (by kernel_rfl) (by kernel_rfl) (fun _ _ => by kernel_rfl) ?_)
  refine anyR_val (i := 2) (m' := 7) (v := .agg #[.slice Ag4 lg4.length cg4, .bool sg4]) F hQ rfl rfl (by kernel_rfl) (by kernel_rfl) (by kernel_rfl) (by kernel_rfl) (by kernel_rfl) (fun w' hb => run_ldarr (j := 8) (A := Ag4) (m := lg4.length) (c := cg4) (s := sg4) rfl (by kernel_rfl) (ZG0.out.kept hb) rfl rfl) ?_
  refine anyR_val (i := 3) (m' := 15) (v := .int .i64 4) F hQ rfl rfl (by kernel_rfl) (by kernel_rfl) (by kernel_rfl) (by kernel_rfl) (by kernel_rfl) (fun _ _ => by kernel_rfl) (anyR_val (i := 4) (m' := 31) (v := .pointer (some ⟨NH, 8, none⟩)) F hQ rfl rfl (by kernel_rfl) (by kernel_rfl) (by kernel_rfl) (by kernel_rfl) (by kernel_rfl) (fun _ _ => by kernel_rfl) ?_)
  refine anyR_val (i := 5) (m' := 63) (v := .agg #[.slice Ah4 lh4.length ch4, .bool sh4]) F hQ rfl rfl (by kernel_rfl) (by kernel_rfl) (by kernel_rfl) (by kernel_rfl) (by kernel_rfl) (fun w' hb => run_ldarr (j := 8) (A := Ah4) (m := lh4.length) (c := ch4) (s := sh4) rfl (by kernel_rfl) (ZH0.out.kept hb) rfl rfl) ?_
  refine anyR_call (i := 6) (m' := 127) rfl rfl (by kernel_rfl) (by kernel_rfl) (by kernel_rfl) (by kernel_rfl) (by kernel_rfl) ((rsame_yes Ag4 Ah4 lg4 lh4 cg4 ch4 sg4 sh4 _ Lg4.out Lh4.out (by exact Og4.out.rd) (by exact Oh4.out) (eq_E (by have h := Eg4.out; rw [Ex.out] at h; exact h) Eh4.out)).mono ?_)
  rintro e w141 ⟨rfl, hb⟩
  refine ⟨_, rfl, hb, ?_⟩
  replace hb : Below w140.heap.size w140 w141 := Below.trans ((Below.refl _ _).drew) hb
  replace HC2 := hide (HM2 _ _ HC2.out hb)
  replace Og0 := hide (OwQ.kept Og0.out hb)
  replace Oh0 := hide (RQ.below Oh0.out hb)
  replace Og1 := hide (OwQ.kept Og1.out hb)
  replace Oh1 := hide (RQ.below Oh1.out hb)
  replace Og2 := hide (OwQ.kept Og2.out hb)
  replace Oh2 := hide (RQ.below Oh2.out hb)
  replace Og3 := hide (OwQ.kept Og3.out hb)
  replace Oh3 := hide (RQ.below Oh3.out hb)
  replace Og4 := hide (OwQ.kept Og4.out hb)
  replace Oh4 := hide (RQ.below Oh4.out hb)
  replace Og5 := hide (OwQ.kept Og5.out hb)
  replace Oh5 := hide (RQ.below Oh5.out hb)
  replace Og6 := hide (OwQ.kept Og6.out hb)
  replace Oh6 := hide (RQ.below Oh6.out hb)
  replace Og7 := hide (OwQ.kept Og7.out hb)
  replace Oh7 := hide (RQ.below Oh7.out hb)
  replace ZG := hide (Arr.kept ZG.out hb)
  replace ZH := hide (Arr.kept ZH.out hb)
  replace ZI := hide (Arr.kept ZI.out hb)
  replace ZJ := hide (Arr.kept ZJ.out hb)
  replace hU := hU.trans (hb.mono hU.size)
  replace hV := hV.trans (hb.mono hV.size)
  clear hb
  refine anyR_e (anyR_last (i := 7) (m' := 255) (v := .bool false) rfl rfl (by kernel_rfl) (by kernel_rfl) (by kernel_rfl) (by kernel_rfl) (by kernel_rfl) (anyE_done (by kernel_rfl) ?_))
  clear F hQ HC0 ZG0 ZH0 ZI0 ZJ0
  refine then_normal (wp_iff (by kernel_rfl) (wp_skip (block_normal (then_normal (reg_lit (wpl_r3 [(21, .int .i64 5), (188, .int .i64 5), (187, .int .i64 4)] (by kernel_rfl) (wpl_end ?_)))))))
  refine then_normal ?_
  refine round_keep [(3, .int .i64 m), (4, .int .i64 n), (5, .int .i64 v), (6, .pointer (some ⟨Na, 0, none⟩)), (7, .pointer (some ⟨Nb, 0, none⟩)), (8, .pointer (some ⟨Nc, 0, none⟩)), (13, .pointer (some ⟨Nu, 0, none⟩)), (14, .pointer (some ⟨Nv, 0, none⟩)), (15, .pointer (some ⟨Nt, 0, none⟩)), (16, .int .i64 ((k : Nat))), (17, .pointer (some ⟨NG, 0, none⟩)), (18, .pointer (some ⟨NH, 0, none⟩)), (21, .int .i64 5)] (Kp_c (by kernel_rfl) (Kp_c (by kernel_rfl) (Kp_c (by kernel_rfl) (Kp_c (by kernel_rfl) (Kp_c (by kernel_rfl) (Kp_c (by kernel_rfl) (Kp_c (by kernel_rfl) (Kp_c (by kernel_rfl) (Kp_c (by kernel_rfl) (Kp_c (by kernel_rfl) (Kp_c (by kernel_rfl) (Kp_c (by kernel_rfl) (Kp_c (by kernel_rfl) (Kp_n)))))))))))))) (fun X => ?_)
  refine round_s (wp_seq (sw_t [(186, .bool true), (185, .int .i64 5)] rfl (by kernel_rfl) (by kernel_rfl) (wp_skip (then_normal (wp_seq (wp_block (wp_seq ?_)))))))
  refine region_R (n := 7) (N := 8) (by kernel_rfl) (by kernel_rfl) (by kernel_rfl) (by kernel_rfl) (by kernel_rfl) (by kernel_rfl) (fun _ _ _ _ _ h => h) ?_
  intro F hQ
  have HC0 := HC2
  have ZG0 := ZG
  have ZH0 := ZH
  have ZI0 := ZI
  have ZJ0 := ZJ
  refine anyR_val (i := 0) (m' := 1) (v := .int .i64 5) F hQ rfl rfl (by kernel_rfl) (by kernel_rfl) (by kernel_rfl) (by kernel_rfl) (by kernel_rfl) (fun _ _ => by kernel_rfl) (anyR_val (i := 1) (m' := 3) (v := .pointer (some ⟨NG, 10, none⟩)) F hQ rfl rfl (by kernel_rfl) (by kernel_rfl) (by kernel_rfl) (by kernel_rfl) (by kernel_rfl) (fun _ _ => by kernel_rfl) ?_)
  refine anyR_val (i := 2) (m' := 7) (v := .agg #[.slice Ag5 lg5.length cg5, .bool sg5]) F hQ rfl rfl (by kernel_rfl) (by kernel_rfl) (by kernel_rfl) (by kernel_rfl) (by kernel_rfl) (fun w' hb => run_ldarr (j := 10) (A := Ag5) (m := lg5.length) (c := cg5) (s := sg5) rfl (by kernel_rfl) (ZG0.out.kept hb) rfl rfl) ?_
  refine anyR_val (i := 3) (m' := 15) (v := .int .i64 5) F hQ rfl rfl (by kernel_rfl) (by kernel_rfl) (by kernel_rfl) (by kernel_rfl) (by kernel_rfl) (fun _ _ => by kernel_rfl) (anyR_val (i := 4) (m' := 31) (v := .pointer (some ⟨NH, 10, none⟩)) F hQ rfl rfl (by kernel_rfl) (by kernel_rfl) (by kernel_rfl) (by kernel_rfl) (by kernel_rfl) (fun _ _ => by kernel_rfl) ?_)
  refine anyR_val (i := 5) (m' := 63) (v := .agg #[.slice Ah5 lh5.length ch5, .bool sh5]) F hQ rfl rfl (by kernel_rfl) (by kernel_rfl) (by kernel_rfl) (by kernel_rfl) (by kernel_rfl) (fun w' hb => run_ldarr (j := 10) (A := Ah5) (m := lh5.length) (c := ch5) (s := sh5) rfl (by kernel_rfl) (ZH0.out.kept hb) rfl rfl) ?_
  refine anyR_call (i := 6) (m' := 127) rfl rfl (by kernel_rfl) (by kernel_rfl) (by kernel_rfl) (by kernel_rfl) (by kernel_rfl) ((rsame_yes Ag5 Ah5 lg5 lh5 cg5 ch5 sg5 sh5 _ Lg5.out Lh5.out (by exact Og5.out.rd) (by exact Oh5.out) (eq_E (by have h := Eg5.out; rw [Ex.out] at h; exact h) Eh5.out)).mono ?_)
  rintro e w142 ⟨rfl, hb⟩
  refine ⟨_, rfl, hb, ?_⟩
  replace hb : Below w141.heap.size w141 w142 := Below.trans ((Below.refl _ _).drew) hb
  replace HC2 := hide (HM2 _ _ HC2.out hb)
  replace Og0 := hide (OwQ.kept Og0.out hb)
  replace Oh0 := hide (RQ.below Oh0.out hb)
  replace Og1 := hide (OwQ.kept Og1.out hb)
  replace Oh1 := hide (RQ.below Oh1.out hb)
  replace Og2 := hide (OwQ.kept Og2.out hb)
  replace Oh2 := hide (RQ.below Oh2.out hb)
  replace Og3 := hide (OwQ.kept Og3.out hb)
  replace Oh3 := hide (RQ.below Oh3.out hb)
  replace Og4 := hide (OwQ.kept Og4.out hb)
  replace Oh4 := hide (RQ.below Oh4.out hb)
  replace Og5 := hide (OwQ.kept Og5.out hb)
  replace Oh5 := hide (RQ.below Oh5.out hb)
  replace Og6 := hide (OwQ.kept Og6.out hb)
  replace Oh6 := hide (RQ.below Oh6.out hb)
  replace Og7 := hide (OwQ.kept Og7.out hb)
  replace Oh7 := hide (RQ.below Oh7.out hb)
  replace ZG := hide (Arr.kept ZG.out hb)
  replace ZH := hide (Arr.kept ZH.out hb)
  replace ZI := hide (Arr.kept ZI.out hb)
  replace ZJ := hide (Arr.kept ZJ.out hb)
  replace hU := hU.trans (hb.mono hU.size)
  replace hV := hV.trans (hb.mono hV.size)
  clear hb
  refine anyR_e (anyR_last (i := 7) (m' := 255) (v := .bool false) rfl rfl (by kernel_rfl) (by kernel_rfl) (by kernel_rfl) (by kernel_rfl) (by kernel_rfl) (anyE_done (by kernel_rfl) ?_))
  clear F hQ HC0 ZG0 ZH0 ZI0 ZJ0
  refine then_normal (wp_iff (by kernel_rfl) (wp_skip (block_normal (then_normal (reg_lit (wpl_r3 [(21, .int .i64 6), (188, .int .i64 6), (187, .int .i64 5)] (by kernel_rfl) (wpl_end ?_)))))))
  refine then_normal ?_
  refine round_keep [(3, .int .i64 m), (4, .int .i64 n), (5, .int .i64 v), (6, .pointer (some ⟨Na, 0, none⟩)), (7, .pointer (some ⟨Nb, 0, none⟩)), (8, .pointer (some ⟨Nc, 0, none⟩)), (13, .pointer (some ⟨Nu, 0, none⟩)), (14, .pointer (some ⟨Nv, 0, none⟩)), (15, .pointer (some ⟨Nt, 0, none⟩)), (16, .int .i64 ((k : Nat))), (17, .pointer (some ⟨NG, 0, none⟩)), (18, .pointer (some ⟨NH, 0, none⟩)), (21, .int .i64 6)] (Kp_c (by kernel_rfl) (Kp_c (by kernel_rfl) (Kp_c (by kernel_rfl) (Kp_c (by kernel_rfl) (Kp_c (by kernel_rfl) (Kp_c (by kernel_rfl) (Kp_c (by kernel_rfl) (Kp_c (by kernel_rfl) (Kp_c (by kernel_rfl) (Kp_c (by kernel_rfl) (Kp_c (by kernel_rfl) (Kp_c (by kernel_rfl) (Kp_c (by kernel_rfl) (Kp_n)))))))))))))) (fun X => ?_)
  refine round_s (wp_seq (sw_t [(186, .bool true), (185, .int .i64 6)] rfl (by kernel_rfl) (by kernel_rfl) (wp_skip (then_normal (wp_seq (wp_block (wp_seq ?_)))))))
  refine region_R (n := 7) (N := 8) (by kernel_rfl) (by kernel_rfl) (by kernel_rfl) (by kernel_rfl) (by kernel_rfl) (by kernel_rfl) (fun _ _ _ _ _ h => h) ?_
  intro F hQ
  have HC0 := HC2
  have ZG0 := ZG
  have ZH0 := ZH
  have ZI0 := ZI
  have ZJ0 := ZJ
  refine anyR_val (i := 0) (m' := 1) (v := .int .i64 6) F hQ rfl rfl (by kernel_rfl) (by kernel_rfl) (by kernel_rfl) (by kernel_rfl) (by kernel_rfl) (fun _ _ => by kernel_rfl) (anyR_val (i := 1) (m' := 3) (v := .pointer (some ⟨NG, 12, none⟩)) F hQ rfl rfl (by kernel_rfl) (by kernel_rfl) (by kernel_rfl) (by kernel_rfl) (by kernel_rfl) (fun _ _ => by kernel_rfl) ?_)
  refine anyR_val (i := 2) (m' := 7) (v := .agg #[.slice Ag6 lg6.length cg6, .bool sg6]) F hQ rfl rfl (by kernel_rfl) (by kernel_rfl) (by kernel_rfl) (by kernel_rfl) (by kernel_rfl) (fun w' hb => run_ldarr (j := 12) (A := Ag6) (m := lg6.length) (c := cg6) (s := sg6) rfl (by kernel_rfl) (ZG0.out.kept hb) rfl rfl) ?_
  refine anyR_val (i := 3) (m' := 15) (v := .int .i64 6) F hQ rfl rfl (by kernel_rfl) (by kernel_rfl) (by kernel_rfl) (by kernel_rfl) (by kernel_rfl) (fun _ _ => by kernel_rfl) (anyR_val (i := 4) (m' := 31) (v := .pointer (some ⟨NH, 12, none⟩)) F hQ rfl rfl (by kernel_rfl) (by kernel_rfl) (by kernel_rfl) (by kernel_rfl) (by kernel_rfl) (fun _ _ => by kernel_rfl) ?_)
  refine anyR_val (i := 5) (m' := 63) (v := .agg #[.slice Ah6 lh6.length ch6, .bool sh6]) F hQ rfl rfl (by kernel_rfl) (by kernel_rfl) (by kernel_rfl) (by kernel_rfl) (by kernel_rfl) (fun w' hb => run_ldarr (j := 12) (A := Ah6) (m := lh6.length) (c := ch6) (s := sh6) rfl (by kernel_rfl) (ZH0.out.kept hb) rfl rfl) ?_
  refine anyR_call (i := 6) (m' := 127) rfl rfl (by kernel_rfl) (by kernel_rfl) (by kernel_rfl) (by kernel_rfl) (by kernel_rfl) ((rsame_yes Ag6 Ah6 lg6 lh6 cg6 ch6 sg6 sh6 _ Lg6.out Lh6.out (by exact Og6.out.rd) (by exact Oh6.out) (eq_E (by have h := Eg6.out; rw [Ex.out, Ey.out] at h; exact h) Eh6.out)).mono ?_)
  rintro e w143 ⟨rfl, hb⟩
  refine ⟨_, rfl, hb, ?_⟩
  replace hb : Below w142.heap.size w142 w143 := Below.trans ((Below.refl _ _).drew) hb
  replace HC2 := hide (HM2 _ _ HC2.out hb)
  replace Og0 := hide (OwQ.kept Og0.out hb)
  replace Oh0 := hide (RQ.below Oh0.out hb)
  replace Og1 := hide (OwQ.kept Og1.out hb)
  replace Oh1 := hide (RQ.below Oh1.out hb)
  replace Og2 := hide (OwQ.kept Og2.out hb)
  replace Oh2 := hide (RQ.below Oh2.out hb)
  replace Og3 := hide (OwQ.kept Og3.out hb)
  replace Oh3 := hide (RQ.below Oh3.out hb)
  replace Og4 := hide (OwQ.kept Og4.out hb)
  replace Oh4 := hide (RQ.below Oh4.out hb)
  replace Og5 := hide (OwQ.kept Og5.out hb)
  replace Oh5 := hide (RQ.below Oh5.out hb)
  replace Og6 := hide (OwQ.kept Og6.out hb)
  replace Oh6 := hide (RQ.below Oh6.out hb)
  replace Og7 := hide (OwQ.kept Og7.out hb)
  replace Oh7 := hide (RQ.below Oh7.out hb)
  replace ZG := hide (Arr.kept ZG.out hb)
  replace ZH := hide (Arr.kept ZH.out hb)
  replace ZI := hide (Arr.kept ZI.out hb)
  replace ZJ := hide (Arr.kept ZJ.out hb)
  replace hU := hU.trans (hb.mono hU.size)
  replace hV := hV.trans (hb.mono hV.size)
  clear hb
  refine anyR_e (anyR_last (i := 7) (m' := 255) (v := .bool false) rfl rfl (by kernel_rfl) (by kernel_rfl) (by kernel_rfl) (by kernel_rfl) (by kernel_rfl) (anyE_done (by kernel_rfl) ?_))
  clear F hQ HC0 ZG0 ZH0 ZI0 ZJ0
  refine then_normal (wp_iff (by kernel_rfl) (wp_skip (block_normal (then_normal (reg_lit (wpl_r3 [(21, .int .i64 7), (188, .int .i64 7), (187, .int .i64 6)] (by kernel_rfl) (wpl_end ?_)))))))
  refine then_normal ?_
  refine round_keep [(3, .int .i64 m), (4, .int .i64 n), (5, .int .i64 v), (6, .pointer (some ⟨Na, 0, none⟩)), (7, .pointer (some ⟨Nb, 0, none⟩)), (8, .pointer (some ⟨Nc, 0, none⟩)), (13, .pointer (some ⟨Nu, 0, none⟩)), (14, .pointer (some ⟨Nv, 0, none⟩)), (15, .pointer (some ⟨Nt, 0, none⟩)), (16, .int .i64 ((k : Nat))), (17, .pointer (some ⟨NG, 0, none⟩)), (18, .pointer (some ⟨NH, 0, none⟩)), (21, .int .i64 7)] (Kp_c (by kernel_rfl) (Kp_c (by kernel_rfl) (Kp_c (by kernel_rfl) (Kp_c (by kernel_rfl) (Kp_c (by kernel_rfl) (Kp_c (by kernel_rfl) (Kp_c (by kernel_rfl) (Kp_c (by kernel_rfl) (Kp_c (by kernel_rfl) (Kp_c (by kernel_rfl) (Kp_c (by kernel_rfl) (Kp_c (by kernel_rfl) (Kp_c (by kernel_rfl) (Kp_n)))))))))))))) (fun X => ?_)
  refine round_s (wp_seq (sw_t [(186, .bool true), (185, .int .i64 7)] rfl (by kernel_rfl) (by kernel_rfl) (wp_skip (then_normal (wp_seq (wp_block (wp_seq ?_)))))))
  refine region_R (n := 7) (N := 8) (by kernel_rfl) (by kernel_rfl) (by kernel_rfl) (by kernel_rfl) (by kernel_rfl) (by kernel_rfl) (fun _ _ _ _ _ h => h) ?_
  intro F hQ
  have HC0 := HC2
  have ZG0 := ZG
  have ZH0 := ZH
  have ZI0 := ZI
  have ZJ0 := ZJ
  refine anyR_val (i := 0) (m' := 1) (v := .int .i64 7) F hQ rfl rfl (by kernel_rfl) (by kernel_rfl) (by kernel_rfl) (by kernel_rfl) (by kernel_rfl) (fun _ _ => by kernel_rfl) (anyR_val (i := 1) (m' := 3) (v := .pointer (some ⟨NG, 14, none⟩)) F hQ rfl rfl (by kernel_rfl) (by kernel_rfl) (by kernel_rfl) (by kernel_rfl) (by kernel_rfl) (fun _ _ => by kernel_rfl) ?_)
  refine anyR_val (i := 2) (m' := 7) (v := .agg #[.slice Ag7 lg7.length cg7, .bool sg7]) F hQ rfl rfl (by kernel_rfl) (by kernel_rfl) (by kernel_rfl) (by kernel_rfl) (by kernel_rfl) (fun w' hb => run_ldarr (j := 14) (A := Ag7) (m := lg7.length) (c := cg7) (s := sg7) rfl (by kernel_rfl) (ZG0.out.kept hb) rfl rfl) ?_
  refine anyR_val (i := 3) (m' := 15) (v := .int .i64 7) F hQ rfl rfl (by kernel_rfl) (by kernel_rfl) (by kernel_rfl) (by kernel_rfl) (by kernel_rfl) (fun _ _ => by kernel_rfl) (anyR_val (i := 4) (m' := 31) (v := .pointer (some ⟨NH, 14, none⟩)) F hQ rfl rfl (by kernel_rfl) (by kernel_rfl) (by kernel_rfl) (by kernel_rfl) (by kernel_rfl) (fun _ _ => by kernel_rfl) ?_)
  refine anyR_val (i := 5) (m' := 63) (v := .agg #[.slice Ah7 lh7.length ch7, .bool sh7]) F hQ rfl rfl (by kernel_rfl) (by kernel_rfl) (by kernel_rfl) (by kernel_rfl) (by kernel_rfl) (fun w' hb => run_ldarr (j := 14) (A := Ah7) (m := lh7.length) (c := ch7) (s := sh7) rfl (by kernel_rfl) (ZH0.out.kept hb) rfl rfl) ?_
  refine anyR_call (i := 6) (m' := 127) rfl rfl (by kernel_rfl) (by kernel_rfl) (by kernel_rfl) (by kernel_rfl) (by kernel_rfl) ((rsame_yes Ag7 Ah7 lg7 lh7 cg7 ch7 sg7 sh7 _ Lg7.out Lh7.out (by exact Og7.out.rd) (by exact Oh7.out) (eq_E (by have h := Eg7.out; rw [show vcs [(Ay, ly, cy, sy)] = vcs [(Ab, lb, cb, sb)] by show [(⟨ly, sy⟩ : Vc)] = _; rw [Ey.out]; rfl] at h; exact h) Eh7.out)).mono ?_)
  rintro e w144 ⟨rfl, hb⟩
  refine ⟨_, rfl, hb, ?_⟩
  replace hb : Below w143.heap.size w143 w144 := Below.trans ((Below.refl _ _).drew) hb
  replace HC2 := hide (HM2 _ _ HC2.out hb)
  replace Og0 := hide (OwQ.kept Og0.out hb)
  replace Oh0 := hide (RQ.below Oh0.out hb)
  replace Og1 := hide (OwQ.kept Og1.out hb)
  replace Oh1 := hide (RQ.below Oh1.out hb)
  replace Og2 := hide (OwQ.kept Og2.out hb)
  replace Oh2 := hide (RQ.below Oh2.out hb)
  replace Og3 := hide (OwQ.kept Og3.out hb)
  replace Oh3 := hide (RQ.below Oh3.out hb)
  replace Og4 := hide (OwQ.kept Og4.out hb)
  replace Oh4 := hide (RQ.below Oh4.out hb)
  replace Og5 := hide (OwQ.kept Og5.out hb)
  replace Oh5 := hide (RQ.below Oh5.out hb)
  replace Og6 := hide (OwQ.kept Og6.out hb)
  replace Oh6 := hide (RQ.below Oh6.out hb)
  replace Og7 := hide (OwQ.kept Og7.out hb)
  replace Oh7 := hide (RQ.below Oh7.out hb)
  replace ZG := hide (Arr.kept ZG.out hb)
  replace ZH := hide (Arr.kept ZH.out hb)
  replace ZI := hide (Arr.kept ZI.out hb)
  replace ZJ := hide (Arr.kept ZJ.out hb)
  replace hU := hU.trans (hb.mono hU.size)
  replace hV := hV.trans (hb.mono hV.size)
  clear hb
  refine anyR_e (anyR_last (i := 7) (m' := 255) (v := .bool false) rfl rfl (by kernel_rfl) (by kernel_rfl) (by kernel_rfl) (by kernel_rfl) (by kernel_rfl) (anyE_done (by kernel_rfl) ?_))
  clear F hQ HC0 ZG0 ZH0 ZI0 ZJ0
  refine then_normal (wp_iff (by kernel_rfl) (wp_skip (block_normal (then_normal (reg_lit (wpl_r3 [(21, .int .i64 8), (188, .int .i64 8), (187, .int .i64 7)] (by kernel_rfl) (wpl_end ?_)))))))
  refine then_normal ?_
  refine round_keep [(3, .int .i64 m), (4, .int .i64 n), (5, .int .i64 v), (6, .pointer (some ⟨Na, 0, none⟩)), (7, .pointer (some ⟨Nb, 0, none⟩)), (8, .pointer (some ⟨Nc, 0, none⟩)), (13, .pointer (some ⟨Nu, 0, none⟩)), (14, .pointer (some ⟨Nv, 0, none⟩)), (15, .pointer (some ⟨Nt, 0, none⟩)), (16, .int .i64 ((k : Nat))), (17, .pointer (some ⟨NG, 0, none⟩)), (18, .pointer (some ⟨NH, 0, none⟩)), (21, .int .i64 8)] (Kp_c (by kernel_rfl) (Kp_c (by kernel_rfl) (Kp_c (by kernel_rfl) (Kp_c (by kernel_rfl) (Kp_c (by kernel_rfl) (Kp_c (by kernel_rfl) (Kp_c (by kernel_rfl) (Kp_c (by kernel_rfl) (Kp_c (by kernel_rfl) (Kp_c (by kernel_rfl) (Kp_c (by kernel_rfl) (Kp_c (by kernel_rfl) (Kp_c (by kernel_rfl) (Kp_n)))))))))))))) (fun X => ?_)
  refine round_s (wp_seq (sw_f [(186, .bool false), (185, .int .i64 8)] rfl (by kernel_rfl) (by kernel_rfl) (wp_exit (then_exit (then_exit (exit_here (then_normal ?_)))))))
  refine reg_lit (wpl_r1 [(197, .slice (some ⟨NG, 0, none⟩) 8 8)] (by kernel_rfl) ?_)
  refine wpl_call rfl (by kernel_rfl) (by kernel_rfl) ((vspoil_any W.heap.size NG 8 [(Ag0, lg0.length, cg0, sg0), (Ag1, lg1.length, cg1, sg1), (Ag2, lg2.length, cg2, sg2), (Ag3, lg3.length, cg3, sg3), (Ag4, lg4.length, cg4, sg4), (Ag5, lg5.length, cg5, sg5), (Ag6, lg6.length, cg6, sg6), (Ag7, lg7.length, cg7, sg7)] _ (Nat.le_refl 8) (le8 Lg0.out Lg1.out Lg2.out Lg3.out Lg4.out Lg5.out Lg6.out Lg7.out) (spq8 ZG.out (qls_of Og0.out kg0 ZG.out rfl (fun _ h => by cases h)) (qls_of Og1.out kg1 ZG.out rfl (fun _ h => by cases h)) (qls_of Og2.out kg2 ZG.out rfl (fun _ h => by cases h)) (qls_of Og3.out kg3 ZG.out rfl (fun _ h => by cases h)) (qls_of Og4.out kg4 ZG.out rfl (fun _ h => by cases h)) (qls_of Og5.out kg5 ZG.out rfl (fun _ h => by cases h)) (qls_of Og6.out kg6 ZG.out rfl (fun _ h => by cases h)) (qls_of Og7.out kg7 ZG.out rfl (fun _ h => by cases h)))).mono ?_)
  rintro e w145 ⟨rfl, hb⟩
  refine ⟨_, rfl, ?_⟩
  replace hV := hV.trans hb
  replace HC2 := hide (HM2 _ _ HK.out hV)
  replace hU := hUK.trans (hV.mono hUK.size)
  clear hb hV HK hUK Og0 Oh0 Og1 Oh1 Og2 Oh2 Og3 Oh3 Og4 Oh4 Og5 Oh5 Og6 Oh6 Og7 Oh7 ZG ZH ZI ZJ
  refine wpl_end (block_normal (then_normal (reg_lit (wpl_r1 [(36, .int .i64 ((k : Nat)))] (by kernel_rfl) (wpl_val rfl (by kernel_rfl) (run_add (a := (k : Int)) (b := 1) (c := ((k + 1 : Int) : Int)) rfl (by kernel_rfl) (by kernel_rfl) (by omega) (by omega) (by omega)) (wpl_r1 [(16, .int .i64 (((k + 1 : Nat) : Int)))] (by kernel_rfl) (wpl_end ?_)))))))
  refine then_normal (hnext _ _ hlt ⟨Kp_c (by kernel_rfl) (Kp_c (by kernel_rfl) (Kp_c (by kernel_rfl) (Kp_c (by kernel_rfl) (Kp_c (by kernel_rfl) (Kp_c (by kernel_rfl) (Kp_c (by kernel_rfl) (Kp_c (by kernel_rfl) (Kp_c (by kernel_rfl) (Kp_c (by kernel_rfl) (Kp_n)))))))))), hU, HC2.out⟩)
  refine reg_lit (wpl_r1 [(34, .int .i64 ((k : Nat)))] (by kernel_rfl) (wpl_val rfl (by kernel_rfl) (run_lss (a := (k : Int)) (b := 2) rfl (by kernel_rfl) (by kernel_rfl) (decide_eq_false (by omega))) (wpl_end (then_normal (wp_iff (by kernel_rfl) (wp_exit (then_exit ?_)))))))
  refine then_exit (exit_here (then_normal (wp_seq (reg_lit (wpl_ldvec (q2_u _ HC2.out) rfl (by kernel_rfl) rfl (by kernel_rfl) (wpl_ldvec (q2_a _ HC2.out) rfl (by kernel_rfl) rfl (by kernel_rfl) ?_))))))
  refine wpl_call rfl (by kernel_rfl) (by kernel_rfl) ((rsame_yes Ax Aa lx la cx ca sx sa _ Lx.out La.out (p2_x W HC2.out) (p2_a W HC2.out) Ex.out).mono ?_)
  rintro e w146 ⟨rfl, hb⟩
  refine ⟨_, rfl, ?_⟩
  replace HC2 := hide (HM2 _ _ HC2.out hb)
  replace hU := hU.trans (hb.mono hU.size)
  clear hb
  refine wpl_r1 [(202, .bool true)] (by kernel_rfl) (wpl_ldvec (q2_v _ HC2.out) rfl (by kernel_rfl) rfl (by kernel_rfl) (wpl_ldvec (q2_b _ HC2.out) rfl (by kernel_rfl) rfl (by kernel_rfl) ?_))
  refine wpl_call rfl (by kernel_rfl) (by kernel_rfl) ((rsame_yes Ay Ab ly lb cy cb sy sb _ Ly.out Lb.out (p2_y w146 HC2.out) (p2_b w146 HC2.out) Ey.out).mono ?_)
  rintro e w147 ⟨rfl, hb⟩
  refine ⟨_, rfl, ?_⟩
  replace HC2 := hide (HM2 _ _ HC2.out hb)
  replace hU := hU.trans (hb.mono hU.size)
  clear hb
  refine wpl_r2 [(207, .bool true), (206, .bool true)] (by kernel_rfl) (wpl_ldvec (q2_t _ HC2.out) rfl (by kernel_rfl) rfl (by kernel_rfl) (wpl_ldvec (q2_c _ HC2.out) rfl (by kernel_rfl) rfl (by kernel_rfl) ?_))
  refine wpl_call rfl (by kernel_rfl) (by kernel_rfl) ((rsame_yes Az Ac lz lc cz cc sz sc _ Lz.out Lc.out (p2_z w147 HC2.out) (p2_c w147 HC2.out) Ez.out).mono ?_)
  rintro e w148 ⟨rfl, hb⟩
  refine ⟨_, rfl, ?_⟩
  replace HC2 := hide (HM2 _ _ HC2.out hb)
  replace hU := hU.trans (hb.mono hU.size)
  clear hb
  refine wpl_r2 [(212, .bool true), (211, .bool true)] (by kernel_rfl) ?_
  refine wpl_call rfl (by kernel_rfl) (by kernel_rfl) ((vawake_any _ (HT.out.kept hU)).mono ?_)
  rintro e w149 ⟨rfl, hb⟩
  refine ⟨_, rfl, ?_⟩
  replace HC2 := hide (HM2 _ _ HC2.out hb)
  replace hU := hU.trans (hb.mono hU.size)
  clear hb
  refine wpl_r2 [(12, .bool true), (214, .bool true)] (by kernel_rfl) (wpl_end (then_normal (wp_ret ?_)))
  refine (show bodyPost _ _ _ .ret _ _ from ret_sl (.bool true) rfl (by kernel_rfl) ?_)
  exact ⟨rfl, hU⟩
theorem VecStructureMatches_walk (Aa : Option Addr) (la : List Int) (ca : Nat) (sa : Bool) (Ab : Option Addr) (lb : List Int) (cb : Nat) (sb : Bool) (Ac : Option Addr) (lc : List Int) (cc : Nat) (sc : Bool) (m n v : Int) (w : World) (ma : la.length ≤ maxLen) (ra : RQ w Aa la) (ya : By la) (pa : Hid (la.length ≤ ca ∧ ca ≤ maxLen)) (mb : lb.length ≤ maxLen) (rb : RQ w Ab lb) (yb : By lb) (pb : Hid (lb.length ≤ cb ∧ cb ≤ maxLen)) (mc : lc.length ≤ maxLen) (rc : RQ w Ac lc) (yc : By lc) (pc : Hid (lc.length ≤ cc ∧ cc ≤ maxLen)) (m0 : -9223372036854775808 ≤ m) (m1 : m ≤ 9223372036854775807) (n0 : -9223372036854775808 ≤ n) (n1 : n ≤ 9223372036854775807) (v0 : -9223372036854775808 ≤ v) (v1 : v ≤ 9223372036854775807) (tn : Tab1 4 mNot w) (tb : Tab1 5 mBuf w) (ta : Tab2 1 mAnd w) (tO : Tab2 2 mOr w) (tx : Tab2 3 mXor w) (tg : Tab2 0 mAgree w) : Calls Tryz.prog 4 #[.agg #[.slice Aa la.length ca, .bool sa], .agg #[.slice Ab lb.length cb, .bool sb], .agg #[.slice Ac lc.length cc, .bool sc], .int .i64 m, .int .i64 n, .int .i64 v] w (Mk (.bool true) w) := by
  by_cases hl : ∀ i (h : i < 3), [(Aa, la.length, ca, sa), (Ab, lb.length, cb, sb), (Ac, lc.length, cc, sc)][i].2.1 ≤ 140
  · exact VecStructureMatches_short Aa la ca sa Ab lb cb sb Ac lc cc sc m n v w ma ra ya pa mb rb yb pb mc rc yc pc m0 m1 n0 n1 v0 v1 tn tb ta tO tx tg (hide hl)
  · exact VecStructureMatches_long Aa la ca sa Ab lb cb sb Ac lc cc sc m n v w ma ra ya pa mb rb yb pb mc rc yc pc m0 m1 n0 n1 v0 v1 tn tb ta tO tx tg (hide (by
      rw [Classical.not_forall] at hl
      obtain ⟨i, hl⟩ := hl
      rw [Classical.not_forall] at hl
      obtain ⟨h, hl⟩ := hl
      exact ⟨i, h, Nat.lt_of_not_le hl⟩))
end
end Go.Proofs.YtbcpeagannjgpaaGreatDoor
