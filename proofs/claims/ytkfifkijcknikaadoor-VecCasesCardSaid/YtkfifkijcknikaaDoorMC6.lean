/-
  Texts of MC joined (VecLC).
-/
import Derived.Test.YtkfifkijcknikaaDoorMC5
set_option linter.unusedVariables false
set_option linter.unusedSimpArgs false
set_option linter.unusedSectionVars false
namespace Go.Proofs.YtkfifkijcknikaaDoor
section
open Go.RowKit
set_option maxRecDepth 100000
set_option linter.unusedSimpArgs false
set_option linter.unusedVariables false
theorem vMatchZ_v (q : Bool) (A B : Option Addr) (a b : List Int) (c d : Nat) (s t : Bool) (w : World) (ha : a.length ≤ 4096) (hb : b.length ≤ 4096) (hca : Hid (a.length ≤ c ∧ c ≤ maxLen)) (hcb : Hid (b.length ≤ d ∧ d ≤ maxLen)) (hA : RQ w A a) (hB : RQ w B b) (ya : By a) (yb : By b) (h : mtc alZ ⟨a, s⟩ ⟨b, t⟩ = q) :
    Calls Tryd.prog 19 #[.agg #[.slice A a.length c, .bool s], .agg #[.slice B b.length d, .bool t]] w (Mk (.bool q) w) := by
  rw [← h]; exact vMatchZ_any A B a b c d s t w ha hb hca hcb hA hB ya yb
theorem vMatchX_v (q : Bool) (A B : Option Addr) (a b : List Int) (c d : Nat) (s t : Bool) (w : World) (ha : a.length ≤ 4096) (hb : b.length ≤ 4096) (hca : Hid (a.length ≤ c ∧ c ≤ maxLen)) (hcb : Hid (b.length ≤ d ∧ d ≤ maxLen)) (hA : RQ w A a) (hB : RQ w B b) (ya : By a) (yb : By b) (h : mtc alX ⟨a, s⟩ ⟨b, t⟩ = q) :
    Calls Tryd.prog 20 #[.agg #[.slice A a.length c, .bool s], .agg #[.slice B b.length d, .bool t]] w (Mk (.bool q) w) := by
  rw [← h]; exact vMatchX_any A B a b c d s t w ha hb hca hcb hA hB ya yb
theorem vKnown_v (q : Bool) (A : Option Addr) (a : List Int) (c : Nat) (s : Bool) (w : World) (ha : a.length ≤ 4096) (hca : Hid (a.length ≤ c ∧ c ≤ maxLen)) (hA : RQ w A a) (ya : By a) (h : kn (cnt ⟨a, s⟩).b = q) :
    Calls Tryd.prog 21 #[.agg #[.slice A a.length c, .bool s]] w (Mk (.bool q) w) := by
  rw [← h]; exact vKnown_any A a c s w ha hca hA ya
theorem gdx_sgl {x : Int} (h : 0 ≤ x ∧ x ≤ 3) : Gd (sgl x).b := ⟨by show 0 < 1; decide, by show 1 ≤ 128; decide, fun i => by
  rcases i with _ | i
  · exact h
  · have e : qt (sgl x).b (i + 1) = 0 := qt_ge (by show 1 ≤ i + 1; omega)
    omega⟩
set_option maxHeartbeats 8000000 in
theorem VecCases_long (Aa : Option Addr) (la : List Int) (ca : Nat) (sa : Bool) (Ab : Option Addr) (lb : List Int) (cb : Nat) (sb : Bool) (w : World) (ma : la.length ≤ maxLen) (ra : RQ w Aa la) (ya : By la) (pa : Hid (la.length ≤ ca ∧ ca ≤ maxLen)) (mb : lb.length ≤ maxLen) (rb : RQ w Ab lb) (yb : By lb) (pb : Hid (lb.length ≤ cb ∧ cb ≤ maxLen)) (tn : Tab1 4 mNot w) (tb : Tab1 2 mBuf w) (ta : Tab2 1 mAnd w) (tO : Tab2 3 mOr w) (tx : Tab2 5 mXor w) (tg : Tab2 0 mAgree w) (hl : Hid (∃ i, ∃ h : i < 2, 140 < [(Aa, la.length, ca, sa), (Ab, lb.length, cb, sb)][i].2.1)) : Calls Tryd.prog 4 #[.agg #[.slice Aa la.length ca, .bool sa], .agg #[.slice Ab lb.length cb, .bool sb]] w (Mk (.bool true) w) := by
  have hm : Hid (∀ i (h : i < 2), [(Aa, la.length, ca, sa), (Ab, lb.length, cb, sb)][i].2.1 ≤ maxLen) := hide fun i h => by rcases i with _ | _ | i <;> first | assumption | omega
  clear ma mb
  have Oa := hide ra
  have Ya := hide ya
  have Ca := pa
  have Ob := hide rb
  have Yb := hide yb
  have Cb := pb
  clear ra ya
  clear rb yb
  have HT := hide (show Tabs w from ⟨tn, tb, ta, tO, tx, tg⟩)
  clear tn tb ta tO tx tg
  have hU : Below w.heap.size w w := Below.refl _ _
  refine calls_sl (l := [.agg #[.slice Aa la.length ca, .bool sa], .agg #[.slice Ab lb.length cb, .bool sb]]) 94 Tryd.func4 rfl (by kernel_rfl) (by simp) ?_
  refine wp_seq ?_
  refine reg_lit ?_
  refine wpl_boxvec (A := Aa) (m := la.length) (c := ca) (s := sa) rfl (by kernel_rfl) rfl (by kernel_rfl) ?_
  intro w1 Na Ba hNa hb
  replace Ba := hide Ba
  have hza : w.heap.size ≤ Na := Nat.le_trans hU.size hNa
  clear hNa
  replace hU := hU.trans (hb.mono hU.size)
  clear hb
  refine wpl_boxvec (A := Ab) (m := lb.length) (c := cb) (s := sb) rfl (by kernel_rfl) rfl (by kernel_rfl) ?_
  intro w2 Nb Bb hNb hb
  replace Bb := hide Bb
  replace Ba := hide (Box.kept Ba.out hb)
  have hzb : w.heap.size ≤ Nb := Nat.le_trans hU.size hNb
  clear hNb
  replace hU := hU.trans (hb.mono hU.size)
  clear hb
  refine wpl_r1 [(4, .bool false)] (by kernel_rfl) ?_
  refine wpl_end ?_
  refine then_normal ?_
  refine wp_seq ?_
  refine wp_seq ?_
  refine reg_lit ?_
  refine wpl_ldvec Ba.out rfl (by kernel_rfl) rfl (by kernel_rfl) ?_
  refine wpl_ldvec Bb.out rfl (by kernel_rfl) rfl (by kernel_rfl) ?_
  refine wpl_bsL2 rfl (by kernel_rfl) rfl (A0 := Aa) (m0 := la.length) (c0 := ca) (s0 := sa) (A1 := Ab) (m1 := lb.length) (c1 := cb) (s1 := sb) (by kernel_rfl) (by kernel_rfl) ?_
  intro w3 NV3 RV3 hb
  replace RV3 := hide RV3
  replace Ba := hide (Box.kept Ba.out hb)
  replace Bb := hide (Box.kept Bb.out hb)
  replace hU := hU.trans (hb.mono hU.size)
  clear hb
  refine wpl_call rfl (by kernel_rfl) (by kernel_rfl) ((vlong_yes NV3 2 [(Aa, la.length, ca, sa), (Ab, lb.length, cb, sb)] _ (by simp) RV3.out hl.out hm.out).mono ?_)
  rintro e w' ⟨rfl, rfl⟩
  refine ⟨_, rfl, ?_⟩
  refine wpl_r4 [(16, .bool true), (15, undef), (14, undef), (13, .bool true)] (by kernel_rfl) ?_
  refine wpl_end ?_
  refine then_normal ?_
  refine wp_ift (by kernel_rfl) ?_
  refine wp_seq ?_
  refine reg_lit ?_
  refine wpl_call rfl (by kernel_rfl) (by kernel_rfl) ((vawake_any _ (HT.out.kept hU)).mono ?_)
  rintro e w4 ⟨rfl, hb⟩
  refine ⟨_, rfl, ?_⟩
  replace Ba := hide (Box.kept Ba.out hb)
  replace Bb := hide (Box.kept Bb.out hb)
  replace hU := hU.trans (hb.mono hU.size)
  clear hb
  refine wpl_r1 [(4, .bool true)] (by kernel_rfl) ?_
  refine wpl_end ?_
  refine then_normal ?_
  refine wp_ret ?_
  refine (show bodyPost _ _ _ .ret _ _ from ret_sl (.bool true) rfl (by kernel_rfl) ?_)
  exact ⟨rfl, hU⟩
set_option maxHeartbeats 16000000 in
theorem VecCases_short (Aa : Option Addr) (la : List Int) (ca : Nat) (sa : Bool) (Ab : Option Addr) (lb : List Int) (cb : Nat) (sb : Bool) (w : World) (ma : la.length ≤ maxLen) (ra : RQ w Aa la) (ya : By la) (pa : Hid (la.length ≤ ca ∧ ca ≤ maxLen)) (mb : lb.length ≤ maxLen) (rb : RQ w Ab lb) (yb : By lb) (pb : Hid (lb.length ≤ cb ∧ cb ≤ maxLen)) (tn : Tab1 4 mNot w) (tb : Tab1 2 mBuf w) (ta : Tab2 1 mAnd w) (tO : Tab2 3 mOr w) (tx : Tab2 5 mXor w) (tg : Tab2 0 mAgree w) (hs : Hid (∀ i (h : i < 2), [(Aa, la.length, ca, sa), (Ab, lb.length, cb, sb)][i].2.1 ≤ 140)) : Calls Tryd.prog 4 #[.agg #[.slice Aa la.length ca, .bool sa], .agg #[.slice Ab lb.length cb, .bool sb]] w (Mk (.bool true) w) := by
  have La : Hid (la.length ≤ 4096) := hide (Nat.le_trans (hs.out 0 (by decide)) (by decide))
  have Lb : Hid (lb.length ≤ 4096) := hide (Nat.le_trans (hs.out 1 (by decide)) (by decide))
  clear ma mb
  have Oa := hide ra
  have Ya := hide ya
  have Ca := pa
  have Ob := hide rb
  have Yb := hide yb
  have Cb := pb
  clear ra ya
  clear rb yb
  have HT := hide (show Tabs w from ⟨tn, tb, ta, tO, tx, tg⟩)
  clear tn tb ta tO tx tg
  have hU : Below w.heap.size w w := Below.refl _ _
  refine calls_sl (l := [.agg #[.slice Aa la.length ca, .bool sa], .agg #[.slice Ab lb.length cb, .bool sb]]) 94 Tryd.func4 rfl (by kernel_rfl) (by simp) ?_
  refine wp_seq ?_
  refine reg_lit ?_
  refine wpl_boxvec (A := Aa) (m := la.length) (c := ca) (s := sa) rfl (by kernel_rfl) rfl (by kernel_rfl) ?_
  intro w1 Na Ba hNa hb
  replace Ba := hide Ba
  replace Oa := hide (RQ.below Oa.out hb)
  replace Ob := hide (RQ.below Ob.out hb)
  have hza : w.heap.size ≤ Na := Nat.le_trans hU.size hNa
  clear hNa
  replace hU := hU.trans (hb.mono hU.size)
  clear hb
  refine wpl_boxvec (A := Ab) (m := lb.length) (c := cb) (s := sb) rfl (by kernel_rfl) rfl (by kernel_rfl) ?_
  intro w2 Nb Bb hNb hb
  replace Bb := hide Bb
  replace Oa := hide (RQ.below Oa.out hb)
  replace Ob := hide (RQ.below Ob.out hb)
  replace Ba := hide (Box.kept Ba.out hb)
  have hzb : w.heap.size ≤ Nb := Nat.le_trans hU.size hNb
  clear hNb
  replace hU := hU.trans (hb.mono hU.size)
  clear hb
  refine wpl_r1 [(4, .bool false)] (by kernel_rfl) ?_
  refine wpl_end ?_
  refine then_normal ?_
  refine wp_seq ?_
  refine wp_seq ?_
  refine reg_lit ?_
  refine wpl_ldvec Ba.out rfl (by kernel_rfl) rfl (by kernel_rfl) ?_
  refine wpl_ldvec Bb.out rfl (by kernel_rfl) rfl (by kernel_rfl) ?_
  refine wpl_bsL2 rfl (by kernel_rfl) rfl (A0 := Aa) (m0 := la.length) (c0 := ca) (s0 := sa) (A1 := Ab) (m1 := lb.length) (c1 := cb) (s1 := sb) (by kernel_rfl) (by kernel_rfl) ?_
  intro w3 NV3 RV3 hb
  replace RV3 := hide RV3
  replace Oa := hide (RQ.below Oa.out hb)
  replace Ob := hide (RQ.below Ob.out hb)
  replace Ba := hide (Box.kept Ba.out hb)
  replace Bb := hide (Box.kept Bb.out hb)
  replace hU := hU.trans (hb.mono hU.size)
  clear hb
  refine wpl_call rfl (by kernel_rfl) (by kernel_rfl) ((vlong_no NV3 2 [(Aa, la.length, ca, sa), (Ab, lb.length, cb, sb)] _ (by simp) RV3.out hs.out).mono ?_)
  rintro e w' ⟨rfl, rfl⟩
  refine ⟨_, rfl, ?_⟩
  clear RV3
  refine wpl_r1 [(13, .bool false)] (by kernel_rfl) ?_
  refine wpl_call rfl (by kernel_rfl) (by kernel_rfl) ((vawake_any _ (HT.out.kept hU)).mono ?_)
  rintro e w4 ⟨rfl, hb⟩
  refine ⟨_, rfl, ?_⟩
  replace Oa := hide (RQ.below Oa.out hb)
  replace Ob := hide (RQ.below Ob.out hb)
  replace Ba := hide (Box.kept Ba.out hb)
  replace Bb := hide (Box.kept Bb.out hb)
  replace hU := hU.trans (hb.mono hU.size)
  clear hb
  refine wpl_r2 [(16, .bool false), (15, .bool false)] (by kernel_rfl) ?_
  refine wpl_end ?_
  refine then_normal ?_
  refine wp_iff (by kernel_rfl) ?_
  refine wp_skip ?_
  refine then_normal ?_
  refine wp_seq ?_
  refine reg_lit ?_
  refine wpl_call rfl (by kernel_rfl) (by kernel_rfl) ((vof_any ⟨#[49]⟩ _ (by decide)).mono ?_)
  rintro e w5 ⟨l1, s1, A1, c1, E1, rfl, C1, O1, hb⟩
  refine ⟨_, rfl, ?_⟩
  replace Oa := hide (RQ.below Oa.out hb)
  replace Ob := hide (RQ.below Ob.out hb)
  replace Ba := hide (Box.kept Ba.out hb)
  replace Bb := hide (Box.kept Bb.out hb)
  replace O1 := hide O1.out.rd
  replace hU := hU.trans (hb.mono hU.size)
  clear hb
  have G1 : Gd l1 := by have h := congrArg Vc.b E1.out; dsimp only at h; rw [h]; exact gd_of (by decide +kernel)
  have L1 := hide (show l1.length ≤ 4096 from Nat.le_trans G1.le (by decide))
  have Y1 := hide G1.by_
  clear G1
  refine wpl_made (A := A1) (m := l1.length) (c := c1) (s := s1) rfl rfl rfl rfl rfl rfl (fun _ => by kernel_rfl) (fun _ => by kernel_rfl) ?_
  intro w6 N1 B1 hN1 hb
  replace B1 := hide B1
  replace Oa := hide (RQ.below Oa.out hb)
  replace Ob := hide (RQ.below Ob.out hb)
  replace O1 := hide (RQ.below O1.out hb)
  replace Ba := hide (Box.kept Ba.out hb)
  replace Bb := hide (Box.kept Bb.out hb)
  have hz1 : w.heap.size ≤ N1 := Nat.le_trans hU.size hN1
  clear hN1
  replace hU := hU.trans (hb.mono hU.size)
  clear hb
  refine wpl_end ?_
  refine then_normal ?_
  refine wp_seq ?_
  refine wp_cutK (α := (List Int × Bool × Option Addr × Nat) × (List Int × Bool × Option Addr × Nat) × (Nat) × (Nat)) (fun ((lx, sx, Ax, cx), (ly, sy, Ay, cy), Nx, Ny) => [(0, .agg #[.slice Aa la.length ca, .bool sa]), (1, .agg #[.slice Ab lb.length cb, .bool sb]), (2, .pointer (some ⟨Na, 0, none⟩)), (3, .pointer (some ⟨Nb, 0, none⟩)), (4, .bool false), (9, .agg #[.slice Aa la.length ca, .bool sa]), (10, .agg #[.slice Ab lb.length cb, .bool sb]), (11, .slice (some ⟨NV3, 0, none⟩) 2 2), (12, .bool false), (13, .bool false), (14, .bool true), (15, .bool false), (16, .bool false), (18, .agg #[.slice A1 l1.length c1, .bool s1]), (5, .pointer (some ⟨N1, 0, none⟩)), (19, .agg #[.slice A1 l1.length c1, .bool s1]), (20, .agg #[.slice Aa la.length ca, .bool sa]), (21, .agg #[.slice Ab lb.length cb, .bool sb]), (24, .agg #[.slice Aa la.length ca, .bool sa]), (25, .agg #[.slice Ab lb.length cb, .bool sb]), (22, .agg #[.slice Ax lx.length cx, .bool sx]), (26, .agg #[.slice Ay ly.length cy, .bool sy]), (6, .pointer (some ⟨Nx, 0, none⟩)), (7, .pointer (some ⟨Ny, 0, none⟩))]) (fun ((lx, sx, Ax, cx), (ly, sy, Ay, cy), Nx, Ny) W => Below w.heap.size w W ∧ Hid (RQ W Aa la) ∧ Hid (RQ W Ab lb) ∧ Hid (RQ W A1 l1) ∧ Hid ((⟨lx, sx⟩ : Vc) = ⟨blA ⟨la, sa⟩ ⟨lb, sb⟩, sg ⟨la, sa⟩ ⟨lb, sb⟩⟩) ∧ Hid (RQ W Ax lx) ∧ Hid (lx.length ≤ cx ∧ cx ≤ maxLen) ∧ Hid (lx.length ≤ 4096) ∧ Hid (By lx) ∧ Hid ((⟨ly, sy⟩ : Vc) = ⟨blB ⟨la, sa⟩ ⟨lb, sb⟩, sg ⟨la, sa⟩ ⟨lb, sb⟩⟩) ∧ Hid (RQ W Ay ly) ∧ Hid (ly.length ≤ cy ∧ cy ≤ maxLen) ∧ Hid (ly.length ≤ 4096) ∧ Hid (By ly) ∧ Hid (Box Na Aa la.length ca sa W) ∧ Hid (Box Nb Ab lb.length cb sb W) ∧ Hid (Box N1 A1 l1.length c1 s1 W) ∧ Hid (Box Nx Ax lx.length cx sx W) ∧ Hid (Box Ny Ay ly.length cy sy W) ∧ w.heap.size ≤ Nx ∧ w.heap.size ≤ Ny) ?_ ?_
  refine region_R (n := 10) (N := 12) (by kernel_rfl) (by kernel_rfl) (by kernel_rfl) (by kernel_rfl) (by kernel_rfl) (by kernel_rfl) (fun _ _ _ _ _ h => h) ?_
  intro F hQ
  have Ba0 := Ba
  have Bb0 := Bb
  have B10 := B1
  refine anyR_ldvec (i := 0) (m' := 1) B10.out F hQ rfl rfl (by kernel_rfl) (by kernel_rfl) (by kernel_rfl) (by kernel_rfl) (by kernel_rfl) rfl (by kernel_rfl) ?_
  refine anyR_ldvec (i := 1) (m' := 3) Ba0.out F hQ rfl rfl (by kernel_rfl) (by kernel_rfl) (by kernel_rfl) (by kernel_rfl) (by kernel_rfl) rfl (by kernel_rfl) ?_
  refine anyR_ldvec (i := 2) (m' := 7) Bb0.out F hQ rfl rfl (by kernel_rfl) (by kernel_rfl) (by kernel_rfl) (by kernel_rfl) (by kernel_rfl) rfl (by kernel_rfl) ?_
  refine anyR_ldvec (i := 5) (m' := 39) Ba0.out F hQ rfl rfl (by kernel_rfl) (by kernel_rfl) (by kernel_rfl) (by kernel_rfl) (by kernel_rfl) rfl (by kernel_rfl) ?_
  refine anyR_ldvec (i := 6) (m' := 103) Bb0.out F hQ rfl rfl (by kernel_rfl) (by kernel_rfl) (by kernel_rfl) (by kernel_rfl) (by kernel_rfl) rfl (by kernel_rfl) ?_
  refine anyR_split [3, 8, 9] (by kernel_rfl) rfl ⟨?_, ?_, ?_, trivial⟩
  refine stepR_call (i := 3) (m' := 111) rfl rfl (by kernel_rfl) (by kernel_rfl) (by kernel_rfl) (by kernel_rfl) ((vCond_any A1 l1 c1 s1 Aa Ab la lb ca cb sa sb _ La.out Lb.out Ca Cb (by exact Oa.out) (by exact Ob.out) Ya.out Yb.out L1.out C1 (by exact O1.out) Y1.out (HT.out.kept (Below.drew hU))).mono ?_)
  rintro e w7 ⟨lx, sx, Ax, cx, Ex, rfl, Cx, Ox, hb⟩
  refine ⟨_, rfl, hb, ?_⟩
  replace hb : Below w6.heap.size w6 w7 := Below.trans ((Below.refl _ _).drew) hb
  replace Oa := hide (RQ.below Oa.out hb)
  replace Ob := hide (RQ.below Ob.out hb)
  replace O1 := hide (RQ.below O1.out hb)
  replace Ba := hide (Box.kept Ba.out hb)
  replace Bb := hide (Box.kept Bb.out hb)
  replace B1 := hide (Box.kept B1.out hb)
  replace Ox := hide Ox.out.rd
  replace hU := hU.trans (hb.mono hU.size)
  clear hb
  have Gx : Gd lx := by have h := congrArg Vc.b Ex.out; dsimp only at h; rw [h]; exact (by rw [E1.out, of_one, vCond_1]; exact gd_blA Ya.out Yb.out)
  have Lx := hide (show lx.length ≤ 4096 from Nat.le_trans Gx.le (by decide))
  have Yx := hide Gx.by_
  clear Gx
  replace Ex := hide (show (⟨lx, sx⟩ : Vc) = ⟨blA ⟨la, sa⟩ ⟨lb, sb⟩, sg ⟨la, sa⟩ ⟨lb, sb⟩⟩ from Ex.out.trans (by rw [E1.out, of_one, vCond_1]))
  refine anyR_split [4, 8, 9] (by kernel_rfl) rfl ⟨?_, ?_, ?_, trivial⟩
  refine stepR_call (i := 4) (m' := 127) rfl rfl (by kernel_rfl) (by kernel_rfl) (by kernel_rfl) (by kernel_rfl) ((vof_any ⟨#[48]⟩ _ (by decide)).mono ?_)
  rintro e w8 ⟨l0, s0, A0, c0, E0, rfl, C0, O0, hb⟩
  refine ⟨_, rfl, hb, ?_⟩
  replace Oa := hide (RQ.below Oa.out hb)
  replace Ob := hide (RQ.below Ob.out hb)
  replace O1 := hide (RQ.below O1.out hb)
  replace Ox := hide (RQ.below Ox.out hb)
  replace Ba := hide (Box.kept Ba.out hb)
  replace Bb := hide (Box.kept Bb.out hb)
  replace B1 := hide (Box.kept B1.out hb)
  replace O0 := hide O0.out.rd
  replace hU := hU.trans (hb.mono hU.size)
  clear hb
  have G0 : Gd l0 := by have h := congrArg Vc.b E0.out; dsimp only at h; rw [h]; exact gd_of (by decide +kernel)
  have L0 := hide (show l0.length ≤ 4096 from Nat.le_trans G0.le (by decide))
  have Y0 := hide G0.by_
  clear G0
  refine anyR_split [7, 8, 9] (by kernel_rfl) rfl ⟨?_, ?_, ?_, trivial⟩
  refine stepR_call (i := 7) (m' := 255) rfl rfl (by kernel_rfl) (by kernel_rfl) (by kernel_rfl) (by kernel_rfl) ((vCond_any A0 l0 c0 s0 Aa Ab la lb ca cb sa sb _ La.out Lb.out Ca Cb Oa.out Ob.out Ya.out Yb.out L0.out C0 O0.out Y0.out (HT.out.kept hU)).mono ?_)
  rintro e w9 ⟨ly, sy, Ay, cy, Ey, rfl, Cy, Oy, hb⟩
  refine ⟨_, rfl, hb, ?_⟩
  replace Oa := hide (RQ.below Oa.out hb)
  replace Ob := hide (RQ.below Ob.out hb)
  replace O1 := hide (RQ.below O1.out hb)
  replace Ox := hide (RQ.below Ox.out hb)
  replace O0 := hide (RQ.below O0.out hb)
  replace Ba := hide (Box.kept Ba.out hb)
  replace Bb := hide (Box.kept Bb.out hb)
  replace B1 := hide (Box.kept B1.out hb)
  replace Oy := hide Oy.out.rd
  replace hU := hU.trans (hb.mono hU.size)
  clear hb
  have Gy : Gd ly := by have h := congrArg Vc.b Ey.out; dsimp only at h; rw [h]; exact (by rw [E0.out, of_zero, vCond_0]; exact gd_blB Ya.out Yb.out)
  have Ly := hide (show ly.length ≤ 4096 from Nat.le_trans Gy.le (by decide))
  have Yy := hide Gy.by_
  clear Gy
  replace Ey := hide (show (⟨ly, sy⟩ : Vc) = ⟨blB ⟨la, sa⟩ ⟨lb, sb⟩, sg ⟨la, sa⟩ ⟨lb, sb⟩⟩ from Ey.out.trans (by rw [E0.out, of_zero, vCond_0]))
  clear O0 C0 L0 Y0
  refine anyR_split [8, 9] (by kernel_rfl) rfl ⟨?_, ?_, trivial⟩
  refine stepR_al (i := 8) (m' := 511) rfl rfl (by kernel_rfl) (by kernel_rfl) (by kernel_rfl) rfl ?_
  intro w10 Nx Bx hNx hb
  replace Bx := hide Bx
  have neax : Na ≠ Nx := by have := Ba.out.lt; omega
  have nebx : Nb ≠ Nx := by have := Bb.out.lt; omega
  have ne1x : N1 ≠ Nx := by have := B1.out.lt; omega
  replace Oa := hide (RQ.below Oa.out hb)
  replace Ob := hide (RQ.below Ob.out hb)
  replace O1 := hide (RQ.below O1.out hb)
  replace Ox := hide (RQ.below Ox.out hb)
  replace Oy := hide (RQ.below Oy.out hb)
  replace Ba := hide (Box.kept Ba.out hb)
  replace Bb := hide (Box.kept Bb.out hb)
  replace B1 := hide (Box.kept B1.out hb)
  have hzx : w.heap.size ≤ Nx := Nat.le_trans hU.size hNx
  clear hNx
  replace hU := hU.trans (hb.mono hU.size)
  clear hb
  refine anyR_split [9] (by kernel_rfl) rfl ⟨?_, trivial⟩
  refine stepR_al (i := 9) (m' := 1023) rfl rfl (by kernel_rfl) (by kernel_rfl) (by kernel_rfl) rfl ?_
  intro w11 Ny By hNy hb
  replace By := hide By
  have neay : Na ≠ Ny := by have := Ba.out.lt; omega
  have neby : Nb ≠ Ny := by have := Bb.out.lt; omega
  have ne1y : N1 ≠ Ny := by have := B1.out.lt; omega
  have nexy : Nx ≠ Ny := by have := Bx.out.lt; omega
  replace Oa := hide (RQ.below Oa.out hb)
  replace Ob := hide (RQ.below Ob.out hb)
  replace O1 := hide (RQ.below O1.out hb)
  replace Ox := hide (RQ.below Ox.out hb)
  replace Oy := hide (RQ.below Oy.out hb)
  replace Ba := hide (Box.kept Ba.out hb)
  replace Bb := hide (Box.kept Bb.out hb)
  replace B1 := hide (Box.kept B1.out hb)
  replace Bx := hide (Box.kept Bx.out hb)
  have hzy : w.heap.size ≤ Ny := Nat.le_trans hU.size hNy
  clear hNy
  replace hU := hU.trans (hb.mono hU.size)
  clear hb
  refine anyR_e ?_
  refine anyE_st (i := 10) (m' := 2047) Bx.out rfl rfl (by kernel_rfl) (by kernel_rfl) (by kernel_rfl) (by kernel_rfl) rfl (by kernel_rfl) (A2 := Ax) (m2 := lx.length) (c2 := cx) (s2 := sx) (by kernel_rfl) ?_
  intro w12 hst
  replace Oa := hide (hst.rq Oa.out)
  replace Ob := hide (hst.rq Ob.out)
  replace O1 := hide (hst.rq O1.out)
  replace Ox := hide (hst.rq Ox.out)
  replace Oy := hide (hst.rq Oy.out)
  replace Ba := hide (hst.ne Ba.out (by first | exact neax | exact (Ne.symm nexa) | assumption | (exact Ne.symm (by assumption)) | omega))
  replace Bb := hide (hst.ne Bb.out (by first | exact nebx | exact (Ne.symm nexb) | assumption | (exact Ne.symm (by assumption)) | omega))
  replace B1 := hide (hst.ne B1.out (by first | exact ne1x | exact (Ne.symm nex1) | assumption | (exact Ne.symm (by assumption)) | omega))
  replace By := hide (hst.ne By.out (by first | exact neyx | exact (Ne.symm nexy) | assumption | (exact Ne.symm (by assumption)) | omega))
  replace Bx := hide hst.box
  replace hU := hU.trans (hst.bel hzx)
  clear hst
  refine anyE_st (i := 11) (m' := 4095) By.out rfl rfl (by kernel_rfl) (by kernel_rfl) (by kernel_rfl) (by kernel_rfl) rfl (by kernel_rfl) (A2 := Ay) (m2 := ly.length) (c2 := cy) (s2 := sy) (by kernel_rfl) ?_
  intro w13 hst
  replace Oa := hide (hst.rq Oa.out)
  replace Ob := hide (hst.rq Ob.out)
  replace O1 := hide (hst.rq O1.out)
  replace Ox := hide (hst.rq Ox.out)
  replace Oy := hide (hst.rq Oy.out)
  replace Ba := hide (hst.ne Ba.out (by first | exact neay | exact (Ne.symm neya) | assumption | (exact Ne.symm (by assumption)) | omega))
  replace Bb := hide (hst.ne Bb.out (by first | exact neby | exact (Ne.symm neyb) | assumption | (exact Ne.symm (by assumption)) | omega))
  replace B1 := hide (hst.ne B1.out (by first | exact ne1y | exact (Ne.symm ney1) | assumption | (exact Ne.symm (by assumption)) | omega))
  replace Bx := hide (hst.ne Bx.out (by first | exact nexy | exact (Ne.symm neyx) | assumption | (exact Ne.symm (by assumption)) | omega))
  replace By := hide hst.box
  replace hU := hU.trans (hst.bel hzy)
  clear hst
  refine anyE_done (by kernel_rfl) ?_
  refine then_normal ⟨((lx, sx, Ax, cx), (ly, sy, Ay, cy), Nx, Ny), _, rfl, Kp_c (by kernel_rfl) (Kp_c (by kernel_rfl) (Kp_c (by kernel_rfl) (Kp_c (by kernel_rfl) (Kp_c (by kernel_rfl) (Kp_c (by kernel_rfl) (Kp_c (by kernel_rfl) (Kp_c (by kernel_rfl) (Kp_c (by kernel_rfl) (Kp_c (by kernel_rfl) (Kp_c (by kernel_rfl) (Kp_c (by kernel_rfl) (Kp_c (by kernel_rfl) (Kp_c (by kernel_rfl) (Kp_c (by kernel_rfl) (Kp_c (by kernel_rfl) (Kp_c (by kernel_rfl) (Kp_c (by kernel_rfl) (Kp_c (by kernel_rfl) (Kp_c (by kernel_rfl) (Kp_c (by kernel_rfl) (Kp_c (by kernel_rfl) (Kp_c (by kernel_rfl) (Kp_c (by kernel_rfl) (Kp_n)))))))))))))))))))))))), ?_⟩
  dsimp only
  exact ⟨hU, Oa, Ob, O1, Ex, Ox, Cx, Lx, Yx, Ey, Oy, Cy, Ly, Yy, Ba, Bb, B1, Bx, By, hzx, hzy⟩
  refine stepR_al (i := 9) (m' := 767) rfl rfl (by kernel_rfl) (by kernel_rfl) (by kernel_rfl) rfl ?_
  intro w14 Ny By hNy hb
  replace By := hide By
  have neay : Na ≠ Ny := by have := Ba.out.lt; omega
  have neby : Nb ≠ Ny := by have := Bb.out.lt; omega
  have ne1y : N1 ≠ Ny := by have := B1.out.lt; omega
  replace Oa := hide (RQ.below Oa.out hb)
  replace Ob := hide (RQ.below Ob.out hb)
  replace O1 := hide (RQ.below O1.out hb)
  replace Ox := hide (RQ.below Ox.out hb)
  replace Oy := hide (RQ.below Oy.out hb)
  replace Ba := hide (Box.kept Ba.out hb)
  replace Bb := hide (Box.kept Bb.out hb)
  replace B1 := hide (Box.kept B1.out hb)
  have hzy : w.heap.size ≤ Ny := Nat.le_trans hU.size hNy
  clear hNy
  replace hU := hU.trans (hb.mono hU.size)
  clear hb
  refine anyR_split [8] (by kernel_rfl) rfl ⟨?_, trivial⟩
  refine stepR_al (i := 8) (m' := 1023) rfl rfl (by kernel_rfl) (by kernel_rfl) (by kernel_rfl) rfl ?_
  intro w15 Nx Bx hNx hb
  replace Bx := hide Bx
  have neax : Na ≠ Nx := by have := Ba.out.lt; omega
  have nebx : Nb ≠ Nx := by have := Bb.out.lt; omega
  have ne1x : N1 ≠ Nx := by have := B1.out.lt; omega
  have neyx : Ny ≠ Nx := by have := By.out.lt; omega
  replace Oa := hide (RQ.below Oa.out hb)
  replace Ob := hide (RQ.below Ob.out hb)
  replace O1 := hide (RQ.below O1.out hb)
  replace Ox := hide (RQ.below Ox.out hb)
  replace Oy := hide (RQ.below Oy.out hb)
  replace Ba := hide (Box.kept Ba.out hb)
  replace Bb := hide (Box.kept Bb.out hb)
  replace B1 := hide (Box.kept B1.out hb)
  replace By := hide (Box.kept By.out hb)
  have hzx : w.heap.size ≤ Nx := Nat.le_trans hU.size hNx
  clear hNx
  replace hU := hU.trans (hb.mono hU.size)
  clear hb
  refine anyR_e ?_
  refine anyE_st (i := 10) (m' := 2047) Bx.out rfl rfl (by kernel_rfl) (by kernel_rfl) (by kernel_rfl) (by kernel_rfl) rfl (by kernel_rfl) (A2 := Ax) (m2 := lx.length) (c2 := cx) (s2 := sx) (by kernel_rfl) ?_
  intro w16 hst
  replace Oa := hide (hst.rq Oa.out)
  replace Ob := hide (hst.rq Ob.out)
  replace O1 := hide (hst.rq O1.out)
  replace Ox := hide (hst.rq Ox.out)
  replace Oy := hide (hst.rq Oy.out)
  replace Ba := hide (hst.ne Ba.out (by first | exact neax | exact (Ne.symm nexa) | assumption | (exact Ne.symm (by assumption)) | omega))
  replace Bb := hide (hst.ne Bb.out (by first | exact nebx | exact (Ne.symm nexb) | assumption | (exact Ne.symm (by assumption)) | omega))
  replace B1 := hide (hst.ne B1.out (by first | exact ne1x | exact (Ne.symm nex1) | assumption | (exact Ne.symm (by assumption)) | omega))
  replace By := hide (hst.ne By.out (by first | exact neyx | exact (Ne.symm nexy) | assumption | (exact Ne.symm (by assumption)) | omega))
  replace Bx := hide hst.box
  replace hU := hU.trans (hst.bel hzx)
  clear hst
  refine anyE_st (i := 11) (m' := 4095) By.out rfl rfl (by kernel_rfl) (by kernel_rfl) (by kernel_rfl) (by kernel_rfl) rfl (by kernel_rfl) (A2 := Ay) (m2 := ly.length) (c2 := cy) (s2 := sy) (by kernel_rfl) ?_
  intro w17 hst
  replace Oa := hide (hst.rq Oa.out)
  replace Ob := hide (hst.rq Ob.out)
  replace O1 := hide (hst.rq O1.out)
  replace Ox := hide (hst.rq Ox.out)
  replace Oy := hide (hst.rq Oy.out)
  replace Ba := hide (hst.ne Ba.out (by first | exact neay | exact (Ne.symm neya) | assumption | (exact Ne.symm (by assumption)) | omega))
  replace Bb := hide (hst.ne Bb.out (by first | exact neby | exact (Ne.symm neyb) | assumption | (exact Ne.symm (by assumption)) | omega))
  replace B1 := hide (hst.ne B1.out (by first | exact ne1y | exact (Ne.symm ney1) | assumption | (exact Ne.symm (by assumption)) | omega))
  replace Bx := hide (hst.ne Bx.out (by first | exact nexy | exact (Ne.symm neyx) | assumption | (exact Ne.symm (by assumption)) | omega))
  replace By := hide hst.box
  replace hU := hU.trans (hst.bel hzy)
  clear hst
  refine anyE_done (by kernel_rfl) ?_
  refine then_normal ⟨((lx, sx, Ax, cx), (ly, sy, Ay, cy), Nx, Ny), _, rfl, Kp_c (by kernel_rfl) (Kp_c (by kernel_rfl) (Kp_c (by kernel_rfl) (Kp_c (by kernel_rfl) (Kp_c (by kernel_rfl) (Kp_c (by kernel_rfl) (Kp_c (by kernel_rfl) (Kp_c (by kernel_rfl) (Kp_c (by kernel_rfl) (Kp_c (by kernel_rfl) (Kp_c (by kernel_rfl) (Kp_c (by kernel_rfl) (Kp_c (by kernel_rfl) (Kp_c (by kernel_rfl) (Kp_c (by kernel_rfl) (Kp_c (by kernel_rfl) (Kp_c (by kernel_rfl) (Kp_c (by kernel_rfl) (Kp_c (by kernel_rfl) (Kp_c (by kernel_rfl) (Kp_c (by kernel_rfl) (Kp_c (by kernel_rfl) (Kp_c (by kernel_rfl) (Kp_c (by kernel_rfl) (Kp_n)))))))))))))))))))))))), ?_⟩
  dsimp only
  exact ⟨hU, Oa, Ob, O1, Ex, Ox, Cx, Lx, Yx, Ey, Oy, Cy, Ly, Yy, Ba, Bb, B1, Bx, By, hzx, hzy⟩
  refine stepR_al (i := 8) (m' := 383) rfl rfl (by kernel_rfl) (by kernel_rfl) (by kernel_rfl) rfl ?_
  intro w18 Nx Bx hNx hb
  replace Bx := hide Bx
  have neax : Na ≠ Nx := by have := Ba.out.lt; omega
  have nebx : Nb ≠ Nx := by have := Bb.out.lt; omega
  have ne1x : N1 ≠ Nx := by have := B1.out.lt; omega
  replace Oa := hide (RQ.below Oa.out hb)
  replace Ob := hide (RQ.below Ob.out hb)
  replace O1 := hide (RQ.below O1.out hb)
  replace Ox := hide (RQ.below Ox.out hb)
  replace O0 := hide (RQ.below O0.out hb)
  replace Ba := hide (Box.kept Ba.out hb)
  replace Bb := hide (Box.kept Bb.out hb)
  replace B1 := hide (Box.kept B1.out hb)
  have hzx : w.heap.size ≤ Nx := Nat.le_trans hU.size hNx
  clear hNx
  replace hU := hU.trans (hb.mono hU.size)
  clear hb
  refine anyR_split [7, 9] (by kernel_rfl) rfl ⟨?_, ?_, trivial⟩
  refine stepR_call (i := 7) (m' := 511) rfl rfl (by kernel_rfl) (by kernel_rfl) (by kernel_rfl) (by kernel_rfl) ((vCond_any A0 l0 c0 s0 Aa Ab la lb ca cb sa sb _ La.out Lb.out Ca Cb Oa.out Ob.out Ya.out Yb.out L0.out C0 O0.out Y0.out (HT.out.kept hU)).mono ?_)
  rintro e w19 ⟨ly, sy, Ay, cy, Ey, rfl, Cy, Oy, hb⟩
  refine ⟨_, rfl, hb, ?_⟩
  replace Oa := hide (RQ.below Oa.out hb)
  replace Ob := hide (RQ.below Ob.out hb)
  replace O1 := hide (RQ.below O1.out hb)
  replace Ox := hide (RQ.below Ox.out hb)
  replace O0 := hide (RQ.below O0.out hb)
  replace Ba := hide (Box.kept Ba.out hb)
  replace Bb := hide (Box.kept Bb.out hb)
  replace B1 := hide (Box.kept B1.out hb)
  replace Bx := hide (Box.kept Bx.out hb)
  replace Oy := hide Oy.out.rd
  replace hU := hU.trans (hb.mono hU.size)
  clear hb
  have Gy : Gd ly := by have h := congrArg Vc.b Ey.out; dsimp only at h; rw [h]; exact (by rw [E0.out, of_zero, vCond_0]; exact gd_blB Ya.out Yb.out)
  have Ly := hide (show ly.length ≤ 4096 from Nat.le_trans Gy.le (by decide))
  have Yy := hide Gy.by_
  clear Gy
  replace Ey := hide (show (⟨ly, sy⟩ : Vc) = ⟨blB ⟨la, sa⟩ ⟨lb, sb⟩, sg ⟨la, sa⟩ ⟨lb, sb⟩⟩ from Ey.out.trans (by rw [E0.out, of_zero, vCond_0]))
  clear O0 C0 L0 Y0
  refine anyR_split [9] (by kernel_rfl) rfl ⟨?_, trivial⟩
  refine stepR_al (i := 9) (m' := 1023) rfl rfl (by kernel_rfl) (by kernel_rfl) (by kernel_rfl) rfl ?_
  intro w20 Ny By hNy hb
  replace By := hide By
  have neay : Na ≠ Ny := by have := Ba.out.lt; omega
  have neby : Nb ≠ Ny := by have := Bb.out.lt; omega
  have ne1y : N1 ≠ Ny := by have := B1.out.lt; omega
  have nexy : Nx ≠ Ny := by have := Bx.out.lt; omega
  replace Oa := hide (RQ.below Oa.out hb)
  replace Ob := hide (RQ.below Ob.out hb)
  replace O1 := hide (RQ.below O1.out hb)
  replace Ox := hide (RQ.below Ox.out hb)
  replace Oy := hide (RQ.below Oy.out hb)
  replace Ba := hide (Box.kept Ba.out hb)
  replace Bb := hide (Box.kept Bb.out hb)
  replace B1 := hide (Box.kept B1.out hb)
  replace Bx := hide (Box.kept Bx.out hb)
  have hzy : w.heap.size ≤ Ny := Nat.le_trans hU.size hNy
  clear hNy
  replace hU := hU.trans (hb.mono hU.size)
  clear hb
  refine anyR_e ?_
  refine anyE_st (i := 10) (m' := 2047) Bx.out rfl rfl (by kernel_rfl) (by kernel_rfl) (by kernel_rfl) (by kernel_rfl) rfl (by kernel_rfl) (A2 := Ax) (m2 := lx.length) (c2 := cx) (s2 := sx) (by kernel_rfl) ?_
  intro w21 hst
  replace Oa := hide (hst.rq Oa.out)
  replace Ob := hide (hst.rq Ob.out)
  replace O1 := hide (hst.rq O1.out)
  replace Ox := hide (hst.rq Ox.out)
  replace Oy := hide (hst.rq Oy.out)
  replace Ba := hide (hst.ne Ba.out (by first | exact neax | exact (Ne.symm nexa) | assumption | (exact Ne.symm (by assumption)) | omega))
  replace Bb := hide (hst.ne Bb.out (by first | exact nebx | exact (Ne.symm nexb) | assumption | (exact Ne.symm (by assumption)) | omega))
  replace B1 := hide (hst.ne B1.out (by first | exact ne1x | exact (Ne.symm nex1) | assumption | (exact Ne.symm (by assumption)) | omega))
  replace By := hide (hst.ne By.out (by first | exact neyx | exact (Ne.symm nexy) | assumption | (exact Ne.symm (by assumption)) | omega))
  replace Bx := hide hst.box
  replace hU := hU.trans (hst.bel hzx)
  clear hst
  refine anyE_st (i := 11) (m' := 4095) By.out rfl rfl (by kernel_rfl) (by kernel_rfl) (by kernel_rfl) (by kernel_rfl) rfl (by kernel_rfl) (A2 := Ay) (m2 := ly.length) (c2 := cy) (s2 := sy) (by kernel_rfl) ?_
  intro w22 hst
  replace Oa := hide (hst.rq Oa.out)
  replace Ob := hide (hst.rq Ob.out)
  replace O1 := hide (hst.rq O1.out)
  replace Ox := hide (hst.rq Ox.out)
  replace Oy := hide (hst.rq Oy.out)
  replace Ba := hide (hst.ne Ba.out (by first | exact neay | exact (Ne.symm neya) | assumption | (exact Ne.symm (by assumption)) | omega))
  replace Bb := hide (hst.ne Bb.out (by first | exact neby | exact (Ne.symm neyb) | assumption | (exact Ne.symm (by assumption)) | omega))
  replace B1 := hide (hst.ne B1.out (by first | exact ne1y | exact (Ne.symm ney1) | assumption | (exact Ne.symm (by assumption)) | omega))
  replace Bx := hide (hst.ne Bx.out (by first | exact nexy | exact (Ne.symm neyx) | assumption | (exact Ne.symm (by assumption)) | omega))
  replace By := hide hst.box
  replace hU := hU.trans (hst.bel hzy)
  clear hst
  refine anyE_done (by kernel_rfl) ?_
  refine then_normal ⟨((lx, sx, Ax, cx), (ly, sy, Ay, cy), Nx, Ny), _, rfl, Kp_c (by kernel_rfl) (Kp_c (by kernel_rfl) (Kp_c (by kernel_rfl) (Kp_c (by kernel_rfl) (Kp_c (by kernel_rfl) (Kp_c (by kernel_rfl) (Kp_c (by kernel_rfl) (Kp_c (by kernel_rfl) (Kp_c (by kernel_rfl) (Kp_c (by kernel_rfl) (Kp_c (by kernel_rfl) (Kp_c (by kernel_rfl) (Kp_c (by kernel_rfl) (Kp_c (by kernel_rfl) (Kp_c (by kernel_rfl) (Kp_c (by kernel_rfl) (Kp_c (by kernel_rfl) (Kp_c (by kernel_rfl) (Kp_c (by kernel_rfl) (Kp_c (by kernel_rfl) (Kp_c (by kernel_rfl) (Kp_c (by kernel_rfl) (Kp_c (by kernel_rfl) (Kp_c (by kernel_rfl) (Kp_n)))))))))))))))))))))))), ?_⟩
  dsimp only
  exact ⟨hU, Oa, Ob, O1, Ex, Ox, Cx, Lx, Yx, Ey, Oy, Cy, Ly, Yy, Ba, Bb, B1, Bx, By, hzx, hzy⟩
  refine stepR_al (i := 9) (m' := 895) rfl rfl (by kernel_rfl) (by kernel_rfl) (by kernel_rfl) rfl ?_
  intro w23 Ny By hNy hb
  replace By := hide By
  have neay : Na ≠ Ny := by have := Ba.out.lt; omega
  have neby : Nb ≠ Ny := by have := Bb.out.lt; omega
  have ne1y : N1 ≠ Ny := by have := B1.out.lt; omega
  have nexy : Nx ≠ Ny := by have := Bx.out.lt; omega
  replace Oa := hide (RQ.below Oa.out hb)
  replace Ob := hide (RQ.below Ob.out hb)
  replace O1 := hide (RQ.below O1.out hb)
  replace Ox := hide (RQ.below Ox.out hb)
  replace O0 := hide (RQ.below O0.out hb)
  replace Ba := hide (Box.kept Ba.out hb)
  replace Bb := hide (Box.kept Bb.out hb)
  replace B1 := hide (Box.kept B1.out hb)
  replace Bx := hide (Box.kept Bx.out hb)
  have hzy : w.heap.size ≤ Ny := Nat.le_trans hU.size hNy
  clear hNy
  replace hU := hU.trans (hb.mono hU.size)
  clear hb
  refine anyR_call (i := 7) (m' := 1023) rfl rfl (by kernel_rfl) (by kernel_rfl) (by kernel_rfl) (by kernel_rfl) (by kernel_rfl) ((vCond_any A0 l0 c0 s0 Aa Ab la lb ca cb sa sb _ La.out Lb.out Ca Cb Oa.out Ob.out Ya.out Yb.out L0.out C0 O0.out Y0.out (HT.out.kept hU)).mono ?_)
  rintro e w24 ⟨ly, sy, Ay, cy, Ey, rfl, Cy, Oy, hb⟩
  refine ⟨_, rfl, hb, ?_⟩
  replace Oa := hide (RQ.below Oa.out hb)
  replace Ob := hide (RQ.below Ob.out hb)
  replace O1 := hide (RQ.below O1.out hb)
  replace Ox := hide (RQ.below Ox.out hb)
  replace O0 := hide (RQ.below O0.out hb)
  replace Ba := hide (Box.kept Ba.out hb)
  replace Bb := hide (Box.kept Bb.out hb)
  replace B1 := hide (Box.kept B1.out hb)
  replace Bx := hide (Box.kept Bx.out hb)
  replace By := hide (Box.kept By.out hb)
  replace Oy := hide Oy.out.rd
  replace hU := hU.trans (hb.mono hU.size)
  clear hb
  have Gy : Gd ly := by have h := congrArg Vc.b Ey.out; dsimp only at h; rw [h]; exact (by rw [E0.out, of_zero, vCond_0]; exact gd_blB Ya.out Yb.out)
  have Ly := hide (show ly.length ≤ 4096 from Nat.le_trans Gy.le (by decide))
  have Yy := hide Gy.by_
  clear Gy
  replace Ey := hide (show (⟨ly, sy⟩ : Vc) = ⟨blB ⟨la, sa⟩ ⟨lb, sb⟩, sg ⟨la, sa⟩ ⟨lb, sb⟩⟩ from Ey.out.trans (by rw [E0.out, of_zero, vCond_0]))
  clear O0 C0 L0 Y0
  refine anyR_e ?_
  refine anyE_st (i := 10) (m' := 2047) Bx.out rfl rfl (by kernel_rfl) (by kernel_rfl) (by kernel_rfl) (by kernel_rfl) rfl (by kernel_rfl) (A2 := Ax) (m2 := lx.length) (c2 := cx) (s2 := sx) (by kernel_rfl) ?_
  intro w25 hst
  replace Oa := hide (hst.rq Oa.out)
  replace Ob := hide (hst.rq Ob.out)
  replace O1 := hide (hst.rq O1.out)
  replace Ox := hide (hst.rq Ox.out)
  replace Oy := hide (hst.rq Oy.out)
  replace Ba := hide (hst.ne Ba.out (by first | exact neax | exact (Ne.symm nexa) | assumption | (exact Ne.symm (by assumption)) | omega))
  replace Bb := hide (hst.ne Bb.out (by first | exact nebx | exact (Ne.symm nexb) | assumption | (exact Ne.symm (by assumption)) | omega))
  replace B1 := hide (hst.ne B1.out (by first | exact ne1x | exact (Ne.symm nex1) | assumption | (exact Ne.symm (by assumption)) | omega))
  replace By := hide (hst.ne By.out (by first | exact neyx | exact (Ne.symm nexy) | assumption | (exact Ne.symm (by assumption)) | omega))
  replace Bx := hide hst.box
  replace hU := hU.trans (hst.bel hzx)
  clear hst
  refine anyE_st (i := 11) (m' := 4095) By.out rfl rfl (by kernel_rfl) (by kernel_rfl) (by kernel_rfl) (by kernel_rfl) rfl (by kernel_rfl) (A2 := Ay) (m2 := ly.length) (c2 := cy) (s2 := sy) (by kernel_rfl) ?_
  intro w26 hst
  replace Oa := hide (hst.rq Oa.out)
  replace Ob := hide (hst.rq Ob.out)
  replace O1 := hide (hst.rq O1.out)
  replace Ox := hide (hst.rq Ox.out)
  replace Oy := hide (hst.rq Oy.out)
  replace Ba := hide (hst.ne Ba.out (by first | exact neay | exact (Ne.symm neya) | assumption | (exact Ne.symm (by assumption)) | omega))
  replace Bb := hide (hst.ne Bb.out (by first | exact neby | exact (Ne.symm neyb) | assumption | (exact Ne.symm (by assumption)) | omega))
  replace B1 := hide (hst.ne B1.out (by first | exact ne1y | exact (Ne.symm ney1) | assumption | (exact Ne.symm (by assumption)) | omega))
  replace Bx := hide (hst.ne Bx.out (by first | exact nexy | exact (Ne.symm neyx) | assumption | (exact Ne.symm (by assumption)) | omega))
  replace By := hide hst.box
  replace hU := hU.trans (hst.bel hzy)
  clear hst
  refine anyE_done (by kernel_rfl) ?_
  refine then_normal ⟨((lx, sx, Ax, cx), (ly, sy, Ay, cy), Nx, Ny), _, rfl, Kp_c (by kernel_rfl) (Kp_c (by kernel_rfl) (Kp_c (by kernel_rfl) (Kp_c (by kernel_rfl) (Kp_c (by kernel_rfl) (Kp_c (by kernel_rfl) (Kp_c (by kernel_rfl) (Kp_c (by kernel_rfl) (Kp_c (by kernel_rfl) (Kp_c (by kernel_rfl) (Kp_c (by kernel_rfl) (Kp_c (by kernel_rfl) (Kp_c (by kernel_rfl) (Kp_c (by kernel_rfl) (Kp_c (by kernel_rfl) (Kp_c (by kernel_rfl) (Kp_c (by kernel_rfl) (Kp_c (by kernel_rfl) (Kp_c (by kernel_rfl) (Kp_c (by kernel_rfl) (Kp_c (by kernel_rfl) (Kp_c (by kernel_rfl) (Kp_c (by kernel_rfl) (Kp_c (by kernel_rfl) (Kp_n)))))))))))))))))))))))), ?_⟩
  dsimp only
  exact ⟨hU, Oa, Ob, O1, Ex, Ox, Cx, Lx, Yx, Ey, Oy, Cy, Ly, Yy, Ba, Bb, B1, Bx, By, hzx, hzy⟩
  refine stepR_al (i := 9) (m' := 639) rfl rfl (by kernel_rfl) (by kernel_rfl) (by kernel_rfl) rfl ?_
  intro w27 Ny By hNy hb
  replace By := hide By
  have neay : Na ≠ Ny := by have := Ba.out.lt; omega
  have neby : Nb ≠ Ny := by have := Bb.out.lt; omega
  have ne1y : N1 ≠ Ny := by have := B1.out.lt; omega
  replace Oa := hide (RQ.below Oa.out hb)
  replace Ob := hide (RQ.below Ob.out hb)
  replace O1 := hide (RQ.below O1.out hb)
  replace Ox := hide (RQ.below Ox.out hb)
  replace O0 := hide (RQ.below O0.out hb)
  replace Ba := hide (Box.kept Ba.out hb)
  replace Bb := hide (Box.kept Bb.out hb)
  replace B1 := hide (Box.kept B1.out hb)
  have hzy : w.heap.size ≤ Ny := Nat.le_trans hU.size hNy
  clear hNy
  replace hU := hU.trans (hb.mono hU.size)
  clear hb
  refine anyR_split [7, 8] (by kernel_rfl) rfl ⟨?_, ?_, trivial⟩
  refine stepR_call (i := 7) (m' := 767) rfl rfl (by kernel_rfl) (by kernel_rfl) (by kernel_rfl) (by kernel_rfl) ((vCond_any A0 l0 c0 s0 Aa Ab la lb ca cb sa sb _ La.out Lb.out Ca Cb Oa.out Ob.out Ya.out Yb.out L0.out C0 O0.out Y0.out (HT.out.kept hU)).mono ?_)
  rintro e w28 ⟨ly, sy, Ay, cy, Ey, rfl, Cy, Oy, hb⟩
  refine ⟨_, rfl, hb, ?_⟩
  replace Oa := hide (RQ.below Oa.out hb)
  replace Ob := hide (RQ.below Ob.out hb)
  replace O1 := hide (RQ.below O1.out hb)
  replace Ox := hide (RQ.below Ox.out hb)
  replace O0 := hide (RQ.below O0.out hb)
  replace Ba := hide (Box.kept Ba.out hb)
  replace Bb := hide (Box.kept Bb.out hb)
  replace B1 := hide (Box.kept B1.out hb)
  replace By := hide (Box.kept By.out hb)
  replace Oy := hide Oy.out.rd
  replace hU := hU.trans (hb.mono hU.size)
  clear hb
  have Gy : Gd ly := by have h := congrArg Vc.b Ey.out; dsimp only at h; rw [h]; exact (by rw [E0.out, of_zero, vCond_0]; exact gd_blB Ya.out Yb.out)
  have Ly := hide (show ly.length ≤ 4096 from Nat.le_trans Gy.le (by decide))
  have Yy := hide Gy.by_
  clear Gy
  replace Ey := hide (show (⟨ly, sy⟩ : Vc) = ⟨blB ⟨la, sa⟩ ⟨lb, sb⟩, sg ⟨la, sa⟩ ⟨lb, sb⟩⟩ from Ey.out.trans (by rw [E0.out, of_zero, vCond_0]))
  clear O0 C0 L0 Y0
  refine anyR_split [8] (by kernel_rfl) rfl ⟨?_, trivial⟩
  refine stepR_al (i := 8) (m' := 1023) rfl rfl (by kernel_rfl) (by kernel_rfl) (by kernel_rfl) rfl ?_
  intro w29 Nx Bx hNx hb
  replace Bx := hide Bx
  have neax : Na ≠ Nx := by have := Ba.out.lt; omega
  have nebx : Nb ≠ Nx := by have := Bb.out.lt; omega
  have ne1x : N1 ≠ Nx := by have := B1.out.lt; omega
  have neyx : Ny ≠ Nx := by have := By.out.lt; omega
  replace Oa := hide (RQ.below Oa.out hb)
  replace Ob := hide (RQ.below Ob.out hb)
  replace O1 := hide (RQ.below O1.out hb)
  replace Ox := hide (RQ.below Ox.out hb)
  replace Oy := hide (RQ.below Oy.out hb)
  replace Ba := hide (Box.kept Ba.out hb)
  replace Bb := hide (Box.kept Bb.out hb)
  replace B1 := hide (Box.kept B1.out hb)
  replace By := hide (Box.kept By.out hb)
  have hzx : w.heap.size ≤ Nx := Nat.le_trans hU.size hNx
  clear hNx
  replace hU := hU.trans (hb.mono hU.size)
  clear hb
  refine anyR_e ?_
  refine anyE_st (i := 10) (m' := 2047) Bx.out rfl rfl (by kernel_rfl) (by kernel_rfl) (by kernel_rfl) (by kernel_rfl) rfl (by kernel_rfl) (A2 := Ax) (m2 := lx.length) (c2 := cx) (s2 := sx) (by kernel_rfl) ?_
  intro w30 hst
  replace Oa := hide (hst.rq Oa.out)
  replace Ob := hide (hst.rq Ob.out)
  replace O1 := hide (hst.rq O1.out)
  replace Ox := hide (hst.rq Ox.out)
  replace Oy := hide (hst.rq Oy.out)
  replace Ba := hide (hst.ne Ba.out (by first | exact neax | exact (Ne.symm nexa) | assumption | (exact Ne.symm (by assumption)) | omega))
  replace Bb := hide (hst.ne Bb.out (by first | exact nebx | exact (Ne.symm nexb) | assumption | (exact Ne.symm (by assumption)) | omega))
  replace B1 := hide (hst.ne B1.out (by first | exact ne1x | exact (Ne.symm nex1) | assumption | (exact Ne.symm (by assumption)) | omega))
  replace By := hide (hst.ne By.out (by first | exact neyx | exact (Ne.symm nexy) | assumption | (exact Ne.symm (by assumption)) | omega))
  replace Bx := hide hst.box
  replace hU := hU.trans (hst.bel hzx)
  clear hst
  refine anyE_st (i := 11) (m' := 4095) By.out rfl rfl (by kernel_rfl) (by kernel_rfl) (by kernel_rfl) (by kernel_rfl) rfl (by kernel_rfl) (A2 := Ay) (m2 := ly.length) (c2 := cy) (s2 := sy) (by kernel_rfl) ?_
  intro w31 hst
  replace Oa := hide (hst.rq Oa.out)
  replace Ob := hide (hst.rq Ob.out)
  replace O1 := hide (hst.rq O1.out)
  replace Ox := hide (hst.rq Ox.out)
  replace Oy := hide (hst.rq Oy.out)
  replace Ba := hide (hst.ne Ba.out (by first | exact neay | exact (Ne.symm neya) | assumption | (exact Ne.symm (by assumption)) | omega))
  replace Bb := hide (hst.ne Bb.out (by first | exact neby | exact (Ne.symm neyb) | assumption | (exact Ne.symm (by assumption)) | omega))
  replace B1 := hide (hst.ne B1.out (by first | exact ne1y | exact (Ne.symm ney1) | assumption | (exact Ne.symm (by assumption)) | omega))
  replace Bx := hide (hst.ne Bx.out (by first | exact nexy | exact (Ne.symm neyx) | assumption | (exact Ne.symm (by assumption)) | omega))
  replace By := hide hst.box
  replace hU := hU.trans (hst.bel hzy)
  clear hst
  refine anyE_done (by kernel_rfl) ?_
  refine then_normal ⟨((lx, sx, Ax, cx), (ly, sy, Ay, cy), Nx, Ny), _, rfl, Kp_c (by kernel_rfl) (Kp_c (by kernel_rfl) (Kp_c (by kernel_rfl) (Kp_c (by kernel_rfl) (Kp_c (by kernel_rfl) (Kp_c (by kernel_rfl) (Kp_c (by kernel_rfl) (Kp_c (by kernel_rfl) (Kp_c (by kernel_rfl) (Kp_c (by kernel_rfl) (Kp_c (by kernel_rfl) (Kp_c (by kernel_rfl) (Kp_c (by kernel_rfl) (Kp_c (by kernel_rfl) (Kp_c (by kernel_rfl) (Kp_c (by kernel_rfl) (Kp_c (by kernel_rfl) (Kp_c (by kernel_rfl) (Kp_c (by kernel_rfl) (Kp_c (by kernel_rfl) (Kp_c (by kernel_rfl) (Kp_c (by kernel_rfl) (Kp_c (by kernel_rfl) (Kp_c (by kernel_rfl) (Kp_n)))))))))))))))))))))))), ?_⟩
  dsimp only
  exact ⟨hU, Oa, Ob, O1, Ex, Ox, Cx, Lx, Yx, Ey, Oy, Cy, Ly, Yy, Ba, Bb, B1, Bx, By, hzx, hzy⟩
  refine stepR_al (i := 8) (m' := 895) rfl rfl (by kernel_rfl) (by kernel_rfl) (by kernel_rfl) rfl ?_
  intro w32 Nx Bx hNx hb
  replace Bx := hide Bx
  have neax : Na ≠ Nx := by have := Ba.out.lt; omega
  have nebx : Nb ≠ Nx := by have := Bb.out.lt; omega
  have ne1x : N1 ≠ Nx := by have := B1.out.lt; omega
  have neyx : Ny ≠ Nx := by have := By.out.lt; omega
  replace Oa := hide (RQ.below Oa.out hb)
  replace Ob := hide (RQ.below Ob.out hb)
  replace O1 := hide (RQ.below O1.out hb)
  replace Ox := hide (RQ.below Ox.out hb)
  replace O0 := hide (RQ.below O0.out hb)
  replace Ba := hide (Box.kept Ba.out hb)
  replace Bb := hide (Box.kept Bb.out hb)
  replace B1 := hide (Box.kept B1.out hb)
  replace By := hide (Box.kept By.out hb)
  have hzx : w.heap.size ≤ Nx := Nat.le_trans hU.size hNx
  clear hNx
  replace hU := hU.trans (hb.mono hU.size)
  clear hb
  refine anyR_call (i := 7) (m' := 1023) rfl rfl (by kernel_rfl) (by kernel_rfl) (by kernel_rfl) (by kernel_rfl) (by kernel_rfl) ((vCond_any A0 l0 c0 s0 Aa Ab la lb ca cb sa sb _ La.out Lb.out Ca Cb Oa.out Ob.out Ya.out Yb.out L0.out C0 O0.out Y0.out (HT.out.kept hU)).mono ?_)
  rintro e w33 ⟨ly, sy, Ay, cy, Ey, rfl, Cy, Oy, hb⟩
  refine ⟨_, rfl, hb, ?_⟩
  replace Oa := hide (RQ.below Oa.out hb)
  replace Ob := hide (RQ.below Ob.out hb)
  replace O1 := hide (RQ.below O1.out hb)
  replace Ox := hide (RQ.below Ox.out hb)
  replace O0 := hide (RQ.below O0.out hb)
  replace Ba := hide (Box.kept Ba.out hb)
  replace Bb := hide (Box.kept Bb.out hb)
  replace B1 := hide (Box.kept B1.out hb)
  replace By := hide (Box.kept By.out hb)
  replace Bx := hide (Box.kept Bx.out hb)
  replace Oy := hide Oy.out.rd
  replace hU := hU.trans (hb.mono hU.size)
  clear hb
  have Gy : Gd ly := by have h := congrArg Vc.b Ey.out; dsimp only at h; rw [h]; exact (by rw [E0.out, of_zero, vCond_0]; exact gd_blB Ya.out Yb.out)
  have Ly := hide (show ly.length ≤ 4096 from Nat.le_trans Gy.le (by decide))
  have Yy := hide Gy.by_
  clear Gy
  replace Ey := hide (show (⟨ly, sy⟩ : Vc) = ⟨blB ⟨la, sa⟩ ⟨lb, sb⟩, sg ⟨la, sa⟩ ⟨lb, sb⟩⟩ from Ey.out.trans (by rw [E0.out, of_zero, vCond_0]))
  clear O0 C0 L0 Y0
  refine anyR_e ?_
  refine anyE_st (i := 10) (m' := 2047) Bx.out rfl rfl (by kernel_rfl) (by kernel_rfl) (by kernel_rfl) (by kernel_rfl) rfl (by kernel_rfl) (A2 := Ax) (m2 := lx.length) (c2 := cx) (s2 := sx) (by kernel_rfl) ?_
  intro w34 hst
  replace Oa := hide (hst.rq Oa.out)
  replace Ob := hide (hst.rq Ob.out)
  replace O1 := hide (hst.rq O1.out)
  replace Ox := hide (hst.rq Ox.out)
  replace Oy := hide (hst.rq Oy.out)
  replace Ba := hide (hst.ne Ba.out (by first | exact neax | exact (Ne.symm nexa) | assumption | (exact Ne.symm (by assumption)) | omega))
  replace Bb := hide (hst.ne Bb.out (by first | exact nebx | exact (Ne.symm nexb) | assumption | (exact Ne.symm (by assumption)) | omega))
  replace B1 := hide (hst.ne B1.out (by first | exact ne1x | exact (Ne.symm nex1) | assumption | (exact Ne.symm (by assumption)) | omega))
  replace By := hide (hst.ne By.out (by first | exact neyx | exact (Ne.symm nexy) | assumption | (exact Ne.symm (by assumption)) | omega))
  replace Bx := hide hst.box
  replace hU := hU.trans (hst.bel hzx)
  clear hst
  refine anyE_st (i := 11) (m' := 4095) By.out rfl rfl (by kernel_rfl) (by kernel_rfl) (by kernel_rfl) (by kernel_rfl) rfl (by kernel_rfl) (A2 := Ay) (m2 := ly.length) (c2 := cy) (s2 := sy) (by kernel_rfl) ?_
  intro w35 hst
  replace Oa := hide (hst.rq Oa.out)
  replace Ob := hide (hst.rq Ob.out)
  replace O1 := hide (hst.rq O1.out)
  replace Ox := hide (hst.rq Ox.out)
  replace Oy := hide (hst.rq Oy.out)
  replace Ba := hide (hst.ne Ba.out (by first | exact neay | exact (Ne.symm neya) | assumption | (exact Ne.symm (by assumption)) | omega))
  replace Bb := hide (hst.ne Bb.out (by first | exact neby | exact (Ne.symm neyb) | assumption | (exact Ne.symm (by assumption)) | omega))
  replace B1 := hide (hst.ne B1.out (by first | exact ne1y | exact (Ne.symm ney1) | assumption | (exact Ne.symm (by assumption)) | omega))
  replace Bx := hide (hst.ne Bx.out (by first | exact nexy | exact (Ne.symm neyx) | assumption | (exact Ne.symm (by assumption)) | omega))
  replace By := hide hst.box
  replace hU := hU.trans (hst.bel hzy)
  clear hst
  refine anyE_done (by kernel_rfl) ?_
  refine then_normal ⟨((lx, sx, Ax, cx), (ly, sy, Ay, cy), Nx, Ny), _, rfl, Kp_c (by kernel_rfl) (Kp_c (by kernel_rfl) (Kp_c (by kernel_rfl) (Kp_c (by kernel_rfl) (Kp_c (by kernel_rfl) (Kp_c (by kernel_rfl) (Kp_c (by kernel_rfl) (Kp_c (by kernel_rfl) (Kp_c (by kernel_rfl) (Kp_c (by kernel_rfl) (Kp_c (by kernel_rfl) (Kp_c (by kernel_rfl) (Kp_c (by kernel_rfl) (Kp_c (by kernel_rfl) (Kp_c (by kernel_rfl) (Kp_c (by kernel_rfl) (Kp_c (by kernel_rfl) (Kp_c (by kernel_rfl) (Kp_c (by kernel_rfl) (Kp_c (by kernel_rfl) (Kp_c (by kernel_rfl) (Kp_c (by kernel_rfl) (Kp_c (by kernel_rfl) (Kp_c (by kernel_rfl) (Kp_n)))))))))))))))))))))))), ?_⟩
  dsimp only
  exact ⟨hU, Oa, Ob, O1, Ex, Ox, Cx, Lx, Yx, Ey, Oy, Cy, Ly, Yy, Ba, Bb, B1, Bx, By, hzx, hzy⟩
  refine stepR_al (i := 8) (m' := 367) rfl rfl (by kernel_rfl) (by kernel_rfl) (by kernel_rfl) rfl ?_
  intro w36 Nx Bx hNx hb
  replace Bx := hide Bx
  have neax : Na ≠ Nx := by have := Ba.out.lt; omega
  have nebx : Nb ≠ Nx := by have := Bb.out.lt; omega
  have ne1x : N1 ≠ Nx := by have := B1.out.lt; omega
  replace Oa := hide (RQ.below Oa.out hb)
  replace Ob := hide (RQ.below Ob.out hb)
  replace O1 := hide (RQ.below O1.out hb)
  replace Ox := hide (RQ.below Ox.out hb)
  replace Ba := hide (Box.kept Ba.out hb)
  replace Bb := hide (Box.kept Bb.out hb)
  replace B1 := hide (Box.kept B1.out hb)
  have hzx : w.heap.size ≤ Nx := Nat.le_trans hU.size hNx
  clear hNx
  replace hU := hU.trans (hb.mono hU.size)
  clear hb
  refine anyR_split [4, 9] (by kernel_rfl) rfl ⟨?_, ?_, trivial⟩
  refine stepR_call (i := 4) (m' := 383) rfl rfl (by kernel_rfl) (by kernel_rfl) (by kernel_rfl) (by kernel_rfl) ((vof_any ⟨#[48]⟩ _ (by decide)).mono ?_)
  rintro e w37 ⟨l0, s0, A0, c0, E0, rfl, C0, O0, hb⟩
  refine ⟨_, rfl, hb, ?_⟩
  replace Oa := hide (RQ.below Oa.out hb)
  replace Ob := hide (RQ.below Ob.out hb)
  replace O1 := hide (RQ.below O1.out hb)
  replace Ox := hide (RQ.below Ox.out hb)
  replace Ba := hide (Box.kept Ba.out hb)
  replace Bb := hide (Box.kept Bb.out hb)
  replace B1 := hide (Box.kept B1.out hb)
  replace Bx := hide (Box.kept Bx.out hb)
  replace O0 := hide O0.out.rd
  replace hU := hU.trans (hb.mono hU.size)
  clear hb
  have G0 : Gd l0 := by have h := congrArg Vc.b E0.out; dsimp only at h; rw [h]; exact gd_of (by decide +kernel)
  have L0 := hide (show l0.length ≤ 4096 from Nat.le_trans G0.le (by decide))
  have Y0 := hide G0.by_
  clear G0
  refine anyR_split [7, 9] (by kernel_rfl) rfl ⟨?_, ?_, trivial⟩
  refine stepR_call (i := 7) (m' := 511) rfl rfl (by kernel_rfl) (by kernel_rfl) (by kernel_rfl) (by kernel_rfl) ((vCond_any A0 l0 c0 s0 Aa Ab la lb ca cb sa sb _ La.out Lb.out Ca Cb Oa.out Ob.out Ya.out Yb.out L0.out C0 O0.out Y0.out (HT.out.kept hU)).mono ?_)
  rintro e w38 ⟨ly, sy, Ay, cy, Ey, rfl, Cy, Oy, hb⟩
  refine ⟨_, rfl, hb, ?_⟩
  replace Oa := hide (RQ.below Oa.out hb)
  replace Ob := hide (RQ.below Ob.out hb)
  replace O1 := hide (RQ.below O1.out hb)
  replace Ox := hide (RQ.below Ox.out hb)
  replace O0 := hide (RQ.below O0.out hb)
  replace Ba := hide (Box.kept Ba.out hb)
  replace Bb := hide (Box.kept Bb.out hb)
  replace B1 := hide (Box.kept B1.out hb)
  replace Bx := hide (Box.kept Bx.out hb)
  replace Oy := hide Oy.out.rd
  replace hU := hU.trans (hb.mono hU.size)
  clear hb
  have Gy : Gd ly := by have h := congrArg Vc.b Ey.out; dsimp only at h; rw [h]; exact (by rw [E0.out, of_zero, vCond_0]; exact gd_blB Ya.out Yb.out)
  have Ly := hide (show ly.length ≤ 4096 from Nat.le_trans Gy.le (by decide))
  have Yy := hide Gy.by_
  clear Gy
  replace Ey := hide (show (⟨ly, sy⟩ : Vc) = ⟨blB ⟨la, sa⟩ ⟨lb, sb⟩, sg ⟨la, sa⟩ ⟨lb, sb⟩⟩ from Ey.out.trans (by rw [E0.out, of_zero, vCond_0]))
  clear O0 C0 L0 Y0
  refine anyR_split [9] (by kernel_rfl) rfl ⟨?_, trivial⟩
  refine stepR_al (i := 9) (m' := 1023) rfl rfl (by kernel_rfl) (by kernel_rfl) (by kernel_rfl) rfl ?_
  intro w39 Ny By hNy hb
  replace By := hide By
  have neay : Na ≠ Ny := by have := Ba.out.lt; omega
  have neby : Nb ≠ Ny := by have := Bb.out.lt; omega
  have ne1y : N1 ≠ Ny := by have := B1.out.lt; omega
  have nexy : Nx ≠ Ny := by have := Bx.out.lt; omega
  replace Oa := hide (RQ.below Oa.out hb)
  replace Ob := hide (RQ.below Ob.out hb)
  replace O1 := hide (RQ.below O1.out hb)
  replace Ox := hide (RQ.below Ox.out hb)
  replace Oy := hide (RQ.below Oy.out hb)
  replace Ba := hide (Box.kept Ba.out hb)
  replace Bb := hide (Box.kept Bb.out hb)
  replace B1 := hide (Box.kept B1.out hb)
  replace Bx := hide (Box.kept Bx.out hb)
  have hzy : w.heap.size ≤ Ny := Nat.le_trans hU.size hNy
  clear hNy
  replace hU := hU.trans (hb.mono hU.size)
  clear hb
  refine anyR_e ?_
  refine anyE_st (i := 10) (m' := 2047) Bx.out rfl rfl (by kernel_rfl) (by kernel_rfl) (by kernel_rfl) (by kernel_rfl) rfl (by kernel_rfl) (A2 := Ax) (m2 := lx.length) (c2 := cx) (s2 := sx) (by kernel_rfl) ?_
  intro w40 hst
  replace Oa := hide (hst.rq Oa.out)
  replace Ob := hide (hst.rq Ob.out)
  replace O1 := hide (hst.rq O1.out)
  replace Ox := hide (hst.rq Ox.out)
  replace Oy := hide (hst.rq Oy.out)
  replace Ba := hide (hst.ne Ba.out (by first | exact neax | exact (Ne.symm nexa) | assumption | (exact Ne.symm (by assumption)) | omega))
  replace Bb := hide (hst.ne Bb.out (by first | exact nebx | exact (Ne.symm nexb) | assumption | (exact Ne.symm (by assumption)) | omega))
  replace B1 := hide (hst.ne B1.out (by first | exact ne1x | exact (Ne.symm nex1) | assumption | (exact Ne.symm (by assumption)) | omega))
  replace By := hide (hst.ne By.out (by first | exact neyx | exact (Ne.symm nexy) | assumption | (exact Ne.symm (by assumption)) | omega))
  replace Bx := hide hst.box
  replace hU := hU.trans (hst.bel hzx)
  clear hst
  refine anyE_st (i := 11) (m' := 4095) By.out rfl rfl (by kernel_rfl) (by kernel_rfl) (by kernel_rfl) (by kernel_rfl) rfl (by kernel_rfl) (A2 := Ay) (m2 := ly.length) (c2 := cy) (s2 := sy) (by kernel_rfl) ?_
  intro w41 hst
  replace Oa := hide (hst.rq Oa.out)
  replace Ob := hide (hst.rq Ob.out)
  replace O1 := hide (hst.rq O1.out)
  replace Ox := hide (hst.rq Ox.out)
  replace Oy := hide (hst.rq Oy.out)
  replace Ba := hide (hst.ne Ba.out (by first | exact neay | exact (Ne.symm neya) | assumption | (exact Ne.symm (by assumption)) | omega))
  replace Bb := hide (hst.ne Bb.out (by first | exact neby | exact (Ne.symm neyb) | assumption | (exact Ne.symm (by assumption)) | omega))
  replace B1 := hide (hst.ne B1.out (by first | exact ne1y | exact (Ne.symm ney1) | assumption | (exact Ne.symm (by assumption)) | omega))
  replace Bx := hide (hst.ne Bx.out (by first | exact nexy | exact (Ne.symm neyx) | assumption | (exact Ne.symm (by assumption)) | omega))
  replace By := hide hst.box
  replace hU := hU.trans (hst.bel hzy)
  clear hst
  refine anyE_done (by kernel_rfl) ?_
  refine then_normal ⟨((lx, sx, Ax, cx), (ly, sy, Ay, cy), Nx, Ny), _, rfl, Kp_c (by kernel_rfl) (Kp_c (by kernel_rfl) (Kp_c (by kernel_rfl) (Kp_c (by kernel_rfl) (Kp_c (by kernel_rfl) (Kp_c (by kernel_rfl) (Kp_c (by kernel_rfl) (Kp_c (by kernel_rfl) (Kp_c (by kernel_rfl) (Kp_c (by kernel_rfl) (Kp_c (by kernel_rfl) (Kp_c (by kernel_rfl) (Kp_c (by kernel_rfl) (Kp_c (by kernel_rfl) (Kp_c (by kernel_rfl) (Kp_c (by kernel_rfl) (Kp_c (by kernel_rfl) (Kp_c (by kernel_rfl) (Kp_c (by kernel_rfl) (Kp_c (by kernel_rfl) (Kp_c (by kernel_rfl) (Kp_c (by kernel_rfl) (Kp_c (by kernel_rfl) (Kp_c (by kernel_rfl) (Kp_n)))))))))))))))))))))))), ?_⟩
  dsimp only
  exact ⟨hU, Oa, Ob, O1, Ex, Ox, Cx, Lx, Yx, Ey, Oy, Cy, Ly, Yy, Ba, Bb, B1, Bx, By, hzx, hzy⟩
  refine stepR_al (i := 9) (m' := 895) rfl rfl (by kernel_rfl) (by kernel_rfl) (by kernel_rfl) rfl ?_
  intro w42 Ny By hNy hb
  replace By := hide By
  have neay : Na ≠ Ny := by have := Ba.out.lt; omega
  have neby : Nb ≠ Ny := by have := Bb.out.lt; omega
  have ne1y : N1 ≠ Ny := by have := B1.out.lt; omega
  have nexy : Nx ≠ Ny := by have := Bx.out.lt; omega
  replace Oa := hide (RQ.below Oa.out hb)
  replace Ob := hide (RQ.below Ob.out hb)
  replace O1 := hide (RQ.below O1.out hb)
  replace Ox := hide (RQ.below Ox.out hb)
  replace O0 := hide (RQ.below O0.out hb)
  replace Ba := hide (Box.kept Ba.out hb)
  replace Bb := hide (Box.kept Bb.out hb)
  replace B1 := hide (Box.kept B1.out hb)
  replace Bx := hide (Box.kept Bx.out hb)
  have hzy : w.heap.size ≤ Ny := Nat.le_trans hU.size hNy
  clear hNy
  replace hU := hU.trans (hb.mono hU.size)
  clear hb
  refine anyR_call (i := 7) (m' := 1023) rfl rfl (by kernel_rfl) (by kernel_rfl) (by kernel_rfl) (by kernel_rfl) (by kernel_rfl) ((vCond_any A0 l0 c0 s0 Aa Ab la lb ca cb sa sb _ La.out Lb.out Ca Cb Oa.out Ob.out Ya.out Yb.out L0.out C0 O0.out Y0.out (HT.out.kept hU)).mono ?_)
  rintro e w43 ⟨ly, sy, Ay, cy, Ey, rfl, Cy, Oy, hb⟩
  refine ⟨_, rfl, hb, ?_⟩
  replace Oa := hide (RQ.below Oa.out hb)
  replace Ob := hide (RQ.below Ob.out hb)
  replace O1 := hide (RQ.below O1.out hb)
  replace Ox := hide (RQ.below Ox.out hb)
  replace O0 := hide (RQ.below O0.out hb)
  replace Ba := hide (Box.kept Ba.out hb)
  replace Bb := hide (Box.kept Bb.out hb)
  replace B1 := hide (Box.kept B1.out hb)
  replace Bx := hide (Box.kept Bx.out hb)
  replace By := hide (Box.kept By.out hb)
  replace Oy := hide Oy.out.rd
  replace hU := hU.trans (hb.mono hU.size)
  clear hb
  have Gy : Gd ly := by have h := congrArg Vc.b Ey.out; dsimp only at h; rw [h]; exact (by rw [E0.out, of_zero, vCond_0]; exact gd_blB Ya.out Yb.out)
  have Ly := hide (show ly.length ≤ 4096 from Nat.le_trans Gy.le (by decide))
  have Yy := hide Gy.by_
  clear Gy
  replace Ey := hide (show (⟨ly, sy⟩ : Vc) = ⟨blB ⟨la, sa⟩ ⟨lb, sb⟩, sg ⟨la, sa⟩ ⟨lb, sb⟩⟩ from Ey.out.trans (by rw [E0.out, of_zero, vCond_0]))
  clear O0 C0 L0 Y0
  refine anyR_e ?_
  refine anyE_st (i := 10) (m' := 2047) Bx.out rfl rfl (by kernel_rfl) (by kernel_rfl) (by kernel_rfl) (by kernel_rfl) rfl (by kernel_rfl) (A2 := Ax) (m2 := lx.length) (c2 := cx) (s2 := sx) (by kernel_rfl) ?_
  intro w44 hst
  replace Oa := hide (hst.rq Oa.out)
  replace Ob := hide (hst.rq Ob.out)
  replace O1 := hide (hst.rq O1.out)
  replace Ox := hide (hst.rq Ox.out)
  replace Oy := hide (hst.rq Oy.out)
  replace Ba := hide (hst.ne Ba.out (by first | exact neax | exact (Ne.symm nexa) | assumption | (exact Ne.symm (by assumption)) | omega))
  replace Bb := hide (hst.ne Bb.out (by first | exact nebx | exact (Ne.symm nexb) | assumption | (exact Ne.symm (by assumption)) | omega))
  replace B1 := hide (hst.ne B1.out (by first | exact ne1x | exact (Ne.symm nex1) | assumption | (exact Ne.symm (by assumption)) | omega))
  replace By := hide (hst.ne By.out (by first | exact neyx | exact (Ne.symm nexy) | assumption | (exact Ne.symm (by assumption)) | omega))
  replace Bx := hide hst.box
  replace hU := hU.trans (hst.bel hzx)
  clear hst
  refine anyE_st (i := 11) (m' := 4095) By.out rfl rfl (by kernel_rfl) (by kernel_rfl) (by kernel_rfl) (by kernel_rfl) rfl (by kernel_rfl) (A2 := Ay) (m2 := ly.length) (c2 := cy) (s2 := sy) (by kernel_rfl) ?_
  intro w45 hst
  replace Oa := hide (hst.rq Oa.out)
  replace Ob := hide (hst.rq Ob.out)
  replace O1 := hide (hst.rq O1.out)
  replace Ox := hide (hst.rq Ox.out)
  replace Oy := hide (hst.rq Oy.out)
  replace Ba := hide (hst.ne Ba.out (by first | exact neay | exact (Ne.symm neya) | assumption | (exact Ne.symm (by assumption)) | omega))
  replace Bb := hide (hst.ne Bb.out (by first | exact neby | exact (Ne.symm neyb) | assumption | (exact Ne.symm (by assumption)) | omega))
  replace B1 := hide (hst.ne B1.out (by first | exact ne1y | exact (Ne.symm ney1) | assumption | (exact Ne.symm (by assumption)) | omega))
  replace Bx := hide (hst.ne Bx.out (by first | exact nexy | exact (Ne.symm neyx) | assumption | (exact Ne.symm (by assumption)) | omega))
  replace By := hide hst.box
  replace hU := hU.trans (hst.bel hzy)
  clear hst
  refine anyE_done (by kernel_rfl) ?_
  refine then_normal ⟨((lx, sx, Ax, cx), (ly, sy, Ay, cy), Nx, Ny), _, rfl, Kp_c (by kernel_rfl) (Kp_c (by kernel_rfl) (Kp_c (by kernel_rfl) (Kp_c (by kernel_rfl) (Kp_c (by kernel_rfl) (Kp_c (by kernel_rfl) (Kp_c (by kernel_rfl) (Kp_c (by kernel_rfl) (Kp_c (by kernel_rfl) (Kp_c (by kernel_rfl) (Kp_c (by kernel_rfl) (Kp_c (by kernel_rfl) (Kp_c (by kernel_rfl) (Kp_c (by kernel_rfl) (Kp_c (by kernel_rfl) (Kp_c (by kernel_rfl) (Kp_c (by kernel_rfl) (Kp_c (by kernel_rfl) (Kp_c (by kernel_rfl) (Kp_c (by kernel_rfl) (Kp_c (by kernel_rfl) (Kp_c (by kernel_rfl) (Kp_c (by kernel_rfl) (Kp_c (by kernel_rfl) (Kp_n)))))))))))))))))))))))), ?_⟩
  dsimp only
  exact ⟨hU, Oa, Ob, O1, Ex, Ox, Cx, Lx, Yx, Ey, Oy, Cy, Ly, Yy, Ba, Bb, B1, Bx, By, hzx, hzy⟩
  refine stepR_al (i := 9) (m' := 879) rfl rfl (by kernel_rfl) (by kernel_rfl) (by kernel_rfl) rfl ?_
  intro w46 Ny By hNy hb
  replace By := hide By
  have neay : Na ≠ Ny := by have := Ba.out.lt; omega
  have neby : Nb ≠ Ny := by have := Bb.out.lt; omega
  have ne1y : N1 ≠ Ny := by have := B1.out.lt; omega
  have nexy : Nx ≠ Ny := by have := Bx.out.lt; omega
  replace Oa := hide (RQ.below Oa.out hb)
  replace Ob := hide (RQ.below Ob.out hb)
  replace O1 := hide (RQ.below O1.out hb)
  replace Ox := hide (RQ.below Ox.out hb)
  replace Ba := hide (Box.kept Ba.out hb)
  replace Bb := hide (Box.kept Bb.out hb)
  replace B1 := hide (Box.kept B1.out hb)
  replace Bx := hide (Box.kept Bx.out hb)
  have hzy : w.heap.size ≤ Ny := Nat.le_trans hU.size hNy
  clear hNy
  replace hU := hU.trans (hb.mono hU.size)
  clear hb
  refine anyR_call (i := 4) (m' := 895) rfl rfl (by kernel_rfl) (by kernel_rfl) (by kernel_rfl) (by kernel_rfl) (by kernel_rfl) ((vof_any ⟨#[48]⟩ _ (by decide)).mono ?_)
  rintro e w47 ⟨l0, s0, A0, c0, E0, rfl, C0, O0, hb⟩
  refine ⟨_, rfl, hb, ?_⟩
  replace Oa := hide (RQ.below Oa.out hb)
  replace Ob := hide (RQ.below Ob.out hb)
  replace O1 := hide (RQ.below O1.out hb)
  replace Ox := hide (RQ.below Ox.out hb)
  replace Ba := hide (Box.kept Ba.out hb)
  replace Bb := hide (Box.kept Bb.out hb)
  replace B1 := hide (Box.kept B1.out hb)
  replace Bx := hide (Box.kept Bx.out hb)
  replace By := hide (Box.kept By.out hb)
  replace O0 := hide O0.out.rd
  replace hU := hU.trans (hb.mono hU.size)
  clear hb
  have G0 : Gd l0 := by have h := congrArg Vc.b E0.out; dsimp only at h; rw [h]; exact gd_of (by decide +kernel)
  have L0 := hide (show l0.length ≤ 4096 from Nat.le_trans G0.le (by decide))
  have Y0 := hide G0.by_
  clear G0
  refine anyR_call (i := 7) (m' := 1023) rfl rfl (by kernel_rfl) (by kernel_rfl) (by kernel_rfl) (by kernel_rfl) (by kernel_rfl) ((vCond_any A0 l0 c0 s0 Aa Ab la lb ca cb sa sb _ La.out Lb.out Ca Cb Oa.out Ob.out Ya.out Yb.out L0.out C0 O0.out Y0.out (HT.out.kept hU)).mono ?_)
  rintro e w48 ⟨ly, sy, Ay, cy, Ey, rfl, Cy, Oy, hb⟩
  refine ⟨_, rfl, hb, ?_⟩
  replace Oa := hide (RQ.below Oa.out hb)
  replace Ob := hide (RQ.below Ob.out hb)
  replace O1 := hide (RQ.below O1.out hb)
  replace Ox := hide (RQ.below Ox.out hb)
  replace O0 := hide (RQ.below O0.out hb)
  replace Ba := hide (Box.kept Ba.out hb)
  replace Bb := hide (Box.kept Bb.out hb)
  replace B1 := hide (Box.kept B1.out hb)
  replace Bx := hide (Box.kept Bx.out hb)
  replace By := hide (Box.kept By.out hb)
  replace Oy := hide Oy.out.rd
  replace hU := hU.trans (hb.mono hU.size)
  clear hb
  have Gy : Gd ly := by have h := congrArg Vc.b Ey.out; dsimp only at h; rw [h]; exact (by rw [E0.out, of_zero, vCond_0]; exact gd_blB Ya.out Yb.out)
  have Ly := hide (show ly.length ≤ 4096 from Nat.le_trans Gy.le (by decide))
  have Yy := hide Gy.by_
  clear Gy
  replace Ey := hide (show (⟨ly, sy⟩ : Vc) = ⟨blB ⟨la, sa⟩ ⟨lb, sb⟩, sg ⟨la, sa⟩ ⟨lb, sb⟩⟩ from Ey.out.trans (by rw [E0.out, of_zero, vCond_0]))
  clear O0 C0 L0 Y0
  refine anyR_e ?_
  refine anyE_st (i := 10) (m' := 2047) Bx.out rfl rfl (by kernel_rfl) (by kernel_rfl) (by kernel_rfl) (by kernel_rfl) rfl (by kernel_rfl) (A2 := Ax) (m2 := lx.length) (c2 := cx) (s2 := sx) (by kernel_rfl) ?_
  intro w49 hst
  replace Oa := hide (hst.rq Oa.out)
  replace Ob := hide (hst.rq Ob.out)
  replace O1 := hide (hst.rq O1.out)
  replace Ox := hide (hst.rq Ox.out)
  replace Oy := hide (hst.rq Oy.out)
  replace Ba := hide (hst.ne Ba.out (by first | exact neax | exact (Ne.symm nexa) | assumption | (exact Ne.symm (by assumption)) | omega))
  replace Bb := hide (hst.ne Bb.out (by first | exact nebx | exact (Ne.symm nexb) | assumption | (exact Ne.symm (by assumption)) | omega))
  replace B1 := hide (hst.ne B1.out (by first | exact ne1x | exact (Ne.symm nex1) | assumption | (exact Ne.symm (by assumption)) | omega))
  replace By := hide (hst.ne By.out (by first | exact neyx | exact (Ne.symm nexy) | assumption | (exact Ne.symm (by assumption)) | omega))
  replace Bx := hide hst.box
  replace hU := hU.trans (hst.bel hzx)
  clear hst
  refine anyE_st (i := 11) (m' := 4095) By.out rfl rfl (by kernel_rfl) (by kernel_rfl) (by kernel_rfl) (by kernel_rfl) rfl (by kernel_rfl) (A2 := Ay) (m2 := ly.length) (c2 := cy) (s2 := sy) (by kernel_rfl) ?_
  intro w50 hst
  replace Oa := hide (hst.rq Oa.out)
  replace Ob := hide (hst.rq Ob.out)
  replace O1 := hide (hst.rq O1.out)
  replace Ox := hide (hst.rq Ox.out)
  replace Oy := hide (hst.rq Oy.out)
  replace Ba := hide (hst.ne Ba.out (by first | exact neay | exact (Ne.symm neya) | assumption | (exact Ne.symm (by assumption)) | omega))
  replace Bb := hide (hst.ne Bb.out (by first | exact neby | exact (Ne.symm neyb) | assumption | (exact Ne.symm (by assumption)) | omega))
  replace B1 := hide (hst.ne B1.out (by first | exact ne1y | exact (Ne.symm ney1) | assumption | (exact Ne.symm (by assumption)) | omega))
  replace Bx := hide (hst.ne Bx.out (by first | exact nexy | exact (Ne.symm neyx) | assumption | (exact Ne.symm (by assumption)) | omega))
  replace By := hide hst.box
  replace hU := hU.trans (hst.bel hzy)
  clear hst
  refine anyE_done (by kernel_rfl) ?_
  refine then_normal ⟨((lx, sx, Ax, cx), (ly, sy, Ay, cy), Nx, Ny), _, rfl, Kp_c (by kernel_rfl) (Kp_c (by kernel_rfl) (Kp_c (by kernel_rfl) (Kp_c (by kernel_rfl) (Kp_c (by kernel_rfl) (Kp_c (by kernel_rfl) (Kp_c (by kernel_rfl) (Kp_c (by kernel_rfl) (Kp_c (by kernel_rfl) (Kp_c (by kernel_rfl) (Kp_c (by kernel_rfl) (Kp_c (by kernel_rfl) (Kp_c (by kernel_rfl) (Kp_c (by kernel_rfl) (Kp_c (by kernel_rfl) (Kp_c (by kernel_rfl) (Kp_c (by kernel_rfl) (Kp_c (by kernel_rfl) (Kp_c (by kernel_rfl) (Kp_c (by kernel_rfl) (Kp_c (by kernel_rfl) (Kp_c (by kernel_rfl) (Kp_c (by kernel_rfl) (Kp_c (by kernel_rfl) (Kp_n)))))))))))))))))))))))), ?_⟩
  dsimp only
  exact ⟨hU, Oa, Ob, O1, Ex, Ox, Cx, Lx, Yx, Ey, Oy, Cy, Ly, Yy, Ba, Bb, B1, Bx, By, hzx, hzy⟩
  refine stepR_al (i := 9) (m' := 623) rfl rfl (by kernel_rfl) (by kernel_rfl) (by kernel_rfl) rfl ?_
  intro w51 Ny By hNy hb
  replace By := hide By
  have neay : Na ≠ Ny := by have := Ba.out.lt; omega
  have neby : Nb ≠ Ny := by have := Bb.out.lt; omega
  have ne1y : N1 ≠ Ny := by have := B1.out.lt; omega
  replace Oa := hide (RQ.below Oa.out hb)
  replace Ob := hide (RQ.below Ob.out hb)
  replace O1 := hide (RQ.below O1.out hb)
  replace Ox := hide (RQ.below Ox.out hb)
  replace Ba := hide (Box.kept Ba.out hb)
  replace Bb := hide (Box.kept Bb.out hb)
  replace B1 := hide (Box.kept B1.out hb)
  have hzy : w.heap.size ≤ Ny := Nat.le_trans hU.size hNy
  clear hNy
  replace hU := hU.trans (hb.mono hU.size)
  clear hb
  refine anyR_split [4, 8] (by kernel_rfl) rfl ⟨?_, ?_, trivial⟩
  refine stepR_call (i := 4) (m' := 639) rfl rfl (by kernel_rfl) (by kernel_rfl) (by kernel_rfl) (by kernel_rfl) ((vof_any ⟨#[48]⟩ _ (by decide)).mono ?_)
  rintro e w52 ⟨l0, s0, A0, c0, E0, rfl, C0, O0, hb⟩
  refine ⟨_, rfl, hb, ?_⟩
  replace Oa := hide (RQ.below Oa.out hb)
  replace Ob := hide (RQ.below Ob.out hb)
  replace O1 := hide (RQ.below O1.out hb)
  replace Ox := hide (RQ.below Ox.out hb)
  replace Ba := hide (Box.kept Ba.out hb)
  replace Bb := hide (Box.kept Bb.out hb)
  replace B1 := hide (Box.kept B1.out hb)
  replace By := hide (Box.kept By.out hb)
  replace O0 := hide O0.out.rd
  replace hU := hU.trans (hb.mono hU.size)
  clear hb
  have G0 : Gd l0 := by have h := congrArg Vc.b E0.out; dsimp only at h; rw [h]; exact gd_of (by decide +kernel)
  have L0 := hide (show l0.length ≤ 4096 from Nat.le_trans G0.le (by decide))
  have Y0 := hide G0.by_
  clear G0
  refine anyR_split [7, 8] (by kernel_rfl) rfl ⟨?_, ?_, trivial⟩
  refine stepR_call (i := 7) (m' := 767) rfl rfl (by kernel_rfl) (by kernel_rfl) (by kernel_rfl) (by kernel_rfl) ((vCond_any A0 l0 c0 s0 Aa Ab la lb ca cb sa sb _ La.out Lb.out Ca Cb Oa.out Ob.out Ya.out Yb.out L0.out C0 O0.out Y0.out (HT.out.kept hU)).mono ?_)
  rintro e w53 ⟨ly, sy, Ay, cy, Ey, rfl, Cy, Oy, hb⟩
  refine ⟨_, rfl, hb, ?_⟩
  replace Oa := hide (RQ.below Oa.out hb)
  replace Ob := hide (RQ.below Ob.out hb)
  replace O1 := hide (RQ.below O1.out hb)
  replace Ox := hide (RQ.below Ox.out hb)
  replace O0 := hide (RQ.below O0.out hb)
  replace Ba := hide (Box.kept Ba.out hb)
  replace Bb := hide (Box.kept Bb.out hb)
  replace B1 := hide (Box.kept B1.out hb)
  replace By := hide (Box.kept By.out hb)
  replace Oy := hide Oy.out.rd
  replace hU := hU.trans (hb.mono hU.size)
  clear hb
  have Gy : Gd ly := by have h := congrArg Vc.b Ey.out; dsimp only at h; rw [h]; exact (by rw [E0.out, of_zero, vCond_0]; exact gd_blB Ya.out Yb.out)
  have Ly := hide (show ly.length ≤ 4096 from Nat.le_trans Gy.le (by decide))
  have Yy := hide Gy.by_
  clear Gy
  replace Ey := hide (show (⟨ly, sy⟩ : Vc) = ⟨blB ⟨la, sa⟩ ⟨lb, sb⟩, sg ⟨la, sa⟩ ⟨lb, sb⟩⟩ from Ey.out.trans (by rw [E0.out, of_zero, vCond_0]))
  clear O0 C0 L0 Y0
  refine anyR_split [8] (by kernel_rfl) rfl ⟨?_, trivial⟩
  refine stepR_al (i := 8) (m' := 1023) rfl rfl (by kernel_rfl) (by kernel_rfl) (by kernel_rfl) rfl ?_
  intro w54 Nx Bx hNx hb
  replace Bx := hide Bx
  have neax : Na ≠ Nx := by have := Ba.out.lt; omega
  have nebx : Nb ≠ Nx := by have := Bb.out.lt; omega
  have ne1x : N1 ≠ Nx := by have := B1.out.lt; omega
  have neyx : Ny ≠ Nx := by have := By.out.lt; omega
  replace Oa := hide (RQ.below Oa.out hb)
  replace Ob := hide (RQ.below Ob.out hb)
  replace O1 := hide (RQ.below O1.out hb)
  replace Ox := hide (RQ.below Ox.out hb)
  replace Oy := hide (RQ.below Oy.out hb)
  replace Ba := hide (Box.kept Ba.out hb)
  replace Bb := hide (Box.kept Bb.out hb)
  replace B1 := hide (Box.kept B1.out hb)
  replace By := hide (Box.kept By.out hb)
  have hzx : w.heap.size ≤ Nx := Nat.le_trans hU.size hNx
  clear hNx
  replace hU := hU.trans (hb.mono hU.size)
  clear hb
  refine anyR_e ?_
  refine anyE_st (i := 10) (m' := 2047) Bx.out rfl rfl (by kernel_rfl) (by kernel_rfl) (by kernel_rfl) (by kernel_rfl) rfl (by kernel_rfl) (A2 := Ax) (m2 := lx.length) (c2 := cx) (s2 := sx) (by kernel_rfl) ?_
  intro w55 hst
  replace Oa := hide (hst.rq Oa.out)
  replace Ob := hide (hst.rq Ob.out)
  replace O1 := hide (hst.rq O1.out)
  replace Ox := hide (hst.rq Ox.out)
  replace Oy := hide (hst.rq Oy.out)
  replace Ba := hide (hst.ne Ba.out (by first | exact neax | exact (Ne.symm nexa) | assumption | (exact Ne.symm (by assumption)) | omega))
  replace Bb := hide (hst.ne Bb.out (by first | exact nebx | exact (Ne.symm nexb) | assumption | (exact Ne.symm (by assumption)) | omega))
  replace B1 := hide (hst.ne B1.out (by first | exact ne1x | exact (Ne.symm nex1) | assumption | (exact Ne.symm (by assumption)) | omega))
  replace By := hide (hst.ne By.out (by first | exact neyx | exact (Ne.symm nexy) | assumption | (exact Ne.symm (by assumption)) | omega))
  replace Bx := hide hst.box
  replace hU := hU.trans (hst.bel hzx)
  clear hst
  refine anyE_st (i := 11) (m' := 4095) By.out rfl rfl (by kernel_rfl) (by kernel_rfl) (by kernel_rfl) (by kernel_rfl) rfl (by kernel_rfl) (A2 := Ay) (m2 := ly.length) (c2 := cy) (s2 := sy) (by kernel_rfl) ?_
  intro w56 hst
  replace Oa := hide (hst.rq Oa.out)
  replace Ob := hide (hst.rq Ob.out)
  replace O1 := hide (hst.rq O1.out)
  replace Ox := hide (hst.rq Ox.out)
  replace Oy := hide (hst.rq Oy.out)
  replace Ba := hide (hst.ne Ba.out (by first | exact neay | exact (Ne.symm neya) | assumption | (exact Ne.symm (by assumption)) | omega))
  replace Bb := hide (hst.ne Bb.out (by first | exact neby | exact (Ne.symm neyb) | assumption | (exact Ne.symm (by assumption)) | omega))
  replace B1 := hide (hst.ne B1.out (by first | exact ne1y | exact (Ne.symm ney1) | assumption | (exact Ne.symm (by assumption)) | omega))
  replace Bx := hide (hst.ne Bx.out (by first | exact nexy | exact (Ne.symm neyx) | assumption | (exact Ne.symm (by assumption)) | omega))
  replace By := hide hst.box
  replace hU := hU.trans (hst.bel hzy)
  clear hst
  refine anyE_done (by kernel_rfl) ?_
  refine then_normal ⟨((lx, sx, Ax, cx), (ly, sy, Ay, cy), Nx, Ny), _, rfl, Kp_c (by kernel_rfl) (Kp_c (by kernel_rfl) (Kp_c (by kernel_rfl) (Kp_c (by kernel_rfl) (Kp_c (by kernel_rfl) (Kp_c (by kernel_rfl) (Kp_c (by kernel_rfl) (Kp_c (by kernel_rfl) (Kp_c (by kernel_rfl) (Kp_c (by kernel_rfl) (Kp_c (by kernel_rfl) (Kp_c (by kernel_rfl) (Kp_c (by kernel_rfl) (Kp_c (by kernel_rfl) (Kp_c (by kernel_rfl) (Kp_c (by kernel_rfl) (Kp_c (by kernel_rfl) (Kp_c (by kernel_rfl) (Kp_c (by kernel_rfl) (Kp_c (by kernel_rfl) (Kp_c (by kernel_rfl) (Kp_c (by kernel_rfl) (Kp_c (by kernel_rfl) (Kp_c (by kernel_rfl) (Kp_n)))))))))))))))))))))))), ?_⟩
  dsimp only
  exact ⟨hU, Oa, Ob, O1, Ex, Ox, Cx, Lx, Yx, Ey, Oy, Cy, Ly, Yy, Ba, Bb, B1, Bx, By, hzx, hzy⟩
  refine stepR_al (i := 8) (m' := 895) rfl rfl (by kernel_rfl) (by kernel_rfl) (by kernel_rfl) rfl ?_
  intro w57 Nx Bx hNx hb
  replace Bx := hide Bx
  have neax : Na ≠ Nx := by have := Ba.out.lt; omega
  have nebx : Nb ≠ Nx := by have := Bb.out.lt; omega
  have ne1x : N1 ≠ Nx := by have := B1.out.lt; omega
  have neyx : Ny ≠ Nx := by have := By.out.lt; omega
  replace Oa := hide (RQ.below Oa.out hb)
  replace Ob := hide (RQ.below Ob.out hb)
  replace O1 := hide (RQ.below O1.out hb)
  replace Ox := hide (RQ.below Ox.out hb)
  replace O0 := hide (RQ.below O0.out hb)
  replace Ba := hide (Box.kept Ba.out hb)
  replace Bb := hide (Box.kept Bb.out hb)
  replace B1 := hide (Box.kept B1.out hb)
  replace By := hide (Box.kept By.out hb)
  have hzx : w.heap.size ≤ Nx := Nat.le_trans hU.size hNx
  clear hNx
  replace hU := hU.trans (hb.mono hU.size)
  clear hb
  refine anyR_call (i := 7) (m' := 1023) rfl rfl (by kernel_rfl) (by kernel_rfl) (by kernel_rfl) (by kernel_rfl) (by kernel_rfl) ((vCond_any A0 l0 c0 s0 Aa Ab la lb ca cb sa sb _ La.out Lb.out Ca Cb Oa.out Ob.out Ya.out Yb.out L0.out C0 O0.out Y0.out (HT.out.kept hU)).mono ?_)
  rintro e w58 ⟨ly, sy, Ay, cy, Ey, rfl, Cy, Oy, hb⟩
  refine ⟨_, rfl, hb, ?_⟩
  replace Oa := hide (RQ.below Oa.out hb)
  replace Ob := hide (RQ.below Ob.out hb)
  replace O1 := hide (RQ.below O1.out hb)
  replace Ox := hide (RQ.below Ox.out hb)
  replace O0 := hide (RQ.below O0.out hb)
  replace Ba := hide (Box.kept Ba.out hb)
  replace Bb := hide (Box.kept Bb.out hb)
  replace B1 := hide (Box.kept B1.out hb)
  replace By := hide (Box.kept By.out hb)
  replace Bx := hide (Box.kept Bx.out hb)
  replace Oy := hide Oy.out.rd
  replace hU := hU.trans (hb.mono hU.size)
  clear hb
  have Gy : Gd ly := by have h := congrArg Vc.b Ey.out; dsimp only at h; rw [h]; exact (by rw [E0.out, of_zero, vCond_0]; exact gd_blB Ya.out Yb.out)
  have Ly := hide (show ly.length ≤ 4096 from Nat.le_trans Gy.le (by decide))
  have Yy := hide Gy.by_
  clear Gy
  replace Ey := hide (show (⟨ly, sy⟩ : Vc) = ⟨blB ⟨la, sa⟩ ⟨lb, sb⟩, sg ⟨la, sa⟩ ⟨lb, sb⟩⟩ from Ey.out.trans (by rw [E0.out, of_zero, vCond_0]))
  clear O0 C0 L0 Y0
  refine anyR_e ?_
  refine anyE_st (i := 10) (m' := 2047) Bx.out rfl rfl (by kernel_rfl) (by kernel_rfl) (by kernel_rfl) (by kernel_rfl) rfl (by kernel_rfl) (A2 := Ax) (m2 := lx.length) (c2 := cx) (s2 := sx) (by kernel_rfl) ?_
  intro w59 hst
  replace Oa := hide (hst.rq Oa.out)
  replace Ob := hide (hst.rq Ob.out)
  replace O1 := hide (hst.rq O1.out)
  replace Ox := hide (hst.rq Ox.out)
  replace Oy := hide (hst.rq Oy.out)
  replace Ba := hide (hst.ne Ba.out (by first | exact neax | exact (Ne.symm nexa) | assumption | (exact Ne.symm (by assumption)) | omega))
  replace Bb := hide (hst.ne Bb.out (by first | exact nebx | exact (Ne.symm nexb) | assumption | (exact Ne.symm (by assumption)) | omega))
  replace B1 := hide (hst.ne B1.out (by first | exact ne1x | exact (Ne.symm nex1) | assumption | (exact Ne.symm (by assumption)) | omega))
  replace By := hide (hst.ne By.out (by first | exact neyx | exact (Ne.symm nexy) | assumption | (exact Ne.symm (by assumption)) | omega))
  replace Bx := hide hst.box
  replace hU := hU.trans (hst.bel hzx)
  clear hst
  refine anyE_st (i := 11) (m' := 4095) By.out rfl rfl (by kernel_rfl) (by kernel_rfl) (by kernel_rfl) (by kernel_rfl) rfl (by kernel_rfl) (A2 := Ay) (m2 := ly.length) (c2 := cy) (s2 := sy) (by kernel_rfl) ?_
  intro w60 hst
  replace Oa := hide (hst.rq Oa.out)
  replace Ob := hide (hst.rq Ob.out)
  replace O1 := hide (hst.rq O1.out)
  replace Ox := hide (hst.rq Ox.out)
  replace Oy := hide (hst.rq Oy.out)
  replace Ba := hide (hst.ne Ba.out (by first | exact neay | exact (Ne.symm neya) | assumption | (exact Ne.symm (by assumption)) | omega))
  replace Bb := hide (hst.ne Bb.out (by first | exact neby | exact (Ne.symm neyb) | assumption | (exact Ne.symm (by assumption)) | omega))
  replace B1 := hide (hst.ne B1.out (by first | exact ne1y | exact (Ne.symm ney1) | assumption | (exact Ne.symm (by assumption)) | omega))
  replace Bx := hide (hst.ne Bx.out (by first | exact nexy | exact (Ne.symm neyx) | assumption | (exact Ne.symm (by assumption)) | omega))
  replace By := hide hst.box
  replace hU := hU.trans (hst.bel hzy)
  clear hst
  refine anyE_done (by kernel_rfl) ?_
  refine then_normal ⟨((lx, sx, Ax, cx), (ly, sy, Ay, cy), Nx, Ny), _, rfl, Kp_c (by kernel_rfl) (Kp_c (by kernel_rfl) (Kp_c (by kernel_rfl) (Kp_c (by kernel_rfl) (Kp_c (by kernel_rfl) (Kp_c (by kernel_rfl) (Kp_c (by kernel_rfl) (Kp_c (by kernel_rfl) (Kp_c (by kernel_rfl) (Kp_c (by kernel_rfl) (Kp_c (by kernel_rfl) (Kp_c (by kernel_rfl) (Kp_c (by kernel_rfl) (Kp_c (by kernel_rfl) (Kp_c (by kernel_rfl) (Kp_c (by kernel_rfl) (Kp_c (by kernel_rfl) (Kp_c (by kernel_rfl) (Kp_c (by kernel_rfl) (Kp_c (by kernel_rfl) (Kp_c (by kernel_rfl) (Kp_c (by kernel_rfl) (Kp_c (by kernel_rfl) (Kp_c (by kernel_rfl) (Kp_n)))))))))))))))))))))))), ?_⟩
  dsimp only
  exact ⟨hU, Oa, Ob, O1, Ex, Ox, Cx, Lx, Yx, Ey, Oy, Cy, Ly, Yy, Ba, Bb, B1, Bx, By, hzx, hzy⟩
  refine stepR_al (i := 8) (m' := 879) rfl rfl (by kernel_rfl) (by kernel_rfl) (by kernel_rfl) rfl ?_
  intro w61 Nx Bx hNx hb
  replace Bx := hide Bx
  have neax : Na ≠ Nx := by have := Ba.out.lt; omega
  have nebx : Nb ≠ Nx := by have := Bb.out.lt; omega
  have ne1x : N1 ≠ Nx := by have := B1.out.lt; omega
  have neyx : Ny ≠ Nx := by have := By.out.lt; omega
  replace Oa := hide (RQ.below Oa.out hb)
  replace Ob := hide (RQ.below Ob.out hb)
  replace O1 := hide (RQ.below O1.out hb)
  replace Ox := hide (RQ.below Ox.out hb)
  replace Ba := hide (Box.kept Ba.out hb)
  replace Bb := hide (Box.kept Bb.out hb)
  replace B1 := hide (Box.kept B1.out hb)
  replace By := hide (Box.kept By.out hb)
  have hzx : w.heap.size ≤ Nx := Nat.le_trans hU.size hNx
  clear hNx
  replace hU := hU.trans (hb.mono hU.size)
  clear hb
  refine anyR_call (i := 4) (m' := 895) rfl rfl (by kernel_rfl) (by kernel_rfl) (by kernel_rfl) (by kernel_rfl) (by kernel_rfl) ((vof_any ⟨#[48]⟩ _ (by decide)).mono ?_)
  rintro e w62 ⟨l0, s0, A0, c0, E0, rfl, C0, O0, hb⟩
  refine ⟨_, rfl, hb, ?_⟩
  replace Oa := hide (RQ.below Oa.out hb)
  replace Ob := hide (RQ.below Ob.out hb)
  replace O1 := hide (RQ.below O1.out hb)
  replace Ox := hide (RQ.below Ox.out hb)
  replace Ba := hide (Box.kept Ba.out hb)
  replace Bb := hide (Box.kept Bb.out hb)
  replace B1 := hide (Box.kept B1.out hb)
  replace By := hide (Box.kept By.out hb)
  replace Bx := hide (Box.kept Bx.out hb)
  replace O0 := hide O0.out.rd
  replace hU := hU.trans (hb.mono hU.size)
  clear hb
  have G0 : Gd l0 := by have h := congrArg Vc.b E0.out; dsimp only at h; rw [h]; exact gd_of (by decide +kernel)
  have L0 := hide (show l0.length ≤ 4096 from Nat.le_trans G0.le (by decide))
  have Y0 := hide G0.by_
  clear G0
  refine anyR_call (i := 7) (m' := 1023) rfl rfl (by kernel_rfl) (by kernel_rfl) (by kernel_rfl) (by kernel_rfl) (by kernel_rfl) ((vCond_any A0 l0 c0 s0 Aa Ab la lb ca cb sa sb _ La.out Lb.out Ca Cb Oa.out Ob.out Ya.out Yb.out L0.out C0 O0.out Y0.out (HT.out.kept hU)).mono ?_)
  rintro e w63 ⟨ly, sy, Ay, cy, Ey, rfl, Cy, Oy, hb⟩
  refine ⟨_, rfl, hb, ?_⟩
  replace Oa := hide (RQ.below Oa.out hb)
  replace Ob := hide (RQ.below Ob.out hb)
  replace O1 := hide (RQ.below O1.out hb)
  replace Ox := hide (RQ.below Ox.out hb)
  replace O0 := hide (RQ.below O0.out hb)
  replace Ba := hide (Box.kept Ba.out hb)
  replace Bb := hide (Box.kept Bb.out hb)
  replace B1 := hide (Box.kept B1.out hb)
  replace By := hide (Box.kept By.out hb)
  replace Bx := hide (Box.kept Bx.out hb)
  replace Oy := hide Oy.out.rd
  replace hU := hU.trans (hb.mono hU.size)
  clear hb
  have Gy : Gd ly := by have h := congrArg Vc.b Ey.out; dsimp only at h; rw [h]; exact (by rw [E0.out, of_zero, vCond_0]; exact gd_blB Ya.out Yb.out)
  have Ly := hide (show ly.length ≤ 4096 from Nat.le_trans Gy.le (by decide))
  have Yy := hide Gy.by_
  clear Gy
  replace Ey := hide (show (⟨ly, sy⟩ : Vc) = ⟨blB ⟨la, sa⟩ ⟨lb, sb⟩, sg ⟨la, sa⟩ ⟨lb, sb⟩⟩ from Ey.out.trans (by rw [E0.out, of_zero, vCond_0]))
  clear O0 C0 L0 Y0
  refine anyR_e ?_
  refine anyE_st (i := 10) (m' := 2047) Bx.out rfl rfl (by kernel_rfl) (by kernel_rfl) (by kernel_rfl) (by kernel_rfl) rfl (by kernel_rfl) (A2 := Ax) (m2 := lx.length) (c2 := cx) (s2 := sx) (by kernel_rfl) ?_
  intro w64 hst
  replace Oa := hide (hst.rq Oa.out)
  replace Ob := hide (hst.rq Ob.out)
  replace O1 := hide (hst.rq O1.out)
  replace Ox := hide (hst.rq Ox.out)
  replace Oy := hide (hst.rq Oy.out)
  replace Ba := hide (hst.ne Ba.out (by first | exact neax | exact (Ne.symm nexa) | assumption | (exact Ne.symm (by assumption)) | omega))
  replace Bb := hide (hst.ne Bb.out (by first | exact nebx | exact (Ne.symm nexb) | assumption | (exact Ne.symm (by assumption)) | omega))
  replace B1 := hide (hst.ne B1.out (by first | exact ne1x | exact (Ne.symm nex1) | assumption | (exact Ne.symm (by assumption)) | omega))
  replace By := hide (hst.ne By.out (by first | exact neyx | exact (Ne.symm nexy) | assumption | (exact Ne.symm (by assumption)) | omega))
  replace Bx := hide hst.box
  replace hU := hU.trans (hst.bel hzx)
  clear hst
  refine anyE_st (i := 11) (m' := 4095) By.out rfl rfl (by kernel_rfl) (by kernel_rfl) (by kernel_rfl) (by kernel_rfl) rfl (by kernel_rfl) (A2 := Ay) (m2 := ly.length) (c2 := cy) (s2 := sy) (by kernel_rfl) ?_
  intro w65 hst
  replace Oa := hide (hst.rq Oa.out)
  replace Ob := hide (hst.rq Ob.out)
  replace O1 := hide (hst.rq O1.out)
  replace Ox := hide (hst.rq Ox.out)
  replace Oy := hide (hst.rq Oy.out)
  replace Ba := hide (hst.ne Ba.out (by first | exact neay | exact (Ne.symm neya) | assumption | (exact Ne.symm (by assumption)) | omega))
  replace Bb := hide (hst.ne Bb.out (by first | exact neby | exact (Ne.symm neyb) | assumption | (exact Ne.symm (by assumption)) | omega))
  replace B1 := hide (hst.ne B1.out (by first | exact ne1y | exact (Ne.symm ney1) | assumption | (exact Ne.symm (by assumption)) | omega))
  replace Bx := hide (hst.ne Bx.out (by first | exact nexy | exact (Ne.symm neyx) | assumption | (exact Ne.symm (by assumption)) | omega))
  replace By := hide hst.box
  replace hU := hU.trans (hst.bel hzy)
  clear hst
  refine anyE_done (by kernel_rfl) ?_
  refine then_normal ⟨((lx, sx, Ax, cx), (ly, sy, Ay, cy), Nx, Ny), _, rfl, Kp_c (by kernel_rfl) (Kp_c (by kernel_rfl) (Kp_c (by kernel_rfl) (Kp_c (by kernel_rfl) (Kp_c (by kernel_rfl) (Kp_c (by kernel_rfl) (Kp_c (by kernel_rfl) (Kp_c (by kernel_rfl) (Kp_c (by kernel_rfl) (Kp_c (by kernel_rfl) (Kp_c (by kernel_rfl) (Kp_c (by kernel_rfl) (Kp_c (by kernel_rfl) (Kp_c (by kernel_rfl) (Kp_c (by kernel_rfl) (Kp_c (by kernel_rfl) (Kp_c (by kernel_rfl) (Kp_c (by kernel_rfl) (Kp_c (by kernel_rfl) (Kp_c (by kernel_rfl) (Kp_c (by kernel_rfl) (Kp_c (by kernel_rfl) (Kp_c (by kernel_rfl) (Kp_c (by kernel_rfl) (Kp_n)))))))))))))))))))))))), ?_⟩
  dsimp only
  exact ⟨hU, Oa, Ob, O1, Ex, Ox, Cx, Lx, Yx, Ey, Oy, Cy, Ly, Yy, Ba, Bb, B1, Bx, By, hzx, hzy⟩
  refine stepR_al (i := 8) (m' := 359) rfl rfl (by kernel_rfl) (by kernel_rfl) (by kernel_rfl) rfl ?_
  intro w66 Nx Bx hNx hb
  replace Bx := hide Bx
  replace hb : Below w6.heap.size w6 w66 := Below.trans ((Below.refl _ _).drew) hb
  replace hNx : w6.heap.size ≤ Nx := hNx
  have neax : Na ≠ Nx := by have := Ba.out.lt; omega
  have nebx : Nb ≠ Nx := by have := Bb.out.lt; omega
  have ne1x : N1 ≠ Nx := by have := B1.out.lt; omega
  replace Oa := hide (RQ.below Oa.out hb)
  replace Ob := hide (RQ.below Ob.out hb)
  replace O1 := hide (RQ.below O1.out hb)
  replace Ba := hide (Box.kept Ba.out hb)
  replace Bb := hide (Box.kept Bb.out hb)
  replace B1 := hide (Box.kept B1.out hb)
  have hzx : w.heap.size ≤ Nx := Nat.le_trans hU.size hNx
  clear hNx
  replace hU := hU.trans (hb.mono hU.size)
  clear hb
  refine anyR_split [3, 9] (by kernel_rfl) rfl ⟨?_, ?_, trivial⟩
  refine stepR_call (i := 3) (m' := 367) rfl rfl (by kernel_rfl) (by kernel_rfl) (by kernel_rfl) (by kernel_rfl) ((vCond_any A1 l1 c1 s1 Aa Ab la lb ca cb sa sb _ La.out Lb.out Ca Cb Oa.out Ob.out Ya.out Yb.out L1.out C1 O1.out Y1.out (HT.out.kept hU)).mono ?_)
  rintro e w67 ⟨lx, sx, Ax, cx, Ex, rfl, Cx, Ox, hb⟩
  refine ⟨_, rfl, hb, ?_⟩
  replace Oa := hide (RQ.below Oa.out hb)
  replace Ob := hide (RQ.below Ob.out hb)
  replace O1 := hide (RQ.below O1.out hb)
  replace Ba := hide (Box.kept Ba.out hb)
  replace Bb := hide (Box.kept Bb.out hb)
  replace B1 := hide (Box.kept B1.out hb)
  replace Bx := hide (Box.kept Bx.out hb)
  replace Ox := hide Ox.out.rd
  replace hU := hU.trans (hb.mono hU.size)
  clear hb
  have Gx : Gd lx := by have h := congrArg Vc.b Ex.out; dsimp only at h; rw [h]; exact (by rw [E1.out, of_one, vCond_1]; exact gd_blA Ya.out Yb.out)
  have Lx := hide (show lx.length ≤ 4096 from Nat.le_trans Gx.le (by decide))
  have Yx := hide Gx.by_
  clear Gx
  replace Ex := hide (show (⟨lx, sx⟩ : Vc) = ⟨blA ⟨la, sa⟩ ⟨lb, sb⟩, sg ⟨la, sa⟩ ⟨lb, sb⟩⟩ from Ex.out.trans (by rw [E1.out, of_one, vCond_1]))
  refine anyR_split [4, 9] (by kernel_rfl) rfl ⟨?_, ?_, trivial⟩
  refine stepR_call (i := 4) (m' := 383) rfl rfl (by kernel_rfl) (by kernel_rfl) (by kernel_rfl) (by kernel_rfl) ((vof_any ⟨#[48]⟩ _ (by decide)).mono ?_)
  rintro e w68 ⟨l0, s0, A0, c0, E0, rfl, C0, O0, hb⟩
  refine ⟨_, rfl, hb, ?_⟩
  replace Oa := hide (RQ.below Oa.out hb)
  replace Ob := hide (RQ.below Ob.out hb)
  replace O1 := hide (RQ.below O1.out hb)
  replace Ox := hide (RQ.below Ox.out hb)
  replace Ba := hide (Box.kept Ba.out hb)
  replace Bb := hide (Box.kept Bb.out hb)
  replace B1 := hide (Box.kept B1.out hb)
  replace Bx := hide (Box.kept Bx.out hb)
  replace O0 := hide O0.out.rd
  replace hU := hU.trans (hb.mono hU.size)
  clear hb
  have G0 : Gd l0 := by have h := congrArg Vc.b E0.out; dsimp only at h; rw [h]; exact gd_of (by decide +kernel)
  have L0 := hide (show l0.length ≤ 4096 from Nat.le_trans G0.le (by decide))
  have Y0 := hide G0.by_
  clear G0
  refine anyR_split [7, 9] (by kernel_rfl) rfl ⟨?_, ?_, trivial⟩
  refine stepR_call (i := 7) (m' := 511) rfl rfl (by kernel_rfl) (by kernel_rfl) (by kernel_rfl) (by kernel_rfl) ((vCond_any A0 l0 c0 s0 Aa Ab la lb ca cb sa sb _ La.out Lb.out Ca Cb Oa.out Ob.out Ya.out Yb.out L0.out C0 O0.out Y0.out (HT.out.kept hU)).mono ?_)
  rintro e w69 ⟨ly, sy, Ay, cy, Ey, rfl, Cy, Oy, hb⟩
  refine ⟨_, rfl, hb, ?_⟩
  replace Oa := hide (RQ.below Oa.out hb)
  replace Ob := hide (RQ.below Ob.out hb)
  replace O1 := hide (RQ.below O1.out hb)
  replace Ox := hide (RQ.below Ox.out hb)
  replace O0 := hide (RQ.below O0.out hb)
  replace Ba := hide (Box.kept Ba.out hb)
  replace Bb := hide (Box.kept Bb.out hb)
  replace B1 := hide (Box.kept B1.out hb)
  replace Bx := hide (Box.kept Bx.out hb)
  replace Oy := hide Oy.out.rd
  replace hU := hU.trans (hb.mono hU.size)
  clear hb
  have Gy : Gd ly := by have h := congrArg Vc.b Ey.out; dsimp only at h; rw [h]; exact (by rw [E0.out, of_zero, vCond_0]; exact gd_blB Ya.out Yb.out)
  have Ly := hide (show ly.length ≤ 4096 from Nat.le_trans Gy.le (by decide))
  have Yy := hide Gy.by_
  clear Gy
  replace Ey := hide (show (⟨ly, sy⟩ : Vc) = ⟨blB ⟨la, sa⟩ ⟨lb, sb⟩, sg ⟨la, sa⟩ ⟨lb, sb⟩⟩ from Ey.out.trans (by rw [E0.out, of_zero, vCond_0]))
  clear O0 C0 L0 Y0
  refine anyR_split [9] (by kernel_rfl) rfl ⟨?_, trivial⟩
  refine stepR_al (i := 9) (m' := 1023) rfl rfl (by kernel_rfl) (by kernel_rfl) (by kernel_rfl) rfl ?_
  intro w70 Ny By hNy hb
  replace By := hide By
  have neay : Na ≠ Ny := by have := Ba.out.lt; omega
  have neby : Nb ≠ Ny := by have := Bb.out.lt; omega
  have ne1y : N1 ≠ Ny := by have := B1.out.lt; omega
  have nexy : Nx ≠ Ny := by have := Bx.out.lt; omega
  replace Oa := hide (RQ.below Oa.out hb)
  replace Ob := hide (RQ.below Ob.out hb)
  replace O1 := hide (RQ.below O1.out hb)
  replace Ox := hide (RQ.below Ox.out hb)
  replace Oy := hide (RQ.below Oy.out hb)
  replace Ba := hide (Box.kept Ba.out hb)
  replace Bb := hide (Box.kept Bb.out hb)
  replace B1 := hide (Box.kept B1.out hb)
  replace Bx := hide (Box.kept Bx.out hb)
  have hzy : w.heap.size ≤ Ny := Nat.le_trans hU.size hNy
  clear hNy
  replace hU := hU.trans (hb.mono hU.size)
  clear hb
  refine anyR_e ?_
  refine anyE_st (i := 10) (m' := 2047) Bx.out rfl rfl (by kernel_rfl) (by kernel_rfl) (by kernel_rfl) (by kernel_rfl) rfl (by kernel_rfl) (A2 := Ax) (m2 := lx.length) (c2 := cx) (s2 := sx) (by kernel_rfl) ?_
  intro w71 hst
  replace Oa := hide (hst.rq Oa.out)
  replace Ob := hide (hst.rq Ob.out)
  replace O1 := hide (hst.rq O1.out)
  replace Ox := hide (hst.rq Ox.out)
  replace Oy := hide (hst.rq Oy.out)
  replace Ba := hide (hst.ne Ba.out (by first | exact neax | exact (Ne.symm nexa) | assumption | (exact Ne.symm (by assumption)) | omega))
  replace Bb := hide (hst.ne Bb.out (by first | exact nebx | exact (Ne.symm nexb) | assumption | (exact Ne.symm (by assumption)) | omega))
  replace B1 := hide (hst.ne B1.out (by first | exact ne1x | exact (Ne.symm nex1) | assumption | (exact Ne.symm (by assumption)) | omega))
  replace By := hide (hst.ne By.out (by first | exact neyx | exact (Ne.symm nexy) | assumption | (exact Ne.symm (by assumption)) | omega))
  replace Bx := hide hst.box
  replace hU := hU.trans (hst.bel hzx)
  clear hst
  refine anyE_st (i := 11) (m' := 4095) By.out rfl rfl (by kernel_rfl) (by kernel_rfl) (by kernel_rfl) (by kernel_rfl) rfl (by kernel_rfl) (A2 := Ay) (m2 := ly.length) (c2 := cy) (s2 := sy) (by kernel_rfl) ?_
  intro w72 hst
  replace Oa := hide (hst.rq Oa.out)
  replace Ob := hide (hst.rq Ob.out)
  replace O1 := hide (hst.rq O1.out)
  replace Ox := hide (hst.rq Ox.out)
  replace Oy := hide (hst.rq Oy.out)
  replace Ba := hide (hst.ne Ba.out (by first | exact neay | exact (Ne.symm neya) | assumption | (exact Ne.symm (by assumption)) | omega))
  replace Bb := hide (hst.ne Bb.out (by first | exact neby | exact (Ne.symm neyb) | assumption | (exact Ne.symm (by assumption)) | omega))
  replace B1 := hide (hst.ne B1.out (by first | exact ne1y | exact (Ne.symm ney1) | assumption | (exact Ne.symm (by assumption)) | omega))
  replace Bx := hide (hst.ne Bx.out (by first | exact nexy | exact (Ne.symm neyx) | assumption | (exact Ne.symm (by assumption)) | omega))
  replace By := hide hst.box
  replace hU := hU.trans (hst.bel hzy)
  clear hst
  refine anyE_done (by kernel_rfl) ?_
  refine then_normal ⟨((lx, sx, Ax, cx), (ly, sy, Ay, cy), Nx, Ny), _, rfl, Kp_c (by kernel_rfl) (Kp_c (by kernel_rfl) (Kp_c (by kernel_rfl) (Kp_c (by kernel_rfl) (Kp_c (by kernel_rfl) (Kp_c (by kernel_rfl) (Kp_c (by kernel_rfl) (Kp_c (by kernel_rfl) (Kp_c (by kernel_rfl) (Kp_c (by kernel_rfl) (Kp_c (by kernel_rfl) (Kp_c (by kernel_rfl) (Kp_c (by kernel_rfl) (Kp_c (by kernel_rfl) (Kp_c (by kernel_rfl) (Kp_c (by kernel_rfl) (Kp_c (by kernel_rfl) (Kp_c (by kernel_rfl) (Kp_c (by kernel_rfl) (Kp_c (by kernel_rfl) (Kp_c (by kernel_rfl) (Kp_c (by kernel_rfl) (Kp_c (by kernel_rfl) (Kp_c (by kernel_rfl) (Kp_n)))))))))))))))))))))))), ?_⟩
  dsimp only
  exact ⟨hU, Oa, Ob, O1, Ex, Ox, Cx, Lx, Yx, Ey, Oy, Cy, Ly, Yy, Ba, Bb, B1, Bx, By, hzx, hzy⟩
  refine stepR_al (i := 9) (m' := 895) rfl rfl (by kernel_rfl) (by kernel_rfl) (by kernel_rfl) rfl ?_
  intro w73 Ny By hNy hb
  replace By := hide By
  have neay : Na ≠ Ny := by have := Ba.out.lt; omega
  have neby : Nb ≠ Ny := by have := Bb.out.lt; omega
  have ne1y : N1 ≠ Ny := by have := B1.out.lt; omega
  have nexy : Nx ≠ Ny := by have := Bx.out.lt; omega
  replace Oa := hide (RQ.below Oa.out hb)
  replace Ob := hide (RQ.below Ob.out hb)
  replace O1 := hide (RQ.below O1.out hb)
  replace Ox := hide (RQ.below Ox.out hb)
  replace O0 := hide (RQ.below O0.out hb)
  replace Ba := hide (Box.kept Ba.out hb)
  replace Bb := hide (Box.kept Bb.out hb)
  replace B1 := hide (Box.kept B1.out hb)
  replace Bx := hide (Box.kept Bx.out hb)
  have hzy : w.heap.size ≤ Ny := Nat.le_trans hU.size hNy
  clear hNy
  replace hU := hU.trans (hb.mono hU.size)
  clear hb
  refine anyR_call (i := 7) (m' := 1023) rfl rfl (by kernel_rfl) (by kernel_rfl) (by kernel_rfl) (by kernel_rfl) (by kernel_rfl) ((vCond_any A0 l0 c0 s0 Aa Ab la lb ca cb sa sb _ La.out Lb.out Ca Cb Oa.out Ob.out Ya.out Yb.out L0.out C0 O0.out Y0.out (HT.out.kept hU)).mono ?_)
  rintro e w74 ⟨ly, sy, Ay, cy, Ey, rfl, Cy, Oy, hb⟩
  refine ⟨_, rfl, hb, ?_⟩
  replace Oa := hide (RQ.below Oa.out hb)
  replace Ob := hide (RQ.below Ob.out hb)
  replace O1 := hide (RQ.below O1.out hb)
  replace Ox := hide (RQ.below Ox.out hb)
  replace O0 := hide (RQ.below O0.out hb)
  replace Ba := hide (Box.kept Ba.out hb)
  replace Bb := hide (Box.kept Bb.out hb)
  replace B1 := hide (Box.kept B1.out hb)
  replace Bx := hide (Box.kept Bx.out hb)
  replace By := hide (Box.kept By.out hb)
  replace Oy := hide Oy.out.rd
  replace hU := hU.trans (hb.mono hU.size)
  clear hb
  have Gy : Gd ly := by have h := congrArg Vc.b Ey.out; dsimp only at h; rw [h]; exact (by rw [E0.out, of_zero, vCond_0]; exact gd_blB Ya.out Yb.out)
  have Ly := hide (show ly.length ≤ 4096 from Nat.le_trans Gy.le (by decide))
  have Yy := hide Gy.by_
  clear Gy
  replace Ey := hide (show (⟨ly, sy⟩ : Vc) = ⟨blB ⟨la, sa⟩ ⟨lb, sb⟩, sg ⟨la, sa⟩ ⟨lb, sb⟩⟩ from Ey.out.trans (by rw [E0.out, of_zero, vCond_0]))
  clear O0 C0 L0 Y0
  refine anyR_e ?_
  refine anyE_st (i := 10) (m' := 2047) Bx.out rfl rfl (by kernel_rfl) (by kernel_rfl) (by kernel_rfl) (by kernel_rfl) rfl (by kernel_rfl) (A2 := Ax) (m2 := lx.length) (c2 := cx) (s2 := sx) (by kernel_rfl) ?_
  intro w75 hst
  replace Oa := hide (hst.rq Oa.out)
  replace Ob := hide (hst.rq Ob.out)
  replace O1 := hide (hst.rq O1.out)
  replace Ox := hide (hst.rq Ox.out)
  replace Oy := hide (hst.rq Oy.out)
  replace Ba := hide (hst.ne Ba.out (by first | exact neax | exact (Ne.symm nexa) | assumption | (exact Ne.symm (by assumption)) | omega))
  replace Bb := hide (hst.ne Bb.out (by first | exact nebx | exact (Ne.symm nexb) | assumption | (exact Ne.symm (by assumption)) | omega))
  replace B1 := hide (hst.ne B1.out (by first | exact ne1x | exact (Ne.symm nex1) | assumption | (exact Ne.symm (by assumption)) | omega))
  replace By := hide (hst.ne By.out (by first | exact neyx | exact (Ne.symm nexy) | assumption | (exact Ne.symm (by assumption)) | omega))
  replace Bx := hide hst.box
  replace hU := hU.trans (hst.bel hzx)
  clear hst
  refine anyE_st (i := 11) (m' := 4095) By.out rfl rfl (by kernel_rfl) (by kernel_rfl) (by kernel_rfl) (by kernel_rfl) rfl (by kernel_rfl) (A2 := Ay) (m2 := ly.length) (c2 := cy) (s2 := sy) (by kernel_rfl) ?_
  intro w76 hst
  replace Oa := hide (hst.rq Oa.out)
  replace Ob := hide (hst.rq Ob.out)
  replace O1 := hide (hst.rq O1.out)
  replace Ox := hide (hst.rq Ox.out)
  replace Oy := hide (hst.rq Oy.out)
  replace Ba := hide (hst.ne Ba.out (by first | exact neay | exact (Ne.symm neya) | assumption | (exact Ne.symm (by assumption)) | omega))
  replace Bb := hide (hst.ne Bb.out (by first | exact neby | exact (Ne.symm neyb) | assumption | (exact Ne.symm (by assumption)) | omega))
  replace B1 := hide (hst.ne B1.out (by first | exact ne1y | exact (Ne.symm ney1) | assumption | (exact Ne.symm (by assumption)) | omega))
  replace Bx := hide (hst.ne Bx.out (by first | exact nexy | exact (Ne.symm neyx) | assumption | (exact Ne.symm (by assumption)) | omega))
  replace By := hide hst.box
  replace hU := hU.trans (hst.bel hzy)
  clear hst
  refine anyE_done (by kernel_rfl) ?_
  refine then_normal ⟨((lx, sx, Ax, cx), (ly, sy, Ay, cy), Nx, Ny), _, rfl, Kp_c (by kernel_rfl) (Kp_c (by kernel_rfl) (Kp_c (by kernel_rfl) (Kp_c (by kernel_rfl) (Kp_c (by kernel_rfl) (Kp_c (by kernel_rfl) (Kp_c (by kernel_rfl) (Kp_c (by kernel_rfl) (Kp_c (by kernel_rfl) (Kp_c (by kernel_rfl) (Kp_c (by kernel_rfl) (Kp_c (by kernel_rfl) (Kp_c (by kernel_rfl) (Kp_c (by kernel_rfl) (Kp_c (by kernel_rfl) (Kp_c (by kernel_rfl) (Kp_c (by kernel_rfl) (Kp_c (by kernel_rfl) (Kp_c (by kernel_rfl) (Kp_c (by kernel_rfl) (Kp_c (by kernel_rfl) (Kp_c (by kernel_rfl) (Kp_c (by kernel_rfl) (Kp_c (by kernel_rfl) (Kp_n)))))))))))))))))))))))), ?_⟩
  dsimp only
  exact ⟨hU, Oa, Ob, O1, Ex, Ox, Cx, Lx, Yx, Ey, Oy, Cy, Ly, Yy, Ba, Bb, B1, Bx, By, hzx, hzy⟩
  refine stepR_al (i := 9) (m' := 879) rfl rfl (by kernel_rfl) (by kernel_rfl) (by kernel_rfl) rfl ?_
  intro w77 Ny By hNy hb
  replace By := hide By
  have neay : Na ≠ Ny := by have := Ba.out.lt; omega
  have neby : Nb ≠ Ny := by have := Bb.out.lt; omega
  have ne1y : N1 ≠ Ny := by have := B1.out.lt; omega
  have nexy : Nx ≠ Ny := by have := Bx.out.lt; omega
  replace Oa := hide (RQ.below Oa.out hb)
  replace Ob := hide (RQ.below Ob.out hb)
  replace O1 := hide (RQ.below O1.out hb)
  replace Ox := hide (RQ.below Ox.out hb)
  replace Ba := hide (Box.kept Ba.out hb)
  replace Bb := hide (Box.kept Bb.out hb)
  replace B1 := hide (Box.kept B1.out hb)
  replace Bx := hide (Box.kept Bx.out hb)
  have hzy : w.heap.size ≤ Ny := Nat.le_trans hU.size hNy
  clear hNy
  replace hU := hU.trans (hb.mono hU.size)
  clear hb
  refine anyR_call (i := 4) (m' := 895) rfl rfl (by kernel_rfl) (by kernel_rfl) (by kernel_rfl) (by kernel_rfl) (by kernel_rfl) ((vof_any ⟨#[48]⟩ _ (by decide)).mono ?_)
  rintro e w78 ⟨l0, s0, A0, c0, E0, rfl, C0, O0, hb⟩
  refine ⟨_, rfl, hb, ?_⟩
  replace Oa := hide (RQ.below Oa.out hb)
  replace Ob := hide (RQ.below Ob.out hb)
  replace O1 := hide (RQ.below O1.out hb)
  replace Ox := hide (RQ.below Ox.out hb)
  replace Ba := hide (Box.kept Ba.out hb)
  replace Bb := hide (Box.kept Bb.out hb)
  replace B1 := hide (Box.kept B1.out hb)
  replace Bx := hide (Box.kept Bx.out hb)
  replace By := hide (Box.kept By.out hb)
  replace O0 := hide O0.out.rd
  replace hU := hU.trans (hb.mono hU.size)
  clear hb
  have G0 : Gd l0 := by have h := congrArg Vc.b E0.out; dsimp only at h; rw [h]; exact gd_of (by decide +kernel)
  have L0 := hide (show l0.length ≤ 4096 from Nat.le_trans G0.le (by decide))
  have Y0 := hide G0.by_
  clear G0
  refine anyR_call (i := 7) (m' := 1023) rfl rfl (by kernel_rfl) (by kernel_rfl) (by kernel_rfl) (by kernel_rfl) (by kernel_rfl) ((vCond_any A0 l0 c0 s0 Aa Ab la lb ca cb sa sb _ La.out Lb.out Ca Cb Oa.out Ob.out Ya.out Yb.out L0.out C0 O0.out Y0.out (HT.out.kept hU)).mono ?_)
  rintro e w79 ⟨ly, sy, Ay, cy, Ey, rfl, Cy, Oy, hb⟩
  refine ⟨_, rfl, hb, ?_⟩
  replace Oa := hide (RQ.below Oa.out hb)
  replace Ob := hide (RQ.below Ob.out hb)
  replace O1 := hide (RQ.below O1.out hb)
  replace Ox := hide (RQ.below Ox.out hb)
  replace O0 := hide (RQ.below O0.out hb)
  replace Ba := hide (Box.kept Ba.out hb)
  replace Bb := hide (Box.kept Bb.out hb)
  replace B1 := hide (Box.kept B1.out hb)
  replace Bx := hide (Box.kept Bx.out hb)
  replace By := hide (Box.kept By.out hb)
  replace Oy := hide Oy.out.rd
  replace hU := hU.trans (hb.mono hU.size)
  clear hb
  have Gy : Gd ly := by have h := congrArg Vc.b Ey.out; dsimp only at h; rw [h]; exact (by rw [E0.out, of_zero, vCond_0]; exact gd_blB Ya.out Yb.out)
  have Ly := hide (show ly.length ≤ 4096 from Nat.le_trans Gy.le (by decide))
  have Yy := hide Gy.by_
  clear Gy
  replace Ey := hide (show (⟨ly, sy⟩ : Vc) = ⟨blB ⟨la, sa⟩ ⟨lb, sb⟩, sg ⟨la, sa⟩ ⟨lb, sb⟩⟩ from Ey.out.trans (by rw [E0.out, of_zero, vCond_0]))
  clear O0 C0 L0 Y0
  refine anyR_e ?_
  refine anyE_st (i := 10) (m' := 2047) Bx.out rfl rfl (by kernel_rfl) (by kernel_rfl) (by kernel_rfl) (by kernel_rfl) rfl (by kernel_rfl) (A2 := Ax) (m2 := lx.length) (c2 := cx) (s2 := sx) (by kernel_rfl) ?_
  intro w80 hst
  replace Oa := hide (hst.rq Oa.out)
  replace Ob := hide (hst.rq Ob.out)
  replace O1 := hide (hst.rq O1.out)
  replace Ox := hide (hst.rq Ox.out)
  replace Oy := hide (hst.rq Oy.out)
  replace Ba := hide (hst.ne Ba.out (by first | exact neax | exact (Ne.symm nexa) | assumption | (exact Ne.symm (by assumption)) | omega))
  replace Bb := hide (hst.ne Bb.out (by first | exact nebx | exact (Ne.symm nexb) | assumption | (exact Ne.symm (by assumption)) | omega))
  replace B1 := hide (hst.ne B1.out (by first | exact ne1x | exact (Ne.symm nex1) | assumption | (exact Ne.symm (by assumption)) | omega))
  replace By := hide (hst.ne By.out (by first | exact neyx | exact (Ne.symm nexy) | assumption | (exact Ne.symm (by assumption)) | omega))
  replace Bx := hide hst.box
  replace hU := hU.trans (hst.bel hzx)
  clear hst
  refine anyE_st (i := 11) (m' := 4095) By.out rfl rfl (by kernel_rfl) (by kernel_rfl) (by kernel_rfl) (by kernel_rfl) rfl (by kernel_rfl) (A2 := Ay) (m2 := ly.length) (c2 := cy) (s2 := sy) (by kernel_rfl) ?_
  intro w81 hst
  replace Oa := hide (hst.rq Oa.out)
  replace Ob := hide (hst.rq Ob.out)
  replace O1 := hide (hst.rq O1.out)
  replace Ox := hide (hst.rq Ox.out)
  replace Oy := hide (hst.rq Oy.out)
  replace Ba := hide (hst.ne Ba.out (by first | exact neay | exact (Ne.symm neya) | assumption | (exact Ne.symm (by assumption)) | omega))
  replace Bb := hide (hst.ne Bb.out (by first | exact neby | exact (Ne.symm neyb) | assumption | (exact Ne.symm (by assumption)) | omega))
  replace B1 := hide (hst.ne B1.out (by first | exact ne1y | exact (Ne.symm ney1) | assumption | (exact Ne.symm (by assumption)) | omega))
  replace Bx := hide (hst.ne Bx.out (by first | exact nexy | exact (Ne.symm neyx) | assumption | (exact Ne.symm (by assumption)) | omega))
  replace By := hide hst.box
  replace hU := hU.trans (hst.bel hzy)
  clear hst
  refine anyE_done (by kernel_rfl) ?_
  refine then_normal ⟨((lx, sx, Ax, cx), (ly, sy, Ay, cy), Nx, Ny), _, rfl, Kp_c (by kernel_rfl) (Kp_c (by kernel_rfl) (Kp_c (by kernel_rfl) (Kp_c (by kernel_rfl) (Kp_c (by kernel_rfl) (Kp_c (by kernel_rfl) (Kp_c (by kernel_rfl) (Kp_c (by kernel_rfl) (Kp_c (by kernel_rfl) (Kp_c (by kernel_rfl) (Kp_c (by kernel_rfl) (Kp_c (by kernel_rfl) (Kp_c (by kernel_rfl) (Kp_c (by kernel_rfl) (Kp_c (by kernel_rfl) (Kp_c (by kernel_rfl) (Kp_c (by kernel_rfl) (Kp_c (by kernel_rfl) (Kp_c (by kernel_rfl) (Kp_c (by kernel_rfl) (Kp_c (by kernel_rfl) (Kp_c (by kernel_rfl) (Kp_c (by kernel_rfl) (Kp_c (by kernel_rfl) (Kp_n)))))))))))))))))))))))), ?_⟩
  dsimp only
  exact ⟨hU, Oa, Ob, O1, Ex, Ox, Cx, Lx, Yx, Ey, Oy, Cy, Ly, Yy, Ba, Bb, B1, Bx, By, hzx, hzy⟩
  refine stepR_al (i := 9) (m' := 871) rfl rfl (by kernel_rfl) (by kernel_rfl) (by kernel_rfl) rfl ?_
  intro w82 Ny By hNy hb
  replace By := hide By
  have neay : Na ≠ Ny := by have := Ba.out.lt; omega
  have neby : Nb ≠ Ny := by have := Bb.out.lt; omega
  have ne1y : N1 ≠ Ny := by have := B1.out.lt; omega
  have nexy : Nx ≠ Ny := by have := Bx.out.lt; omega
  replace Oa := hide (RQ.below Oa.out hb)
  replace Ob := hide (RQ.below Ob.out hb)
  replace O1 := hide (RQ.below O1.out hb)
  replace Ba := hide (Box.kept Ba.out hb)
  replace Bb := hide (Box.kept Bb.out hb)
  replace B1 := hide (Box.kept B1.out hb)
  replace Bx := hide (Box.kept Bx.out hb)
  have hzy : w.heap.size ≤ Ny := Nat.le_trans hU.size hNy
  clear hNy
  replace hU := hU.trans (hb.mono hU.size)
  clear hb
  refine anyR_call (i := 3) (m' := 879) rfl rfl (by kernel_rfl) (by kernel_rfl) (by kernel_rfl) (by kernel_rfl) (by kernel_rfl) ((vCond_any A1 l1 c1 s1 Aa Ab la lb ca cb sa sb _ La.out Lb.out Ca Cb Oa.out Ob.out Ya.out Yb.out L1.out C1 O1.out Y1.out (HT.out.kept hU)).mono ?_)
  rintro e w83 ⟨lx, sx, Ax, cx, Ex, rfl, Cx, Ox, hb⟩
  refine ⟨_, rfl, hb, ?_⟩
  replace Oa := hide (RQ.below Oa.out hb)
  replace Ob := hide (RQ.below Ob.out hb)
  replace O1 := hide (RQ.below O1.out hb)
  replace Ba := hide (Box.kept Ba.out hb)
  replace Bb := hide (Box.kept Bb.out hb)
  replace B1 := hide (Box.kept B1.out hb)
  replace Bx := hide (Box.kept Bx.out hb)
  replace By := hide (Box.kept By.out hb)
  replace Ox := hide Ox.out.rd
  replace hU := hU.trans (hb.mono hU.size)
  clear hb
  have Gx : Gd lx := by have h := congrArg Vc.b Ex.out; dsimp only at h; rw [h]; exact (by rw [E1.out, of_one, vCond_1]; exact gd_blA Ya.out Yb.out)
  have Lx := hide (show lx.length ≤ 4096 from Nat.le_trans Gx.le (by decide))
  have Yx := hide Gx.by_
  clear Gx
  replace Ex := hide (show (⟨lx, sx⟩ : Vc) = ⟨blA ⟨la, sa⟩ ⟨lb, sb⟩, sg ⟨la, sa⟩ ⟨lb, sb⟩⟩ from Ex.out.trans (by rw [E1.out, of_one, vCond_1]))
  refine anyR_call (i := 4) (m' := 895) rfl rfl (by kernel_rfl) (by kernel_rfl) (by kernel_rfl) (by kernel_rfl) (by kernel_rfl) ((vof_any ⟨#[48]⟩ _ (by decide)).mono ?_)
  rintro e w84 ⟨l0, s0, A0, c0, E0, rfl, C0, O0, hb⟩
  refine ⟨_, rfl, hb, ?_⟩
  replace Oa := hide (RQ.below Oa.out hb)
  replace Ob := hide (RQ.below Ob.out hb)
  replace O1 := hide (RQ.below O1.out hb)
  replace Ox := hide (RQ.below Ox.out hb)
  replace Ba := hide (Box.kept Ba.out hb)
  replace Bb := hide (Box.kept Bb.out hb)
  replace B1 := hide (Box.kept B1.out hb)
  replace Bx := hide (Box.kept Bx.out hb)
  replace By := hide (Box.kept By.out hb)
  replace O0 := hide O0.out.rd
  replace hU := hU.trans (hb.mono hU.size)
  clear hb
  have G0 : Gd l0 := by have h := congrArg Vc.b E0.out; dsimp only at h; rw [h]; exact gd_of (by decide +kernel)
  have L0 := hide (show l0.length ≤ 4096 from Nat.le_trans G0.le (by decide))
  have Y0 := hide G0.by_
  clear G0
  refine anyR_call (i := 7) (m' := 1023) rfl rfl (by kernel_rfl) (by kernel_rfl) (by kernel_rfl) (by kernel_rfl) (by kernel_rfl) ((vCond_any A0 l0 c0 s0 Aa Ab la lb ca cb sa sb _ La.out Lb.out Ca Cb Oa.out Ob.out Ya.out Yb.out L0.out C0 O0.out Y0.out (HT.out.kept hU)).mono ?_)
  rintro e w85 ⟨ly, sy, Ay, cy, Ey, rfl, Cy, Oy, hb⟩
  refine ⟨_, rfl, hb, ?_⟩
  replace Oa := hide (RQ.below Oa.out hb)
  replace Ob := hide (RQ.below Ob.out hb)
  replace O1 := hide (RQ.below O1.out hb)
  replace Ox := hide (RQ.below Ox.out hb)
  replace O0 := hide (RQ.below O0.out hb)
  replace Ba := hide (Box.kept Ba.out hb)
  replace Bb := hide (Box.kept Bb.out hb)
  replace B1 := hide (Box.kept B1.out hb)
  replace Bx := hide (Box.kept Bx.out hb)
  replace By := hide (Box.kept By.out hb)
  replace Oy := hide Oy.out.rd
  replace hU := hU.trans (hb.mono hU.size)
  clear hb
  have Gy : Gd ly := by have h := congrArg Vc.b Ey.out; dsimp only at h; rw [h]; exact (by rw [E0.out, of_zero, vCond_0]; exact gd_blB Ya.out Yb.out)
  have Ly := hide (show ly.length ≤ 4096 from Nat.le_trans Gy.le (by decide))
  have Yy := hide Gy.by_
  clear Gy
  replace Ey := hide (show (⟨ly, sy⟩ : Vc) = ⟨blB ⟨la, sa⟩ ⟨lb, sb⟩, sg ⟨la, sa⟩ ⟨lb, sb⟩⟩ from Ey.out.trans (by rw [E0.out, of_zero, vCond_0]))
  clear O0 C0 L0 Y0
  refine anyR_e ?_
  refine anyE_st (i := 10) (m' := 2047) Bx.out rfl rfl (by kernel_rfl) (by kernel_rfl) (by kernel_rfl) (by kernel_rfl) rfl (by kernel_rfl) (A2 := Ax) (m2 := lx.length) (c2 := cx) (s2 := sx) (by kernel_rfl) ?_
  intro w86 hst
  replace Oa := hide (hst.rq Oa.out)
  replace Ob := hide (hst.rq Ob.out)
  replace O1 := hide (hst.rq O1.out)
  replace Ox := hide (hst.rq Ox.out)
  replace Oy := hide (hst.rq Oy.out)
  replace Ba := hide (hst.ne Ba.out (by first | exact neax | exact (Ne.symm nexa) | assumption | (exact Ne.symm (by assumption)) | omega))
  replace Bb := hide (hst.ne Bb.out (by first | exact nebx | exact (Ne.symm nexb) | assumption | (exact Ne.symm (by assumption)) | omega))
  replace B1 := hide (hst.ne B1.out (by first | exact ne1x | exact (Ne.symm nex1) | assumption | (exact Ne.symm (by assumption)) | omega))
  replace By := hide (hst.ne By.out (by first | exact neyx | exact (Ne.symm nexy) | assumption | (exact Ne.symm (by assumption)) | omega))
  replace Bx := hide hst.box
  replace hU := hU.trans (hst.bel hzx)
  clear hst
  refine anyE_st (i := 11) (m' := 4095) By.out rfl rfl (by kernel_rfl) (by kernel_rfl) (by kernel_rfl) (by kernel_rfl) rfl (by kernel_rfl) (A2 := Ay) (m2 := ly.length) (c2 := cy) (s2 := sy) (by kernel_rfl) ?_
  intro w87 hst
  replace Oa := hide (hst.rq Oa.out)
  replace Ob := hide (hst.rq Ob.out)
  replace O1 := hide (hst.rq O1.out)
  replace Ox := hide (hst.rq Ox.out)
  replace Oy := hide (hst.rq Oy.out)
  replace Ba := hide (hst.ne Ba.out (by first | exact neay | exact (Ne.symm neya) | assumption | (exact Ne.symm (by assumption)) | omega))
  replace Bb := hide (hst.ne Bb.out (by first | exact neby | exact (Ne.symm neyb) | assumption | (exact Ne.symm (by assumption)) | omega))
  replace B1 := hide (hst.ne B1.out (by first | exact ne1y | exact (Ne.symm ney1) | assumption | (exact Ne.symm (by assumption)) | omega))
  replace Bx := hide (hst.ne Bx.out (by first | exact nexy | exact (Ne.symm neyx) | assumption | (exact Ne.symm (by assumption)) | omega))
  replace By := hide hst.box
  replace hU := hU.trans (hst.bel hzy)
  clear hst
  refine anyE_done (by kernel_rfl) ?_
  refine then_normal ⟨((lx, sx, Ax, cx), (ly, sy, Ay, cy), Nx, Ny), _, rfl, Kp_c (by kernel_rfl) (Kp_c (by kernel_rfl) (Kp_c (by kernel_rfl) (Kp_c (by kernel_rfl) (Kp_c (by kernel_rfl) (Kp_c (by kernel_rfl) (Kp_c (by kernel_rfl) (Kp_c (by kernel_rfl) (Kp_c (by kernel_rfl) (Kp_c (by kernel_rfl) (Kp_c (by kernel_rfl) (Kp_c (by kernel_rfl) (Kp_c (by kernel_rfl) (Kp_c (by kernel_rfl) (Kp_c (by kernel_rfl) (Kp_c (by kernel_rfl) (Kp_c (by kernel_rfl) (Kp_c (by kernel_rfl) (Kp_c (by kernel_rfl) (Kp_c (by kernel_rfl) (Kp_c (by kernel_rfl) (Kp_c (by kernel_rfl) (Kp_c (by kernel_rfl) (Kp_c (by kernel_rfl) (Kp_n)))))))))))))))))))))))), ?_⟩
  dsimp only
  exact ⟨hU, Oa, Ob, O1, Ex, Ox, Cx, Lx, Yx, Ey, Oy, Cy, Ly, Yy, Ba, Bb, B1, Bx, By, hzx, hzy⟩
  refine stepR_al (i := 9) (m' := 615) rfl rfl (by kernel_rfl) (by kernel_rfl) (by kernel_rfl) rfl ?_
  intro w88 Ny By hNy hb
  replace By := hide By
  replace hb : Below w6.heap.size w6 w88 := Below.trans ((Below.refl _ _).drew) hb
  replace hNy : w6.heap.size ≤ Ny := hNy
  have neay : Na ≠ Ny := by have := Ba.out.lt; omega
  have neby : Nb ≠ Ny := by have := Bb.out.lt; omega
  have ne1y : N1 ≠ Ny := by have := B1.out.lt; omega
  replace Oa := hide (RQ.below Oa.out hb)
  replace Ob := hide (RQ.below Ob.out hb)
  replace O1 := hide (RQ.below O1.out hb)
  replace Ba := hide (Box.kept Ba.out hb)
  replace Bb := hide (Box.kept Bb.out hb)
  replace B1 := hide (Box.kept B1.out hb)
  have hzy : w.heap.size ≤ Ny := Nat.le_trans hU.size hNy
  clear hNy
  replace hU := hU.trans (hb.mono hU.size)
  clear hb
  refine anyR_split [3, 8] (by kernel_rfl) rfl ⟨?_, ?_, trivial⟩
  refine stepR_call (i := 3) (m' := 623) rfl rfl (by kernel_rfl) (by kernel_rfl) (by kernel_rfl) (by kernel_rfl) ((vCond_any A1 l1 c1 s1 Aa Ab la lb ca cb sa sb _ La.out Lb.out Ca Cb Oa.out Ob.out Ya.out Yb.out L1.out C1 O1.out Y1.out (HT.out.kept hU)).mono ?_)
  rintro e w89 ⟨lx, sx, Ax, cx, Ex, rfl, Cx, Ox, hb⟩
  refine ⟨_, rfl, hb, ?_⟩
  replace Oa := hide (RQ.below Oa.out hb)
  replace Ob := hide (RQ.below Ob.out hb)
  replace O1 := hide (RQ.below O1.out hb)
  replace Ba := hide (Box.kept Ba.out hb)
  replace Bb := hide (Box.kept Bb.out hb)
  replace B1 := hide (Box.kept B1.out hb)
  replace By := hide (Box.kept By.out hb)
  replace Ox := hide Ox.out.rd
  replace hU := hU.trans (hb.mono hU.size)
  clear hb
  have Gx : Gd lx := by have h := congrArg Vc.b Ex.out; dsimp only at h; rw [h]; exact (by rw [E1.out, of_one, vCond_1]; exact gd_blA Ya.out Yb.out)
  have Lx := hide (show lx.length ≤ 4096 from Nat.le_trans Gx.le (by decide))
  have Yx := hide Gx.by_
  clear Gx
  replace Ex := hide (show (⟨lx, sx⟩ : Vc) = ⟨blA ⟨la, sa⟩ ⟨lb, sb⟩, sg ⟨la, sa⟩ ⟨lb, sb⟩⟩ from Ex.out.trans (by rw [E1.out, of_one, vCond_1]))
  refine anyR_split [4, 8] (by kernel_rfl) rfl ⟨?_, ?_, trivial⟩
  refine stepR_call (i := 4) (m' := 639) rfl rfl (by kernel_rfl) (by kernel_rfl) (by kernel_rfl) (by kernel_rfl) ((vof_any ⟨#[48]⟩ _ (by decide)).mono ?_)
  rintro e w90 ⟨l0, s0, A0, c0, E0, rfl, C0, O0, hb⟩
  refine ⟨_, rfl, hb, ?_⟩
  replace Oa := hide (RQ.below Oa.out hb)
  replace Ob := hide (RQ.below Ob.out hb)
  replace O1 := hide (RQ.below O1.out hb)
  replace Ox := hide (RQ.below Ox.out hb)
  replace Ba := hide (Box.kept Ba.out hb)
  replace Bb := hide (Box.kept Bb.out hb)
  replace B1 := hide (Box.kept B1.out hb)
  replace By := hide (Box.kept By.out hb)
  replace O0 := hide O0.out.rd
  replace hU := hU.trans (hb.mono hU.size)
  clear hb
  have G0 : Gd l0 := by have h := congrArg Vc.b E0.out; dsimp only at h; rw [h]; exact gd_of (by decide +kernel)
  have L0 := hide (show l0.length ≤ 4096 from Nat.le_trans G0.le (by decide))
  have Y0 := hide G0.by_
  clear G0
  refine anyR_split [7, 8] (by kernel_rfl) rfl ⟨?_, ?_, trivial⟩
  refine stepR_call (i := 7) (m' := 767) rfl rfl (by kernel_rfl) (by kernel_rfl) (by kernel_rfl) (by kernel_rfl) ((vCond_any A0 l0 c0 s0 Aa Ab la lb ca cb sa sb _ La.out Lb.out Ca Cb Oa.out Ob.out Ya.out Yb.out L0.out C0 O0.out Y0.out (HT.out.kept hU)).mono ?_)
  rintro e w91 ⟨ly, sy, Ay, cy, Ey, rfl, Cy, Oy, hb⟩
  refine ⟨_, rfl, hb, ?_⟩
  replace Oa := hide (RQ.below Oa.out hb)
  replace Ob := hide (RQ.below Ob.out hb)
  replace O1 := hide (RQ.below O1.out hb)
  replace Ox := hide (RQ.below Ox.out hb)
  replace O0 := hide (RQ.below O0.out hb)
  replace Ba := hide (Box.kept Ba.out hb)
  replace Bb := hide (Box.kept Bb.out hb)
  replace B1 := hide (Box.kept B1.out hb)
  replace By := hide (Box.kept By.out hb)
  replace Oy := hide Oy.out.rd
  replace hU := hU.trans (hb.mono hU.size)
  clear hb
  have Gy : Gd ly := by have h := congrArg Vc.b Ey.out; dsimp only at h; rw [h]; exact (by rw [E0.out, of_zero, vCond_0]; exact gd_blB Ya.out Yb.out)
  have Ly := hide (show ly.length ≤ 4096 from Nat.le_trans Gy.le (by decide))
  have Yy := hide Gy.by_
  clear Gy
  replace Ey := hide (show (⟨ly, sy⟩ : Vc) = ⟨blB ⟨la, sa⟩ ⟨lb, sb⟩, sg ⟨la, sa⟩ ⟨lb, sb⟩⟩ from Ey.out.trans (by rw [E0.out, of_zero, vCond_0]))
  clear O0 C0 L0 Y0
  refine anyR_split [8] (by kernel_rfl) rfl ⟨?_, trivial⟩
  refine stepR_al (i := 8) (m' := 1023) rfl rfl (by kernel_rfl) (by kernel_rfl) (by kernel_rfl) rfl ?_
  intro w92 Nx Bx hNx hb
  replace Bx := hide Bx
  have neax : Na ≠ Nx := by have := Ba.out.lt; omega
  have nebx : Nb ≠ Nx := by have := Bb.out.lt; omega
  have ne1x : N1 ≠ Nx := by have := B1.out.lt; omega
  have neyx : Ny ≠ Nx := by have := By.out.lt; omega
  replace Oa := hide (RQ.below Oa.out hb)
  replace Ob := hide (RQ.below Ob.out hb)
  replace O1 := hide (RQ.below O1.out hb)
  replace Ox := hide (RQ.below Ox.out hb)
  replace Oy := hide (RQ.below Oy.out hb)
  replace Ba := hide (Box.kept Ba.out hb)
  replace Bb := hide (Box.kept Bb.out hb)
  replace B1 := hide (Box.kept B1.out hb)
  replace By := hide (Box.kept By.out hb)
  have hzx : w.heap.size ≤ Nx := Nat.le_trans hU.size hNx
  clear hNx
  replace hU := hU.trans (hb.mono hU.size)
  clear hb
  refine anyR_e ?_
  refine anyE_st (i := 10) (m' := 2047) Bx.out rfl rfl (by kernel_rfl) (by kernel_rfl) (by kernel_rfl) (by kernel_rfl) rfl (by kernel_rfl) (A2 := Ax) (m2 := lx.length) (c2 := cx) (s2 := sx) (by kernel_rfl) ?_
  intro w93 hst
  replace Oa := hide (hst.rq Oa.out)
  replace Ob := hide (hst.rq Ob.out)
  replace O1 := hide (hst.rq O1.out)
  replace Ox := hide (hst.rq Ox.out)
  replace Oy := hide (hst.rq Oy.out)
  replace Ba := hide (hst.ne Ba.out (by first | exact neax | exact (Ne.symm nexa) | assumption | (exact Ne.symm (by assumption)) | omega))
  replace Bb := hide (hst.ne Bb.out (by first | exact nebx | exact (Ne.symm nexb) | assumption | (exact Ne.symm (by assumption)) | omega))
  replace B1 := hide (hst.ne B1.out (by first | exact ne1x | exact (Ne.symm nex1) | assumption | (exact Ne.symm (by assumption)) | omega))
  replace By := hide (hst.ne By.out (by first | exact neyx | exact (Ne.symm nexy) | assumption | (exact Ne.symm (by assumption)) | omega))
  replace Bx := hide hst.box
  replace hU := hU.trans (hst.bel hzx)
  clear hst
  refine anyE_st (i := 11) (m' := 4095) By.out rfl rfl (by kernel_rfl) (by kernel_rfl) (by kernel_rfl) (by kernel_rfl) rfl (by kernel_rfl) (A2 := Ay) (m2 := ly.length) (c2 := cy) (s2 := sy) (by kernel_rfl) ?_
  intro w94 hst
  replace Oa := hide (hst.rq Oa.out)
  replace Ob := hide (hst.rq Ob.out)
  replace O1 := hide (hst.rq O1.out)
  replace Ox := hide (hst.rq Ox.out)
  replace Oy := hide (hst.rq Oy.out)
  replace Ba := hide (hst.ne Ba.out (by first | exact neay | exact (Ne.symm neya) | assumption | (exact Ne.symm (by assumption)) | omega))
  replace Bb := hide (hst.ne Bb.out (by first | exact neby | exact (Ne.symm neyb) | assumption | (exact Ne.symm (by assumption)) | omega))
  replace B1 := hide (hst.ne B1.out (by first | exact ne1y | exact (Ne.symm ney1) | assumption | (exact Ne.symm (by assumption)) | omega))
  replace Bx := hide (hst.ne Bx.out (by first | exact nexy | exact (Ne.symm neyx) | assumption | (exact Ne.symm (by assumption)) | omega))
  replace By := hide hst.box
  replace hU := hU.trans (hst.bel hzy)
  clear hst
  refine anyE_done (by kernel_rfl) ?_
  refine then_normal ⟨((lx, sx, Ax, cx), (ly, sy, Ay, cy), Nx, Ny), _, rfl, Kp_c (by kernel_rfl) (Kp_c (by kernel_rfl) (Kp_c (by kernel_rfl) (Kp_c (by kernel_rfl) (Kp_c (by kernel_rfl) (Kp_c (by kernel_rfl) (Kp_c (by kernel_rfl) (Kp_c (by kernel_rfl) (Kp_c (by kernel_rfl) (Kp_c (by kernel_rfl) (Kp_c (by kernel_rfl) (Kp_c (by kernel_rfl) (Kp_c (by kernel_rfl) (Kp_c (by kernel_rfl) (Kp_c (by kernel_rfl) (Kp_c (by kernel_rfl) (Kp_c (by kernel_rfl) (Kp_c (by kernel_rfl) (Kp_c (by kernel_rfl) (Kp_c (by kernel_rfl) (Kp_c (by kernel_rfl) (Kp_c (by kernel_rfl) (Kp_c (by kernel_rfl) (Kp_c (by kernel_rfl) (Kp_n)))))))))))))))))))))))), ?_⟩
  dsimp only
  exact ⟨hU, Oa, Ob, O1, Ex, Ox, Cx, Lx, Yx, Ey, Oy, Cy, Ly, Yy, Ba, Bb, B1, Bx, By, hzx, hzy⟩
  refine stepR_al (i := 8) (m' := 895) rfl rfl (by kernel_rfl) (by kernel_rfl) (by kernel_rfl) rfl ?_
  intro w95 Nx Bx hNx hb
  replace Bx := hide Bx
  have neax : Na ≠ Nx := by have := Ba.out.lt; omega
  have nebx : Nb ≠ Nx := by have := Bb.out.lt; omega
  have ne1x : N1 ≠ Nx := by have := B1.out.lt; omega
  have neyx : Ny ≠ Nx := by have := By.out.lt; omega
  replace Oa := hide (RQ.below Oa.out hb)
  replace Ob := hide (RQ.below Ob.out hb)
  replace O1 := hide (RQ.below O1.out hb)
  replace Ox := hide (RQ.below Ox.out hb)
  replace O0 := hide (RQ.below O0.out hb)
  replace Ba := hide (Box.kept Ba.out hb)
  replace Bb := hide (Box.kept Bb.out hb)
  replace B1 := hide (Box.kept B1.out hb)
  replace By := hide (Box.kept By.out hb)
  have hzx : w.heap.size ≤ Nx := Nat.le_trans hU.size hNx
  clear hNx
  replace hU := hU.trans (hb.mono hU.size)
  clear hb
  refine anyR_call (i := 7) (m' := 1023) rfl rfl (by kernel_rfl) (by kernel_rfl) (by kernel_rfl) (by kernel_rfl) (by kernel_rfl) ((vCond_any A0 l0 c0 s0 Aa Ab la lb ca cb sa sb _ La.out Lb.out Ca Cb Oa.out Ob.out Ya.out Yb.out L0.out C0 O0.out Y0.out (HT.out.kept hU)).mono ?_)
  rintro e w96 ⟨ly, sy, Ay, cy, Ey, rfl, Cy, Oy, hb⟩
  refine ⟨_, rfl, hb, ?_⟩
  replace Oa := hide (RQ.below Oa.out hb)
  replace Ob := hide (RQ.below Ob.out hb)
  replace O1 := hide (RQ.below O1.out hb)
  replace Ox := hide (RQ.below Ox.out hb)
  replace O0 := hide (RQ.below O0.out hb)
  replace Ba := hide (Box.kept Ba.out hb)
  replace Bb := hide (Box.kept Bb.out hb)
  replace B1 := hide (Box.kept B1.out hb)
  replace By := hide (Box.kept By.out hb)
  replace Bx := hide (Box.kept Bx.out hb)
  replace Oy := hide Oy.out.rd
  replace hU := hU.trans (hb.mono hU.size)
  clear hb
  have Gy : Gd ly := by have h := congrArg Vc.b Ey.out; dsimp only at h; rw [h]; exact (by rw [E0.out, of_zero, vCond_0]; exact gd_blB Ya.out Yb.out)
  have Ly := hide (show ly.length ≤ 4096 from Nat.le_trans Gy.le (by decide))
  have Yy := hide Gy.by_
  clear Gy
  replace Ey := hide (show (⟨ly, sy⟩ : Vc) = ⟨blB ⟨la, sa⟩ ⟨lb, sb⟩, sg ⟨la, sa⟩ ⟨lb, sb⟩⟩ from Ey.out.trans (by rw [E0.out, of_zero, vCond_0]))
  clear O0 C0 L0 Y0
  refine anyR_e ?_
  refine anyE_st (i := 10) (m' := 2047) Bx.out rfl rfl (by kernel_rfl) (by kernel_rfl) (by kernel_rfl) (by kernel_rfl) rfl (by kernel_rfl) (A2 := Ax) (m2 := lx.length) (c2 := cx) (s2 := sx) (by kernel_rfl) ?_
  intro w97 hst
  replace Oa := hide (hst.rq Oa.out)
  replace Ob := hide (hst.rq Ob.out)
  replace O1 := hide (hst.rq O1.out)
  replace Ox := hide (hst.rq Ox.out)
  replace Oy := hide (hst.rq Oy.out)
  replace Ba := hide (hst.ne Ba.out (by first | exact neax | exact (Ne.symm nexa) | assumption | (exact Ne.symm (by assumption)) | omega))
  replace Bb := hide (hst.ne Bb.out (by first | exact nebx | exact (Ne.symm nexb) | assumption | (exact Ne.symm (by assumption)) | omega))
  replace B1 := hide (hst.ne B1.out (by first | exact ne1x | exact (Ne.symm nex1) | assumption | (exact Ne.symm (by assumption)) | omega))
  replace By := hide (hst.ne By.out (by first | exact neyx | exact (Ne.symm nexy) | assumption | (exact Ne.symm (by assumption)) | omega))
  replace Bx := hide hst.box
  replace hU := hU.trans (hst.bel hzx)
  clear hst
  refine anyE_st (i := 11) (m' := 4095) By.out rfl rfl (by kernel_rfl) (by kernel_rfl) (by kernel_rfl) (by kernel_rfl) rfl (by kernel_rfl) (A2 := Ay) (m2 := ly.length) (c2 := cy) (s2 := sy) (by kernel_rfl) ?_
  intro w98 hst
  replace Oa := hide (hst.rq Oa.out)
  replace Ob := hide (hst.rq Ob.out)
  replace O1 := hide (hst.rq O1.out)
  replace Ox := hide (hst.rq Ox.out)
  replace Oy := hide (hst.rq Oy.out)
  replace Ba := hide (hst.ne Ba.out (by first | exact neay | exact (Ne.symm neya) | assumption | (exact Ne.symm (by assumption)) | omega))
  replace Bb := hide (hst.ne Bb.out (by first | exact neby | exact (Ne.symm neyb) | assumption | (exact Ne.symm (by assumption)) | omega))
  replace B1 := hide (hst.ne B1.out (by first | exact ne1y | exact (Ne.symm ney1) | assumption | (exact Ne.symm (by assumption)) | omega))
  replace Bx := hide (hst.ne Bx.out (by first | exact nexy | exact (Ne.symm neyx) | assumption | (exact Ne.symm (by assumption)) | omega))
  replace By := hide hst.box
  replace hU := hU.trans (hst.bel hzy)
  clear hst
  refine anyE_done (by kernel_rfl) ?_
  refine then_normal ⟨((lx, sx, Ax, cx), (ly, sy, Ay, cy), Nx, Ny), _, rfl, Kp_c (by kernel_rfl) (Kp_c (by kernel_rfl) (Kp_c (by kernel_rfl) (Kp_c (by kernel_rfl) (Kp_c (by kernel_rfl) (Kp_c (by kernel_rfl) (Kp_c (by kernel_rfl) (Kp_c (by kernel_rfl) (Kp_c (by kernel_rfl) (Kp_c (by kernel_rfl) (Kp_c (by kernel_rfl) (Kp_c (by kernel_rfl) (Kp_c (by kernel_rfl) (Kp_c (by kernel_rfl) (Kp_c (by kernel_rfl) (Kp_c (by kernel_rfl) (Kp_c (by kernel_rfl) (Kp_c (by kernel_rfl) (Kp_c (by kernel_rfl) (Kp_c (by kernel_rfl) (Kp_c (by kernel_rfl) (Kp_c (by kernel_rfl) (Kp_c (by kernel_rfl) (Kp_c (by kernel_rfl) (Kp_n)))))))))))))))))))))))), ?_⟩
  dsimp only
  exact ⟨hU, Oa, Ob, O1, Ex, Ox, Cx, Lx, Yx, Ey, Oy, Cy, Ly, Yy, Ba, Bb, B1, Bx, By, hzx, hzy⟩
  refine stepR_al (i := 8) (m' := 879) rfl rfl (by kernel_rfl) (by kernel_rfl) (by kernel_rfl) rfl ?_
  intro w99 Nx Bx hNx hb
  replace Bx := hide Bx
  have neax : Na ≠ Nx := by have := Ba.out.lt; omega
  have nebx : Nb ≠ Nx := by have := Bb.out.lt; omega
  have ne1x : N1 ≠ Nx := by have := B1.out.lt; omega
  have neyx : Ny ≠ Nx := by have := By.out.lt; omega
  replace Oa := hide (RQ.below Oa.out hb)
  replace Ob := hide (RQ.below Ob.out hb)
  replace O1 := hide (RQ.below O1.out hb)
  replace Ox := hide (RQ.below Ox.out hb)
  replace Ba := hide (Box.kept Ba.out hb)
  replace Bb := hide (Box.kept Bb.out hb)
  replace B1 := hide (Box.kept B1.out hb)
  replace By := hide (Box.kept By.out hb)
  have hzx : w.heap.size ≤ Nx := Nat.le_trans hU.size hNx
  clear hNx
  replace hU := hU.trans (hb.mono hU.size)
  clear hb
  refine anyR_call (i := 4) (m' := 895) rfl rfl (by kernel_rfl) (by kernel_rfl) (by kernel_rfl) (by kernel_rfl) (by kernel_rfl) ((vof_any ⟨#[48]⟩ _ (by decide)).mono ?_)
  rintro e w100 ⟨l0, s0, A0, c0, E0, rfl, C0, O0, hb⟩
  refine ⟨_, rfl, hb, ?_⟩
  replace Oa := hide (RQ.below Oa.out hb)
  replace Ob := hide (RQ.below Ob.out hb)
  replace O1 := hide (RQ.below O1.out hb)
  replace Ox := hide (RQ.below Ox.out hb)
  replace Ba := hide (Box.kept Ba.out hb)
  replace Bb := hide (Box.kept Bb.out hb)
  replace B1 := hide (Box.kept B1.out hb)
  replace By := hide (Box.kept By.out hb)
  replace Bx := hide (Box.kept Bx.out hb)
  replace O0 := hide O0.out.rd
  replace hU := hU.trans (hb.mono hU.size)
  clear hb
  have G0 : Gd l0 := by have h := congrArg Vc.b E0.out; dsimp only at h; rw [h]; exact gd_of (by decide +kernel)
  have L0 := hide (show l0.length ≤ 4096 from Nat.le_trans G0.le (by decide))
  have Y0 := hide G0.by_
  clear G0
  refine anyR_call (i := 7) (m' := 1023) rfl rfl (by kernel_rfl) (by kernel_rfl) (by kernel_rfl) (by kernel_rfl) (by kernel_rfl) ((vCond_any A0 l0 c0 s0 Aa Ab la lb ca cb sa sb _ La.out Lb.out Ca Cb Oa.out Ob.out Ya.out Yb.out L0.out C0 O0.out Y0.out (HT.out.kept hU)).mono ?_)
  rintro e w101 ⟨ly, sy, Ay, cy, Ey, rfl, Cy, Oy, hb⟩
  refine ⟨_, rfl, hb, ?_⟩
  replace Oa := hide (RQ.below Oa.out hb)
  replace Ob := hide (RQ.below Ob.out hb)
  replace O1 := hide (RQ.below O1.out hb)
  replace Ox := hide (RQ.below Ox.out hb)
  replace O0 := hide (RQ.below O0.out hb)
  replace Ba := hide (Box.kept Ba.out hb)
  replace Bb := hide (Box.kept Bb.out hb)
  replace B1 := hide (Box.kept B1.out hb)
  replace By := hide (Box.kept By.out hb)
  replace Bx := hide (Box.kept Bx.out hb)
  replace Oy := hide Oy.out.rd
  replace hU := hU.trans (hb.mono hU.size)
  clear hb
  have Gy : Gd ly := by have h := congrArg Vc.b Ey.out; dsimp only at h; rw [h]; exact (by rw [E0.out, of_zero, vCond_0]; exact gd_blB Ya.out Yb.out)
  have Ly := hide (show ly.length ≤ 4096 from Nat.le_trans Gy.le (by decide))
  have Yy := hide Gy.by_
  clear Gy
  replace Ey := hide (show (⟨ly, sy⟩ : Vc) = ⟨blB ⟨la, sa⟩ ⟨lb, sb⟩, sg ⟨la, sa⟩ ⟨lb, sb⟩⟩ from Ey.out.trans (by rw [E0.out, of_zero, vCond_0]))
  clear O0 C0 L0 Y0
  refine anyR_e ?_
  refine anyE_st (i := 10) (m' := 2047) Bx.out rfl rfl (by kernel_rfl) (by kernel_rfl) (by kernel_rfl) (by kernel_rfl) rfl (by kernel_rfl) (A2 := Ax) (m2 := lx.length) (c2 := cx) (s2 := sx) (by kernel_rfl) ?_
  intro w102 hst
  replace Oa := hide (hst.rq Oa.out)
  replace Ob := hide (hst.rq Ob.out)
  replace O1 := hide (hst.rq O1.out)
  replace Ox := hide (hst.rq Ox.out)
  replace Oy := hide (hst.rq Oy.out)
  replace Ba := hide (hst.ne Ba.out (by first | exact neax | exact (Ne.symm nexa) | assumption | (exact Ne.symm (by assumption)) | omega))
  replace Bb := hide (hst.ne Bb.out (by first | exact nebx | exact (Ne.symm nexb) | assumption | (exact Ne.symm (by assumption)) | omega))
  replace B1 := hide (hst.ne B1.out (by first | exact ne1x | exact (Ne.symm nex1) | assumption | (exact Ne.symm (by assumption)) | omega))
  replace By := hide (hst.ne By.out (by first | exact neyx | exact (Ne.symm nexy) | assumption | (exact Ne.symm (by assumption)) | omega))
  replace Bx := hide hst.box
  replace hU := hU.trans (hst.bel hzx)
  clear hst
  refine anyE_st (i := 11) (m' := 4095) By.out rfl rfl (by kernel_rfl) (by kernel_rfl) (by kernel_rfl) (by kernel_rfl) rfl (by kernel_rfl) (A2 := Ay) (m2 := ly.length) (c2 := cy) (s2 := sy) (by kernel_rfl) ?_
  intro w103 hst
  replace Oa := hide (hst.rq Oa.out)
  replace Ob := hide (hst.rq Ob.out)
  replace O1 := hide (hst.rq O1.out)
  replace Ox := hide (hst.rq Ox.out)
  replace Oy := hide (hst.rq Oy.out)
  replace Ba := hide (hst.ne Ba.out (by first | exact neay | exact (Ne.symm neya) | assumption | (exact Ne.symm (by assumption)) | omega))
  replace Bb := hide (hst.ne Bb.out (by first | exact neby | exact (Ne.symm neyb) | assumption | (exact Ne.symm (by assumption)) | omega))
  replace B1 := hide (hst.ne B1.out (by first | exact ne1y | exact (Ne.symm ney1) | assumption | (exact Ne.symm (by assumption)) | omega))
  replace Bx := hide (hst.ne Bx.out (by first | exact nexy | exact (Ne.symm neyx) | assumption | (exact Ne.symm (by assumption)) | omega))
  replace By := hide hst.box
  replace hU := hU.trans (hst.bel hzy)
  clear hst
  refine anyE_done (by kernel_rfl) ?_
  refine then_normal ⟨((lx, sx, Ax, cx), (ly, sy, Ay, cy), Nx, Ny), _, rfl, Kp_c (by kernel_rfl) (Kp_c (by kernel_rfl) (Kp_c (by kernel_rfl) (Kp_c (by kernel_rfl) (Kp_c (by kernel_rfl) (Kp_c (by kernel_rfl) (Kp_c (by kernel_rfl) (Kp_c (by kernel_rfl) (Kp_c (by kernel_rfl) (Kp_c (by kernel_rfl) (Kp_c (by kernel_rfl) (Kp_c (by kernel_rfl) (Kp_c (by kernel_rfl) (Kp_c (by kernel_rfl) (Kp_c (by kernel_rfl) (Kp_c (by kernel_rfl) (Kp_c (by kernel_rfl) (Kp_c (by kernel_rfl) (Kp_c (by kernel_rfl) (Kp_c (by kernel_rfl) (Kp_c (by kernel_rfl) (Kp_c (by kernel_rfl) (Kp_c (by kernel_rfl) (Kp_c (by kernel_rfl) (Kp_n)))))))))))))))))))))))), ?_⟩
  dsimp only
  exact ⟨hU, Oa, Ob, O1, Ex, Ox, Cx, Lx, Yx, Ey, Oy, Cy, Ly, Yy, Ba, Bb, B1, Bx, By, hzx, hzy⟩
  refine stepR_al (i := 8) (m' := 871) rfl rfl (by kernel_rfl) (by kernel_rfl) (by kernel_rfl) rfl ?_
  intro w104 Nx Bx hNx hb
  replace Bx := hide Bx
  have neax : Na ≠ Nx := by have := Ba.out.lt; omega
  have nebx : Nb ≠ Nx := by have := Bb.out.lt; omega
  have ne1x : N1 ≠ Nx := by have := B1.out.lt; omega
  have neyx : Ny ≠ Nx := by have := By.out.lt; omega
  replace Oa := hide (RQ.below Oa.out hb)
  replace Ob := hide (RQ.below Ob.out hb)
  replace O1 := hide (RQ.below O1.out hb)
  replace Ba := hide (Box.kept Ba.out hb)
  replace Bb := hide (Box.kept Bb.out hb)
  replace B1 := hide (Box.kept B1.out hb)
  replace By := hide (Box.kept By.out hb)
  have hzx : w.heap.size ≤ Nx := Nat.le_trans hU.size hNx
  clear hNx
  replace hU := hU.trans (hb.mono hU.size)
  clear hb
  refine anyR_call (i := 3) (m' := 879) rfl rfl (by kernel_rfl) (by kernel_rfl) (by kernel_rfl) (by kernel_rfl) (by kernel_rfl) ((vCond_any A1 l1 c1 s1 Aa Ab la lb ca cb sa sb _ La.out Lb.out Ca Cb Oa.out Ob.out Ya.out Yb.out L1.out C1 O1.out Y1.out (HT.out.kept hU)).mono ?_)
  rintro e w105 ⟨lx, sx, Ax, cx, Ex, rfl, Cx, Ox, hb⟩
  refine ⟨_, rfl, hb, ?_⟩
  replace Oa := hide (RQ.below Oa.out hb)
  replace Ob := hide (RQ.below Ob.out hb)
  replace O1 := hide (RQ.below O1.out hb)
  replace Ba := hide (Box.kept Ba.out hb)
  replace Bb := hide (Box.kept Bb.out hb)
  replace B1 := hide (Box.kept B1.out hb)
  replace By := hide (Box.kept By.out hb)
  replace Bx := hide (Box.kept Bx.out hb)
  replace Ox := hide Ox.out.rd
  replace hU := hU.trans (hb.mono hU.size)
  clear hb
  have Gx : Gd lx := by have h := congrArg Vc.b Ex.out; dsimp only at h; rw [h]; exact (by rw [E1.out, of_one, vCond_1]; exact gd_blA Ya.out Yb.out)
  have Lx := hide (show lx.length ≤ 4096 from Nat.le_trans Gx.le (by decide))
  have Yx := hide Gx.by_
  clear Gx
  replace Ex := hide (show (⟨lx, sx⟩ : Vc) = ⟨blA ⟨la, sa⟩ ⟨lb, sb⟩, sg ⟨la, sa⟩ ⟨lb, sb⟩⟩ from Ex.out.trans (by rw [E1.out, of_one, vCond_1]))
  refine anyR_call (i := 4) (m' := 895) rfl rfl (by kernel_rfl) (by kernel_rfl) (by kernel_rfl) (by kernel_rfl) (by kernel_rfl) ((vof_any ⟨#[48]⟩ _ (by decide)).mono ?_)
  rintro e w106 ⟨l0, s0, A0, c0, E0, rfl, C0, O0, hb⟩
  refine ⟨_, rfl, hb, ?_⟩
  replace Oa := hide (RQ.below Oa.out hb)
  replace Ob := hide (RQ.below Ob.out hb)
  replace O1 := hide (RQ.below O1.out hb)
  replace Ox := hide (RQ.below Ox.out hb)
  replace Ba := hide (Box.kept Ba.out hb)
  replace Bb := hide (Box.kept Bb.out hb)
  replace B1 := hide (Box.kept B1.out hb)
  replace By := hide (Box.kept By.out hb)
  replace Bx := hide (Box.kept Bx.out hb)
  replace O0 := hide O0.out.rd
  replace hU := hU.trans (hb.mono hU.size)
  clear hb
  have G0 : Gd l0 := by have h := congrArg Vc.b E0.out; dsimp only at h; rw [h]; exact gd_of (by decide +kernel)
  have L0 := hide (show l0.length ≤ 4096 from Nat.le_trans G0.le (by decide))
  have Y0 := hide G0.by_
  clear G0
  refine anyR_call (i := 7) (m' := 1023) rfl rfl (by kernel_rfl) (by kernel_rfl) (by kernel_rfl) (by kernel_rfl) (by kernel_rfl) ((vCond_any A0 l0 c0 s0 Aa Ab la lb ca cb sa sb _ La.out Lb.out Ca Cb Oa.out Ob.out Ya.out Yb.out L0.out C0 O0.out Y0.out (HT.out.kept hU)).mono ?_)
  rintro e w107 ⟨ly, sy, Ay, cy, Ey, rfl, Cy, Oy, hb⟩
  refine ⟨_, rfl, hb, ?_⟩
  replace Oa := hide (RQ.below Oa.out hb)
  replace Ob := hide (RQ.below Ob.out hb)
  replace O1 := hide (RQ.below O1.out hb)
  replace Ox := hide (RQ.below Ox.out hb)
  replace O0 := hide (RQ.below O0.out hb)
  replace Ba := hide (Box.kept Ba.out hb)
  replace Bb := hide (Box.kept Bb.out hb)
  replace B1 := hide (Box.kept B1.out hb)
  replace By := hide (Box.kept By.out hb)
  replace Bx := hide (Box.kept Bx.out hb)
  replace Oy := hide Oy.out.rd
  replace hU := hU.trans (hb.mono hU.size)
  clear hb
  have Gy : Gd ly := by have h := congrArg Vc.b Ey.out; dsimp only at h; rw [h]; exact (by rw [E0.out, of_zero, vCond_0]; exact gd_blB Ya.out Yb.out)
  have Ly := hide (show ly.length ≤ 4096 from Nat.le_trans Gy.le (by decide))
  have Yy := hide Gy.by_
  clear Gy
  replace Ey := hide (show (⟨ly, sy⟩ : Vc) = ⟨blB ⟨la, sa⟩ ⟨lb, sb⟩, sg ⟨la, sa⟩ ⟨lb, sb⟩⟩ from Ey.out.trans (by rw [E0.out, of_zero, vCond_0]))
  clear O0 C0 L0 Y0
  refine anyR_e ?_
  refine anyE_st (i := 10) (m' := 2047) Bx.out rfl rfl (by kernel_rfl) (by kernel_rfl) (by kernel_rfl) (by kernel_rfl) rfl (by kernel_rfl) (A2 := Ax) (m2 := lx.length) (c2 := cx) (s2 := sx) (by kernel_rfl) ?_
  intro w108 hst
  replace Oa := hide (hst.rq Oa.out)
  replace Ob := hide (hst.rq Ob.out)
  replace O1 := hide (hst.rq O1.out)
  replace Ox := hide (hst.rq Ox.out)
  replace Oy := hide (hst.rq Oy.out)
  replace Ba := hide (hst.ne Ba.out (by first | exact neax | exact (Ne.symm nexa) | assumption | (exact Ne.symm (by assumption)) | omega))
  replace Bb := hide (hst.ne Bb.out (by first | exact nebx | exact (Ne.symm nexb) | assumption | (exact Ne.symm (by assumption)) | omega))
  replace B1 := hide (hst.ne B1.out (by first | exact ne1x | exact (Ne.symm nex1) | assumption | (exact Ne.symm (by assumption)) | omega))
  replace By := hide (hst.ne By.out (by first | exact neyx | exact (Ne.symm nexy) | assumption | (exact Ne.symm (by assumption)) | omega))
  replace Bx := hide hst.box
  replace hU := hU.trans (hst.bel hzx)
  clear hst
  refine anyE_st (i := 11) (m' := 4095) By.out rfl rfl (by kernel_rfl) (by kernel_rfl) (by kernel_rfl) (by kernel_rfl) rfl (by kernel_rfl) (A2 := Ay) (m2 := ly.length) (c2 := cy) (s2 := sy) (by kernel_rfl) ?_
  intro w109 hst
  replace Oa := hide (hst.rq Oa.out)
  replace Ob := hide (hst.rq Ob.out)
  replace O1 := hide (hst.rq O1.out)
  replace Ox := hide (hst.rq Ox.out)
  replace Oy := hide (hst.rq Oy.out)
  replace Ba := hide (hst.ne Ba.out (by first | exact neay | exact (Ne.symm neya) | assumption | (exact Ne.symm (by assumption)) | omega))
  replace Bb := hide (hst.ne Bb.out (by first | exact neby | exact (Ne.symm neyb) | assumption | (exact Ne.symm (by assumption)) | omega))
  replace B1 := hide (hst.ne B1.out (by first | exact ne1y | exact (Ne.symm ney1) | assumption | (exact Ne.symm (by assumption)) | omega))
  replace Bx := hide (hst.ne Bx.out (by first | exact nexy | exact (Ne.symm neyx) | assumption | (exact Ne.symm (by assumption)) | omega))
  replace By := hide hst.box
  replace hU := hU.trans (hst.bel hzy)
  clear hst
  refine anyE_done (by kernel_rfl) ?_
  refine then_normal ⟨((lx, sx, Ax, cx), (ly, sy, Ay, cy), Nx, Ny), _, rfl, Kp_c (by kernel_rfl) (Kp_c (by kernel_rfl) (Kp_c (by kernel_rfl) (Kp_c (by kernel_rfl) (Kp_c (by kernel_rfl) (Kp_c (by kernel_rfl) (Kp_c (by kernel_rfl) (Kp_c (by kernel_rfl) (Kp_c (by kernel_rfl) (Kp_c (by kernel_rfl) (Kp_c (by kernel_rfl) (Kp_c (by kernel_rfl) (Kp_c (by kernel_rfl) (Kp_c (by kernel_rfl) (Kp_c (by kernel_rfl) (Kp_c (by kernel_rfl) (Kp_c (by kernel_rfl) (Kp_c (by kernel_rfl) (Kp_c (by kernel_rfl) (Kp_c (by kernel_rfl) (Kp_c (by kernel_rfl) (Kp_c (by kernel_rfl) (Kp_c (by kernel_rfl) (Kp_c (by kernel_rfl) (Kp_n)))))))))))))))))))))))), ?_⟩
  dsimp only
  exact ⟨hU, Oa, Ob, O1, Ex, Ox, Cx, Lx, Yx, Ey, Oy, Cy, Ly, Yy, Ba, Bb, B1, Bx, By, hzx, hzy⟩
  rintro ⟨⟨lx, sx, Ax, cx⟩, ⟨ly, sy, Ay, cy⟩, Nx, Ny⟩ X110 w110 h
  clear hU Oa Ob O1 Ba Bb B1
  dsimp only at h
  obtain ⟨hU, Oa, Ob, O1, Ex, Ox, Cx, Lx, Yx, Ey, Oy, Cy, Ly, Yy, Ba, Bb, B1, Bx, By, hzx, hzy⟩ := h
  refine then_normal ?_
  refine wp_seq ?_
  cases hM : mtc mSame ⟨la, sa⟩ ⟨lb, sb⟩
  have HM := hide hM
  clear hM
  cases hZ : mtc alZ ⟨la, sa⟩ ⟨lb, sb⟩
  have HZ := hide hZ
  clear hZ
  cases hA : kn (cnt ⟨la, sa⟩).b
  have HKa := hide hA
  clear hA
  refine region_R (n := 5) (N := 6) (by kernel_rfl) (by kernel_rfl) (by kernel_rfl) (by kernel_rfl) (by kernel_rfl) (by kernel_rfl) (fun _ _ _ _ _ h => h) ?_
  intro F hQ
  have Ba0 := Ba
  have Bb0 := Bb
  have B10 := B1
  have Bx0 := Bx
  have By0 := By
  refine anyR_ldvec (i := 0) (m' := 1) Ba0.out F hQ rfl rfl (by kernel_rfl) (by kernel_rfl) (by kernel_rfl) (by kernel_rfl) (by kernel_rfl) rfl (by kernel_rfl) ?_
  refine anyR_ldvec (i := 1) (m' := 3) Bb0.out F hQ rfl rfl (by kernel_rfl) (by kernel_rfl) (by kernel_rfl) (by kernel_rfl) (by kernel_rfl) rfl (by kernel_rfl) ?_
  refine anyR_ldvec (i := 3) (m' := 11) B10.out F hQ rfl rfl (by kernel_rfl) (by kernel_rfl) (by kernel_rfl) (by kernel_rfl) (by kernel_rfl) rfl (by kernel_rfl) ?_
  refine anyR_call (i := 2) (m' := 15) rfl rfl (by kernel_rfl) (by kernel_rfl) (by kernel_rfl) (by kernel_rfl) (by kernel_rfl) ((vCaseEq_any Aa Ab la lb ca cb sa sb _ La.out Lb.out Ca Cb (by exact Oa.out) (by exact Ob.out) Ya.out Yb.out).mono ?_)
  rintro e w111 ⟨le, se, Ae, ce, Ee, rfl, Ce, Oe, hb⟩
  refine ⟨_, rfl, hb, ?_⟩
  replace hb : Below w110.heap.size w110 w111 := Below.trans ((Below.refl _ _).drew) hb
  replace Oa := hide (RQ.below Oa.out hb)
  replace Ob := hide (RQ.below Ob.out hb)
  replace O1 := hide (RQ.below O1.out hb)
  replace Ox := hide (RQ.below Ox.out hb)
  replace Oy := hide (RQ.below Oy.out hb)
  replace Ba := hide (Box.kept Ba.out hb)
  replace Bb := hide (Box.kept Bb.out hb)
  replace B1 := hide (Box.kept B1.out hb)
  replace Bx := hide (Box.kept Bx.out hb)
  replace By := hide (Box.kept By.out hb)
  replace Oe := hide Oe.out.rd
  replace hU := hU.trans (hb.mono hU.size)
  clear hb
  have Ge : Gd le := by have h := congrArg Vc.b Ee.out; dsimp only at h; rw [h]; exact (gdx_sgl (by cases mtc mSame ⟨la, sa⟩ ⟨lb, sb⟩ <;> decide))
  have Le := hide (show le.length ≤ 4096 from Nat.le_trans Ge.le (by decide))
  have Ye := hide Ge.by_
  clear Ge
  refine anyR_call (i := 4) (m' := 31) rfl rfl (by kernel_rfl) (by kernel_rfl) (by kernel_rfl) (by kernel_rfl) (by kernel_rfl) ((rsame_not Ae A1 le l1 ce c1 se s1 _ Le.out L1.out Oe.out O1.out (by rw [Ee.out, E1.out, of_one]; (try unfold vCase); rw [HM.out]; exact fun h => absurd (sgl_inj.1 h) (by decide))).mono ?_)
  rintro e w112 ⟨rfl, hb⟩
  refine ⟨_, rfl, hb, ?_⟩
  replace Oa := hide (RQ.below Oa.out hb)
  replace Ob := hide (RQ.below Ob.out hb)
  replace O1 := hide (RQ.below O1.out hb)
  replace Ox := hide (RQ.below Ox.out hb)
  replace Oy := hide (RQ.below Oy.out hb)
  replace Oe := hide (RQ.below Oe.out hb)
  replace Ba := hide (Box.kept Ba.out hb)
  replace Bb := hide (Box.kept Bb.out hb)
  replace B1 := hide (Box.kept B1.out hb)
  replace Bx := hide (Box.kept Bx.out hb)
  replace By := hide (Box.kept By.out hb)
  replace hU := hU.trans (hb.mono hU.size)
  clear hb
  clear Oe Ce Le Ye
  refine anyR_e ?_
  refine anyR_last (i := 5) (m' := 63) (v := .bool false) rfl rfl (by kernel_rfl) (by kernel_rfl) (by kernel_rfl) (by kernel_rfl) (by kernel_rfl) ?_
  refine anyE_done (by kernel_rfl) ?_
  clear F hQ Ba0 Bb0 B10 Bx0 By0
  refine then_normal ?_
  refine wp_seq ?_
  refine wp_seq ?_
  refine region_R (n := 33) (N := 34) (by kernel_rfl) (by kernel_rfl) (by kernel_rfl) (by kernel_rfl) (by kernel_rfl) (by kernel_rfl) (fun _ _ _ _ _ h => h) ?_
  intro F hQ
  have Ba0 := Ba
  have Bb0 := Bb
  have B10 := B1
  have Bx0 := Bx
  have By0 := By
  refine anyR_val (i := 0) (m' := 1) (v := .bool false) F hQ rfl rfl (by kernel_rfl) (by kernel_rfl) (by kernel_rfl) (by kernel_rfl) (by kernel_rfl) (fun _ _ => by kernel_rfl) ?_
  refine anyR_ldvec (i := 1) (m' := 3) Bx0.out F hQ rfl rfl (by kernel_rfl) (by kernel_rfl) (by kernel_rfl) (by kernel_rfl) (by kernel_rfl) rfl (by kernel_rfl) ?_
  refine anyR_ldvec (i := 2) (m' := 7) By0.out F hQ rfl rfl (by kernel_rfl) (by kernel_rfl) (by kernel_rfl) (by kernel_rfl) (by kernel_rfl) rfl (by kernel_rfl) ?_
  refine anyR_call (i := 3) (m' := 15) rfl rfl (by kernel_rfl) (by kernel_rfl) (by kernel_rfl) (by kernel_rfl) (by kernel_rfl) ((rsame_not Ax Ay lx ly cx cy sx sy _ Lx.out Ly.out (by exact Ox.out) (by exact Oy.out) (by rw [Ex.out, Ey.out]; exact fun h => absurd ((mtc_same Ya.out Yb.out).2 (congrArg Vc.b h)) (by rw [HM.out]; decide))).mono ?_)
  rintro e w113 ⟨rfl, hb⟩
  refine ⟨_, rfl, hb, ?_⟩
  replace hb : Below w112.heap.size w112 w113 := Below.trans ((Below.refl _ _).drew) hb
  replace Oa := hide (RQ.below Oa.out hb)
  replace Ob := hide (RQ.below Ob.out hb)
  replace O1 := hide (RQ.below O1.out hb)
  replace Ox := hide (RQ.below Ox.out hb)
  replace Oy := hide (RQ.below Oy.out hb)
  replace Ba := hide (Box.kept Ba.out hb)
  replace Bb := hide (Box.kept Bb.out hb)
  replace B1 := hide (Box.kept B1.out hb)
  replace Bx := hide (Box.kept Bx.out hb)
  replace By := hide (Box.kept By.out hb)
  replace hU := hU.trans (hb.mono hU.size)
  clear hb
  refine anyR_val (i := 4) (m' := 31) (v := .bool false) F hQ rfl rfl (by kernel_rfl) (by kernel_rfl) (by kernel_rfl) (by kernel_rfl) (by kernel_rfl) (fun _ _ => by kernel_rfl) ?_
  refine anyR_val (i := 5) (m' := 63) (v := .bool false) F hQ rfl rfl (by kernel_rfl) (by kernel_rfl) (by kernel_rfl) (by kernel_rfl) (by kernel_rfl) (fun _ _ => by kernel_rfl) ?_
  refine anyR_ldvec (i := 6) (m' := 127) Ba0.out F hQ rfl rfl (by kernel_rfl) (by kernel_rfl) (by kernel_rfl) (by kernel_rfl) (by kernel_rfl) rfl (by kernel_rfl) ?_
  refine anyR_ldvec (i := 7) (m' := 255) Bb0.out F hQ rfl rfl (by kernel_rfl) (by kernel_rfl) (by kernel_rfl) (by kernel_rfl) (by kernel_rfl) rfl (by kernel_rfl) ?_
  refine anyR_ldvec (i := 9) (m' := 767) B10.out F hQ rfl rfl (by kernel_rfl) (by kernel_rfl) (by kernel_rfl) (by kernel_rfl) (by kernel_rfl) rfl (by kernel_rfl) ?_
  refine anyR_val (i := 11) (m' := 2815) (v := .bool false) F hQ rfl rfl (by kernel_rfl) (by kernel_rfl) (by kernel_rfl) (by kernel_rfl) (by kernel_rfl) (fun _ _ => by kernel_rfl) ?_
  refine anyR_call (i := 8) (m' := 3071) rfl rfl (by kernel_rfl) (by kernel_rfl) (by kernel_rfl) (by kernel_rfl) (by kernel_rfl) ((vCaseNe_any Aa Ab la lb ca cb sa sb _ La.out Lb.out Ca Cb Oa.out Ob.out Ya.out Yb.out (HT.out.kept hU)).mono ?_)
  rintro e w114 ⟨ln, sn, An, cn, En, rfl, Cn, On, hb⟩
  refine ⟨_, rfl, hb, ?_⟩
  replace Oa := hide (RQ.below Oa.out hb)
  replace Ob := hide (RQ.below Ob.out hb)
  replace O1 := hide (RQ.below O1.out hb)
  replace Ox := hide (RQ.below Ox.out hb)
  replace Oy := hide (RQ.below Oy.out hb)
  replace Ba := hide (Box.kept Ba.out hb)
  replace Bb := hide (Box.kept Bb.out hb)
  replace B1 := hide (Box.kept B1.out hb)
  replace Bx := hide (Box.kept Bx.out hb)
  replace By := hide (Box.kept By.out hb)
  replace On := hide On.out.rd
  replace hU := hU.trans (hb.mono hU.size)
  clear hb
  have Gn : Gd ln := by have h := congrArg Vc.b En.out; dsimp only at h; rw [h]; exact (gdx_sgl (by cases mtc mSame ⟨la, sa⟩ ⟨lb, sb⟩ <;> decide))
  have Ln := hide (show ln.length ≤ 4096 from Nat.le_trans Gn.le (by decide))
  have Yn := hide Gn.by_
  clear Gn
  refine anyR_call (i := 10) (m' := 4095) rfl rfl (by kernel_rfl) (by kernel_rfl) (by kernel_rfl) (by kernel_rfl) (by kernel_rfl) ((rsame_yes An A1 ln l1 cn c1 sn s1 _ Ln.out L1.out On.out O1.out (by rw [En.out, E1.out, of_one]; (try unfold vCase); rw [HM.out]; rfl)).mono ?_)
  rintro e w115 ⟨rfl, hb⟩
  refine ⟨_, rfl, hb, ?_⟩
  replace Oa := hide (RQ.below Oa.out hb)
  replace Ob := hide (RQ.below Ob.out hb)
  replace O1 := hide (RQ.below O1.out hb)
  replace Ox := hide (RQ.below Ox.out hb)
  replace Oy := hide (RQ.below Oy.out hb)
  replace On := hide (RQ.below On.out hb)
  replace Ba := hide (Box.kept Ba.out hb)
  replace Bb := hide (Box.kept Bb.out hb)
  replace B1 := hide (Box.kept B1.out hb)
  replace Bx := hide (Box.kept Bx.out hb)
  replace By := hide (Box.kept By.out hb)
  replace hU := hU.trans (hb.mono hU.size)
  clear hb
  clear On Cn Ln Yn
  refine anyR_val (i := 12) (m' := 8191) (v := .bool false) F hQ rfl rfl (by kernel_rfl) (by kernel_rfl) (by kernel_rfl) (by kernel_rfl) (by kernel_rfl) (fun _ _ => by kernel_rfl) ?_
  refine anyR_val (i := 13) (m' := 16383) (v := .bool false) F hQ rfl rfl (by kernel_rfl) (by kernel_rfl) (by kernel_rfl) (by kernel_rfl) (by kernel_rfl) (fun _ _ => by kernel_rfl) ?_
  refine anyR_val (i := 14) (m' := 32767) (v := .bool false) F hQ rfl rfl (by kernel_rfl) (by kernel_rfl) (by kernel_rfl) (by kernel_rfl) (by kernel_rfl) (fun _ _ => by kernel_rfl) ?_
  refine anyR_val (i := 15) (m' := 65535) (v := .bool false) F hQ rfl rfl (by kernel_rfl) (by kernel_rfl) (by kernel_rfl) (by kernel_rfl) (by kernel_rfl) (fun _ _ => by kernel_rfl) ?_
  refine anyR_val (i := 16) (m' := 131071) (v := .bool false) F hQ rfl rfl (by kernel_rfl) (by kernel_rfl) (by kernel_rfl) (by kernel_rfl) (by kernel_rfl) (fun _ _ => by kernel_rfl) ?_
  refine anyR_off (i := 17) (m' := 262143) F hQ rfl rfl (by kernel_rfl) (by kernel_rfl) (by kernel_rfl) (by kernel_rfl) (by kernel_rfl) ?_
  refine anyR_off (i := 18) (m' := 524287) F hQ rfl rfl (by kernel_rfl) (by kernel_rfl) (by kernel_rfl) (by kernel_rfl) (by kernel_rfl) ?_
  refine anyR_off (i := 19) (m' := 1048575) F hQ rfl rfl (by kernel_rfl) (by kernel_rfl) (by kernel_rfl) (by kernel_rfl) (by kernel_rfl) ?_
  refine anyR_off (i := 20) (m' := 2097151) F hQ rfl rfl (by kernel_rfl) (by kernel_rfl) (by kernel_rfl) (by kernel_rfl) (by kernel_rfl) ?_
  refine anyR_val (i := 21) (m' := 4194303) (v := .bool false) F hQ rfl rfl (by kernel_rfl) (by kernel_rfl) (by kernel_rfl) (by kernel_rfl) (by kernel_rfl) (fun _ _ => by kernel_rfl) ?_
  refine anyR_val (i := 22) (m' := 8388607) (v := .bool false) F hQ rfl rfl (by kernel_rfl) (by kernel_rfl) (by kernel_rfl) (by kernel_rfl) (by kernel_rfl) (fun _ _ => by kernel_rfl) ?_
  refine anyR_val (i := 23) (m' := 16777215) (v := .bool false) F hQ rfl rfl (by kernel_rfl) (by kernel_rfl) (by kernel_rfl) (by kernel_rfl) (by kernel_rfl) (fun _ _ => by kernel_rfl) ?_
  refine anyR_ldvec (i := 24) (m' := 33554431) Ba0.out F hQ rfl rfl (by kernel_rfl) (by kernel_rfl) (by kernel_rfl) (by kernel_rfl) (by kernel_rfl) rfl (by kernel_rfl) ?_
  refine anyR_ldvec (i := 25) (m' := 67108863) Bb0.out F hQ rfl rfl (by kernel_rfl) (by kernel_rfl) (by kernel_rfl) (by kernel_rfl) (by kernel_rfl) rfl (by kernel_rfl) ?_
  refine anyR_call (i := 26) (m' := 134217727) rfl rfl (by kernel_rfl) (by kernel_rfl) (by kernel_rfl) (by kernel_rfl) (by kernel_rfl) ((vMatchZ_v false Aa Ab la lb ca cb sa sb _ La.out Lb.out Ca Cb Oa.out Ob.out Ya.out Yb.out HZ.out).mono ?_)
  rintro e w116 ⟨rfl, hb⟩
  refine ⟨_, rfl, hb, ?_⟩
  replace Oa := hide (RQ.below Oa.out hb)
  replace Ob := hide (RQ.below Ob.out hb)
  replace O1 := hide (RQ.below O1.out hb)
  replace Ox := hide (RQ.below Ox.out hb)
  replace Oy := hide (RQ.below Oy.out hb)
  replace Ba := hide (Box.kept Ba.out hb)
  replace Bb := hide (Box.kept Bb.out hb)
  replace B1 := hide (Box.kept B1.out hb)
  replace Bx := hide (Box.kept Bx.out hb)
  replace By := hide (Box.kept By.out hb)
  replace hU := hU.trans (hb.mono hU.size)
  clear hb
  refine anyR_val (i := 27) (m' := 268435455) (v := .bool false) F hQ rfl rfl (by kernel_rfl) (by kernel_rfl) (by kernel_rfl) (by kernel_rfl) (by kernel_rfl) (fun _ _ => by kernel_rfl) ?_
  refine anyR_off (i := 28) (m' := 536870911) F hQ rfl rfl (by kernel_rfl) (by kernel_rfl) (by kernel_rfl) (by kernel_rfl) (by kernel_rfl) ?_
  refine anyR_off (i := 29) (m' := 1073741823) F hQ rfl rfl (by kernel_rfl) (by kernel_rfl) (by kernel_rfl) (by kernel_rfl) (by kernel_rfl) ?_
  refine anyR_off (i := 30) (m' := 2147483647) F hQ rfl rfl (by kernel_rfl) (by kernel_rfl) (by kernel_rfl) (by kernel_rfl) (by kernel_rfl) ?_
  refine anyR_off (i := 31) (m' := 4294967295) F hQ rfl rfl (by kernel_rfl) (by kernel_rfl) (by kernel_rfl) (by kernel_rfl) (by kernel_rfl) ?_
  refine anyR_val (i := 32) (m' := 8589934591) (v := .bool false) F hQ rfl rfl (by kernel_rfl) (by kernel_rfl) (by kernel_rfl) (by kernel_rfl) (by kernel_rfl) (fun _ _ => by kernel_rfl) ?_
  refine anyR_e ?_
  refine anyR_last (i := 33) (m' := 17179869183) (v := .bool false) rfl rfl (by kernel_rfl) (by kernel_rfl) (by kernel_rfl) (by kernel_rfl) (by kernel_rfl) ?_
  refine anyE_done (by kernel_rfl) ?_
  clear F hQ Ba0 Bb0 B10 Bx0 By0
  refine then_normal ?_
  refine wp_iff (by kernel_rfl) ?_
  refine wp_skip ?_
  refine then_normal ?_
  refine wp_seq ?_
  refine wp_seq ?_
  refine reg_lit ?_
  refine wpl_ldvec Ba.out rfl (by kernel_rfl) rfl (by kernel_rfl) ?_
  refine wpl_call rfl (by kernel_rfl) (by kernel_rfl) ((vKnown_v false Aa la ca sa _ La.out Ca Oa.out Ya.out HKa.out).mono ?_)
  rintro e w117 ⟨rfl, hb⟩
  refine ⟨_, rfl, ?_⟩
  replace Oa := hide (RQ.below Oa.out hb)
  replace Ob := hide (RQ.below Ob.out hb)
  replace O1 := hide (RQ.below O1.out hb)
  replace Ox := hide (RQ.below Ox.out hb)
  replace Oy := hide (RQ.below Oy.out hb)
  replace Ba := hide (Box.kept Ba.out hb)
  replace Bb := hide (Box.kept Bb.out hb)
  replace B1 := hide (Box.kept B1.out hb)
  replace Bx := hide (Box.kept Bx.out hb)
  replace By := hide (Box.kept By.out hb)
  replace hU := hU.trans (hb.mono hU.size)
  clear hb
  refine wpl_r6 [(73, .bool true), (72, undef), (71, undef), (70, undef), (69, .bool true), (68, .bool true)] (by kernel_rfl) ?_
  refine wpl_end ?_
  refine then_normal ?_
  refine wp_ift (by kernel_rfl) ?_
  refine wp_seq ?_
  refine reg_lit ?_
  refine wpl_r1 [(4, .bool true)] (by kernel_rfl) ?_
  refine wpl_end ?_
  refine then_normal ?_
  refine wp_ret ?_
  refine (show bodyPost _ _ _ .ret _ _ from ret_sl (.bool true) rfl (by kernel_rfl) ?_)
  exact ⟨rfl, hU⟩
  have HKa := hide hA
  clear hA
  cases hB : kn (cnt ⟨lb, sb⟩).b
  have HKb := hide hB
  clear hB
  refine region_R (n := 5) (N := 6) (by kernel_rfl) (by kernel_rfl) (by kernel_rfl) (by kernel_rfl) (by kernel_rfl) (by kernel_rfl) (fun _ _ _ _ _ h => h) ?_
  intro F hQ
  have Ba0 := Ba
  have Bb0 := Bb
  have B10 := B1
  have Bx0 := Bx
  have By0 := By
  refine anyR_ldvec (i := 0) (m' := 1) Ba0.out F hQ rfl rfl (by kernel_rfl) (by kernel_rfl) (by kernel_rfl) (by kernel_rfl) (by kernel_rfl) rfl (by kernel_rfl) ?_
  refine anyR_ldvec (i := 1) (m' := 3) Bb0.out F hQ rfl rfl (by kernel_rfl) (by kernel_rfl) (by kernel_rfl) (by kernel_rfl) (by kernel_rfl) rfl (by kernel_rfl) ?_
  refine anyR_ldvec (i := 3) (m' := 11) B10.out F hQ rfl rfl (by kernel_rfl) (by kernel_rfl) (by kernel_rfl) (by kernel_rfl) (by kernel_rfl) rfl (by kernel_rfl) ?_
  refine anyR_call (i := 2) (m' := 15) rfl rfl (by kernel_rfl) (by kernel_rfl) (by kernel_rfl) (by kernel_rfl) (by kernel_rfl) ((vCaseEq_any Aa Ab la lb ca cb sa sb _ La.out Lb.out Ca Cb (by exact Oa.out) (by exact Ob.out) Ya.out Yb.out).mono ?_)
  rintro e w118 ⟨le, se, Ae, ce, Ee, rfl, Ce, Oe, hb⟩
  refine ⟨_, rfl, hb, ?_⟩
  replace hb : Below w110.heap.size w110 w118 := Below.trans ((Below.refl _ _).drew) hb
  replace Oa := hide (RQ.below Oa.out hb)
  replace Ob := hide (RQ.below Ob.out hb)
  replace O1 := hide (RQ.below O1.out hb)
  replace Ox := hide (RQ.below Ox.out hb)
  replace Oy := hide (RQ.below Oy.out hb)
  replace Ba := hide (Box.kept Ba.out hb)
  replace Bb := hide (Box.kept Bb.out hb)
  replace B1 := hide (Box.kept B1.out hb)
  replace Bx := hide (Box.kept Bx.out hb)
  replace By := hide (Box.kept By.out hb)
  replace Oe := hide Oe.out.rd
  replace hU := hU.trans (hb.mono hU.size)
  clear hb
  have Ge : Gd le := by have h := congrArg Vc.b Ee.out; dsimp only at h; rw [h]; exact (gdx_sgl (by cases mtc mSame ⟨la, sa⟩ ⟨lb, sb⟩ <;> decide))
  have Le := hide (show le.length ≤ 4096 from Nat.le_trans Ge.le (by decide))
  have Ye := hide Ge.by_
  clear Ge
  refine anyR_call (i := 4) (m' := 31) rfl rfl (by kernel_rfl) (by kernel_rfl) (by kernel_rfl) (by kernel_rfl) (by kernel_rfl) ((rsame_not Ae A1 le l1 ce c1 se s1 _ Le.out L1.out Oe.out O1.out (by rw [Ee.out, E1.out, of_one]; (try unfold vCase); rw [HM.out]; exact fun h => absurd (sgl_inj.1 h) (by decide))).mono ?_)
  rintro e w119 ⟨rfl, hb⟩
  refine ⟨_, rfl, hb, ?_⟩
  replace Oa := hide (RQ.below Oa.out hb)
  replace Ob := hide (RQ.below Ob.out hb)
  replace O1 := hide (RQ.below O1.out hb)
  replace Ox := hide (RQ.below Ox.out hb)
  replace Oy := hide (RQ.below Oy.out hb)
  replace Oe := hide (RQ.below Oe.out hb)
  replace Ba := hide (Box.kept Ba.out hb)
  replace Bb := hide (Box.kept Bb.out hb)
  replace B1 := hide (Box.kept B1.out hb)
  replace Bx := hide (Box.kept Bx.out hb)
  replace By := hide (Box.kept By.out hb)
  replace hU := hU.trans (hb.mono hU.size)
  clear hb
  clear Oe Ce Le Ye
  refine anyR_e ?_
  refine anyR_last (i := 5) (m' := 63) (v := .bool false) rfl rfl (by kernel_rfl) (by kernel_rfl) (by kernel_rfl) (by kernel_rfl) (by kernel_rfl) ?_
  refine anyE_done (by kernel_rfl) ?_
  clear F hQ Ba0 Bb0 B10 Bx0 By0
  refine then_normal ?_
  refine wp_seq ?_
  refine wp_seq ?_
  refine region_R (n := 33) (N := 34) (by kernel_rfl) (by kernel_rfl) (by kernel_rfl) (by kernel_rfl) (by kernel_rfl) (by kernel_rfl) (fun _ _ _ _ _ h => h) ?_
  intro F hQ
  have Ba0 := Ba
  have Bb0 := Bb
  have B10 := B1
  have Bx0 := Bx
  have By0 := By
  refine anyR_val (i := 0) (m' := 1) (v := .bool false) F hQ rfl rfl (by kernel_rfl) (by kernel_rfl) (by kernel_rfl) (by kernel_rfl) (by kernel_rfl) (fun _ _ => by kernel_rfl) ?_
  refine anyR_ldvec (i := 1) (m' := 3) Bx0.out F hQ rfl rfl (by kernel_rfl) (by kernel_rfl) (by kernel_rfl) (by kernel_rfl) (by kernel_rfl) rfl (by kernel_rfl) ?_
  refine anyR_ldvec (i := 2) (m' := 7) By0.out F hQ rfl rfl (by kernel_rfl) (by kernel_rfl) (by kernel_rfl) (by kernel_rfl) (by kernel_rfl) rfl (by kernel_rfl) ?_
  refine anyR_call (i := 3) (m' := 15) rfl rfl (by kernel_rfl) (by kernel_rfl) (by kernel_rfl) (by kernel_rfl) (by kernel_rfl) ((rsame_not Ax Ay lx ly cx cy sx sy _ Lx.out Ly.out (by exact Ox.out) (by exact Oy.out) (by rw [Ex.out, Ey.out]; exact fun h => absurd ((mtc_same Ya.out Yb.out).2 (congrArg Vc.b h)) (by rw [HM.out]; decide))).mono ?_)
  rintro e w120 ⟨rfl, hb⟩
  refine ⟨_, rfl, hb, ?_⟩
  replace hb : Below w119.heap.size w119 w120 := Below.trans ((Below.refl _ _).drew) hb
  replace Oa := hide (RQ.below Oa.out hb)
  replace Ob := hide (RQ.below Ob.out hb)
  replace O1 := hide (RQ.below O1.out hb)
  replace Ox := hide (RQ.below Ox.out hb)
  replace Oy := hide (RQ.below Oy.out hb)
  replace Ba := hide (Box.kept Ba.out hb)
  replace Bb := hide (Box.kept Bb.out hb)
  replace B1 := hide (Box.kept B1.out hb)
  replace Bx := hide (Box.kept Bx.out hb)
  replace By := hide (Box.kept By.out hb)
  replace hU := hU.trans (hb.mono hU.size)
  clear hb
  refine anyR_val (i := 4) (m' := 31) (v := .bool false) F hQ rfl rfl (by kernel_rfl) (by kernel_rfl) (by kernel_rfl) (by kernel_rfl) (by kernel_rfl) (fun _ _ => by kernel_rfl) ?_
  refine anyR_val (i := 5) (m' := 63) (v := .bool false) F hQ rfl rfl (by kernel_rfl) (by kernel_rfl) (by kernel_rfl) (by kernel_rfl) (by kernel_rfl) (fun _ _ => by kernel_rfl) ?_
  refine anyR_ldvec (i := 6) (m' := 127) Ba0.out F hQ rfl rfl (by kernel_rfl) (by kernel_rfl) (by kernel_rfl) (by kernel_rfl) (by kernel_rfl) rfl (by kernel_rfl) ?_
  refine anyR_ldvec (i := 7) (m' := 255) Bb0.out F hQ rfl rfl (by kernel_rfl) (by kernel_rfl) (by kernel_rfl) (by kernel_rfl) (by kernel_rfl) rfl (by kernel_rfl) ?_
  refine anyR_ldvec (i := 9) (m' := 767) B10.out F hQ rfl rfl (by kernel_rfl) (by kernel_rfl) (by kernel_rfl) (by kernel_rfl) (by kernel_rfl) rfl (by kernel_rfl) ?_
  refine anyR_val (i := 11) (m' := 2815) (v := .bool false) F hQ rfl rfl (by kernel_rfl) (by kernel_rfl) (by kernel_rfl) (by kernel_rfl) (by kernel_rfl) (fun _ _ => by kernel_rfl) ?_
  refine anyR_call (i := 8) (m' := 3071) rfl rfl (by kernel_rfl) (by kernel_rfl) (by kernel_rfl) (by kernel_rfl) (by kernel_rfl) ((vCaseNe_any Aa Ab la lb ca cb sa sb _ La.out Lb.out Ca Cb Oa.out Ob.out Ya.out Yb.out (HT.out.kept hU)).mono ?_)
  rintro e w121 ⟨ln, sn, An, cn, En, rfl, Cn, On, hb⟩
  refine ⟨_, rfl, hb, ?_⟩
  replace Oa := hide (RQ.below Oa.out hb)
  replace Ob := hide (RQ.below Ob.out hb)
  replace O1 := hide (RQ.below O1.out hb)
  replace Ox := hide (RQ.below Ox.out hb)
  replace Oy := hide (RQ.below Oy.out hb)
  replace Ba := hide (Box.kept Ba.out hb)
  replace Bb := hide (Box.kept Bb.out hb)
  replace B1 := hide (Box.kept B1.out hb)
  replace Bx := hide (Box.kept Bx.out hb)
  replace By := hide (Box.kept By.out hb)
  replace On := hide On.out.rd
  replace hU := hU.trans (hb.mono hU.size)
  clear hb
  have Gn : Gd ln := by have h := congrArg Vc.b En.out; dsimp only at h; rw [h]; exact (gdx_sgl (by cases mtc mSame ⟨la, sa⟩ ⟨lb, sb⟩ <;> decide))
  have Ln := hide (show ln.length ≤ 4096 from Nat.le_trans Gn.le (by decide))
  have Yn := hide Gn.by_
  clear Gn
  refine anyR_call (i := 10) (m' := 4095) rfl rfl (by kernel_rfl) (by kernel_rfl) (by kernel_rfl) (by kernel_rfl) (by kernel_rfl) ((rsame_yes An A1 ln l1 cn c1 sn s1 _ Ln.out L1.out On.out O1.out (by rw [En.out, E1.out, of_one]; (try unfold vCase); rw [HM.out]; rfl)).mono ?_)
  rintro e w122 ⟨rfl, hb⟩
  refine ⟨_, rfl, hb, ?_⟩
  replace Oa := hide (RQ.below Oa.out hb)
  replace Ob := hide (RQ.below Ob.out hb)
  replace O1 := hide (RQ.below O1.out hb)
  replace Ox := hide (RQ.below Ox.out hb)
  replace Oy := hide (RQ.below Oy.out hb)
  replace On := hide (RQ.below On.out hb)
  replace Ba := hide (Box.kept Ba.out hb)
  replace Bb := hide (Box.kept Bb.out hb)
  replace B1 := hide (Box.kept B1.out hb)
  replace Bx := hide (Box.kept Bx.out hb)
  replace By := hide (Box.kept By.out hb)
  replace hU := hU.trans (hb.mono hU.size)
  clear hb
  clear On Cn Ln Yn
  refine anyR_val (i := 12) (m' := 8191) (v := .bool false) F hQ rfl rfl (by kernel_rfl) (by kernel_rfl) (by kernel_rfl) (by kernel_rfl) (by kernel_rfl) (fun _ _ => by kernel_rfl) ?_
  refine anyR_val (i := 13) (m' := 16383) (v := .bool false) F hQ rfl rfl (by kernel_rfl) (by kernel_rfl) (by kernel_rfl) (by kernel_rfl) (by kernel_rfl) (fun _ _ => by kernel_rfl) ?_
  refine anyR_val (i := 14) (m' := 32767) (v := .bool false) F hQ rfl rfl (by kernel_rfl) (by kernel_rfl) (by kernel_rfl) (by kernel_rfl) (by kernel_rfl) (fun _ _ => by kernel_rfl) ?_
  refine anyR_val (i := 15) (m' := 65535) (v := .bool false) F hQ rfl rfl (by kernel_rfl) (by kernel_rfl) (by kernel_rfl) (by kernel_rfl) (by kernel_rfl) (fun _ _ => by kernel_rfl) ?_
  refine anyR_val (i := 16) (m' := 131071) (v := .bool false) F hQ rfl rfl (by kernel_rfl) (by kernel_rfl) (by kernel_rfl) (by kernel_rfl) (by kernel_rfl) (fun _ _ => by kernel_rfl) ?_
  refine anyR_off (i := 17) (m' := 262143) F hQ rfl rfl (by kernel_rfl) (by kernel_rfl) (by kernel_rfl) (by kernel_rfl) (by kernel_rfl) ?_
  refine anyR_off (i := 18) (m' := 524287) F hQ rfl rfl (by kernel_rfl) (by kernel_rfl) (by kernel_rfl) (by kernel_rfl) (by kernel_rfl) ?_
  refine anyR_off (i := 19) (m' := 1048575) F hQ rfl rfl (by kernel_rfl) (by kernel_rfl) (by kernel_rfl) (by kernel_rfl) (by kernel_rfl) ?_
  refine anyR_off (i := 20) (m' := 2097151) F hQ rfl rfl (by kernel_rfl) (by kernel_rfl) (by kernel_rfl) (by kernel_rfl) (by kernel_rfl) ?_
  refine anyR_val (i := 21) (m' := 4194303) (v := .bool false) F hQ rfl rfl (by kernel_rfl) (by kernel_rfl) (by kernel_rfl) (by kernel_rfl) (by kernel_rfl) (fun _ _ => by kernel_rfl) ?_
  refine anyR_val (i := 22) (m' := 8388607) (v := .bool false) F hQ rfl rfl (by kernel_rfl) (by kernel_rfl) (by kernel_rfl) (by kernel_rfl) (by kernel_rfl) (fun _ _ => by kernel_rfl) ?_
  refine anyR_val (i := 23) (m' := 16777215) (v := .bool false) F hQ rfl rfl (by kernel_rfl) (by kernel_rfl) (by kernel_rfl) (by kernel_rfl) (by kernel_rfl) (fun _ _ => by kernel_rfl) ?_
  refine anyR_ldvec (i := 24) (m' := 33554431) Ba0.out F hQ rfl rfl (by kernel_rfl) (by kernel_rfl) (by kernel_rfl) (by kernel_rfl) (by kernel_rfl) rfl (by kernel_rfl) ?_
  refine anyR_ldvec (i := 25) (m' := 67108863) Bb0.out F hQ rfl rfl (by kernel_rfl) (by kernel_rfl) (by kernel_rfl) (by kernel_rfl) (by kernel_rfl) rfl (by kernel_rfl) ?_
  refine anyR_call (i := 26) (m' := 134217727) rfl rfl (by kernel_rfl) (by kernel_rfl) (by kernel_rfl) (by kernel_rfl) (by kernel_rfl) ((vMatchZ_v false Aa Ab la lb ca cb sa sb _ La.out Lb.out Ca Cb Oa.out Ob.out Ya.out Yb.out HZ.out).mono ?_)
  rintro e w123 ⟨rfl, hb⟩
  refine ⟨_, rfl, hb, ?_⟩
  replace Oa := hide (RQ.below Oa.out hb)
  replace Ob := hide (RQ.below Ob.out hb)
  replace O1 := hide (RQ.below O1.out hb)
  replace Ox := hide (RQ.below Ox.out hb)
  replace Oy := hide (RQ.below Oy.out hb)
  replace Ba := hide (Box.kept Ba.out hb)
  replace Bb := hide (Box.kept Bb.out hb)
  replace B1 := hide (Box.kept B1.out hb)
  replace Bx := hide (Box.kept Bx.out hb)
  replace By := hide (Box.kept By.out hb)
  replace hU := hU.trans (hb.mono hU.size)
  clear hb
  refine anyR_val (i := 27) (m' := 268435455) (v := .bool false) F hQ rfl rfl (by kernel_rfl) (by kernel_rfl) (by kernel_rfl) (by kernel_rfl) (by kernel_rfl) (fun _ _ => by kernel_rfl) ?_
  refine anyR_off (i := 28) (m' := 536870911) F hQ rfl rfl (by kernel_rfl) (by kernel_rfl) (by kernel_rfl) (by kernel_rfl) (by kernel_rfl) ?_
  refine anyR_off (i := 29) (m' := 1073741823) F hQ rfl rfl (by kernel_rfl) (by kernel_rfl) (by kernel_rfl) (by kernel_rfl) (by kernel_rfl) ?_
  refine anyR_off (i := 30) (m' := 2147483647) F hQ rfl rfl (by kernel_rfl) (by kernel_rfl) (by kernel_rfl) (by kernel_rfl) (by kernel_rfl) ?_
  refine anyR_off (i := 31) (m' := 4294967295) F hQ rfl rfl (by kernel_rfl) (by kernel_rfl) (by kernel_rfl) (by kernel_rfl) (by kernel_rfl) ?_
  refine anyR_val (i := 32) (m' := 8589934591) (v := .bool false) F hQ rfl rfl (by kernel_rfl) (by kernel_rfl) (by kernel_rfl) (by kernel_rfl) (by kernel_rfl) (fun _ _ => by kernel_rfl) ?_
  refine anyR_e ?_
  refine anyR_last (i := 33) (m' := 17179869183) (v := .bool false) rfl rfl (by kernel_rfl) (by kernel_rfl) (by kernel_rfl) (by kernel_rfl) (by kernel_rfl) ?_
  refine anyE_done (by kernel_rfl) ?_
  clear F hQ Ba0 Bb0 B10 Bx0 By0
  refine then_normal ?_
  refine wp_iff (by kernel_rfl) ?_
  refine wp_skip ?_
  refine then_normal ?_
  refine wp_seq ?_
  refine wp_seq ?_
  refine reg_lit ?_
  refine wpl_ldvec Ba.out rfl (by kernel_rfl) rfl (by kernel_rfl) ?_
  refine wpl_call rfl (by kernel_rfl) (by kernel_rfl) ((vKnown_v true Aa la ca sa _ La.out Ca Oa.out Ya.out HKa.out).mono ?_)
  rintro e w124 ⟨rfl, hb⟩
  refine ⟨_, rfl, ?_⟩
  replace Oa := hide (RQ.below Oa.out hb)
  replace Ob := hide (RQ.below Ob.out hb)
  replace O1 := hide (RQ.below O1.out hb)
  replace Ox := hide (RQ.below Ox.out hb)
  replace Oy := hide (RQ.below Oy.out hb)
  replace Ba := hide (Box.kept Ba.out hb)
  replace Bb := hide (Box.kept Bb.out hb)
  replace B1 := hide (Box.kept B1.out hb)
  replace Bx := hide (Box.kept Bx.out hb)
  replace By := hide (Box.kept By.out hb)
  replace hU := hU.trans (hb.mono hU.size)
  clear hb
  refine wpl_r2 [(69, .bool false), (68, .bool false)] (by kernel_rfl) ?_
  refine wpl_ldvec Bb.out rfl (by kernel_rfl) rfl (by kernel_rfl) ?_
  refine wpl_call rfl (by kernel_rfl) (by kernel_rfl) ((vKnown_v false Ab lb cb sb _ Lb.out Cb Ob.out Yb.out HKb.out).mono ?_)
  rintro e w125 ⟨rfl, hb⟩
  refine ⟨_, rfl, ?_⟩
  replace Oa := hide (RQ.below Oa.out hb)
  replace Ob := hide (RQ.below Ob.out hb)
  replace O1 := hide (RQ.below O1.out hb)
  replace Ox := hide (RQ.below Ox.out hb)
  replace Oy := hide (RQ.below Oy.out hb)
  replace Ba := hide (Box.kept Ba.out hb)
  replace Bb := hide (Box.kept Bb.out hb)
  replace B1 := hide (Box.kept B1.out hb)
  replace Bx := hide (Box.kept Bx.out hb)
  replace By := hide (Box.kept By.out hb)
  replace hU := hU.trans (hb.mono hU.size)
  clear hb
  refine wpl_r2 [(73, .bool true), (72, .bool true)] (by kernel_rfl) ?_
  refine wpl_end ?_
  refine then_normal ?_
  refine wp_ift (by kernel_rfl) ?_
  refine wp_seq ?_
  refine reg_lit ?_
  refine wpl_r1 [(4, .bool true)] (by kernel_rfl) ?_
  refine wpl_end ?_
  refine then_normal ?_
  refine wp_ret ?_
  refine (show bodyPost _ _ _ .ret _ _ from ret_sl (.bool true) rfl (by kernel_rfl) ?_)
  exact ⟨rfl, hU⟩
  have HKb := hide hB
  clear hB
  refine region_R (n := 5) (N := 6) (by kernel_rfl) (by kernel_rfl) (by kernel_rfl) (by kernel_rfl) (by kernel_rfl) (by kernel_rfl) (fun _ _ _ _ _ h => h) ?_
  intro F hQ
  have Ba0 := Ba
  have Bb0 := Bb
  have B10 := B1
  have Bx0 := Bx
  have By0 := By
  refine anyR_ldvec (i := 0) (m' := 1) Ba0.out F hQ rfl rfl (by kernel_rfl) (by kernel_rfl) (by kernel_rfl) (by kernel_rfl) (by kernel_rfl) rfl (by kernel_rfl) ?_
  refine anyR_ldvec (i := 1) (m' := 3) Bb0.out F hQ rfl rfl (by kernel_rfl) (by kernel_rfl) (by kernel_rfl) (by kernel_rfl) (by kernel_rfl) rfl (by kernel_rfl) ?_
  refine anyR_ldvec (i := 3) (m' := 11) B10.out F hQ rfl rfl (by kernel_rfl) (by kernel_rfl) (by kernel_rfl) (by kernel_rfl) (by kernel_rfl) rfl (by kernel_rfl) ?_
  refine anyR_call (i := 2) (m' := 15) rfl rfl (by kernel_rfl) (by kernel_rfl) (by kernel_rfl) (by kernel_rfl) (by kernel_rfl) ((vCaseEq_any Aa Ab la lb ca cb sa sb _ La.out Lb.out Ca Cb (by exact Oa.out) (by exact Ob.out) Ya.out Yb.out).mono ?_)
  rintro e w126 ⟨le, se, Ae, ce, Ee, rfl, Ce, Oe, hb⟩
  refine ⟨_, rfl, hb, ?_⟩
  replace hb : Below w110.heap.size w110 w126 := Below.trans ((Below.refl _ _).drew) hb
  replace Oa := hide (RQ.below Oa.out hb)
  replace Ob := hide (RQ.below Ob.out hb)
  replace O1 := hide (RQ.below O1.out hb)
  replace Ox := hide (RQ.below Ox.out hb)
  replace Oy := hide (RQ.below Oy.out hb)
  replace Ba := hide (Box.kept Ba.out hb)
  replace Bb := hide (Box.kept Bb.out hb)
  replace B1 := hide (Box.kept B1.out hb)
  replace Bx := hide (Box.kept Bx.out hb)
  replace By := hide (Box.kept By.out hb)
  replace Oe := hide Oe.out.rd
  replace hU := hU.trans (hb.mono hU.size)
  clear hb
  have Ge : Gd le := by have h := congrArg Vc.b Ee.out; dsimp only at h; rw [h]; exact (gdx_sgl (by cases mtc mSame ⟨la, sa⟩ ⟨lb, sb⟩ <;> decide))
  have Le := hide (show le.length ≤ 4096 from Nat.le_trans Ge.le (by decide))
  have Ye := hide Ge.by_
  clear Ge
  refine anyR_call (i := 4) (m' := 31) rfl rfl (by kernel_rfl) (by kernel_rfl) (by kernel_rfl) (by kernel_rfl) (by kernel_rfl) ((rsame_not Ae A1 le l1 ce c1 se s1 _ Le.out L1.out Oe.out O1.out (by rw [Ee.out, E1.out, of_one]; (try unfold vCase); rw [HM.out]; exact fun h => absurd (sgl_inj.1 h) (by decide))).mono ?_)
  rintro e w127 ⟨rfl, hb⟩
  refine ⟨_, rfl, hb, ?_⟩
  replace Oa := hide (RQ.below Oa.out hb)
  replace Ob := hide (RQ.below Ob.out hb)
  replace O1 := hide (RQ.below O1.out hb)
  replace Ox := hide (RQ.below Ox.out hb)
  replace Oy := hide (RQ.below Oy.out hb)
  replace Oe := hide (RQ.below Oe.out hb)
  replace Ba := hide (Box.kept Ba.out hb)
  replace Bb := hide (Box.kept Bb.out hb)
  replace B1 := hide (Box.kept B1.out hb)
  replace Bx := hide (Box.kept Bx.out hb)
  replace By := hide (Box.kept By.out hb)
  replace hU := hU.trans (hb.mono hU.size)
  clear hb
  clear Oe Ce Le Ye
  refine anyR_e ?_
  refine anyR_last (i := 5) (m' := 63) (v := .bool false) rfl rfl (by kernel_rfl) (by kernel_rfl) (by kernel_rfl) (by kernel_rfl) (by kernel_rfl) ?_
  refine anyE_done (by kernel_rfl) ?_
  clear F hQ Ba0 Bb0 B10 Bx0 By0
  refine then_normal ?_
  refine wp_seq ?_
  refine wp_seq ?_
  refine region_R (n := 33) (N := 34) (by kernel_rfl) (by kernel_rfl) (by kernel_rfl) (by kernel_rfl) (by kernel_rfl) (by kernel_rfl) (fun _ _ _ _ _ h => h) ?_
  intro F hQ
  have Ba0 := Ba
  have Bb0 := Bb
  have B10 := B1
  have Bx0 := Bx
  have By0 := By
  refine anyR_val (i := 0) (m' := 1) (v := .bool false) F hQ rfl rfl (by kernel_rfl) (by kernel_rfl) (by kernel_rfl) (by kernel_rfl) (by kernel_rfl) (fun _ _ => by kernel_rfl) ?_
  refine anyR_ldvec (i := 1) (m' := 3) Bx0.out F hQ rfl rfl (by kernel_rfl) (by kernel_rfl) (by kernel_rfl) (by kernel_rfl) (by kernel_rfl) rfl (by kernel_rfl) ?_
  refine anyR_ldvec (i := 2) (m' := 7) By0.out F hQ rfl rfl (by kernel_rfl) (by kernel_rfl) (by kernel_rfl) (by kernel_rfl) (by kernel_rfl) rfl (by kernel_rfl) ?_
  refine anyR_call (i := 3) (m' := 15) rfl rfl (by kernel_rfl) (by kernel_rfl) (by kernel_rfl) (by kernel_rfl) (by kernel_rfl) ((rsame_not Ax Ay lx ly cx cy sx sy _ Lx.out Ly.out (by exact Ox.out) (by exact Oy.out) (by rw [Ex.out, Ey.out]; exact fun h => absurd ((mtc_same Ya.out Yb.out).2 (congrArg Vc.b h)) (by rw [HM.out]; decide))).mono ?_)
  rintro e w128 ⟨rfl, hb⟩
  refine ⟨_, rfl, hb, ?_⟩
  replace hb : Below w127.heap.size w127 w128 := Below.trans ((Below.refl _ _).drew) hb
  replace Oa := hide (RQ.below Oa.out hb)
  replace Ob := hide (RQ.below Ob.out hb)
  replace O1 := hide (RQ.below O1.out hb)
  replace Ox := hide (RQ.below Ox.out hb)
  replace Oy := hide (RQ.below Oy.out hb)
  replace Ba := hide (Box.kept Ba.out hb)
  replace Bb := hide (Box.kept Bb.out hb)
  replace B1 := hide (Box.kept B1.out hb)
  replace Bx := hide (Box.kept Bx.out hb)
  replace By := hide (Box.kept By.out hb)
  replace hU := hU.trans (hb.mono hU.size)
  clear hb
  refine anyR_val (i := 4) (m' := 31) (v := .bool false) F hQ rfl rfl (by kernel_rfl) (by kernel_rfl) (by kernel_rfl) (by kernel_rfl) (by kernel_rfl) (fun _ _ => by kernel_rfl) ?_
  refine anyR_val (i := 5) (m' := 63) (v := .bool false) F hQ rfl rfl (by kernel_rfl) (by kernel_rfl) (by kernel_rfl) (by kernel_rfl) (by kernel_rfl) (fun _ _ => by kernel_rfl) ?_
  refine anyR_ldvec (i := 6) (m' := 127) Ba0.out F hQ rfl rfl (by kernel_rfl) (by kernel_rfl) (by kernel_rfl) (by kernel_rfl) (by kernel_rfl) rfl (by kernel_rfl) ?_
  refine anyR_ldvec (i := 7) (m' := 255) Bb0.out F hQ rfl rfl (by kernel_rfl) (by kernel_rfl) (by kernel_rfl) (by kernel_rfl) (by kernel_rfl) rfl (by kernel_rfl) ?_
  refine anyR_ldvec (i := 9) (m' := 767) B10.out F hQ rfl rfl (by kernel_rfl) (by kernel_rfl) (by kernel_rfl) (by kernel_rfl) (by kernel_rfl) rfl (by kernel_rfl) ?_
  refine anyR_val (i := 11) (m' := 2815) (v := .bool false) F hQ rfl rfl (by kernel_rfl) (by kernel_rfl) (by kernel_rfl) (by kernel_rfl) (by kernel_rfl) (fun _ _ => by kernel_rfl) ?_
  refine anyR_call (i := 8) (m' := 3071) rfl rfl (by kernel_rfl) (by kernel_rfl) (by kernel_rfl) (by kernel_rfl) (by kernel_rfl) ((vCaseNe_any Aa Ab la lb ca cb sa sb _ La.out Lb.out Ca Cb Oa.out Ob.out Ya.out Yb.out (HT.out.kept hU)).mono ?_)
  rintro e w129 ⟨ln, sn, An, cn, En, rfl, Cn, On, hb⟩
  refine ⟨_, rfl, hb, ?_⟩
  replace Oa := hide (RQ.below Oa.out hb)
  replace Ob := hide (RQ.below Ob.out hb)
  replace O1 := hide (RQ.below O1.out hb)
  replace Ox := hide (RQ.below Ox.out hb)
  replace Oy := hide (RQ.below Oy.out hb)
  replace Ba := hide (Box.kept Ba.out hb)
  replace Bb := hide (Box.kept Bb.out hb)
  replace B1 := hide (Box.kept B1.out hb)
  replace Bx := hide (Box.kept Bx.out hb)
  replace By := hide (Box.kept By.out hb)
  replace On := hide On.out.rd
  replace hU := hU.trans (hb.mono hU.size)
  clear hb
  have Gn : Gd ln := by have h := congrArg Vc.b En.out; dsimp only at h; rw [h]; exact (gdx_sgl (by cases mtc mSame ⟨la, sa⟩ ⟨lb, sb⟩ <;> decide))
  have Ln := hide (show ln.length ≤ 4096 from Nat.le_trans Gn.le (by decide))
  have Yn := hide Gn.by_
  clear Gn
  refine anyR_call (i := 10) (m' := 4095) rfl rfl (by kernel_rfl) (by kernel_rfl) (by kernel_rfl) (by kernel_rfl) (by kernel_rfl) ((rsame_yes An A1 ln l1 cn c1 sn s1 _ Ln.out L1.out On.out O1.out (by rw [En.out, E1.out, of_one]; (try unfold vCase); rw [HM.out]; rfl)).mono ?_)
  rintro e w130 ⟨rfl, hb⟩
  refine ⟨_, rfl, hb, ?_⟩
  replace Oa := hide (RQ.below Oa.out hb)
  replace Ob := hide (RQ.below Ob.out hb)
  replace O1 := hide (RQ.below O1.out hb)
  replace Ox := hide (RQ.below Ox.out hb)
  replace Oy := hide (RQ.below Oy.out hb)
  replace On := hide (RQ.below On.out hb)
  replace Ba := hide (Box.kept Ba.out hb)
  replace Bb := hide (Box.kept Bb.out hb)
  replace B1 := hide (Box.kept B1.out hb)
  replace Bx := hide (Box.kept Bx.out hb)
  replace By := hide (Box.kept By.out hb)
  replace hU := hU.trans (hb.mono hU.size)
  clear hb
  clear On Cn Ln Yn
  refine anyR_val (i := 12) (m' := 8191) (v := .bool false) F hQ rfl rfl (by kernel_rfl) (by kernel_rfl) (by kernel_rfl) (by kernel_rfl) (by kernel_rfl) (fun _ _ => by kernel_rfl) ?_
  refine anyR_val (i := 13) (m' := 16383) (v := .bool false) F hQ rfl rfl (by kernel_rfl) (by kernel_rfl) (by kernel_rfl) (by kernel_rfl) (by kernel_rfl) (fun _ _ => by kernel_rfl) ?_
  refine anyR_val (i := 14) (m' := 32767) (v := .bool false) F hQ rfl rfl (by kernel_rfl) (by kernel_rfl) (by kernel_rfl) (by kernel_rfl) (by kernel_rfl) (fun _ _ => by kernel_rfl) ?_
  refine anyR_val (i := 15) (m' := 65535) (v := .bool false) F hQ rfl rfl (by kernel_rfl) (by kernel_rfl) (by kernel_rfl) (by kernel_rfl) (by kernel_rfl) (fun _ _ => by kernel_rfl) ?_
  refine anyR_val (i := 16) (m' := 131071) (v := .bool false) F hQ rfl rfl (by kernel_rfl) (by kernel_rfl) (by kernel_rfl) (by kernel_rfl) (by kernel_rfl) (fun _ _ => by kernel_rfl) ?_
  refine anyR_off (i := 17) (m' := 262143) F hQ rfl rfl (by kernel_rfl) (by kernel_rfl) (by kernel_rfl) (by kernel_rfl) (by kernel_rfl) ?_
  refine anyR_off (i := 18) (m' := 524287) F hQ rfl rfl (by kernel_rfl) (by kernel_rfl) (by kernel_rfl) (by kernel_rfl) (by kernel_rfl) ?_
  refine anyR_off (i := 19) (m' := 1048575) F hQ rfl rfl (by kernel_rfl) (by kernel_rfl) (by kernel_rfl) (by kernel_rfl) (by kernel_rfl) ?_
  refine anyR_off (i := 20) (m' := 2097151) F hQ rfl rfl (by kernel_rfl) (by kernel_rfl) (by kernel_rfl) (by kernel_rfl) (by kernel_rfl) ?_
  refine anyR_val (i := 21) (m' := 4194303) (v := .bool false) F hQ rfl rfl (by kernel_rfl) (by kernel_rfl) (by kernel_rfl) (by kernel_rfl) (by kernel_rfl) (fun _ _ => by kernel_rfl) ?_
  refine anyR_val (i := 22) (m' := 8388607) (v := .bool false) F hQ rfl rfl (by kernel_rfl) (by kernel_rfl) (by kernel_rfl) (by kernel_rfl) (by kernel_rfl) (fun _ _ => by kernel_rfl) ?_
  refine anyR_val (i := 23) (m' := 16777215) (v := .bool false) F hQ rfl rfl (by kernel_rfl) (by kernel_rfl) (by kernel_rfl) (by kernel_rfl) (by kernel_rfl) (fun _ _ => by kernel_rfl) ?_
  refine anyR_ldvec (i := 24) (m' := 33554431) Ba0.out F hQ rfl rfl (by kernel_rfl) (by kernel_rfl) (by kernel_rfl) (by kernel_rfl) (by kernel_rfl) rfl (by kernel_rfl) ?_
  refine anyR_ldvec (i := 25) (m' := 67108863) Bb0.out F hQ rfl rfl (by kernel_rfl) (by kernel_rfl) (by kernel_rfl) (by kernel_rfl) (by kernel_rfl) rfl (by kernel_rfl) ?_
  refine anyR_call (i := 26) (m' := 134217727) rfl rfl (by kernel_rfl) (by kernel_rfl) (by kernel_rfl) (by kernel_rfl) (by kernel_rfl) ((vMatchZ_v false Aa Ab la lb ca cb sa sb _ La.out Lb.out Ca Cb Oa.out Ob.out Ya.out Yb.out HZ.out).mono ?_)
  rintro e w131 ⟨rfl, hb⟩
  refine ⟨_, rfl, hb, ?_⟩
  replace Oa := hide (RQ.below Oa.out hb)
  replace Ob := hide (RQ.below Ob.out hb)
  replace O1 := hide (RQ.below O1.out hb)
  replace Ox := hide (RQ.below Ox.out hb)
  replace Oy := hide (RQ.below Oy.out hb)
  replace Ba := hide (Box.kept Ba.out hb)
  replace Bb := hide (Box.kept Bb.out hb)
  replace B1 := hide (Box.kept B1.out hb)
  replace Bx := hide (Box.kept Bx.out hb)
  replace By := hide (Box.kept By.out hb)
  replace hU := hU.trans (hb.mono hU.size)
  clear hb
  refine anyR_val (i := 27) (m' := 268435455) (v := .bool false) F hQ rfl rfl (by kernel_rfl) (by kernel_rfl) (by kernel_rfl) (by kernel_rfl) (by kernel_rfl) (fun _ _ => by kernel_rfl) ?_
  refine anyR_off (i := 28) (m' := 536870911) F hQ rfl rfl (by kernel_rfl) (by kernel_rfl) (by kernel_rfl) (by kernel_rfl) (by kernel_rfl) ?_
  refine anyR_off (i := 29) (m' := 1073741823) F hQ rfl rfl (by kernel_rfl) (by kernel_rfl) (by kernel_rfl) (by kernel_rfl) (by kernel_rfl) ?_
  refine anyR_off (i := 30) (m' := 2147483647) F hQ rfl rfl (by kernel_rfl) (by kernel_rfl) (by kernel_rfl) (by kernel_rfl) (by kernel_rfl) ?_
  refine anyR_off (i := 31) (m' := 4294967295) F hQ rfl rfl (by kernel_rfl) (by kernel_rfl) (by kernel_rfl) (by kernel_rfl) (by kernel_rfl) ?_
  refine anyR_val (i := 32) (m' := 8589934591) (v := .bool false) F hQ rfl rfl (by kernel_rfl) (by kernel_rfl) (by kernel_rfl) (by kernel_rfl) (by kernel_rfl) (fun _ _ => by kernel_rfl) ?_
  refine anyR_e ?_
  refine anyR_last (i := 33) (m' := 17179869183) (v := .bool false) rfl rfl (by kernel_rfl) (by kernel_rfl) (by kernel_rfl) (by kernel_rfl) (by kernel_rfl) ?_
  refine anyE_done (by kernel_rfl) ?_
  clear F hQ Ba0 Bb0 B10 Bx0 By0
  refine then_normal ?_
  refine wp_iff (by kernel_rfl) ?_
  refine wp_skip ?_
  refine then_normal ?_
  refine wp_seq ?_
  refine wp_seq ?_
  refine reg_lit ?_
  refine wpl_ldvec Ba.out rfl (by kernel_rfl) rfl (by kernel_rfl) ?_
  refine wpl_call rfl (by kernel_rfl) (by kernel_rfl) ((vKnown_v true Aa la ca sa _ La.out Ca Oa.out Ya.out HKa.out).mono ?_)
  rintro e w132 ⟨rfl, hb⟩
  refine ⟨_, rfl, ?_⟩
  replace Oa := hide (RQ.below Oa.out hb)
  replace Ob := hide (RQ.below Ob.out hb)
  replace O1 := hide (RQ.below O1.out hb)
  replace Ox := hide (RQ.below Ox.out hb)
  replace Oy := hide (RQ.below Oy.out hb)
  replace Ba := hide (Box.kept Ba.out hb)
  replace Bb := hide (Box.kept Bb.out hb)
  replace B1 := hide (Box.kept B1.out hb)
  replace Bx := hide (Box.kept Bx.out hb)
  replace By := hide (Box.kept By.out hb)
  replace hU := hU.trans (hb.mono hU.size)
  clear hb
  refine wpl_r2 [(69, .bool false), (68, .bool false)] (by kernel_rfl) ?_
  refine wpl_ldvec Bb.out rfl (by kernel_rfl) rfl (by kernel_rfl) ?_
  refine wpl_call rfl (by kernel_rfl) (by kernel_rfl) ((vKnown_v true Ab lb cb sb _ Lb.out Cb Ob.out Yb.out HKb.out).mono ?_)
  rintro e w133 ⟨rfl, hb⟩
  refine ⟨_, rfl, ?_⟩
  replace Oa := hide (RQ.below Oa.out hb)
  replace Ob := hide (RQ.below Ob.out hb)
  replace O1 := hide (RQ.below O1.out hb)
  replace Ox := hide (RQ.below Ox.out hb)
  replace Oy := hide (RQ.below Oy.out hb)
  replace Ba := hide (Box.kept Ba.out hb)
  replace Bb := hide (Box.kept Bb.out hb)
  replace B1 := hide (Box.kept B1.out hb)
  replace Bx := hide (Box.kept Bx.out hb)
  replace By := hide (Box.kept By.out hb)
  replace hU := hU.trans (hb.mono hU.size)
  clear hb
  refine wpl_r2 [(73, .bool false), (72, .bool false)] (by kernel_rfl) ?_
  refine wpl_end ?_
  refine then_normal ?_
  refine wp_iff (by kernel_rfl) ?_
  refine wp_skip ?_
  refine then_normal ?_
  refine wp_seq ?_
  refine region_R (n := 20) (N := 21) (by kernel_rfl) (by kernel_rfl) (by kernel_rfl) (by kernel_rfl) (by kernel_rfl) (by kernel_rfl) (fun _ _ _ _ _ h => h) ?_
  intro F hQ
  have Ba0 := Ba
  have Bb0 := Bb
  have B10 := B1
  have Bx0 := Bx
  have By0 := By
  refine anyR_ldvec (i := 0) (m' := 1) Ba0.out F hQ rfl rfl (by kernel_rfl) (by kernel_rfl) (by kernel_rfl) (by kernel_rfl) (by kernel_rfl) rfl (by kernel_rfl) ?_
  refine anyR_ldvec (i := 1) (m' := 3) Bb0.out F hQ rfl rfl (by kernel_rfl) (by kernel_rfl) (by kernel_rfl) (by kernel_rfl) (by kernel_rfl) rfl (by kernel_rfl) ?_
  refine anyR_val (i := 3) (m' := 11) (v := .bool false) F hQ rfl rfl (by kernel_rfl) (by kernel_rfl) (by kernel_rfl) (by kernel_rfl) (by kernel_rfl) (fun _ _ => by kernel_rfl) ?_
  refine anyR_call (i := 2) (m' := 15) rfl rfl (by kernel_rfl) (by kernel_rfl) (by kernel_rfl) (by kernel_rfl) (by kernel_rfl) ((vMatchX_v false Aa Ab la lb ca cb sa sb _ La.out Lb.out Ca Cb (by exact Oa.out) (by exact Ob.out) Ya.out Yb.out ((mtc_X Ya.out Yb.out HKa.out HKb.out).trans HM.out)).mono ?_)
  rintro e w134 ⟨rfl, hb⟩
  refine ⟨_, rfl, hb, ?_⟩
  replace hb : Below w133.heap.size w133 w134 := Below.trans ((Below.refl _ _).drew) hb
  replace Oa := hide (RQ.below Oa.out hb)
  replace Ob := hide (RQ.below Ob.out hb)
  replace O1 := hide (RQ.below O1.out hb)
  replace Ox := hide (RQ.below Ox.out hb)
  replace Oy := hide (RQ.below Oy.out hb)
  replace Ba := hide (Box.kept Ba.out hb)
  replace Bb := hide (Box.kept Bb.out hb)
  replace B1 := hide (Box.kept B1.out hb)
  replace Bx := hide (Box.kept Bx.out hb)
  replace By := hide (Box.kept By.out hb)
  replace hU := hU.trans (hb.mono hU.size)
  clear hb
  refine anyR_val (i := 4) (m' := 31) (v := .bool true) F hQ rfl rfl (by kernel_rfl) (by kernel_rfl) (by kernel_rfl) (by kernel_rfl) (by kernel_rfl) (fun _ _ => by kernel_rfl) ?_
  refine anyR_val (i := 5) (m' := 63) (v := .bool true) F hQ rfl rfl (by kernel_rfl) (by kernel_rfl) (by kernel_rfl) (by kernel_rfl) (by kernel_rfl) (fun _ _ => by kernel_rfl) ?_
  refine anyR_ldvec (i := 6) (m' := 127) Ba0.out F hQ rfl rfl (by kernel_rfl) (by kernel_rfl) (by kernel_rfl) (by kernel_rfl) (by kernel_rfl) rfl (by kernel_rfl) ?_
  refine anyR_ldvec (i := 7) (m' := 255) Bb0.out F hQ rfl rfl (by kernel_rfl) (by kernel_rfl) (by kernel_rfl) (by kernel_rfl) (by kernel_rfl) rfl (by kernel_rfl) ?_
  refine anyR_ldvec (i := 9) (m' := 767) B10.out F hQ rfl rfl (by kernel_rfl) (by kernel_rfl) (by kernel_rfl) (by kernel_rfl) (by kernel_rfl) rfl (by kernel_rfl) ?_
  refine anyR_val (i := 11) (m' := 2815) (v := .bool false) F hQ rfl rfl (by kernel_rfl) (by kernel_rfl) (by kernel_rfl) (by kernel_rfl) (by kernel_rfl) (fun _ _ => by kernel_rfl) ?_
  refine anyR_call (i := 8) (m' := 3071) rfl rfl (by kernel_rfl) (by kernel_rfl) (by kernel_rfl) (by kernel_rfl) (by kernel_rfl) ((vEq_any Aa Ab la lb ca cb sa sb _ La.out Lb.out Ca Cb Oa.out Ob.out Ya.out Yb.out (HT.out.kept hU)).mono ?_)
  rintro e w135 ⟨lq, sq, Aq, cq, Eq, rfl, Cq, Oq, hb⟩
  refine ⟨_, rfl, hb, ?_⟩
  replace Oa := hide (RQ.below Oa.out hb)
  replace Ob := hide (RQ.below Ob.out hb)
  replace O1 := hide (RQ.below O1.out hb)
  replace Ox := hide (RQ.below Ox.out hb)
  replace Oy := hide (RQ.below Oy.out hb)
  replace Ba := hide (Box.kept Ba.out hb)
  replace Bb := hide (Box.kept Bb.out hb)
  replace B1 := hide (Box.kept B1.out hb)
  replace Bx := hide (Box.kept Bx.out hb)
  replace By := hide (Box.kept By.out hb)
  replace Oq := hide Oq.out.rd
  replace hU := hU.trans (hb.mono hU.size)
  clear hb
  have Gq : Gd lq := by have h := congrArg Vc.b Eq.out; dsimp only at h; rw [h]; exact (gdx_sgl (by rcases (vEq_known Ya.out Yb.out HKa.out HKb.out).1 with h | h <;> rw [h] <;> decide))
  have Lq := hide (show lq.length ≤ 4096 from Nat.le_trans Gq.le (by decide))
  have Yq := hide Gq.by_
  clear Gq
  refine anyR_call (i := 10) (m' := 4095) rfl rfl (by kernel_rfl) (by kernel_rfl) (by kernel_rfl) (by kernel_rfl) (by kernel_rfl) ((rsame_not Aq A1 lq l1 cq c1 sq s1 _ Lq.out L1.out Oq.out O1.out (by rw [Eq.out, E1.out, of_one]; exact fun h => absurd ((mtc_same Ya.out Yb.out).2 ((vEq_known Ya.out Yb.out HKa.out HKb.out).2.1 (sgl_inj.1 h))) (by rw [HM.out]; decide))).mono ?_)
  rintro e w136 ⟨rfl, hb⟩
  refine ⟨_, rfl, hb, ?_⟩
  replace Oa := hide (RQ.below Oa.out hb)
  replace Ob := hide (RQ.below Ob.out hb)
  replace O1 := hide (RQ.below O1.out hb)
  replace Ox := hide (RQ.below Ox.out hb)
  replace Oy := hide (RQ.below Oy.out hb)
  replace Oq := hide (RQ.below Oq.out hb)
  replace Ba := hide (Box.kept Ba.out hb)
  replace Bb := hide (Box.kept Bb.out hb)
  replace B1 := hide (Box.kept B1.out hb)
  replace Bx := hide (Box.kept Bx.out hb)
  replace By := hide (Box.kept By.out hb)
  replace hU := hU.trans (hb.mono hU.size)
  clear hb
  clear Oq Cq Lq Yq
  refine anyR_val (i := 12) (m' := 8191) (v := .bool true) F hQ rfl rfl (by kernel_rfl) (by kernel_rfl) (by kernel_rfl) (by kernel_rfl) (by kernel_rfl) (fun _ _ => by kernel_rfl) ?_
  refine anyR_val (i := 13) (m' := 16383) (v := .bool true) F hQ rfl rfl (by kernel_rfl) (by kernel_rfl) (by kernel_rfl) (by kernel_rfl) (by kernel_rfl) (fun _ _ => by kernel_rfl) ?_
  refine anyR_val (i := 14) (m' := 32767) (v := .bool true) F hQ rfl rfl (by kernel_rfl) (by kernel_rfl) (by kernel_rfl) (by kernel_rfl) (by kernel_rfl) (fun _ _ => by kernel_rfl) ?_
  refine anyR_ldvec (i := 15) (m' := 65535) Ba0.out F hQ rfl rfl (by kernel_rfl) (by kernel_rfl) (by kernel_rfl) (by kernel_rfl) (by kernel_rfl) rfl (by kernel_rfl) ?_
  refine anyR_ldvec (i := 16) (m' := 131071) Bb0.out F hQ rfl rfl (by kernel_rfl) (by kernel_rfl) (by kernel_rfl) (by kernel_rfl) (by kernel_rfl) rfl (by kernel_rfl) ?_
  refine anyR_call (i := 17) (m' := 262143) rfl rfl (by kernel_rfl) (by kernel_rfl) (by kernel_rfl) (by kernel_rfl) (by kernel_rfl) ((vEq_any Aa Ab la lb ca cb sa sb _ La.out Lb.out Ca Cb Oa.out Ob.out Ya.out Yb.out (HT.out.kept hU)).mono ?_)
  rintro e w137 ⟨lq, sq, Aq, cq, Eq, rfl, Cq, Oq, hb⟩
  refine ⟨_, rfl, hb, ?_⟩
  replace Oa := hide (RQ.below Oa.out hb)
  replace Ob := hide (RQ.below Ob.out hb)
  replace O1 := hide (RQ.below O1.out hb)
  replace Ox := hide (RQ.below Ox.out hb)
  replace Oy := hide (RQ.below Oy.out hb)
  replace Ba := hide (Box.kept Ba.out hb)
  replace Bb := hide (Box.kept Bb.out hb)
  replace B1 := hide (Box.kept B1.out hb)
  replace Bx := hide (Box.kept Bx.out hb)
  replace By := hide (Box.kept By.out hb)
  replace Oq := hide Oq.out.rd
  replace hU := hU.trans (hb.mono hU.size)
  clear hb
  have Gq : Gd lq := by have h := congrArg Vc.b Eq.out; dsimp only at h; rw [h]; exact (gdx_sgl (by rcases (vEq_known Ya.out Yb.out HKa.out HKb.out).1 with h | h <;> rw [h] <;> decide))
  have Lq := hide (show lq.length ≤ 4096 from Nat.le_trans Gq.le (by decide))
  have Yq := hide Gq.by_
  clear Gq
  refine anyR_call (i := 18) (m' := 524287) rfl rfl (by kernel_rfl) (by kernel_rfl) (by kernel_rfl) (by kernel_rfl) (by kernel_rfl) ((vKnown_v true Aq lq cq sq _ Lq.out Cq Oq.out Yq.out (by rw [Eq.out, cnt_of_gd (v := vEq ⟨la, sa⟩ ⟨lb, sb⟩) (gdx_sgl (by rcases (vEq_known Ya.out Yb.out HKa.out HKb.out).1 with h | h <;> rw [h] <;> decide))]; show kn [_] = true; rcases (vEq_known Ya.out Yb.out HKa.out HKb.out).1 with h | h <;> rw [h] <;> decide)).mono ?_)
  rintro e w138 ⟨rfl, hb⟩
  refine ⟨_, rfl, hb, ?_⟩
  replace Oa := hide (RQ.below Oa.out hb)
  replace Ob := hide (RQ.below Ob.out hb)
  replace O1 := hide (RQ.below O1.out hb)
  replace Ox := hide (RQ.below Ox.out hb)
  replace Oy := hide (RQ.below Oy.out hb)
  replace Oq := hide (RQ.below Oq.out hb)
  replace Ba := hide (Box.kept Ba.out hb)
  replace Bb := hide (Box.kept Bb.out hb)
  replace B1 := hide (Box.kept B1.out hb)
  replace Bx := hide (Box.kept Bx.out hb)
  replace By := hide (Box.kept By.out hb)
  replace hU := hU.trans (hb.mono hU.size)
  clear hb
  refine anyR_val (i := 19) (m' := 1048575) (v := .bool true) F hQ rfl rfl (by kernel_rfl) (by kernel_rfl) (by kernel_rfl) (by kernel_rfl) (by kernel_rfl) (fun _ _ => by kernel_rfl) ?_
  refine anyR_e ?_
  refine anyR_last (i := 20) (m' := 2097151) (v := .bool true) rfl rfl (by kernel_rfl) (by kernel_rfl) (by kernel_rfl) (by kernel_rfl) (by kernel_rfl) ?_
  refine anyE_done (by kernel_rfl) ?_
  clear F hQ Ba0 Bb0 B10 Bx0 By0
  refine then_normal ?_
  refine wp_ret ?_
  refine (show bodyPost _ _ _ .ret _ _ from ret_sl (.bool true) rfl (by kernel_rfl) ?_)
  exact ⟨rfl, hU⟩
  have HZ := hide hZ
  clear hZ
  cases hA : kn (cnt ⟨la, sa⟩).b
  have HKa := hide hA
  clear hA
  refine region_R (n := 5) (N := 6) (by kernel_rfl) (by kernel_rfl) (by kernel_rfl) (by kernel_rfl) (by kernel_rfl) (by kernel_rfl) (fun _ _ _ _ _ h => h) ?_
  intro F hQ
  have Ba0 := Ba
  have Bb0 := Bb
  have B10 := B1
  have Bx0 := Bx
  have By0 := By
  refine anyR_ldvec (i := 0) (m' := 1) Ba0.out F hQ rfl rfl (by kernel_rfl) (by kernel_rfl) (by kernel_rfl) (by kernel_rfl) (by kernel_rfl) rfl (by kernel_rfl) ?_
  refine anyR_ldvec (i := 1) (m' := 3) Bb0.out F hQ rfl rfl (by kernel_rfl) (by kernel_rfl) (by kernel_rfl) (by kernel_rfl) (by kernel_rfl) rfl (by kernel_rfl) ?_
  refine anyR_ldvec (i := 3) (m' := 11) B10.out F hQ rfl rfl (by kernel_rfl) (by kernel_rfl) (by kernel_rfl) (by kernel_rfl) (by kernel_rfl) rfl (by kernel_rfl) ?_
  refine anyR_call (i := 2) (m' := 15) rfl rfl (by kernel_rfl) (by kernel_rfl) (by kernel_rfl) (by kernel_rfl) (by kernel_rfl) ((vCaseEq_any Aa Ab la lb ca cb sa sb _ La.out Lb.out Ca Cb (by exact Oa.out) (by exact Ob.out) Ya.out Yb.out).mono ?_)
  rintro e w139 ⟨le, se, Ae, ce, Ee, rfl, Ce, Oe, hb⟩
  refine ⟨_, rfl, hb, ?_⟩
  replace hb : Below w110.heap.size w110 w139 := Below.trans ((Below.refl _ _).drew) hb
  replace Oa := hide (RQ.below Oa.out hb)
  replace Ob := hide (RQ.below Ob.out hb)
  replace O1 := hide (RQ.below O1.out hb)
  replace Ox := hide (RQ.below Ox.out hb)
  replace Oy := hide (RQ.below Oy.out hb)
  replace Ba := hide (Box.kept Ba.out hb)
  replace Bb := hide (Box.kept Bb.out hb)
  replace B1 := hide (Box.kept B1.out hb)
  replace Bx := hide (Box.kept Bx.out hb)
  replace By := hide (Box.kept By.out hb)
  replace Oe := hide Oe.out.rd
  replace hU := hU.trans (hb.mono hU.size)
  clear hb
  have Ge : Gd le := by have h := congrArg Vc.b Ee.out; dsimp only at h; rw [h]; exact (gdx_sgl (by cases mtc mSame ⟨la, sa⟩ ⟨lb, sb⟩ <;> decide))
  have Le := hide (show le.length ≤ 4096 from Nat.le_trans Ge.le (by decide))
  have Ye := hide Ge.by_
  clear Ge
  refine anyR_call (i := 4) (m' := 31) rfl rfl (by kernel_rfl) (by kernel_rfl) (by kernel_rfl) (by kernel_rfl) (by kernel_rfl) ((rsame_not Ae A1 le l1 ce c1 se s1 _ Le.out L1.out Oe.out O1.out (by rw [Ee.out, E1.out, of_one]; (try unfold vCase); rw [HM.out]; exact fun h => absurd (sgl_inj.1 h) (by decide))).mono ?_)
  rintro e w140 ⟨rfl, hb⟩
  refine ⟨_, rfl, hb, ?_⟩
  replace Oa := hide (RQ.below Oa.out hb)
  replace Ob := hide (RQ.below Ob.out hb)
  replace O1 := hide (RQ.below O1.out hb)
  replace Ox := hide (RQ.below Ox.out hb)
  replace Oy := hide (RQ.below Oy.out hb)
  replace Oe := hide (RQ.below Oe.out hb)
  replace Ba := hide (Box.kept Ba.out hb)
  replace Bb := hide (Box.kept Bb.out hb)
  replace B1 := hide (Box.kept B1.out hb)
  replace Bx := hide (Box.kept Bx.out hb)
  replace By := hide (Box.kept By.out hb)
  replace hU := hU.trans (hb.mono hU.size)
  clear hb
  clear Oe Ce Le Ye
  refine anyR_e ?_
  refine anyR_last (i := 5) (m' := 63) (v := .bool false) rfl rfl (by kernel_rfl) (by kernel_rfl) (by kernel_rfl) (by kernel_rfl) (by kernel_rfl) ?_
  refine anyE_done (by kernel_rfl) ?_
  clear F hQ Ba0 Bb0 B10 Bx0 By0
  refine then_normal ?_
  refine wp_seq ?_
  refine wp_seq ?_
  refine region_R (n := 33) (N := 34) (by kernel_rfl) (by kernel_rfl) (by kernel_rfl) (by kernel_rfl) (by kernel_rfl) (by kernel_rfl) (fun _ _ _ _ _ h => h) ?_
  intro F hQ
  have Ba0 := Ba
  have Bb0 := Bb
  have B10 := B1
  have Bx0 := Bx
  have By0 := By
  refine anyR_val (i := 0) (m' := 1) (v := .bool false) F hQ rfl rfl (by kernel_rfl) (by kernel_rfl) (by kernel_rfl) (by kernel_rfl) (by kernel_rfl) (fun _ _ => by kernel_rfl) ?_
  refine anyR_ldvec (i := 1) (m' := 3) Bx0.out F hQ rfl rfl (by kernel_rfl) (by kernel_rfl) (by kernel_rfl) (by kernel_rfl) (by kernel_rfl) rfl (by kernel_rfl) ?_
  refine anyR_ldvec (i := 2) (m' := 7) By0.out F hQ rfl rfl (by kernel_rfl) (by kernel_rfl) (by kernel_rfl) (by kernel_rfl) (by kernel_rfl) rfl (by kernel_rfl) ?_
  refine anyR_call (i := 3) (m' := 15) rfl rfl (by kernel_rfl) (by kernel_rfl) (by kernel_rfl) (by kernel_rfl) (by kernel_rfl) ((rsame_not Ax Ay lx ly cx cy sx sy _ Lx.out Ly.out (by exact Ox.out) (by exact Oy.out) (by rw [Ex.out, Ey.out]; exact fun h => absurd ((mtc_same Ya.out Yb.out).2 (congrArg Vc.b h)) (by rw [HM.out]; decide))).mono ?_)
  rintro e w141 ⟨rfl, hb⟩
  refine ⟨_, rfl, hb, ?_⟩
  replace hb : Below w140.heap.size w140 w141 := Below.trans ((Below.refl _ _).drew) hb
  replace Oa := hide (RQ.below Oa.out hb)
  replace Ob := hide (RQ.below Ob.out hb)
  replace O1 := hide (RQ.below O1.out hb)
  replace Ox := hide (RQ.below Ox.out hb)
  replace Oy := hide (RQ.below Oy.out hb)
  replace Ba := hide (Box.kept Ba.out hb)
  replace Bb := hide (Box.kept Bb.out hb)
  replace B1 := hide (Box.kept B1.out hb)
  replace Bx := hide (Box.kept Bx.out hb)
  replace By := hide (Box.kept By.out hb)
  replace hU := hU.trans (hb.mono hU.size)
  clear hb
  refine anyR_val (i := 4) (m' := 31) (v := .bool false) F hQ rfl rfl (by kernel_rfl) (by kernel_rfl) (by kernel_rfl) (by kernel_rfl) (by kernel_rfl) (fun _ _ => by kernel_rfl) ?_
  refine anyR_val (i := 5) (m' := 63) (v := .bool false) F hQ rfl rfl (by kernel_rfl) (by kernel_rfl) (by kernel_rfl) (by kernel_rfl) (by kernel_rfl) (fun _ _ => by kernel_rfl) ?_
  refine anyR_ldvec (i := 6) (m' := 127) Ba0.out F hQ rfl rfl (by kernel_rfl) (by kernel_rfl) (by kernel_rfl) (by kernel_rfl) (by kernel_rfl) rfl (by kernel_rfl) ?_
  refine anyR_ldvec (i := 7) (m' := 255) Bb0.out F hQ rfl rfl (by kernel_rfl) (by kernel_rfl) (by kernel_rfl) (by kernel_rfl) (by kernel_rfl) rfl (by kernel_rfl) ?_
  refine anyR_ldvec (i := 9) (m' := 767) B10.out F hQ rfl rfl (by kernel_rfl) (by kernel_rfl) (by kernel_rfl) (by kernel_rfl) (by kernel_rfl) rfl (by kernel_rfl) ?_
  refine anyR_val (i := 11) (m' := 2815) (v := .bool false) F hQ rfl rfl (by kernel_rfl) (by kernel_rfl) (by kernel_rfl) (by kernel_rfl) (by kernel_rfl) (fun _ _ => by kernel_rfl) ?_
  refine anyR_call (i := 8) (m' := 3071) rfl rfl (by kernel_rfl) (by kernel_rfl) (by kernel_rfl) (by kernel_rfl) (by kernel_rfl) ((vCaseNe_any Aa Ab la lb ca cb sa sb _ La.out Lb.out Ca Cb Oa.out Ob.out Ya.out Yb.out (HT.out.kept hU)).mono ?_)
  rintro e w142 ⟨ln, sn, An, cn, En, rfl, Cn, On, hb⟩
  refine ⟨_, rfl, hb, ?_⟩
  replace Oa := hide (RQ.below Oa.out hb)
  replace Ob := hide (RQ.below Ob.out hb)
  replace O1 := hide (RQ.below O1.out hb)
  replace Ox := hide (RQ.below Ox.out hb)
  replace Oy := hide (RQ.below Oy.out hb)
  replace Ba := hide (Box.kept Ba.out hb)
  replace Bb := hide (Box.kept Bb.out hb)
  replace B1 := hide (Box.kept B1.out hb)
  replace Bx := hide (Box.kept Bx.out hb)
  replace By := hide (Box.kept By.out hb)
  replace On := hide On.out.rd
  replace hU := hU.trans (hb.mono hU.size)
  clear hb
  have Gn : Gd ln := by have h := congrArg Vc.b En.out; dsimp only at h; rw [h]; exact (gdx_sgl (by cases mtc mSame ⟨la, sa⟩ ⟨lb, sb⟩ <;> decide))
  have Ln := hide (show ln.length ≤ 4096 from Nat.le_trans Gn.le (by decide))
  have Yn := hide Gn.by_
  clear Gn
  refine anyR_call (i := 10) (m' := 4095) rfl rfl (by kernel_rfl) (by kernel_rfl) (by kernel_rfl) (by kernel_rfl) (by kernel_rfl) ((rsame_yes An A1 ln l1 cn c1 sn s1 _ Ln.out L1.out On.out O1.out (by rw [En.out, E1.out, of_one]; (try unfold vCase); rw [HM.out]; rfl)).mono ?_)
  rintro e w143 ⟨rfl, hb⟩
  refine ⟨_, rfl, hb, ?_⟩
  replace Oa := hide (RQ.below Oa.out hb)
  replace Ob := hide (RQ.below Ob.out hb)
  replace O1 := hide (RQ.below O1.out hb)
  replace Ox := hide (RQ.below Ox.out hb)
  replace Oy := hide (RQ.below Oy.out hb)
  replace On := hide (RQ.below On.out hb)
  replace Ba := hide (Box.kept Ba.out hb)
  replace Bb := hide (Box.kept Bb.out hb)
  replace B1 := hide (Box.kept B1.out hb)
  replace Bx := hide (Box.kept Bx.out hb)
  replace By := hide (Box.kept By.out hb)
  replace hU := hU.trans (hb.mono hU.size)
  clear hb
  clear On Cn Ln Yn
  refine anyR_val (i := 12) (m' := 8191) (v := .bool false) F hQ rfl rfl (by kernel_rfl) (by kernel_rfl) (by kernel_rfl) (by kernel_rfl) (by kernel_rfl) (fun _ _ => by kernel_rfl) ?_
  refine anyR_val (i := 13) (m' := 16383) (v := .bool false) F hQ rfl rfl (by kernel_rfl) (by kernel_rfl) (by kernel_rfl) (by kernel_rfl) (by kernel_rfl) (fun _ _ => by kernel_rfl) ?_
  refine anyR_val (i := 14) (m' := 32767) (v := .bool false) F hQ rfl rfl (by kernel_rfl) (by kernel_rfl) (by kernel_rfl) (by kernel_rfl) (by kernel_rfl) (fun _ _ => by kernel_rfl) ?_
  refine anyR_val (i := 15) (m' := 65535) (v := .bool false) F hQ rfl rfl (by kernel_rfl) (by kernel_rfl) (by kernel_rfl) (by kernel_rfl) (by kernel_rfl) (fun _ _ => by kernel_rfl) ?_
  refine anyR_val (i := 16) (m' := 131071) (v := .bool false) F hQ rfl rfl (by kernel_rfl) (by kernel_rfl) (by kernel_rfl) (by kernel_rfl) (by kernel_rfl) (fun _ _ => by kernel_rfl) ?_
  refine anyR_off (i := 17) (m' := 262143) F hQ rfl rfl (by kernel_rfl) (by kernel_rfl) (by kernel_rfl) (by kernel_rfl) (by kernel_rfl) ?_
  refine anyR_off (i := 18) (m' := 524287) F hQ rfl rfl (by kernel_rfl) (by kernel_rfl) (by kernel_rfl) (by kernel_rfl) (by kernel_rfl) ?_
  refine anyR_off (i := 19) (m' := 1048575) F hQ rfl rfl (by kernel_rfl) (by kernel_rfl) (by kernel_rfl) (by kernel_rfl) (by kernel_rfl) ?_
  refine anyR_off (i := 20) (m' := 2097151) F hQ rfl rfl (by kernel_rfl) (by kernel_rfl) (by kernel_rfl) (by kernel_rfl) (by kernel_rfl) ?_
  refine anyR_val (i := 21) (m' := 4194303) (v := .bool false) F hQ rfl rfl (by kernel_rfl) (by kernel_rfl) (by kernel_rfl) (by kernel_rfl) (by kernel_rfl) (fun _ _ => by kernel_rfl) ?_
  refine anyR_val (i := 22) (m' := 8388607) (v := .bool false) F hQ rfl rfl (by kernel_rfl) (by kernel_rfl) (by kernel_rfl) (by kernel_rfl) (by kernel_rfl) (fun _ _ => by kernel_rfl) ?_
  refine anyR_val (i := 23) (m' := 16777215) (v := .bool false) F hQ rfl rfl (by kernel_rfl) (by kernel_rfl) (by kernel_rfl) (by kernel_rfl) (by kernel_rfl) (fun _ _ => by kernel_rfl) ?_
  refine anyR_ldvec (i := 24) (m' := 33554431) Ba0.out F hQ rfl rfl (by kernel_rfl) (by kernel_rfl) (by kernel_rfl) (by kernel_rfl) (by kernel_rfl) rfl (by kernel_rfl) ?_
  refine anyR_ldvec (i := 25) (m' := 67108863) Bb0.out F hQ rfl rfl (by kernel_rfl) (by kernel_rfl) (by kernel_rfl) (by kernel_rfl) (by kernel_rfl) rfl (by kernel_rfl) ?_
  refine anyR_call (i := 26) (m' := 134217727) rfl rfl (by kernel_rfl) (by kernel_rfl) (by kernel_rfl) (by kernel_rfl) (by kernel_rfl) ((vMatchZ_v true Aa Ab la lb ca cb sa sb _ La.out Lb.out Ca Cb Oa.out Ob.out Ya.out Yb.out HZ.out).mono ?_)
  rintro e w144 ⟨rfl, hb⟩
  refine ⟨_, rfl, hb, ?_⟩
  replace Oa := hide (RQ.below Oa.out hb)
  replace Ob := hide (RQ.below Ob.out hb)
  replace O1 := hide (RQ.below O1.out hb)
  replace Ox := hide (RQ.below Ox.out hb)
  replace Oy := hide (RQ.below Oy.out hb)
  replace Ba := hide (Box.kept Ba.out hb)
  replace Bb := hide (Box.kept Bb.out hb)
  replace B1 := hide (Box.kept B1.out hb)
  replace Bx := hide (Box.kept Bx.out hb)
  replace By := hide (Box.kept By.out hb)
  replace hU := hU.trans (hb.mono hU.size)
  clear hb
  refine anyR_val (i := 27) (m' := 268435455) (v := .bool true) F hQ rfl rfl (by kernel_rfl) (by kernel_rfl) (by kernel_rfl) (by kernel_rfl) (by kernel_rfl) (fun _ _ => by kernel_rfl) ?_
  refine anyR_ldvec (i := 28) (m' := 536870911) Ba0.out F hQ rfl rfl (by kernel_rfl) (by kernel_rfl) (by kernel_rfl) (by kernel_rfl) (by kernel_rfl) rfl (by kernel_rfl) ?_
  refine anyR_ldvec (i := 29) (m' := 1073741823) Bb0.out F hQ rfl rfl (by kernel_rfl) (by kernel_rfl) (by kernel_rfl) (by kernel_rfl) (by kernel_rfl) rfl (by kernel_rfl) ?_
  refine anyR_call (i := 30) (m' := 2147483647) rfl rfl (by kernel_rfl) (by kernel_rfl) (by kernel_rfl) (by kernel_rfl) (by kernel_rfl) ((vMatchX_v true Aa Ab la lb ca cb sa sb _ La.out Lb.out Ca Cb Oa.out Ob.out Ya.out Yb.out (mtc_mono (fun _ _ => alX_of_alZ) HZ.out)).mono ?_)
  rintro e w145 ⟨rfl, hb⟩
  refine ⟨_, rfl, hb, ?_⟩
  replace Oa := hide (RQ.below Oa.out hb)
  replace Ob := hide (RQ.below Ob.out hb)
  replace O1 := hide (RQ.below O1.out hb)
  replace Ox := hide (RQ.below Ox.out hb)
  replace Oy := hide (RQ.below Oy.out hb)
  replace Ba := hide (Box.kept Ba.out hb)
  replace Bb := hide (Box.kept Bb.out hb)
  replace B1 := hide (Box.kept B1.out hb)
  replace Bx := hide (Box.kept Bx.out hb)
  replace By := hide (Box.kept By.out hb)
  replace hU := hU.trans (hb.mono hU.size)
  clear hb
  refine anyR_val (i := 31) (m' := 4294967295) (v := .bool false) F hQ rfl rfl (by kernel_rfl) (by kernel_rfl) (by kernel_rfl) (by kernel_rfl) (by kernel_rfl) (fun _ _ => by kernel_rfl) ?_
  refine anyR_val (i := 32) (m' := 8589934591) (v := .bool false) F hQ rfl rfl (by kernel_rfl) (by kernel_rfl) (by kernel_rfl) (by kernel_rfl) (by kernel_rfl) (fun _ _ => by kernel_rfl) ?_
  refine anyR_e ?_
  refine anyR_last (i := 33) (m' := 17179869183) (v := .bool false) rfl rfl (by kernel_rfl) (by kernel_rfl) (by kernel_rfl) (by kernel_rfl) (by kernel_rfl) ?_
  refine anyE_done (by kernel_rfl) ?_
  clear F hQ Ba0 Bb0 B10 Bx0 By0
  refine then_normal ?_
  refine wp_iff (by kernel_rfl) ?_
  refine wp_skip ?_
  refine then_normal ?_
  refine wp_seq ?_
  refine wp_seq ?_
  refine reg_lit ?_
  refine wpl_ldvec Ba.out rfl (by kernel_rfl) rfl (by kernel_rfl) ?_
  refine wpl_call rfl (by kernel_rfl) (by kernel_rfl) ((vKnown_v false Aa la ca sa _ La.out Ca Oa.out Ya.out HKa.out).mono ?_)
  rintro e w146 ⟨rfl, hb⟩
  refine ⟨_, rfl, ?_⟩
  replace Oa := hide (RQ.below Oa.out hb)
  replace Ob := hide (RQ.below Ob.out hb)
  replace O1 := hide (RQ.below O1.out hb)
  replace Ox := hide (RQ.below Ox.out hb)
  replace Oy := hide (RQ.below Oy.out hb)
  replace Ba := hide (Box.kept Ba.out hb)
  replace Bb := hide (Box.kept Bb.out hb)
  replace B1 := hide (Box.kept B1.out hb)
  replace Bx := hide (Box.kept Bx.out hb)
  replace By := hide (Box.kept By.out hb)
  replace hU := hU.trans (hb.mono hU.size)
  clear hb
  refine wpl_r6 [(73, .bool true), (72, undef), (71, undef), (70, undef), (69, .bool true), (68, .bool true)] (by kernel_rfl) ?_
  refine wpl_end ?_
  refine then_normal ?_
  refine wp_ift (by kernel_rfl) ?_
  refine wp_seq ?_
  refine reg_lit ?_
  refine wpl_r1 [(4, .bool true)] (by kernel_rfl) ?_
  refine wpl_end ?_
  refine then_normal ?_
  refine wp_ret ?_
  refine (show bodyPost _ _ _ .ret _ _ from ret_sl (.bool true) rfl (by kernel_rfl) ?_)
  exact ⟨rfl, hU⟩
  have HKa := hide hA
  clear hA
  cases hB : kn (cnt ⟨lb, sb⟩).b
  have HKb := hide hB
  clear hB
  refine region_R (n := 5) (N := 6) (by kernel_rfl) (by kernel_rfl) (by kernel_rfl) (by kernel_rfl) (by kernel_rfl) (by kernel_rfl) (fun _ _ _ _ _ h => h) ?_
  intro F hQ
  have Ba0 := Ba
  have Bb0 := Bb
  have B10 := B1
  have Bx0 := Bx
  have By0 := By
  refine anyR_ldvec (i := 0) (m' := 1) Ba0.out F hQ rfl rfl (by kernel_rfl) (by kernel_rfl) (by kernel_rfl) (by kernel_rfl) (by kernel_rfl) rfl (by kernel_rfl) ?_
  refine anyR_ldvec (i := 1) (m' := 3) Bb0.out F hQ rfl rfl (by kernel_rfl) (by kernel_rfl) (by kernel_rfl) (by kernel_rfl) (by kernel_rfl) rfl (by kernel_rfl) ?_
  refine anyR_ldvec (i := 3) (m' := 11) B10.out F hQ rfl rfl (by kernel_rfl) (by kernel_rfl) (by kernel_rfl) (by kernel_rfl) (by kernel_rfl) rfl (by kernel_rfl) ?_
  refine anyR_call (i := 2) (m' := 15) rfl rfl (by kernel_rfl) (by kernel_rfl) (by kernel_rfl) (by kernel_rfl) (by kernel_rfl) ((vCaseEq_any Aa Ab la lb ca cb sa sb _ La.out Lb.out Ca Cb (by exact Oa.out) (by exact Ob.out) Ya.out Yb.out).mono ?_)
  rintro e w147 ⟨le, se, Ae, ce, Ee, rfl, Ce, Oe, hb⟩
  refine ⟨_, rfl, hb, ?_⟩
  replace hb : Below w110.heap.size w110 w147 := Below.trans ((Below.refl _ _).drew) hb
  replace Oa := hide (RQ.below Oa.out hb)
  replace Ob := hide (RQ.below Ob.out hb)
  replace O1 := hide (RQ.below O1.out hb)
  replace Ox := hide (RQ.below Ox.out hb)
  replace Oy := hide (RQ.below Oy.out hb)
  replace Ba := hide (Box.kept Ba.out hb)
  replace Bb := hide (Box.kept Bb.out hb)
  replace B1 := hide (Box.kept B1.out hb)
  replace Bx := hide (Box.kept Bx.out hb)
  replace By := hide (Box.kept By.out hb)
  replace Oe := hide Oe.out.rd
  replace hU := hU.trans (hb.mono hU.size)
  clear hb
  have Ge : Gd le := by have h := congrArg Vc.b Ee.out; dsimp only at h; rw [h]; exact (gdx_sgl (by cases mtc mSame ⟨la, sa⟩ ⟨lb, sb⟩ <;> decide))
  have Le := hide (show le.length ≤ 4096 from Nat.le_trans Ge.le (by decide))
  have Ye := hide Ge.by_
  clear Ge
  refine anyR_call (i := 4) (m' := 31) rfl rfl (by kernel_rfl) (by kernel_rfl) (by kernel_rfl) (by kernel_rfl) (by kernel_rfl) ((rsame_not Ae A1 le l1 ce c1 se s1 _ Le.out L1.out Oe.out O1.out (by rw [Ee.out, E1.out, of_one]; (try unfold vCase); rw [HM.out]; exact fun h => absurd (sgl_inj.1 h) (by decide))).mono ?_)
  rintro e w148 ⟨rfl, hb⟩
  refine ⟨_, rfl, hb, ?_⟩
  replace Oa := hide (RQ.below Oa.out hb)
  replace Ob := hide (RQ.below Ob.out hb)
  replace O1 := hide (RQ.below O1.out hb)
  replace Ox := hide (RQ.below Ox.out hb)
  replace Oy := hide (RQ.below Oy.out hb)
  replace Oe := hide (RQ.below Oe.out hb)
  replace Ba := hide (Box.kept Ba.out hb)
  replace Bb := hide (Box.kept Bb.out hb)
  replace B1 := hide (Box.kept B1.out hb)
  replace Bx := hide (Box.kept Bx.out hb)
  replace By := hide (Box.kept By.out hb)
  replace hU := hU.trans (hb.mono hU.size)
  clear hb
  clear Oe Ce Le Ye
  refine anyR_e ?_
  refine anyR_last (i := 5) (m' := 63) (v := .bool false) rfl rfl (by kernel_rfl) (by kernel_rfl) (by kernel_rfl) (by kernel_rfl) (by kernel_rfl) ?_
  refine anyE_done (by kernel_rfl) ?_
  clear F hQ Ba0 Bb0 B10 Bx0 By0
  refine then_normal ?_
  refine wp_seq ?_
  refine wp_seq ?_
  refine region_R (n := 33) (N := 34) (by kernel_rfl) (by kernel_rfl) (by kernel_rfl) (by kernel_rfl) (by kernel_rfl) (by kernel_rfl) (fun _ _ _ _ _ h => h) ?_
  intro F hQ
  have Ba0 := Ba
  have Bb0 := Bb
  have B10 := B1
  have Bx0 := Bx
  have By0 := By
  refine anyR_val (i := 0) (m' := 1) (v := .bool false) F hQ rfl rfl (by kernel_rfl) (by kernel_rfl) (by kernel_rfl) (by kernel_rfl) (by kernel_rfl) (fun _ _ => by kernel_rfl) ?_
  refine anyR_ldvec (i := 1) (m' := 3) Bx0.out F hQ rfl rfl (by kernel_rfl) (by kernel_rfl) (by kernel_rfl) (by kernel_rfl) (by kernel_rfl) rfl (by kernel_rfl) ?_
  refine anyR_ldvec (i := 2) (m' := 7) By0.out F hQ rfl rfl (by kernel_rfl) (by kernel_rfl) (by kernel_rfl) (by kernel_rfl) (by kernel_rfl) rfl (by kernel_rfl) ?_
  refine anyR_call (i := 3) (m' := 15) rfl rfl (by kernel_rfl) (by kernel_rfl) (by kernel_rfl) (by kernel_rfl) (by kernel_rfl) ((rsame_not Ax Ay lx ly cx cy sx sy _ Lx.out Ly.out (by exact Ox.out) (by exact Oy.out) (by rw [Ex.out, Ey.out]; exact fun h => absurd ((mtc_same Ya.out Yb.out).2 (congrArg Vc.b h)) (by rw [HM.out]; decide))).mono ?_)
  rintro e w149 ⟨rfl, hb⟩
  refine ⟨_, rfl, hb, ?_⟩
  replace hb : Below w148.heap.size w148 w149 := Below.trans ((Below.refl _ _).drew) hb
  replace Oa := hide (RQ.below Oa.out hb)
  replace Ob := hide (RQ.below Ob.out hb)
  replace O1 := hide (RQ.below O1.out hb)
  replace Ox := hide (RQ.below Ox.out hb)
  replace Oy := hide (RQ.below Oy.out hb)
  replace Ba := hide (Box.kept Ba.out hb)
  replace Bb := hide (Box.kept Bb.out hb)
  replace B1 := hide (Box.kept B1.out hb)
  replace Bx := hide (Box.kept Bx.out hb)
  replace By := hide (Box.kept By.out hb)
  replace hU := hU.trans (hb.mono hU.size)
  clear hb
  refine anyR_val (i := 4) (m' := 31) (v := .bool false) F hQ rfl rfl (by kernel_rfl) (by kernel_rfl) (by kernel_rfl) (by kernel_rfl) (by kernel_rfl) (fun _ _ => by kernel_rfl) ?_
  refine anyR_val (i := 5) (m' := 63) (v := .bool false) F hQ rfl rfl (by kernel_rfl) (by kernel_rfl) (by kernel_rfl) (by kernel_rfl) (by kernel_rfl) (fun _ _ => by kernel_rfl) ?_
  refine anyR_ldvec (i := 6) (m' := 127) Ba0.out F hQ rfl rfl (by kernel_rfl) (by kernel_rfl) (by kernel_rfl) (by kernel_rfl) (by kernel_rfl) rfl (by kernel_rfl) ?_
  refine anyR_ldvec (i := 7) (m' := 255) Bb0.out F hQ rfl rfl (by kernel_rfl) (by kernel_rfl) (by kernel_rfl) (by kernel_rfl) (by kernel_rfl) rfl (by kernel_rfl) ?_
  refine anyR_ldvec (i := 9) (m' := 767) B10.out F hQ rfl rfl (by kernel_rfl) (by kernel_rfl) (by kernel_rfl) (by kernel_rfl) (by kernel_rfl) rfl (by kernel_rfl) ?_
  refine anyR_val (i := 11) (m' := 2815) (v := .bool false) F hQ rfl rfl (by kernel_rfl) (by kernel_rfl) (by kernel_rfl) (by kernel_rfl) (by kernel_rfl) (fun _ _ => by kernel_rfl) ?_
  refine anyR_call (i := 8) (m' := 3071) rfl rfl (by kernel_rfl) (by kernel_rfl) (by kernel_rfl) (by kernel_rfl) (by kernel_rfl) ((vCaseNe_any Aa Ab la lb ca cb sa sb _ La.out Lb.out Ca Cb Oa.out Ob.out Ya.out Yb.out (HT.out.kept hU)).mono ?_)
  rintro e w150 ⟨ln, sn, An, cn, En, rfl, Cn, On, hb⟩
  refine ⟨_, rfl, hb, ?_⟩
  replace Oa := hide (RQ.below Oa.out hb)
  replace Ob := hide (RQ.below Ob.out hb)
  replace O1 := hide (RQ.below O1.out hb)
  replace Ox := hide (RQ.below Ox.out hb)
  replace Oy := hide (RQ.below Oy.out hb)
  replace Ba := hide (Box.kept Ba.out hb)
  replace Bb := hide (Box.kept Bb.out hb)
  replace B1 := hide (Box.kept B1.out hb)
  replace Bx := hide (Box.kept Bx.out hb)
  replace By := hide (Box.kept By.out hb)
  replace On := hide On.out.rd
  replace hU := hU.trans (hb.mono hU.size)
  clear hb
  have Gn : Gd ln := by have h := congrArg Vc.b En.out; dsimp only at h; rw [h]; exact (gdx_sgl (by cases mtc mSame ⟨la, sa⟩ ⟨lb, sb⟩ <;> decide))
  have Ln := hide (show ln.length ≤ 4096 from Nat.le_trans Gn.le (by decide))
  have Yn := hide Gn.by_
  clear Gn
  refine anyR_call (i := 10) (m' := 4095) rfl rfl (by kernel_rfl) (by kernel_rfl) (by kernel_rfl) (by kernel_rfl) (by kernel_rfl) ((rsame_yes An A1 ln l1 cn c1 sn s1 _ Ln.out L1.out On.out O1.out (by rw [En.out, E1.out, of_one]; (try unfold vCase); rw [HM.out]; rfl)).mono ?_)
  rintro e w151 ⟨rfl, hb⟩
  refine ⟨_, rfl, hb, ?_⟩
  replace Oa := hide (RQ.below Oa.out hb)
  replace Ob := hide (RQ.below Ob.out hb)
  replace O1 := hide (RQ.below O1.out hb)
  replace Ox := hide (RQ.below Ox.out hb)
  replace Oy := hide (RQ.below Oy.out hb)
  replace On := hide (RQ.below On.out hb)
  replace Ba := hide (Box.kept Ba.out hb)
  replace Bb := hide (Box.kept Bb.out hb)
  replace B1 := hide (Box.kept B1.out hb)
  replace Bx := hide (Box.kept Bx.out hb)
  replace By := hide (Box.kept By.out hb)
  replace hU := hU.trans (hb.mono hU.size)
  clear hb
  clear On Cn Ln Yn
  refine anyR_val (i := 12) (m' := 8191) (v := .bool false) F hQ rfl rfl (by kernel_rfl) (by kernel_rfl) (by kernel_rfl) (by kernel_rfl) (by kernel_rfl) (fun _ _ => by kernel_rfl) ?_
  refine anyR_val (i := 13) (m' := 16383) (v := .bool false) F hQ rfl rfl (by kernel_rfl) (by kernel_rfl) (by kernel_rfl) (by kernel_rfl) (by kernel_rfl) (fun _ _ => by kernel_rfl) ?_
  refine anyR_val (i := 14) (m' := 32767) (v := .bool false) F hQ rfl rfl (by kernel_rfl) (by kernel_rfl) (by kernel_rfl) (by kernel_rfl) (by kernel_rfl) (fun _ _ => by kernel_rfl) ?_
  refine anyR_val (i := 15) (m' := 65535) (v := .bool false) F hQ rfl rfl (by kernel_rfl) (by kernel_rfl) (by kernel_rfl) (by kernel_rfl) (by kernel_rfl) (fun _ _ => by kernel_rfl) ?_
  refine anyR_val (i := 16) (m' := 131071) (v := .bool false) F hQ rfl rfl (by kernel_rfl) (by kernel_rfl) (by kernel_rfl) (by kernel_rfl) (by kernel_rfl) (fun _ _ => by kernel_rfl) ?_
  refine anyR_off (i := 17) (m' := 262143) F hQ rfl rfl (by kernel_rfl) (by kernel_rfl) (by kernel_rfl) (by kernel_rfl) (by kernel_rfl) ?_
  refine anyR_off (i := 18) (m' := 524287) F hQ rfl rfl (by kernel_rfl) (by kernel_rfl) (by kernel_rfl) (by kernel_rfl) (by kernel_rfl) ?_
  refine anyR_off (i := 19) (m' := 1048575) F hQ rfl rfl (by kernel_rfl) (by kernel_rfl) (by kernel_rfl) (by kernel_rfl) (by kernel_rfl) ?_
  refine anyR_off (i := 20) (m' := 2097151) F hQ rfl rfl (by kernel_rfl) (by kernel_rfl) (by kernel_rfl) (by kernel_rfl) (by kernel_rfl) ?_
  refine anyR_val (i := 21) (m' := 4194303) (v := .bool false) F hQ rfl rfl (by kernel_rfl) (by kernel_rfl) (by kernel_rfl) (by kernel_rfl) (by kernel_rfl) (fun _ _ => by kernel_rfl) ?_
  refine anyR_val (i := 22) (m' := 8388607) (v := .bool false) F hQ rfl rfl (by kernel_rfl) (by kernel_rfl) (by kernel_rfl) (by kernel_rfl) (by kernel_rfl) (fun _ _ => by kernel_rfl) ?_
  refine anyR_val (i := 23) (m' := 16777215) (v := .bool false) F hQ rfl rfl (by kernel_rfl) (by kernel_rfl) (by kernel_rfl) (by kernel_rfl) (by kernel_rfl) (fun _ _ => by kernel_rfl) ?_
  refine anyR_ldvec (i := 24) (m' := 33554431) Ba0.out F hQ rfl rfl (by kernel_rfl) (by kernel_rfl) (by kernel_rfl) (by kernel_rfl) (by kernel_rfl) rfl (by kernel_rfl) ?_
  refine anyR_ldvec (i := 25) (m' := 67108863) Bb0.out F hQ rfl rfl (by kernel_rfl) (by kernel_rfl) (by kernel_rfl) (by kernel_rfl) (by kernel_rfl) rfl (by kernel_rfl) ?_
  refine anyR_call (i := 26) (m' := 134217727) rfl rfl (by kernel_rfl) (by kernel_rfl) (by kernel_rfl) (by kernel_rfl) (by kernel_rfl) ((vMatchZ_v true Aa Ab la lb ca cb sa sb _ La.out Lb.out Ca Cb Oa.out Ob.out Ya.out Yb.out HZ.out).mono ?_)
  rintro e w152 ⟨rfl, hb⟩
  refine ⟨_, rfl, hb, ?_⟩
  replace Oa := hide (RQ.below Oa.out hb)
  replace Ob := hide (RQ.below Ob.out hb)
  replace O1 := hide (RQ.below O1.out hb)
  replace Ox := hide (RQ.below Ox.out hb)
  replace Oy := hide (RQ.below Oy.out hb)
  replace Ba := hide (Box.kept Ba.out hb)
  replace Bb := hide (Box.kept Bb.out hb)
  replace B1 := hide (Box.kept B1.out hb)
  replace Bx := hide (Box.kept Bx.out hb)
  replace By := hide (Box.kept By.out hb)
  replace hU := hU.trans (hb.mono hU.size)
  clear hb
  refine anyR_val (i := 27) (m' := 268435455) (v := .bool true) F hQ rfl rfl (by kernel_rfl) (by kernel_rfl) (by kernel_rfl) (by kernel_rfl) (by kernel_rfl) (fun _ _ => by kernel_rfl) ?_
  refine anyR_ldvec (i := 28) (m' := 536870911) Ba0.out F hQ rfl rfl (by kernel_rfl) (by kernel_rfl) (by kernel_rfl) (by kernel_rfl) (by kernel_rfl) rfl (by kernel_rfl) ?_
  refine anyR_ldvec (i := 29) (m' := 1073741823) Bb0.out F hQ rfl rfl (by kernel_rfl) (by kernel_rfl) (by kernel_rfl) (by kernel_rfl) (by kernel_rfl) rfl (by kernel_rfl) ?_
  refine anyR_call (i := 30) (m' := 2147483647) rfl rfl (by kernel_rfl) (by kernel_rfl) (by kernel_rfl) (by kernel_rfl) (by kernel_rfl) ((vMatchX_v true Aa Ab la lb ca cb sa sb _ La.out Lb.out Ca Cb Oa.out Ob.out Ya.out Yb.out (mtc_mono (fun _ _ => alX_of_alZ) HZ.out)).mono ?_)
  rintro e w153 ⟨rfl, hb⟩
  refine ⟨_, rfl, hb, ?_⟩
  replace Oa := hide (RQ.below Oa.out hb)
  replace Ob := hide (RQ.below Ob.out hb)
  replace O1 := hide (RQ.below O1.out hb)
  replace Ox := hide (RQ.below Ox.out hb)
  replace Oy := hide (RQ.below Oy.out hb)
  replace Ba := hide (Box.kept Ba.out hb)
  replace Bb := hide (Box.kept Bb.out hb)
  replace B1 := hide (Box.kept B1.out hb)
  replace Bx := hide (Box.kept Bx.out hb)
  replace By := hide (Box.kept By.out hb)
  replace hU := hU.trans (hb.mono hU.size)
  clear hb
  refine anyR_val (i := 31) (m' := 4294967295) (v := .bool false) F hQ rfl rfl (by kernel_rfl) (by kernel_rfl) (by kernel_rfl) (by kernel_rfl) (by kernel_rfl) (fun _ _ => by kernel_rfl) ?_
  refine anyR_val (i := 32) (m' := 8589934591) (v := .bool false) F hQ rfl rfl (by kernel_rfl) (by kernel_rfl) (by kernel_rfl) (by kernel_rfl) (by kernel_rfl) (fun _ _ => by kernel_rfl) ?_
  refine anyR_e ?_
  refine anyR_last (i := 33) (m' := 17179869183) (v := .bool false) rfl rfl (by kernel_rfl) (by kernel_rfl) (by kernel_rfl) (by kernel_rfl) (by kernel_rfl) ?_
  refine anyE_done (by kernel_rfl) ?_
  clear F hQ Ba0 Bb0 B10 Bx0 By0
  refine then_normal ?_
  refine wp_iff (by kernel_rfl) ?_
  refine wp_skip ?_
  refine then_normal ?_
  refine wp_seq ?_
  refine wp_seq ?_
  refine reg_lit ?_
  refine wpl_ldvec Ba.out rfl (by kernel_rfl) rfl (by kernel_rfl) ?_
  refine wpl_call rfl (by kernel_rfl) (by kernel_rfl) ((vKnown_v true Aa la ca sa _ La.out Ca Oa.out Ya.out HKa.out).mono ?_)
  rintro e w154 ⟨rfl, hb⟩
  refine ⟨_, rfl, ?_⟩
  replace Oa := hide (RQ.below Oa.out hb)
  replace Ob := hide (RQ.below Ob.out hb)
  replace O1 := hide (RQ.below O1.out hb)
  replace Ox := hide (RQ.below Ox.out hb)
  replace Oy := hide (RQ.below Oy.out hb)
  replace Ba := hide (Box.kept Ba.out hb)
  replace Bb := hide (Box.kept Bb.out hb)
  replace B1 := hide (Box.kept B1.out hb)
  replace Bx := hide (Box.kept Bx.out hb)
  replace By := hide (Box.kept By.out hb)
  replace hU := hU.trans (hb.mono hU.size)
  clear hb
  refine wpl_r2 [(69, .bool false), (68, .bool false)] (by kernel_rfl) ?_
  refine wpl_ldvec Bb.out rfl (by kernel_rfl) rfl (by kernel_rfl) ?_
  refine wpl_call rfl (by kernel_rfl) (by kernel_rfl) ((vKnown_v false Ab lb cb sb _ Lb.out Cb Ob.out Yb.out HKb.out).mono ?_)
  rintro e w155 ⟨rfl, hb⟩
  refine ⟨_, rfl, ?_⟩
  replace Oa := hide (RQ.below Oa.out hb)
  replace Ob := hide (RQ.below Ob.out hb)
  replace O1 := hide (RQ.below O1.out hb)
  replace Ox := hide (RQ.below Ox.out hb)
  replace Oy := hide (RQ.below Oy.out hb)
  replace Ba := hide (Box.kept Ba.out hb)
  replace Bb := hide (Box.kept Bb.out hb)
  replace B1 := hide (Box.kept B1.out hb)
  replace Bx := hide (Box.kept Bx.out hb)
  replace By := hide (Box.kept By.out hb)
  replace hU := hU.trans (hb.mono hU.size)
  clear hb
  refine wpl_r2 [(73, .bool true), (72, .bool true)] (by kernel_rfl) ?_
  refine wpl_end ?_
  refine then_normal ?_
  refine wp_ift (by kernel_rfl) ?_
  refine wp_seq ?_
  refine reg_lit ?_
  refine wpl_r1 [(4, .bool true)] (by kernel_rfl) ?_
  refine wpl_end ?_
  refine then_normal ?_
  refine wp_ret ?_
  refine (show bodyPost _ _ _ .ret _ _ from ret_sl (.bool true) rfl (by kernel_rfl) ?_)
  exact ⟨rfl, hU⟩
  exfalso
  have h := mtc_mono (fun _ _ => alX_of_alZ) HZ.out
  rw [mtc_X Ya.out Yb.out HKa.out hB, HM.out] at h
  cases h
  have HM := hide hM
  have HZ : Hid (mtc alZ ⟨la, sa⟩ ⟨lb, sb⟩ = true) := hide (mtc_mono (fun _ _ => alZ_of_same) hM)
  clear hM
  cases hA : kn (cnt ⟨la, sa⟩).b
  have HKa := hide hA
  clear hA
  refine region_R (n := 5) (N := 6) (by kernel_rfl) (by kernel_rfl) (by kernel_rfl) (by kernel_rfl) (by kernel_rfl) (by kernel_rfl) (fun _ _ _ _ _ h => h) ?_
  intro F hQ
  have Ba0 := Ba
  have Bb0 := Bb
  have B10 := B1
  have Bx0 := Bx
  have By0 := By
  refine anyR_ldvec (i := 0) (m' := 1) Ba0.out F hQ rfl rfl (by kernel_rfl) (by kernel_rfl) (by kernel_rfl) (by kernel_rfl) (by kernel_rfl) rfl (by kernel_rfl) ?_
  refine anyR_ldvec (i := 1) (m' := 3) Bb0.out F hQ rfl rfl (by kernel_rfl) (by kernel_rfl) (by kernel_rfl) (by kernel_rfl) (by kernel_rfl) rfl (by kernel_rfl) ?_
  refine anyR_ldvec (i := 3) (m' := 11) B10.out F hQ rfl rfl (by kernel_rfl) (by kernel_rfl) (by kernel_rfl) (by kernel_rfl) (by kernel_rfl) rfl (by kernel_rfl) ?_
  refine anyR_call (i := 2) (m' := 15) rfl rfl (by kernel_rfl) (by kernel_rfl) (by kernel_rfl) (by kernel_rfl) (by kernel_rfl) ((vCaseEq_any Aa Ab la lb ca cb sa sb _ La.out Lb.out Ca Cb (by exact Oa.out) (by exact Ob.out) Ya.out Yb.out).mono ?_)
  rintro e w156 ⟨le, se, Ae, ce, Ee, rfl, Ce, Oe, hb⟩
  refine ⟨_, rfl, hb, ?_⟩
  replace hb : Below w110.heap.size w110 w156 := Below.trans ((Below.refl _ _).drew) hb
  replace Oa := hide (RQ.below Oa.out hb)
  replace Ob := hide (RQ.below Ob.out hb)
  replace O1 := hide (RQ.below O1.out hb)
  replace Ox := hide (RQ.below Ox.out hb)
  replace Oy := hide (RQ.below Oy.out hb)
  replace Ba := hide (Box.kept Ba.out hb)
  replace Bb := hide (Box.kept Bb.out hb)
  replace B1 := hide (Box.kept B1.out hb)
  replace Bx := hide (Box.kept Bx.out hb)
  replace By := hide (Box.kept By.out hb)
  replace Oe := hide Oe.out.rd
  replace hU := hU.trans (hb.mono hU.size)
  clear hb
  have Ge : Gd le := by have h := congrArg Vc.b Ee.out; dsimp only at h; rw [h]; exact (gdx_sgl (by cases mtc mSame ⟨la, sa⟩ ⟨lb, sb⟩ <;> decide))
  have Le := hide (show le.length ≤ 4096 from Nat.le_trans Ge.le (by decide))
  have Ye := hide Ge.by_
  clear Ge
  refine anyR_call (i := 4) (m' := 31) rfl rfl (by kernel_rfl) (by kernel_rfl) (by kernel_rfl) (by kernel_rfl) (by kernel_rfl) ((rsame_yes Ae A1 le l1 ce c1 se s1 _ Le.out L1.out Oe.out O1.out (by rw [Ee.out, E1.out, of_one]; (try unfold vCase); rw [HM.out]; rfl)).mono ?_)
  rintro e w157 ⟨rfl, hb⟩
  refine ⟨_, rfl, hb, ?_⟩
  replace Oa := hide (RQ.below Oa.out hb)
  replace Ob := hide (RQ.below Ob.out hb)
  replace O1 := hide (RQ.below O1.out hb)
  replace Ox := hide (RQ.below Ox.out hb)
  replace Oy := hide (RQ.below Oy.out hb)
  replace Oe := hide (RQ.below Oe.out hb)
  replace Ba := hide (Box.kept Ba.out hb)
  replace Bb := hide (Box.kept Bb.out hb)
  replace B1 := hide (Box.kept B1.out hb)
  replace Bx := hide (Box.kept Bx.out hb)
  replace By := hide (Box.kept By.out hb)
  replace hU := hU.trans (hb.mono hU.size)
  clear hb
  clear Oe Ce Le Ye
  refine anyR_e ?_
  refine anyR_last (i := 5) (m' := 63) (v := .bool true) rfl rfl (by kernel_rfl) (by kernel_rfl) (by kernel_rfl) (by kernel_rfl) (by kernel_rfl) ?_
  refine anyE_done (by kernel_rfl) ?_
  clear F hQ Ba0 Bb0 B10 Bx0 By0
  refine then_normal ?_
  refine wp_seq ?_
  refine wp_seq ?_
  refine region_R (n := 33) (N := 34) (by kernel_rfl) (by kernel_rfl) (by kernel_rfl) (by kernel_rfl) (by kernel_rfl) (by kernel_rfl) (fun _ _ _ _ _ h => h) ?_
  intro F hQ
  have Ba0 := Ba
  have Bb0 := Bb
  have B10 := B1
  have Bx0 := Bx
  have By0 := By
  refine anyR_val (i := 0) (m' := 1) (v := .bool true) F hQ rfl rfl (by kernel_rfl) (by kernel_rfl) (by kernel_rfl) (by kernel_rfl) (by kernel_rfl) (fun _ _ => by kernel_rfl) ?_
  refine anyR_ldvec (i := 1) (m' := 3) Bx0.out F hQ rfl rfl (by kernel_rfl) (by kernel_rfl) (by kernel_rfl) (by kernel_rfl) (by kernel_rfl) rfl (by kernel_rfl) ?_
  refine anyR_ldvec (i := 2) (m' := 7) By0.out F hQ rfl rfl (by kernel_rfl) (by kernel_rfl) (by kernel_rfl) (by kernel_rfl) (by kernel_rfl) rfl (by kernel_rfl) ?_
  refine anyR_call (i := 3) (m' := 15) rfl rfl (by kernel_rfl) (by kernel_rfl) (by kernel_rfl) (by kernel_rfl) (by kernel_rfl) ((rsame_yes Ax Ay lx ly cx cy sx sy _ Lx.out Ly.out (by exact Ox.out) (by exact Oy.out) (by rw [Ex.out, Ey.out, (mtc_same Ya.out Yb.out).1 HM.out])).mono ?_)
  rintro e w158 ⟨rfl, hb⟩
  refine ⟨_, rfl, hb, ?_⟩
  replace hb : Below w157.heap.size w157 w158 := Below.trans ((Below.refl _ _).drew) hb
  replace Oa := hide (RQ.below Oa.out hb)
  replace Ob := hide (RQ.below Ob.out hb)
  replace O1 := hide (RQ.below O1.out hb)
  replace Ox := hide (RQ.below Ox.out hb)
  replace Oy := hide (RQ.below Oy.out hb)
  replace Ba := hide (Box.kept Ba.out hb)
  replace Bb := hide (Box.kept Bb.out hb)
  replace B1 := hide (Box.kept B1.out hb)
  replace Bx := hide (Box.kept Bx.out hb)
  replace By := hide (Box.kept By.out hb)
  replace hU := hU.trans (hb.mono hU.size)
  clear hb
  refine anyR_val (i := 4) (m' := 31) (v := .bool false) F hQ rfl rfl (by kernel_rfl) (by kernel_rfl) (by kernel_rfl) (by kernel_rfl) (by kernel_rfl) (fun _ _ => by kernel_rfl) ?_
  refine anyR_val (i := 5) (m' := 63) (v := .bool false) F hQ rfl rfl (by kernel_rfl) (by kernel_rfl) (by kernel_rfl) (by kernel_rfl) (by kernel_rfl) (fun _ _ => by kernel_rfl) ?_
  refine anyR_ldvec (i := 6) (m' := 127) Ba0.out F hQ rfl rfl (by kernel_rfl) (by kernel_rfl) (by kernel_rfl) (by kernel_rfl) (by kernel_rfl) rfl (by kernel_rfl) ?_
  refine anyR_ldvec (i := 7) (m' := 255) Bb0.out F hQ rfl rfl (by kernel_rfl) (by kernel_rfl) (by kernel_rfl) (by kernel_rfl) (by kernel_rfl) rfl (by kernel_rfl) ?_
  refine anyR_ldvec (i := 9) (m' := 767) B10.out F hQ rfl rfl (by kernel_rfl) (by kernel_rfl) (by kernel_rfl) (by kernel_rfl) (by kernel_rfl) rfl (by kernel_rfl) ?_
  refine anyR_val (i := 11) (m' := 2815) (v := .bool true) F hQ rfl rfl (by kernel_rfl) (by kernel_rfl) (by kernel_rfl) (by kernel_rfl) (by kernel_rfl) (fun _ _ => by kernel_rfl) ?_
  refine anyR_call (i := 8) (m' := 3071) rfl rfl (by kernel_rfl) (by kernel_rfl) (by kernel_rfl) (by kernel_rfl) (by kernel_rfl) ((vCaseNe_any Aa Ab la lb ca cb sa sb _ La.out Lb.out Ca Cb Oa.out Ob.out Ya.out Yb.out (HT.out.kept hU)).mono ?_)
  rintro e w159 ⟨ln, sn, An, cn, En, rfl, Cn, On, hb⟩
  refine ⟨_, rfl, hb, ?_⟩
  replace Oa := hide (RQ.below Oa.out hb)
  replace Ob := hide (RQ.below Ob.out hb)
  replace O1 := hide (RQ.below O1.out hb)
  replace Ox := hide (RQ.below Ox.out hb)
  replace Oy := hide (RQ.below Oy.out hb)
  replace Ba := hide (Box.kept Ba.out hb)
  replace Bb := hide (Box.kept Bb.out hb)
  replace B1 := hide (Box.kept B1.out hb)
  replace Bx := hide (Box.kept Bx.out hb)
  replace By := hide (Box.kept By.out hb)
  replace On := hide On.out.rd
  replace hU := hU.trans (hb.mono hU.size)
  clear hb
  have Gn : Gd ln := by have h := congrArg Vc.b En.out; dsimp only at h; rw [h]; exact (gdx_sgl (by cases mtc mSame ⟨la, sa⟩ ⟨lb, sb⟩ <;> decide))
  have Ln := hide (show ln.length ≤ 4096 from Nat.le_trans Gn.le (by decide))
  have Yn := hide Gn.by_
  clear Gn
  refine anyR_call (i := 10) (m' := 4095) rfl rfl (by kernel_rfl) (by kernel_rfl) (by kernel_rfl) (by kernel_rfl) (by kernel_rfl) ((rsame_not An A1 ln l1 cn c1 sn s1 _ Ln.out L1.out On.out O1.out (by rw [En.out, E1.out, of_one]; (try unfold vCase); rw [HM.out]; exact fun h => absurd (sgl_inj.1 h) (by decide))).mono ?_)
  rintro e w160 ⟨rfl, hb⟩
  refine ⟨_, rfl, hb, ?_⟩
  replace Oa := hide (RQ.below Oa.out hb)
  replace Ob := hide (RQ.below Ob.out hb)
  replace O1 := hide (RQ.below O1.out hb)
  replace Ox := hide (RQ.below Ox.out hb)
  replace Oy := hide (RQ.below Oy.out hb)
  replace On := hide (RQ.below On.out hb)
  replace Ba := hide (Box.kept Ba.out hb)
  replace Bb := hide (Box.kept Bb.out hb)
  replace B1 := hide (Box.kept B1.out hb)
  replace Bx := hide (Box.kept Bx.out hb)
  replace By := hide (Box.kept By.out hb)
  replace hU := hU.trans (hb.mono hU.size)
  clear hb
  clear On Cn Ln Yn
  refine anyR_val (i := 12) (m' := 8191) (v := .bool false) F hQ rfl rfl (by kernel_rfl) (by kernel_rfl) (by kernel_rfl) (by kernel_rfl) (by kernel_rfl) (fun _ _ => by kernel_rfl) ?_
  refine anyR_val (i := 13) (m' := 16383) (v := .bool false) F hQ rfl rfl (by kernel_rfl) (by kernel_rfl) (by kernel_rfl) (by kernel_rfl) (by kernel_rfl) (fun _ _ => by kernel_rfl) ?_
  refine anyR_val (i := 14) (m' := 32767) (v := .bool false) F hQ rfl rfl (by kernel_rfl) (by kernel_rfl) (by kernel_rfl) (by kernel_rfl) (by kernel_rfl) (fun _ _ => by kernel_rfl) ?_
  refine anyR_val (i := 15) (m' := 65535) (v := .bool true) F hQ rfl rfl (by kernel_rfl) (by kernel_rfl) (by kernel_rfl) (by kernel_rfl) (by kernel_rfl) (fun _ _ => by kernel_rfl) ?_
  refine anyR_val (i := 16) (m' := 131071) (v := .bool true) F hQ rfl rfl (by kernel_rfl) (by kernel_rfl) (by kernel_rfl) (by kernel_rfl) (by kernel_rfl) (fun _ _ => by kernel_rfl) ?_
  refine anyR_ldvec (i := 17) (m' := 262143) Ba0.out F hQ rfl rfl (by kernel_rfl) (by kernel_rfl) (by kernel_rfl) (by kernel_rfl) (by kernel_rfl) rfl (by kernel_rfl) ?_
  refine anyR_ldvec (i := 18) (m' := 524287) Bb0.out F hQ rfl rfl (by kernel_rfl) (by kernel_rfl) (by kernel_rfl) (by kernel_rfl) (by kernel_rfl) rfl (by kernel_rfl) ?_
  refine anyR_call (i := 19) (m' := 1048575) rfl rfl (by kernel_rfl) (by kernel_rfl) (by kernel_rfl) (by kernel_rfl) (by kernel_rfl) ((vMatchZ_v true Aa Ab la lb ca cb sa sb _ La.out Lb.out Ca Cb Oa.out Ob.out Ya.out Yb.out HZ.out).mono ?_)
  rintro e w161 ⟨rfl, hb⟩
  refine ⟨_, rfl, hb, ?_⟩
  replace Oa := hide (RQ.below Oa.out hb)
  replace Ob := hide (RQ.below Ob.out hb)
  replace O1 := hide (RQ.below O1.out hb)
  replace Ox := hide (RQ.below Ox.out hb)
  replace Oy := hide (RQ.below Oy.out hb)
  replace Ba := hide (Box.kept Ba.out hb)
  replace Bb := hide (Box.kept Bb.out hb)
  replace B1 := hide (Box.kept B1.out hb)
  replace Bx := hide (Box.kept Bx.out hb)
  replace By := hide (Box.kept By.out hb)
  replace hU := hU.trans (hb.mono hU.size)
  clear hb
  refine anyR_val (i := 20) (m' := 2097151) (v := .bool false) F hQ rfl rfl (by kernel_rfl) (by kernel_rfl) (by kernel_rfl) (by kernel_rfl) (by kernel_rfl) (fun _ _ => by kernel_rfl) ?_
  refine anyR_val (i := 21) (m' := 4194303) (v := .bool false) F hQ rfl rfl (by kernel_rfl) (by kernel_rfl) (by kernel_rfl) (by kernel_rfl) (by kernel_rfl) (fun _ _ => by kernel_rfl) ?_
  refine anyR_val (i := 22) (m' := 8388607) (v := .bool false) F hQ rfl rfl (by kernel_rfl) (by kernel_rfl) (by kernel_rfl) (by kernel_rfl) (by kernel_rfl) (fun _ _ => by kernel_rfl) ?_
  refine anyR_val (i := 23) (m' := 16777215) (v := .bool false) F hQ rfl rfl (by kernel_rfl) (by kernel_rfl) (by kernel_rfl) (by kernel_rfl) (by kernel_rfl) (fun _ _ => by kernel_rfl) ?_
  refine anyR_ldvec (i := 24) (m' := 33554431) Ba0.out F hQ rfl rfl (by kernel_rfl) (by kernel_rfl) (by kernel_rfl) (by kernel_rfl) (by kernel_rfl) rfl (by kernel_rfl) ?_
  refine anyR_ldvec (i := 25) (m' := 67108863) Bb0.out F hQ rfl rfl (by kernel_rfl) (by kernel_rfl) (by kernel_rfl) (by kernel_rfl) (by kernel_rfl) rfl (by kernel_rfl) ?_
  refine anyR_call (i := 26) (m' := 134217727) rfl rfl (by kernel_rfl) (by kernel_rfl) (by kernel_rfl) (by kernel_rfl) (by kernel_rfl) ((vMatchZ_v true Aa Ab la lb ca cb sa sb _ La.out Lb.out Ca Cb Oa.out Ob.out Ya.out Yb.out HZ.out).mono ?_)
  rintro e w162 ⟨rfl, hb⟩
  refine ⟨_, rfl, hb, ?_⟩
  replace Oa := hide (RQ.below Oa.out hb)
  replace Ob := hide (RQ.below Ob.out hb)
  replace O1 := hide (RQ.below O1.out hb)
  replace Ox := hide (RQ.below Ox.out hb)
  replace Oy := hide (RQ.below Oy.out hb)
  replace Ba := hide (Box.kept Ba.out hb)
  replace Bb := hide (Box.kept Bb.out hb)
  replace B1 := hide (Box.kept B1.out hb)
  replace Bx := hide (Box.kept Bx.out hb)
  replace By := hide (Box.kept By.out hb)
  replace hU := hU.trans (hb.mono hU.size)
  clear hb
  refine anyR_val (i := 27) (m' := 268435455) (v := .bool true) F hQ rfl rfl (by kernel_rfl) (by kernel_rfl) (by kernel_rfl) (by kernel_rfl) (by kernel_rfl) (fun _ _ => by kernel_rfl) ?_
  refine anyR_ldvec (i := 28) (m' := 536870911) Ba0.out F hQ rfl rfl (by kernel_rfl) (by kernel_rfl) (by kernel_rfl) (by kernel_rfl) (by kernel_rfl) rfl (by kernel_rfl) ?_
  refine anyR_ldvec (i := 29) (m' := 1073741823) Bb0.out F hQ rfl rfl (by kernel_rfl) (by kernel_rfl) (by kernel_rfl) (by kernel_rfl) (by kernel_rfl) rfl (by kernel_rfl) ?_
  refine anyR_call (i := 30) (m' := 2147483647) rfl rfl (by kernel_rfl) (by kernel_rfl) (by kernel_rfl) (by kernel_rfl) (by kernel_rfl) ((vMatchX_v true Aa Ab la lb ca cb sa sb _ La.out Lb.out Ca Cb Oa.out Ob.out Ya.out Yb.out (mtc_mono (fun _ _ => alX_of_alZ) HZ.out)).mono ?_)
  rintro e w163 ⟨rfl, hb⟩
  refine ⟨_, rfl, hb, ?_⟩
  replace Oa := hide (RQ.below Oa.out hb)
  replace Ob := hide (RQ.below Ob.out hb)
  replace O1 := hide (RQ.below O1.out hb)
  replace Ox := hide (RQ.below Ox.out hb)
  replace Oy := hide (RQ.below Oy.out hb)
  replace Ba := hide (Box.kept Ba.out hb)
  replace Bb := hide (Box.kept Bb.out hb)
  replace B1 := hide (Box.kept B1.out hb)
  replace Bx := hide (Box.kept Bx.out hb)
  replace By := hide (Box.kept By.out hb)
  replace hU := hU.trans (hb.mono hU.size)
  clear hb
  refine anyR_val (i := 31) (m' := 4294967295) (v := .bool false) F hQ rfl rfl (by kernel_rfl) (by kernel_rfl) (by kernel_rfl) (by kernel_rfl) (by kernel_rfl) (fun _ _ => by kernel_rfl) ?_
  refine anyR_val (i := 32) (m' := 8589934591) (v := .bool false) F hQ rfl rfl (by kernel_rfl) (by kernel_rfl) (by kernel_rfl) (by kernel_rfl) (by kernel_rfl) (fun _ _ => by kernel_rfl) ?_
  refine anyR_e ?_
  refine anyR_last (i := 33) (m' := 17179869183) (v := .bool false) rfl rfl (by kernel_rfl) (by kernel_rfl) (by kernel_rfl) (by kernel_rfl) (by kernel_rfl) ?_
  refine anyE_done (by kernel_rfl) ?_
  clear F hQ Ba0 Bb0 B10 Bx0 By0
  refine then_normal ?_
  refine wp_iff (by kernel_rfl) ?_
  refine wp_skip ?_
  refine then_normal ?_
  refine wp_seq ?_
  refine wp_seq ?_
  refine reg_lit ?_
  refine wpl_ldvec Ba.out rfl (by kernel_rfl) rfl (by kernel_rfl) ?_
  refine wpl_call rfl (by kernel_rfl) (by kernel_rfl) ((vKnown_v false Aa la ca sa _ La.out Ca Oa.out Ya.out HKa.out).mono ?_)
  rintro e w164 ⟨rfl, hb⟩
  refine ⟨_, rfl, ?_⟩
  replace Oa := hide (RQ.below Oa.out hb)
  replace Ob := hide (RQ.below Ob.out hb)
  replace O1 := hide (RQ.below O1.out hb)
  replace Ox := hide (RQ.below Ox.out hb)
  replace Oy := hide (RQ.below Oy.out hb)
  replace Ba := hide (Box.kept Ba.out hb)
  replace Bb := hide (Box.kept Bb.out hb)
  replace B1 := hide (Box.kept B1.out hb)
  replace Bx := hide (Box.kept Bx.out hb)
  replace By := hide (Box.kept By.out hb)
  replace hU := hU.trans (hb.mono hU.size)
  clear hb
  refine wpl_r6 [(73, .bool true), (72, undef), (71, undef), (70, undef), (69, .bool true), (68, .bool true)] (by kernel_rfl) ?_
  refine wpl_end ?_
  refine then_normal ?_
  refine wp_ift (by kernel_rfl) ?_
  refine wp_seq ?_
  refine reg_lit ?_
  refine wpl_r1 [(4, .bool true)] (by kernel_rfl) ?_
  refine wpl_end ?_
  refine then_normal ?_
  refine wp_ret ?_
  refine (show bodyPost _ _ _ .ret _ _ from ret_sl (.bool true) rfl (by kernel_rfl) ?_)
  exact ⟨rfl, hU⟩
  have HKa := hide hA
  clear hA
  cases hB : kn (cnt ⟨lb, sb⟩).b
  have HKb := hide hB
  clear hB
  refine region_R (n := 5) (N := 6) (by kernel_rfl) (by kernel_rfl) (by kernel_rfl) (by kernel_rfl) (by kernel_rfl) (by kernel_rfl) (fun _ _ _ _ _ h => h) ?_
  intro F hQ
  have Ba0 := Ba
  have Bb0 := Bb
  have B10 := B1
  have Bx0 := Bx
  have By0 := By
  refine anyR_ldvec (i := 0) (m' := 1) Ba0.out F hQ rfl rfl (by kernel_rfl) (by kernel_rfl) (by kernel_rfl) (by kernel_rfl) (by kernel_rfl) rfl (by kernel_rfl) ?_
  refine anyR_ldvec (i := 1) (m' := 3) Bb0.out F hQ rfl rfl (by kernel_rfl) (by kernel_rfl) (by kernel_rfl) (by kernel_rfl) (by kernel_rfl) rfl (by kernel_rfl) ?_
  refine anyR_ldvec (i := 3) (m' := 11) B10.out F hQ rfl rfl (by kernel_rfl) (by kernel_rfl) (by kernel_rfl) (by kernel_rfl) (by kernel_rfl) rfl (by kernel_rfl) ?_
  refine anyR_call (i := 2) (m' := 15) rfl rfl (by kernel_rfl) (by kernel_rfl) (by kernel_rfl) (by kernel_rfl) (by kernel_rfl) ((vCaseEq_any Aa Ab la lb ca cb sa sb _ La.out Lb.out Ca Cb (by exact Oa.out) (by exact Ob.out) Ya.out Yb.out).mono ?_)
  rintro e w165 ⟨le, se, Ae, ce, Ee, rfl, Ce, Oe, hb⟩
  refine ⟨_, rfl, hb, ?_⟩
  replace hb : Below w110.heap.size w110 w165 := Below.trans ((Below.refl _ _).drew) hb
  replace Oa := hide (RQ.below Oa.out hb)
  replace Ob := hide (RQ.below Ob.out hb)
  replace O1 := hide (RQ.below O1.out hb)
  replace Ox := hide (RQ.below Ox.out hb)
  replace Oy := hide (RQ.below Oy.out hb)
  replace Ba := hide (Box.kept Ba.out hb)
  replace Bb := hide (Box.kept Bb.out hb)
  replace B1 := hide (Box.kept B1.out hb)
  replace Bx := hide (Box.kept Bx.out hb)
  replace By := hide (Box.kept By.out hb)
  replace Oe := hide Oe.out.rd
  replace hU := hU.trans (hb.mono hU.size)
  clear hb
  have Ge : Gd le := by have h := congrArg Vc.b Ee.out; dsimp only at h; rw [h]; exact (gdx_sgl (by cases mtc mSame ⟨la, sa⟩ ⟨lb, sb⟩ <;> decide))
  have Le := hide (show le.length ≤ 4096 from Nat.le_trans Ge.le (by decide))
  have Ye := hide Ge.by_
  clear Ge
  refine anyR_call (i := 4) (m' := 31) rfl rfl (by kernel_rfl) (by kernel_rfl) (by kernel_rfl) (by kernel_rfl) (by kernel_rfl) ((rsame_yes Ae A1 le l1 ce c1 se s1 _ Le.out L1.out Oe.out O1.out (by rw [Ee.out, E1.out, of_one]; (try unfold vCase); rw [HM.out]; rfl)).mono ?_)
  rintro e w166 ⟨rfl, hb⟩
  refine ⟨_, rfl, hb, ?_⟩
  replace Oa := hide (RQ.below Oa.out hb)
  replace Ob := hide (RQ.below Ob.out hb)
  replace O1 := hide (RQ.below O1.out hb)
  replace Ox := hide (RQ.below Ox.out hb)
  replace Oy := hide (RQ.below Oy.out hb)
  replace Oe := hide (RQ.below Oe.out hb)
  replace Ba := hide (Box.kept Ba.out hb)
  replace Bb := hide (Box.kept Bb.out hb)
  replace B1 := hide (Box.kept B1.out hb)
  replace Bx := hide (Box.kept Bx.out hb)
  replace By := hide (Box.kept By.out hb)
  replace hU := hU.trans (hb.mono hU.size)
  clear hb
  clear Oe Ce Le Ye
  refine anyR_e ?_
  refine anyR_last (i := 5) (m' := 63) (v := .bool true) rfl rfl (by kernel_rfl) (by kernel_rfl) (by kernel_rfl) (by kernel_rfl) (by kernel_rfl) ?_
  refine anyE_done (by kernel_rfl) ?_
  clear F hQ Ba0 Bb0 B10 Bx0 By0
  refine then_normal ?_
  refine wp_seq ?_
  refine wp_seq ?_
  refine region_R (n := 33) (N := 34) (by kernel_rfl) (by kernel_rfl) (by kernel_rfl) (by kernel_rfl) (by kernel_rfl) (by kernel_rfl) (fun _ _ _ _ _ h => h) ?_
  intro F hQ
  have Ba0 := Ba
  have Bb0 := Bb
  have B10 := B1
  have Bx0 := Bx
  have By0 := By
  refine anyR_val (i := 0) (m' := 1) (v := .bool true) F hQ rfl rfl (by kernel_rfl) (by kernel_rfl) (by kernel_rfl) (by kernel_rfl) (by kernel_rfl) (fun _ _ => by kernel_rfl) ?_
  refine anyR_ldvec (i := 1) (m' := 3) Bx0.out F hQ rfl rfl (by kernel_rfl) (by kernel_rfl) (by kernel_rfl) (by kernel_rfl) (by kernel_rfl) rfl (by kernel_rfl) ?_
  refine anyR_ldvec (i := 2) (m' := 7) By0.out F hQ rfl rfl (by kernel_rfl) (by kernel_rfl) (by kernel_rfl) (by kernel_rfl) (by kernel_rfl) rfl (by kernel_rfl) ?_
  refine anyR_call (i := 3) (m' := 15) rfl rfl (by kernel_rfl) (by kernel_rfl) (by kernel_rfl) (by kernel_rfl) (by kernel_rfl) ((rsame_yes Ax Ay lx ly cx cy sx sy _ Lx.out Ly.out (by exact Ox.out) (by exact Oy.out) (by rw [Ex.out, Ey.out, (mtc_same Ya.out Yb.out).1 HM.out])).mono ?_)
  rintro e w167 ⟨rfl, hb⟩
  refine ⟨_, rfl, hb, ?_⟩
  replace hb : Below w166.heap.size w166 w167 := Below.trans ((Below.refl _ _).drew) hb
  replace Oa := hide (RQ.below Oa.out hb)
  replace Ob := hide (RQ.below Ob.out hb)
  replace O1 := hide (RQ.below O1.out hb)
  replace Ox := hide (RQ.below Ox.out hb)
  replace Oy := hide (RQ.below Oy.out hb)
  replace Ba := hide (Box.kept Ba.out hb)
  replace Bb := hide (Box.kept Bb.out hb)
  replace B1 := hide (Box.kept B1.out hb)
  replace Bx := hide (Box.kept Bx.out hb)
  replace By := hide (Box.kept By.out hb)
  replace hU := hU.trans (hb.mono hU.size)
  clear hb
  refine anyR_val (i := 4) (m' := 31) (v := .bool false) F hQ rfl rfl (by kernel_rfl) (by kernel_rfl) (by kernel_rfl) (by kernel_rfl) (by kernel_rfl) (fun _ _ => by kernel_rfl) ?_
  refine anyR_val (i := 5) (m' := 63) (v := .bool false) F hQ rfl rfl (by kernel_rfl) (by kernel_rfl) (by kernel_rfl) (by kernel_rfl) (by kernel_rfl) (fun _ _ => by kernel_rfl) ?_
  refine anyR_ldvec (i := 6) (m' := 127) Ba0.out F hQ rfl rfl (by kernel_rfl) (by kernel_rfl) (by kernel_rfl) (by kernel_rfl) (by kernel_rfl) rfl (by kernel_rfl) ?_
  refine anyR_ldvec (i := 7) (m' := 255) Bb0.out F hQ rfl rfl (by kernel_rfl) (by kernel_rfl) (by kernel_rfl) (by kernel_rfl) (by kernel_rfl) rfl (by kernel_rfl) ?_
  refine anyR_ldvec (i := 9) (m' := 767) B10.out F hQ rfl rfl (by kernel_rfl) (by kernel_rfl) (by kernel_rfl) (by kernel_rfl) (by kernel_rfl) rfl (by kernel_rfl) ?_
  refine anyR_val (i := 11) (m' := 2815) (v := .bool true) F hQ rfl rfl (by kernel_rfl) (by kernel_rfl) (by kernel_rfl) (by kernel_rfl) (by kernel_rfl) (fun _ _ => by kernel_rfl) ?_
  refine anyR_call (i := 8) (m' := 3071) rfl rfl (by kernel_rfl) (by kernel_rfl) (by kernel_rfl) (by kernel_rfl) (by kernel_rfl) ((vCaseNe_any Aa Ab la lb ca cb sa sb _ La.out Lb.out Ca Cb Oa.out Ob.out Ya.out Yb.out (HT.out.kept hU)).mono ?_)
  rintro e w168 ⟨ln, sn, An, cn, En, rfl, Cn, On, hb⟩
  refine ⟨_, rfl, hb, ?_⟩
  replace Oa := hide (RQ.below Oa.out hb)
  replace Ob := hide (RQ.below Ob.out hb)
  replace O1 := hide (RQ.below O1.out hb)
  replace Ox := hide (RQ.below Ox.out hb)
  replace Oy := hide (RQ.below Oy.out hb)
  replace Ba := hide (Box.kept Ba.out hb)
  replace Bb := hide (Box.kept Bb.out hb)
  replace B1 := hide (Box.kept B1.out hb)
  replace Bx := hide (Box.kept Bx.out hb)
  replace By := hide (Box.kept By.out hb)
  replace On := hide On.out.rd
  replace hU := hU.trans (hb.mono hU.size)
  clear hb
  have Gn : Gd ln := by have h := congrArg Vc.b En.out; dsimp only at h; rw [h]; exact (gdx_sgl (by cases mtc mSame ⟨la, sa⟩ ⟨lb, sb⟩ <;> decide))
  have Ln := hide (show ln.length ≤ 4096 from Nat.le_trans Gn.le (by decide))
  have Yn := hide Gn.by_
  clear Gn
  refine anyR_call (i := 10) (m' := 4095) rfl rfl (by kernel_rfl) (by kernel_rfl) (by kernel_rfl) (by kernel_rfl) (by kernel_rfl) ((rsame_not An A1 ln l1 cn c1 sn s1 _ Ln.out L1.out On.out O1.out (by rw [En.out, E1.out, of_one]; (try unfold vCase); rw [HM.out]; exact fun h => absurd (sgl_inj.1 h) (by decide))).mono ?_)
  rintro e w169 ⟨rfl, hb⟩
  refine ⟨_, rfl, hb, ?_⟩
  replace Oa := hide (RQ.below Oa.out hb)
  replace Ob := hide (RQ.below Ob.out hb)
  replace O1 := hide (RQ.below O1.out hb)
  replace Ox := hide (RQ.below Ox.out hb)
  replace Oy := hide (RQ.below Oy.out hb)
  replace On := hide (RQ.below On.out hb)
  replace Ba := hide (Box.kept Ba.out hb)
  replace Bb := hide (Box.kept Bb.out hb)
  replace B1 := hide (Box.kept B1.out hb)
  replace Bx := hide (Box.kept Bx.out hb)
  replace By := hide (Box.kept By.out hb)
  replace hU := hU.trans (hb.mono hU.size)
  clear hb
  clear On Cn Ln Yn
  refine anyR_val (i := 12) (m' := 8191) (v := .bool false) F hQ rfl rfl (by kernel_rfl) (by kernel_rfl) (by kernel_rfl) (by kernel_rfl) (by kernel_rfl) (fun _ _ => by kernel_rfl) ?_
  refine anyR_val (i := 13) (m' := 16383) (v := .bool false) F hQ rfl rfl (by kernel_rfl) (by kernel_rfl) (by kernel_rfl) (by kernel_rfl) (by kernel_rfl) (fun _ _ => by kernel_rfl) ?_
  refine anyR_val (i := 14) (m' := 32767) (v := .bool false) F hQ rfl rfl (by kernel_rfl) (by kernel_rfl) (by kernel_rfl) (by kernel_rfl) (by kernel_rfl) (fun _ _ => by kernel_rfl) ?_
  refine anyR_val (i := 15) (m' := 65535) (v := .bool true) F hQ rfl rfl (by kernel_rfl) (by kernel_rfl) (by kernel_rfl) (by kernel_rfl) (by kernel_rfl) (fun _ _ => by kernel_rfl) ?_
  refine anyR_val (i := 16) (m' := 131071) (v := .bool true) F hQ rfl rfl (by kernel_rfl) (by kernel_rfl) (by kernel_rfl) (by kernel_rfl) (by kernel_rfl) (fun _ _ => by kernel_rfl) ?_
  refine anyR_ldvec (i := 17) (m' := 262143) Ba0.out F hQ rfl rfl (by kernel_rfl) (by kernel_rfl) (by kernel_rfl) (by kernel_rfl) (by kernel_rfl) rfl (by kernel_rfl) ?_
  refine anyR_ldvec (i := 18) (m' := 524287) Bb0.out F hQ rfl rfl (by kernel_rfl) (by kernel_rfl) (by kernel_rfl) (by kernel_rfl) (by kernel_rfl) rfl (by kernel_rfl) ?_
  refine anyR_call (i := 19) (m' := 1048575) rfl rfl (by kernel_rfl) (by kernel_rfl) (by kernel_rfl) (by kernel_rfl) (by kernel_rfl) ((vMatchZ_v true Aa Ab la lb ca cb sa sb _ La.out Lb.out Ca Cb Oa.out Ob.out Ya.out Yb.out HZ.out).mono ?_)
  rintro e w170 ⟨rfl, hb⟩
  refine ⟨_, rfl, hb, ?_⟩
  replace Oa := hide (RQ.below Oa.out hb)
  replace Ob := hide (RQ.below Ob.out hb)
  replace O1 := hide (RQ.below O1.out hb)
  replace Ox := hide (RQ.below Ox.out hb)
  replace Oy := hide (RQ.below Oy.out hb)
  replace Ba := hide (Box.kept Ba.out hb)
  replace Bb := hide (Box.kept Bb.out hb)
  replace B1 := hide (Box.kept B1.out hb)
  replace Bx := hide (Box.kept Bx.out hb)
  replace By := hide (Box.kept By.out hb)
  replace hU := hU.trans (hb.mono hU.size)
  clear hb
  refine anyR_val (i := 20) (m' := 2097151) (v := .bool false) F hQ rfl rfl (by kernel_rfl) (by kernel_rfl) (by kernel_rfl) (by kernel_rfl) (by kernel_rfl) (fun _ _ => by kernel_rfl) ?_
  refine anyR_val (i := 21) (m' := 4194303) (v := .bool false) F hQ rfl rfl (by kernel_rfl) (by kernel_rfl) (by kernel_rfl) (by kernel_rfl) (by kernel_rfl) (fun _ _ => by kernel_rfl) ?_
  refine anyR_val (i := 22) (m' := 8388607) (v := .bool false) F hQ rfl rfl (by kernel_rfl) (by kernel_rfl) (by kernel_rfl) (by kernel_rfl) (by kernel_rfl) (fun _ _ => by kernel_rfl) ?_
  refine anyR_val (i := 23) (m' := 16777215) (v := .bool false) F hQ rfl rfl (by kernel_rfl) (by kernel_rfl) (by kernel_rfl) (by kernel_rfl) (by kernel_rfl) (fun _ _ => by kernel_rfl) ?_
  refine anyR_ldvec (i := 24) (m' := 33554431) Ba0.out F hQ rfl rfl (by kernel_rfl) (by kernel_rfl) (by kernel_rfl) (by kernel_rfl) (by kernel_rfl) rfl (by kernel_rfl) ?_
  refine anyR_ldvec (i := 25) (m' := 67108863) Bb0.out F hQ rfl rfl (by kernel_rfl) (by kernel_rfl) (by kernel_rfl) (by kernel_rfl) (by kernel_rfl) rfl (by kernel_rfl) ?_
  refine anyR_call (i := 26) (m' := 134217727) rfl rfl (by kernel_rfl) (by kernel_rfl) (by kernel_rfl) (by kernel_rfl) (by kernel_rfl) ((vMatchZ_v true Aa Ab la lb ca cb sa sb _ La.out Lb.out Ca Cb Oa.out Ob.out Ya.out Yb.out HZ.out).mono ?_)
  rintro e w171 ⟨rfl, hb⟩
  refine ⟨_, rfl, hb, ?_⟩
  replace Oa := hide (RQ.below Oa.out hb)
  replace Ob := hide (RQ.below Ob.out hb)
  replace O1 := hide (RQ.below O1.out hb)
  replace Ox := hide (RQ.below Ox.out hb)
  replace Oy := hide (RQ.below Oy.out hb)
  replace Ba := hide (Box.kept Ba.out hb)
  replace Bb := hide (Box.kept Bb.out hb)
  replace B1 := hide (Box.kept B1.out hb)
  replace Bx := hide (Box.kept Bx.out hb)
  replace By := hide (Box.kept By.out hb)
  replace hU := hU.trans (hb.mono hU.size)
  clear hb
  refine anyR_val (i := 27) (m' := 268435455) (v := .bool true) F hQ rfl rfl (by kernel_rfl) (by kernel_rfl) (by kernel_rfl) (by kernel_rfl) (by kernel_rfl) (fun _ _ => by kernel_rfl) ?_
  refine anyR_ldvec (i := 28) (m' := 536870911) Ba0.out F hQ rfl rfl (by kernel_rfl) (by kernel_rfl) (by kernel_rfl) (by kernel_rfl) (by kernel_rfl) rfl (by kernel_rfl) ?_
  refine anyR_ldvec (i := 29) (m' := 1073741823) Bb0.out F hQ rfl rfl (by kernel_rfl) (by kernel_rfl) (by kernel_rfl) (by kernel_rfl) (by kernel_rfl) rfl (by kernel_rfl) ?_
  refine anyR_call (i := 30) (m' := 2147483647) rfl rfl (by kernel_rfl) (by kernel_rfl) (by kernel_rfl) (by kernel_rfl) (by kernel_rfl) ((vMatchX_v true Aa Ab la lb ca cb sa sb _ La.out Lb.out Ca Cb Oa.out Ob.out Ya.out Yb.out (mtc_mono (fun _ _ => alX_of_alZ) HZ.out)).mono ?_)
  rintro e w172 ⟨rfl, hb⟩
  refine ⟨_, rfl, hb, ?_⟩
  replace Oa := hide (RQ.below Oa.out hb)
  replace Ob := hide (RQ.below Ob.out hb)
  replace O1 := hide (RQ.below O1.out hb)
  replace Ox := hide (RQ.below Ox.out hb)
  replace Oy := hide (RQ.below Oy.out hb)
  replace Ba := hide (Box.kept Ba.out hb)
  replace Bb := hide (Box.kept Bb.out hb)
  replace B1 := hide (Box.kept B1.out hb)
  replace Bx := hide (Box.kept Bx.out hb)
  replace By := hide (Box.kept By.out hb)
  replace hU := hU.trans (hb.mono hU.size)
  clear hb
  refine anyR_val (i := 31) (m' := 4294967295) (v := .bool false) F hQ rfl rfl (by kernel_rfl) (by kernel_rfl) (by kernel_rfl) (by kernel_rfl) (by kernel_rfl) (fun _ _ => by kernel_rfl) ?_
  refine anyR_val (i := 32) (m' := 8589934591) (v := .bool false) F hQ rfl rfl (by kernel_rfl) (by kernel_rfl) (by kernel_rfl) (by kernel_rfl) (by kernel_rfl) (fun _ _ => by kernel_rfl) ?_
  refine anyR_e ?_
  refine anyR_last (i := 33) (m' := 17179869183) (v := .bool false) rfl rfl (by kernel_rfl) (by kernel_rfl) (by kernel_rfl) (by kernel_rfl) (by kernel_rfl) ?_
  refine anyE_done (by kernel_rfl) ?_
  clear F hQ Ba0 Bb0 B10 Bx0 By0
  refine then_normal ?_
  refine wp_iff (by kernel_rfl) ?_
  refine wp_skip ?_
  refine then_normal ?_
  refine wp_seq ?_
  refine wp_seq ?_
  refine reg_lit ?_
  refine wpl_ldvec Ba.out rfl (by kernel_rfl) rfl (by kernel_rfl) ?_
  refine wpl_call rfl (by kernel_rfl) (by kernel_rfl) ((vKnown_v true Aa la ca sa _ La.out Ca Oa.out Ya.out HKa.out).mono ?_)
  rintro e w173 ⟨rfl, hb⟩
  refine ⟨_, rfl, ?_⟩
  replace Oa := hide (RQ.below Oa.out hb)
  replace Ob := hide (RQ.below Ob.out hb)
  replace O1 := hide (RQ.below O1.out hb)
  replace Ox := hide (RQ.below Ox.out hb)
  replace Oy := hide (RQ.below Oy.out hb)
  replace Ba := hide (Box.kept Ba.out hb)
  replace Bb := hide (Box.kept Bb.out hb)
  replace B1 := hide (Box.kept B1.out hb)
  replace Bx := hide (Box.kept Bx.out hb)
  replace By := hide (Box.kept By.out hb)
  replace hU := hU.trans (hb.mono hU.size)
  clear hb
  refine wpl_r2 [(69, .bool false), (68, .bool false)] (by kernel_rfl) ?_
  refine wpl_ldvec Bb.out rfl (by kernel_rfl) rfl (by kernel_rfl) ?_
  refine wpl_call rfl (by kernel_rfl) (by kernel_rfl) ((vKnown_v false Ab lb cb sb _ Lb.out Cb Ob.out Yb.out HKb.out).mono ?_)
  rintro e w174 ⟨rfl, hb⟩
  refine ⟨_, rfl, ?_⟩
  replace Oa := hide (RQ.below Oa.out hb)
  replace Ob := hide (RQ.below Ob.out hb)
  replace O1 := hide (RQ.below O1.out hb)
  replace Ox := hide (RQ.below Ox.out hb)
  replace Oy := hide (RQ.below Oy.out hb)
  replace Ba := hide (Box.kept Ba.out hb)
  replace Bb := hide (Box.kept Bb.out hb)
  replace B1 := hide (Box.kept B1.out hb)
  replace Bx := hide (Box.kept Bx.out hb)
  replace By := hide (Box.kept By.out hb)
  replace hU := hU.trans (hb.mono hU.size)
  clear hb
  refine wpl_r2 [(73, .bool true), (72, .bool true)] (by kernel_rfl) ?_
  refine wpl_end ?_
  refine then_normal ?_
  refine wp_ift (by kernel_rfl) ?_
  refine wp_seq ?_
  refine reg_lit ?_
  refine wpl_r1 [(4, .bool true)] (by kernel_rfl) ?_
  refine wpl_end ?_
  refine then_normal ?_
  refine wp_ret ?_
  refine (show bodyPost _ _ _ .ret _ _ from ret_sl (.bool true) rfl (by kernel_rfl) ?_)
  exact ⟨rfl, hU⟩
  have HKb := hide hB
  clear hB
  refine region_R (n := 5) (N := 6) (by kernel_rfl) (by kernel_rfl) (by kernel_rfl) (by kernel_rfl) (by kernel_rfl) (by kernel_rfl) (fun _ _ _ _ _ h => h) ?_
  intro F hQ
  have Ba0 := Ba
  have Bb0 := Bb
  have B10 := B1
  have Bx0 := Bx
  have By0 := By
  refine anyR_ldvec (i := 0) (m' := 1) Ba0.out F hQ rfl rfl (by kernel_rfl) (by kernel_rfl) (by kernel_rfl) (by kernel_rfl) (by kernel_rfl) rfl (by kernel_rfl) ?_
  refine anyR_ldvec (i := 1) (m' := 3) Bb0.out F hQ rfl rfl (by kernel_rfl) (by kernel_rfl) (by kernel_rfl) (by kernel_rfl) (by kernel_rfl) rfl (by kernel_rfl) ?_
  refine anyR_ldvec (i := 3) (m' := 11) B10.out F hQ rfl rfl (by kernel_rfl) (by kernel_rfl) (by kernel_rfl) (by kernel_rfl) (by kernel_rfl) rfl (by kernel_rfl) ?_
  refine anyR_call (i := 2) (m' := 15) rfl rfl (by kernel_rfl) (by kernel_rfl) (by kernel_rfl) (by kernel_rfl) (by kernel_rfl) ((vCaseEq_any Aa Ab la lb ca cb sa sb _ La.out Lb.out Ca Cb (by exact Oa.out) (by exact Ob.out) Ya.out Yb.out).mono ?_)
  rintro e w175 ⟨le, se, Ae, ce, Ee, rfl, Ce, Oe, hb⟩
  refine ⟨_, rfl, hb, ?_⟩
  replace hb : Below w110.heap.size w110 w175 := Below.trans ((Below.refl _ _).drew) hb
  replace Oa := hide (RQ.below Oa.out hb)
  replace Ob := hide (RQ.below Ob.out hb)
  replace O1 := hide (RQ.below O1.out hb)
  replace Ox := hide (RQ.below Ox.out hb)
  replace Oy := hide (RQ.below Oy.out hb)
  replace Ba := hide (Box.kept Ba.out hb)
  replace Bb := hide (Box.kept Bb.out hb)
  replace B1 := hide (Box.kept B1.out hb)
  replace Bx := hide (Box.kept Bx.out hb)
  replace By := hide (Box.kept By.out hb)
  replace Oe := hide Oe.out.rd
  replace hU := hU.trans (hb.mono hU.size)
  clear hb
  have Ge : Gd le := by have h := congrArg Vc.b Ee.out; dsimp only at h; rw [h]; exact (gdx_sgl (by cases mtc mSame ⟨la, sa⟩ ⟨lb, sb⟩ <;> decide))
  have Le := hide (show le.length ≤ 4096 from Nat.le_trans Ge.le (by decide))
  have Ye := hide Ge.by_
  clear Ge
  refine anyR_call (i := 4) (m' := 31) rfl rfl (by kernel_rfl) (by kernel_rfl) (by kernel_rfl) (by kernel_rfl) (by kernel_rfl) ((rsame_yes Ae A1 le l1 ce c1 se s1 _ Le.out L1.out Oe.out O1.out (by rw [Ee.out, E1.out, of_one]; (try unfold vCase); rw [HM.out]; rfl)).mono ?_)
  rintro e w176 ⟨rfl, hb⟩
  refine ⟨_, rfl, hb, ?_⟩
  replace Oa := hide (RQ.below Oa.out hb)
  replace Ob := hide (RQ.below Ob.out hb)
  replace O1 := hide (RQ.below O1.out hb)
  replace Ox := hide (RQ.below Ox.out hb)
  replace Oy := hide (RQ.below Oy.out hb)
  replace Oe := hide (RQ.below Oe.out hb)
  replace Ba := hide (Box.kept Ba.out hb)
  replace Bb := hide (Box.kept Bb.out hb)
  replace B1 := hide (Box.kept B1.out hb)
  replace Bx := hide (Box.kept Bx.out hb)
  replace By := hide (Box.kept By.out hb)
  replace hU := hU.trans (hb.mono hU.size)
  clear hb
  clear Oe Ce Le Ye
  refine anyR_e ?_
  refine anyR_last (i := 5) (m' := 63) (v := .bool true) rfl rfl (by kernel_rfl) (by kernel_rfl) (by kernel_rfl) (by kernel_rfl) (by kernel_rfl) ?_
  refine anyE_done (by kernel_rfl) ?_
  clear F hQ Ba0 Bb0 B10 Bx0 By0
  refine then_normal ?_
  refine wp_seq ?_
  refine wp_seq ?_
  refine region_R (n := 33) (N := 34) (by kernel_rfl) (by kernel_rfl) (by kernel_rfl) (by kernel_rfl) (by kernel_rfl) (by kernel_rfl) (fun _ _ _ _ _ h => h) ?_
  intro F hQ
  have Ba0 := Ba
  have Bb0 := Bb
  have B10 := B1
  have Bx0 := Bx
  have By0 := By
  refine anyR_val (i := 0) (m' := 1) (v := .bool true) F hQ rfl rfl (by kernel_rfl) (by kernel_rfl) (by kernel_rfl) (by kernel_rfl) (by kernel_rfl) (fun _ _ => by kernel_rfl) ?_
  refine anyR_ldvec (i := 1) (m' := 3) Bx0.out F hQ rfl rfl (by kernel_rfl) (by kernel_rfl) (by kernel_rfl) (by kernel_rfl) (by kernel_rfl) rfl (by kernel_rfl) ?_
  refine anyR_ldvec (i := 2) (m' := 7) By0.out F hQ rfl rfl (by kernel_rfl) (by kernel_rfl) (by kernel_rfl) (by kernel_rfl) (by kernel_rfl) rfl (by kernel_rfl) ?_
  refine anyR_call (i := 3) (m' := 15) rfl rfl (by kernel_rfl) (by kernel_rfl) (by kernel_rfl) (by kernel_rfl) (by kernel_rfl) ((rsame_yes Ax Ay lx ly cx cy sx sy _ Lx.out Ly.out (by exact Ox.out) (by exact Oy.out) (by rw [Ex.out, Ey.out, (mtc_same Ya.out Yb.out).1 HM.out])).mono ?_)
  rintro e w177 ⟨rfl, hb⟩
  refine ⟨_, rfl, hb, ?_⟩
  replace hb : Below w176.heap.size w176 w177 := Below.trans ((Below.refl _ _).drew) hb
  replace Oa := hide (RQ.below Oa.out hb)
  replace Ob := hide (RQ.below Ob.out hb)
  replace O1 := hide (RQ.below O1.out hb)
  replace Ox := hide (RQ.below Ox.out hb)
  replace Oy := hide (RQ.below Oy.out hb)
  replace Ba := hide (Box.kept Ba.out hb)
  replace Bb := hide (Box.kept Bb.out hb)
  replace B1 := hide (Box.kept B1.out hb)
  replace Bx := hide (Box.kept Bx.out hb)
  replace By := hide (Box.kept By.out hb)
  replace hU := hU.trans (hb.mono hU.size)
  clear hb
  refine anyR_val (i := 4) (m' := 31) (v := .bool false) F hQ rfl rfl (by kernel_rfl) (by kernel_rfl) (by kernel_rfl) (by kernel_rfl) (by kernel_rfl) (fun _ _ => by kernel_rfl) ?_
  refine anyR_val (i := 5) (m' := 63) (v := .bool false) F hQ rfl rfl (by kernel_rfl) (by kernel_rfl) (by kernel_rfl) (by kernel_rfl) (by kernel_rfl) (fun _ _ => by kernel_rfl) ?_
  refine anyR_ldvec (i := 6) (m' := 127) Ba0.out F hQ rfl rfl (by kernel_rfl) (by kernel_rfl) (by kernel_rfl) (by kernel_rfl) (by kernel_rfl) rfl (by kernel_rfl) ?_
  refine anyR_ldvec (i := 7) (m' := 255) Bb0.out F hQ rfl rfl (by kernel_rfl) (by kernel_rfl) (by kernel_rfl) (by kernel_rfl) (by kernel_rfl) rfl (by kernel_rfl) ?_
  refine anyR_ldvec (i := 9) (m' := 767) B10.out F hQ rfl rfl (by kernel_rfl) (by kernel_rfl) (by kernel_rfl) (by kernel_rfl) (by kernel_rfl) rfl (by kernel_rfl) ?_
  refine anyR_val (i := 11) (m' := 2815) (v := .bool true) F hQ rfl rfl (by kernel_rfl) (by kernel_rfl) (by kernel_rfl) (by kernel_rfl) (by kernel_rfl) (fun _ _ => by kernel_rfl) ?_
  refine anyR_call (i := 8) (m' := 3071) rfl rfl (by kernel_rfl) (by kernel_rfl) (by kernel_rfl) (by kernel_rfl) (by kernel_rfl) ((vCaseNe_any Aa Ab la lb ca cb sa sb _ La.out Lb.out Ca Cb Oa.out Ob.out Ya.out Yb.out (HT.out.kept hU)).mono ?_)
  rintro e w178 ⟨ln, sn, An, cn, En, rfl, Cn, On, hb⟩
  refine ⟨_, rfl, hb, ?_⟩
  replace Oa := hide (RQ.below Oa.out hb)
  replace Ob := hide (RQ.below Ob.out hb)
  replace O1 := hide (RQ.below O1.out hb)
  replace Ox := hide (RQ.below Ox.out hb)
  replace Oy := hide (RQ.below Oy.out hb)
  replace Ba := hide (Box.kept Ba.out hb)
  replace Bb := hide (Box.kept Bb.out hb)
  replace B1 := hide (Box.kept B1.out hb)
  replace Bx := hide (Box.kept Bx.out hb)
  replace By := hide (Box.kept By.out hb)
  replace On := hide On.out.rd
  replace hU := hU.trans (hb.mono hU.size)
  clear hb
  have Gn : Gd ln := by have h := congrArg Vc.b En.out; dsimp only at h; rw [h]; exact (gdx_sgl (by cases mtc mSame ⟨la, sa⟩ ⟨lb, sb⟩ <;> decide))
  have Ln := hide (show ln.length ≤ 4096 from Nat.le_trans Gn.le (by decide))
  have Yn := hide Gn.by_
  clear Gn
  refine anyR_call (i := 10) (m' := 4095) rfl rfl (by kernel_rfl) (by kernel_rfl) (by kernel_rfl) (by kernel_rfl) (by kernel_rfl) ((rsame_not An A1 ln l1 cn c1 sn s1 _ Ln.out L1.out On.out O1.out (by rw [En.out, E1.out, of_one]; (try unfold vCase); rw [HM.out]; exact fun h => absurd (sgl_inj.1 h) (by decide))).mono ?_)
  rintro e w179 ⟨rfl, hb⟩
  refine ⟨_, rfl, hb, ?_⟩
  replace Oa := hide (RQ.below Oa.out hb)
  replace Ob := hide (RQ.below Ob.out hb)
  replace O1 := hide (RQ.below O1.out hb)
  replace Ox := hide (RQ.below Ox.out hb)
  replace Oy := hide (RQ.below Oy.out hb)
  replace On := hide (RQ.below On.out hb)
  replace Ba := hide (Box.kept Ba.out hb)
  replace Bb := hide (Box.kept Bb.out hb)
  replace B1 := hide (Box.kept B1.out hb)
  replace Bx := hide (Box.kept Bx.out hb)
  replace By := hide (Box.kept By.out hb)
  replace hU := hU.trans (hb.mono hU.size)
  clear hb
  clear On Cn Ln Yn
  refine anyR_val (i := 12) (m' := 8191) (v := .bool false) F hQ rfl rfl (by kernel_rfl) (by kernel_rfl) (by kernel_rfl) (by kernel_rfl) (by kernel_rfl) (fun _ _ => by kernel_rfl) ?_
  refine anyR_val (i := 13) (m' := 16383) (v := .bool false) F hQ rfl rfl (by kernel_rfl) (by kernel_rfl) (by kernel_rfl) (by kernel_rfl) (by kernel_rfl) (fun _ _ => by kernel_rfl) ?_
  refine anyR_val (i := 14) (m' := 32767) (v := .bool false) F hQ rfl rfl (by kernel_rfl) (by kernel_rfl) (by kernel_rfl) (by kernel_rfl) (by kernel_rfl) (fun _ _ => by kernel_rfl) ?_
  refine anyR_val (i := 15) (m' := 65535) (v := .bool true) F hQ rfl rfl (by kernel_rfl) (by kernel_rfl) (by kernel_rfl) (by kernel_rfl) (by kernel_rfl) (fun _ _ => by kernel_rfl) ?_
  refine anyR_val (i := 16) (m' := 131071) (v := .bool true) F hQ rfl rfl (by kernel_rfl) (by kernel_rfl) (by kernel_rfl) (by kernel_rfl) (by kernel_rfl) (fun _ _ => by kernel_rfl) ?_
  refine anyR_ldvec (i := 17) (m' := 262143) Ba0.out F hQ rfl rfl (by kernel_rfl) (by kernel_rfl) (by kernel_rfl) (by kernel_rfl) (by kernel_rfl) rfl (by kernel_rfl) ?_
  refine anyR_ldvec (i := 18) (m' := 524287) Bb0.out F hQ rfl rfl (by kernel_rfl) (by kernel_rfl) (by kernel_rfl) (by kernel_rfl) (by kernel_rfl) rfl (by kernel_rfl) ?_
  refine anyR_call (i := 19) (m' := 1048575) rfl rfl (by kernel_rfl) (by kernel_rfl) (by kernel_rfl) (by kernel_rfl) (by kernel_rfl) ((vMatchZ_v true Aa Ab la lb ca cb sa sb _ La.out Lb.out Ca Cb Oa.out Ob.out Ya.out Yb.out HZ.out).mono ?_)
  rintro e w180 ⟨rfl, hb⟩
  refine ⟨_, rfl, hb, ?_⟩
  replace Oa := hide (RQ.below Oa.out hb)
  replace Ob := hide (RQ.below Ob.out hb)
  replace O1 := hide (RQ.below O1.out hb)
  replace Ox := hide (RQ.below Ox.out hb)
  replace Oy := hide (RQ.below Oy.out hb)
  replace Ba := hide (Box.kept Ba.out hb)
  replace Bb := hide (Box.kept Bb.out hb)
  replace B1 := hide (Box.kept B1.out hb)
  replace Bx := hide (Box.kept Bx.out hb)
  replace By := hide (Box.kept By.out hb)
  replace hU := hU.trans (hb.mono hU.size)
  clear hb
  refine anyR_val (i := 20) (m' := 2097151) (v := .bool false) F hQ rfl rfl (by kernel_rfl) (by kernel_rfl) (by kernel_rfl) (by kernel_rfl) (by kernel_rfl) (fun _ _ => by kernel_rfl) ?_
  refine anyR_val (i := 21) (m' := 4194303) (v := .bool false) F hQ rfl rfl (by kernel_rfl) (by kernel_rfl) (by kernel_rfl) (by kernel_rfl) (by kernel_rfl) (fun _ _ => by kernel_rfl) ?_
  refine anyR_val (i := 22) (m' := 8388607) (v := .bool false) F hQ rfl rfl (by kernel_rfl) (by kernel_rfl) (by kernel_rfl) (by kernel_rfl) (by kernel_rfl) (fun _ _ => by kernel_rfl) ?_
  refine anyR_val (i := 23) (m' := 16777215) (v := .bool false) F hQ rfl rfl (by kernel_rfl) (by kernel_rfl) (by kernel_rfl) (by kernel_rfl) (by kernel_rfl) (fun _ _ => by kernel_rfl) ?_
  refine anyR_ldvec (i := 24) (m' := 33554431) Ba0.out F hQ rfl rfl (by kernel_rfl) (by kernel_rfl) (by kernel_rfl) (by kernel_rfl) (by kernel_rfl) rfl (by kernel_rfl) ?_
  refine anyR_ldvec (i := 25) (m' := 67108863) Bb0.out F hQ rfl rfl (by kernel_rfl) (by kernel_rfl) (by kernel_rfl) (by kernel_rfl) (by kernel_rfl) rfl (by kernel_rfl) ?_
  refine anyR_call (i := 26) (m' := 134217727) rfl rfl (by kernel_rfl) (by kernel_rfl) (by kernel_rfl) (by kernel_rfl) (by kernel_rfl) ((vMatchZ_v true Aa Ab la lb ca cb sa sb _ La.out Lb.out Ca Cb Oa.out Ob.out Ya.out Yb.out HZ.out).mono ?_)
  rintro e w181 ⟨rfl, hb⟩
  refine ⟨_, rfl, hb, ?_⟩
  replace Oa := hide (RQ.below Oa.out hb)
  replace Ob := hide (RQ.below Ob.out hb)
  replace O1 := hide (RQ.below O1.out hb)
  replace Ox := hide (RQ.below Ox.out hb)
  replace Oy := hide (RQ.below Oy.out hb)
  replace Ba := hide (Box.kept Ba.out hb)
  replace Bb := hide (Box.kept Bb.out hb)
  replace B1 := hide (Box.kept B1.out hb)
  replace Bx := hide (Box.kept Bx.out hb)
  replace By := hide (Box.kept By.out hb)
  replace hU := hU.trans (hb.mono hU.size)
  clear hb
  refine anyR_val (i := 27) (m' := 268435455) (v := .bool true) F hQ rfl rfl (by kernel_rfl) (by kernel_rfl) (by kernel_rfl) (by kernel_rfl) (by kernel_rfl) (fun _ _ => by kernel_rfl) ?_
  refine anyR_ldvec (i := 28) (m' := 536870911) Ba0.out F hQ rfl rfl (by kernel_rfl) (by kernel_rfl) (by kernel_rfl) (by kernel_rfl) (by kernel_rfl) rfl (by kernel_rfl) ?_
  refine anyR_ldvec (i := 29) (m' := 1073741823) Bb0.out F hQ rfl rfl (by kernel_rfl) (by kernel_rfl) (by kernel_rfl) (by kernel_rfl) (by kernel_rfl) rfl (by kernel_rfl) ?_
  refine anyR_call (i := 30) (m' := 2147483647) rfl rfl (by kernel_rfl) (by kernel_rfl) (by kernel_rfl) (by kernel_rfl) (by kernel_rfl) ((vMatchX_v true Aa Ab la lb ca cb sa sb _ La.out Lb.out Ca Cb Oa.out Ob.out Ya.out Yb.out (mtc_mono (fun _ _ => alX_of_alZ) HZ.out)).mono ?_)
  rintro e w182 ⟨rfl, hb⟩
  refine ⟨_, rfl, hb, ?_⟩
  replace Oa := hide (RQ.below Oa.out hb)
  replace Ob := hide (RQ.below Ob.out hb)
  replace O1 := hide (RQ.below O1.out hb)
  replace Ox := hide (RQ.below Ox.out hb)
  replace Oy := hide (RQ.below Oy.out hb)
  replace Ba := hide (Box.kept Ba.out hb)
  replace Bb := hide (Box.kept Bb.out hb)
  replace B1 := hide (Box.kept B1.out hb)
  replace Bx := hide (Box.kept Bx.out hb)
  replace By := hide (Box.kept By.out hb)
  replace hU := hU.trans (hb.mono hU.size)
  clear hb
  refine anyR_val (i := 31) (m' := 4294967295) (v := .bool false) F hQ rfl rfl (by kernel_rfl) (by kernel_rfl) (by kernel_rfl) (by kernel_rfl) (by kernel_rfl) (fun _ _ => by kernel_rfl) ?_
  refine anyR_val (i := 32) (m' := 8589934591) (v := .bool false) F hQ rfl rfl (by kernel_rfl) (by kernel_rfl) (by kernel_rfl) (by kernel_rfl) (by kernel_rfl) (fun _ _ => by kernel_rfl) ?_
  refine anyR_e ?_
  refine anyR_last (i := 33) (m' := 17179869183) (v := .bool false) rfl rfl (by kernel_rfl) (by kernel_rfl) (by kernel_rfl) (by kernel_rfl) (by kernel_rfl) ?_
  refine anyE_done (by kernel_rfl) ?_
  clear F hQ Ba0 Bb0 B10 Bx0 By0
  refine then_normal ?_
  refine wp_iff (by kernel_rfl) ?_
  refine wp_skip ?_
  refine then_normal ?_
  refine wp_seq ?_
  refine wp_seq ?_
  refine reg_lit ?_
  refine wpl_ldvec Ba.out rfl (by kernel_rfl) rfl (by kernel_rfl) ?_
  refine wpl_call rfl (by kernel_rfl) (by kernel_rfl) ((vKnown_v true Aa la ca sa _ La.out Ca Oa.out Ya.out HKa.out).mono ?_)
  rintro e w183 ⟨rfl, hb⟩
  refine ⟨_, rfl, ?_⟩
  replace Oa := hide (RQ.below Oa.out hb)
  replace Ob := hide (RQ.below Ob.out hb)
  replace O1 := hide (RQ.below O1.out hb)
  replace Ox := hide (RQ.below Ox.out hb)
  replace Oy := hide (RQ.below Oy.out hb)
  replace Ba := hide (Box.kept Ba.out hb)
  replace Bb := hide (Box.kept Bb.out hb)
  replace B1 := hide (Box.kept B1.out hb)
  replace Bx := hide (Box.kept Bx.out hb)
  replace By := hide (Box.kept By.out hb)
  replace hU := hU.trans (hb.mono hU.size)
  clear hb
  refine wpl_r2 [(69, .bool false), (68, .bool false)] (by kernel_rfl) ?_
  refine wpl_ldvec Bb.out rfl (by kernel_rfl) rfl (by kernel_rfl) ?_
  refine wpl_call rfl (by kernel_rfl) (by kernel_rfl) ((vKnown_v true Ab lb cb sb _ Lb.out Cb Ob.out Yb.out HKb.out).mono ?_)
  rintro e w184 ⟨rfl, hb⟩
  refine ⟨_, rfl, ?_⟩
  replace Oa := hide (RQ.below Oa.out hb)
  replace Ob := hide (RQ.below Ob.out hb)
  replace O1 := hide (RQ.below O1.out hb)
  replace Ox := hide (RQ.below Ox.out hb)
  replace Oy := hide (RQ.below Oy.out hb)
  replace Ba := hide (Box.kept Ba.out hb)
  replace Bb := hide (Box.kept Bb.out hb)
  replace B1 := hide (Box.kept B1.out hb)
  replace Bx := hide (Box.kept Bx.out hb)
  replace By := hide (Box.kept By.out hb)
  replace hU := hU.trans (hb.mono hU.size)
  clear hb
  refine wpl_r2 [(73, .bool false), (72, .bool false)] (by kernel_rfl) ?_
  refine wpl_end ?_
  refine then_normal ?_
  refine wp_iff (by kernel_rfl) ?_
  refine wp_skip ?_
  refine then_normal ?_
  refine wp_seq ?_
  refine region_R (n := 20) (N := 21) (by kernel_rfl) (by kernel_rfl) (by kernel_rfl) (by kernel_rfl) (by kernel_rfl) (by kernel_rfl) (fun _ _ _ _ _ h => h) ?_
  intro F hQ
  have Ba0 := Ba
  have Bb0 := Bb
  have B10 := B1
  have Bx0 := Bx
  have By0 := By
  refine anyR_ldvec (i := 0) (m' := 1) Ba0.out F hQ rfl rfl (by kernel_rfl) (by kernel_rfl) (by kernel_rfl) (by kernel_rfl) (by kernel_rfl) rfl (by kernel_rfl) ?_
  refine anyR_ldvec (i := 1) (m' := 3) Bb0.out F hQ rfl rfl (by kernel_rfl) (by kernel_rfl) (by kernel_rfl) (by kernel_rfl) (by kernel_rfl) rfl (by kernel_rfl) ?_
  refine anyR_val (i := 3) (m' := 11) (v := .bool true) F hQ rfl rfl (by kernel_rfl) (by kernel_rfl) (by kernel_rfl) (by kernel_rfl) (by kernel_rfl) (fun _ _ => by kernel_rfl) ?_
  refine anyR_call (i := 2) (m' := 15) rfl rfl (by kernel_rfl) (by kernel_rfl) (by kernel_rfl) (by kernel_rfl) (by kernel_rfl) ((vMatchX_v true Aa Ab la lb ca cb sa sb _ La.out Lb.out Ca Cb (by exact Oa.out) (by exact Ob.out) Ya.out Yb.out ((mtc_X Ya.out Yb.out HKa.out HKb.out).trans HM.out)).mono ?_)
  rintro e w185 ⟨rfl, hb⟩
  refine ⟨_, rfl, hb, ?_⟩
  replace hb : Below w184.heap.size w184 w185 := Below.trans ((Below.refl _ _).drew) hb
  replace Oa := hide (RQ.below Oa.out hb)
  replace Ob := hide (RQ.below Ob.out hb)
  replace O1 := hide (RQ.below O1.out hb)
  replace Ox := hide (RQ.below Ox.out hb)
  replace Oy := hide (RQ.below Oy.out hb)
  replace Ba := hide (Box.kept Ba.out hb)
  replace Bb := hide (Box.kept Bb.out hb)
  replace B1 := hide (Box.kept B1.out hb)
  replace Bx := hide (Box.kept Bx.out hb)
  replace By := hide (Box.kept By.out hb)
  replace hU := hU.trans (hb.mono hU.size)
  clear hb
  refine anyR_val (i := 4) (m' := 31) (v := .bool true) F hQ rfl rfl (by kernel_rfl) (by kernel_rfl) (by kernel_rfl) (by kernel_rfl) (by kernel_rfl) (fun _ _ => by kernel_rfl) ?_
  refine anyR_val (i := 5) (m' := 63) (v := .bool true) F hQ rfl rfl (by kernel_rfl) (by kernel_rfl) (by kernel_rfl) (by kernel_rfl) (by kernel_rfl) (fun _ _ => by kernel_rfl) ?_
  refine anyR_ldvec (i := 6) (m' := 127) Ba0.out F hQ rfl rfl (by kernel_rfl) (by kernel_rfl) (by kernel_rfl) (by kernel_rfl) (by kernel_rfl) rfl (by kernel_rfl) ?_
  refine anyR_ldvec (i := 7) (m' := 255) Bb0.out F hQ rfl rfl (by kernel_rfl) (by kernel_rfl) (by kernel_rfl) (by kernel_rfl) (by kernel_rfl) rfl (by kernel_rfl) ?_
  refine anyR_ldvec (i := 9) (m' := 767) B10.out F hQ rfl rfl (by kernel_rfl) (by kernel_rfl) (by kernel_rfl) (by kernel_rfl) (by kernel_rfl) rfl (by kernel_rfl) ?_
  refine anyR_val (i := 11) (m' := 2815) (v := .bool true) F hQ rfl rfl (by kernel_rfl) (by kernel_rfl) (by kernel_rfl) (by kernel_rfl) (by kernel_rfl) (fun _ _ => by kernel_rfl) ?_
  refine anyR_call (i := 8) (m' := 3071) rfl rfl (by kernel_rfl) (by kernel_rfl) (by kernel_rfl) (by kernel_rfl) (by kernel_rfl) ((vEq_any Aa Ab la lb ca cb sa sb _ La.out Lb.out Ca Cb Oa.out Ob.out Ya.out Yb.out (HT.out.kept hU)).mono ?_)
  rintro e w186 ⟨lq, sq, Aq, cq, Eq, rfl, Cq, Oq, hb⟩
  refine ⟨_, rfl, hb, ?_⟩
  replace Oa := hide (RQ.below Oa.out hb)
  replace Ob := hide (RQ.below Ob.out hb)
  replace O1 := hide (RQ.below O1.out hb)
  replace Ox := hide (RQ.below Ox.out hb)
  replace Oy := hide (RQ.below Oy.out hb)
  replace Ba := hide (Box.kept Ba.out hb)
  replace Bb := hide (Box.kept Bb.out hb)
  replace B1 := hide (Box.kept B1.out hb)
  replace Bx := hide (Box.kept Bx.out hb)
  replace By := hide (Box.kept By.out hb)
  replace Oq := hide Oq.out.rd
  replace hU := hU.trans (hb.mono hU.size)
  clear hb
  have Gq : Gd lq := by have h := congrArg Vc.b Eq.out; dsimp only at h; rw [h]; exact (gdx_sgl (by rcases (vEq_known Ya.out Yb.out HKa.out HKb.out).1 with h | h <;> rw [h] <;> decide))
  have Lq := hide (show lq.length ≤ 4096 from Nat.le_trans Gq.le (by decide))
  have Yq := hide Gq.by_
  clear Gq
  refine anyR_call (i := 10) (m' := 4095) rfl rfl (by kernel_rfl) (by kernel_rfl) (by kernel_rfl) (by kernel_rfl) (by kernel_rfl) ((rsame_yes Aq A1 lq l1 cq c1 sq s1 _ Lq.out L1.out Oq.out O1.out (by rw [Eq.out, E1.out, of_one]; exact congrArg sgl ((vEq_known Ya.out Yb.out HKa.out HKb.out).2.2 ((mtc_same Ya.out Yb.out).1 HM.out)))).mono ?_)
  rintro e w187 ⟨rfl, hb⟩
  refine ⟨_, rfl, hb, ?_⟩
  replace Oa := hide (RQ.below Oa.out hb)
  replace Ob := hide (RQ.below Ob.out hb)
  replace O1 := hide (RQ.below O1.out hb)
  replace Ox := hide (RQ.below Ox.out hb)
  replace Oy := hide (RQ.below Oy.out hb)
  replace Oq := hide (RQ.below Oq.out hb)
  replace Ba := hide (Box.kept Ba.out hb)
  replace Bb := hide (Box.kept Bb.out hb)
  replace B1 := hide (Box.kept B1.out hb)
  replace Bx := hide (Box.kept Bx.out hb)
  replace By := hide (Box.kept By.out hb)
  replace hU := hU.trans (hb.mono hU.size)
  clear hb
  clear Oq Cq Lq Yq
  refine anyR_val (i := 12) (m' := 8191) (v := .bool true) F hQ rfl rfl (by kernel_rfl) (by kernel_rfl) (by kernel_rfl) (by kernel_rfl) (by kernel_rfl) (fun _ _ => by kernel_rfl) ?_
  refine anyR_val (i := 13) (m' := 16383) (v := .bool true) F hQ rfl rfl (by kernel_rfl) (by kernel_rfl) (by kernel_rfl) (by kernel_rfl) (by kernel_rfl) (fun _ _ => by kernel_rfl) ?_
  refine anyR_val (i := 14) (m' := 32767) (v := .bool true) F hQ rfl rfl (by kernel_rfl) (by kernel_rfl) (by kernel_rfl) (by kernel_rfl) (by kernel_rfl) (fun _ _ => by kernel_rfl) ?_
  refine anyR_ldvec (i := 15) (m' := 65535) Ba0.out F hQ rfl rfl (by kernel_rfl) (by kernel_rfl) (by kernel_rfl) (by kernel_rfl) (by kernel_rfl) rfl (by kernel_rfl) ?_
  refine anyR_ldvec (i := 16) (m' := 131071) Bb0.out F hQ rfl rfl (by kernel_rfl) (by kernel_rfl) (by kernel_rfl) (by kernel_rfl) (by kernel_rfl) rfl (by kernel_rfl) ?_
  refine anyR_call (i := 17) (m' := 262143) rfl rfl (by kernel_rfl) (by kernel_rfl) (by kernel_rfl) (by kernel_rfl) (by kernel_rfl) ((vEq_any Aa Ab la lb ca cb sa sb _ La.out Lb.out Ca Cb Oa.out Ob.out Ya.out Yb.out (HT.out.kept hU)).mono ?_)
  rintro e w188 ⟨lq, sq, Aq, cq, Eq, rfl, Cq, Oq, hb⟩
  refine ⟨_, rfl, hb, ?_⟩
  replace Oa := hide (RQ.below Oa.out hb)
  replace Ob := hide (RQ.below Ob.out hb)
  replace O1 := hide (RQ.below O1.out hb)
  replace Ox := hide (RQ.below Ox.out hb)
  replace Oy := hide (RQ.below Oy.out hb)
  replace Ba := hide (Box.kept Ba.out hb)
  replace Bb := hide (Box.kept Bb.out hb)
  replace B1 := hide (Box.kept B1.out hb)
  replace Bx := hide (Box.kept Bx.out hb)
  replace By := hide (Box.kept By.out hb)
  replace Oq := hide Oq.out.rd
  replace hU := hU.trans (hb.mono hU.size)
  clear hb
  have Gq : Gd lq := by have h := congrArg Vc.b Eq.out; dsimp only at h; rw [h]; exact (gdx_sgl (by rcases (vEq_known Ya.out Yb.out HKa.out HKb.out).1 with h | h <;> rw [h] <;> decide))
  have Lq := hide (show lq.length ≤ 4096 from Nat.le_trans Gq.le (by decide))
  have Yq := hide Gq.by_
  clear Gq
  refine anyR_call (i := 18) (m' := 524287) rfl rfl (by kernel_rfl) (by kernel_rfl) (by kernel_rfl) (by kernel_rfl) (by kernel_rfl) ((vKnown_v true Aq lq cq sq _ Lq.out Cq Oq.out Yq.out (by rw [Eq.out, cnt_of_gd (v := vEq ⟨la, sa⟩ ⟨lb, sb⟩) (gdx_sgl (by rcases (vEq_known Ya.out Yb.out HKa.out HKb.out).1 with h | h <;> rw [h] <;> decide))]; show kn [_] = true; rcases (vEq_known Ya.out Yb.out HKa.out HKb.out).1 with h | h <;> rw [h] <;> decide)).mono ?_)
  rintro e w189 ⟨rfl, hb⟩
  refine ⟨_, rfl, hb, ?_⟩
  replace Oa := hide (RQ.below Oa.out hb)
  replace Ob := hide (RQ.below Ob.out hb)
  replace O1 := hide (RQ.below O1.out hb)
  replace Ox := hide (RQ.below Ox.out hb)
  replace Oy := hide (RQ.below Oy.out hb)
  replace Oq := hide (RQ.below Oq.out hb)
  replace Ba := hide (Box.kept Ba.out hb)
  replace Bb := hide (Box.kept Bb.out hb)
  replace B1 := hide (Box.kept B1.out hb)
  replace Bx := hide (Box.kept Bx.out hb)
  replace By := hide (Box.kept By.out hb)
  replace hU := hU.trans (hb.mono hU.size)
  clear hb
  refine anyR_val (i := 19) (m' := 1048575) (v := .bool true) F hQ rfl rfl (by kernel_rfl) (by kernel_rfl) (by kernel_rfl) (by kernel_rfl) (by kernel_rfl) (fun _ _ => by kernel_rfl) ?_
  refine anyR_e ?_
  refine anyR_last (i := 20) (m' := 2097151) (v := .bool true) rfl rfl (by kernel_rfl) (by kernel_rfl) (by kernel_rfl) (by kernel_rfl) (by kernel_rfl) ?_
  refine anyE_done (by kernel_rfl) ?_
  clear F hQ Ba0 Bb0 B10 Bx0 By0
  refine then_normal ?_
  refine wp_ret ?_
  refine (show bodyPost _ _ _ .ret _ _ from ret_sl (.bool true) rfl (by kernel_rfl) ?_)
  exact ⟨rfl, hU⟩
theorem VecCases_walk (Aa : Option Addr) (la : List Int) (ca : Nat) (sa : Bool) (Ab : Option Addr) (lb : List Int) (cb : Nat) (sb : Bool) (w : World) (ma : la.length ≤ maxLen) (ra : RQ w Aa la) (ya : By la) (pa : Hid (la.length ≤ ca ∧ ca ≤ maxLen)) (mb : lb.length ≤ maxLen) (rb : RQ w Ab lb) (yb : By lb) (pb : Hid (lb.length ≤ cb ∧ cb ≤ maxLen)) (tn : Tab1 4 mNot w) (tb : Tab1 2 mBuf w) (ta : Tab2 1 mAnd w) (tO : Tab2 3 mOr w) (tx : Tab2 5 mXor w) (tg : Tab2 0 mAgree w) : Calls Tryd.prog 4 #[.agg #[.slice Aa la.length ca, .bool sa], .agg #[.slice Ab lb.length cb, .bool sb]] w (Mk (.bool true) w) := by
  by_cases hl : la.length ≤ 140 ∧ lb.length ≤ 140
  · exact VecCases_short Aa la ca sa Ab lb cb sb w ma ra ya pa mb rb yb pb tn tb ta tO tx tg (hide fun i h => by
      rcases i with _ | _ | i
      · exact hl.1
      · exact hl.2
      · omega)
  · exact VecCases_long Aa la ca sa Ab lb cb sb w ma ra ya pa mb rb yb pb tn tb ta tO tx tg (hide (by
      rcases Nat.lt_or_ge 140 la.length with h | h
      · exact ⟨0, by decide, h⟩
      · exact ⟨1, by decide, by show 140 < lb.length; omega⟩))
end
end Go.Proofs.YtkfifkijcknikaaDoor
