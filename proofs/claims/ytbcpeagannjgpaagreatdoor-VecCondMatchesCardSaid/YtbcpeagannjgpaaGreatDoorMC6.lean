/-
  Texts of MC joined (VecCM, QT, VecXX, Post).
-/
import Derived.Test.YtbcpeagannjgpaaGreatDoorRows
import Derived.Test.YtbcpeagannjgpaaGreatDoorTie
import Derived.ProofKit
import Derived.LaidMore
import Derived.OpenShut
import Derived.Stop.Joined
import Derived.Stop.LaidErr
import Derived.Lib.LaidTab
import Derived.Deep.Slices
import Derived.Deep.Fields
import Derived.Lib.SmallJoins
import Derived.ChangeSame
import Derived.ChangeSlices
import Derived.Carry
import Derived.WideKeyArgs
import Derived.Test.YtbcpeagannjgpaaGreatDoorMC5
set_option linter.unusedVariables false
set_option linter.unusedSimpArgs false
set_option linter.unusedSectionVars false
namespace Go.Proofs.YtbcpeagannjgpaaGreatDoor
section
open Go.RowKit
set_option maxRecDepth 100000
set_option linter.unusedSimpArgs false
set_option linter.unusedVariables false
theorem gd_cond {c a b : Vc} (ya : By a.b) (yb : By b.b) : Gd (vCond c a b).b := by
  unfold vCond
  split
  · exact gd_blA ya yb
  · split
    · exact gd_blB ya yb
    · exact gd_btw opF_mux ya yb
set_option maxHeartbeats 8000000 in
theorem VecCondMatches_long (Az : Option Addr) (lz : List Int) (cz : Nat) (sz : Bool) (Aa : Option Addr) (la : List Int) (ca : Nat) (sa : Bool) (Ab : Option Addr) (lb : List Int) (cb : Nat) (sb : Bool) (w : World) (mz : lz.length ≤ maxLen) (rz : RQ w Az lz) (yz : By lz) (pz : Hid (lz.length ≤ cz ∧ cz ≤ maxLen)) (ma : la.length ≤ maxLen) (ra : RQ w Aa la) (ya : By la) (pa : Hid (la.length ≤ ca ∧ ca ≤ maxLen)) (mb : lb.length ≤ maxLen) (rb : RQ w Ab lb) (yb : By lb) (pb : Hid (lb.length ≤ cb ∧ cb ≤ maxLen)) (tn : Tab1 4 mNot w) (tb : Tab1 5 mBuf w) (ta : Tab2 1 mAnd w) (tO : Tab2 2 mOr w) (tx : Tab2 3 mXor w) (tg : Tab2 0 mAgree w) (hl : Hid (∃ i, ∃ h : i < 3, 140 < [(Az, lz.length, cz, sz), (Aa, la.length, ca, sa), (Ab, lb.length, cb, sb)][i].2.1)) : Calls Tryz.prog 5 #[.agg #[.slice Az lz.length cz, .bool sz], .agg #[.slice Aa la.length ca, .bool sa], .agg #[.slice Ab lb.length cb, .bool sb]] w (Mk (.bool true) w) := by
  have hm : Hid (∀ i (h : i < 3), [(Az, lz.length, cz, sz), (Aa, la.length, ca, sa), (Ab, lb.length, cb, sb)][i].2.1 ≤ maxLen) := hide fun i h => by rcases i with _ | _ | _ | i <;> first | assumption | omega
  clear mz ma mb
  have Oz := hide rz
  have Yz := hide yz
  have Cz := pz
  have Oa := hide ra
  have Ya := hide ya
  have Ca := pa
  have Ob := hide rb
  have Yb := hide yb
  have Cb := pb
  clear rz yz
  clear ra ya
  clear rb yb
  have HT := hide (show Tabs w from ⟨tn, tb, ta, tO, tx, tg⟩)
  clear tn tb ta tO tx tg
  have hU : Below w.heap.size w w := Below.refl _ _
  refine calls_sl (l := [.agg #[.slice Az lz.length cz, .bool sz], .agg #[.slice Aa la.length ca, .bool sa], .agg #[.slice Ab lb.length cb, .bool sb]]) 50 Tryz.func5 rfl (by kernel_rfl) (by simp) (wp_seq (reg_lit (wpl_boxvec (A := Az) (m := lz.length) (c := cz) (s := sz) rfl (by kernel_rfl) rfl (by kernel_rfl) ?_)))
  intro w1 Nz Bz hNz hb
  replace Bz := hide Bz
  have hzz : w.heap.size ≤ Nz := Nat.le_trans hU.size hNz
  clear hNz
  replace hU := hU.trans (hb.mono hU.size)
  clear hb
  refine wpl_boxvec (A := Aa) (m := la.length) (c := ca) (s := sa) rfl (by kernel_rfl) rfl (by kernel_rfl) ?_
  intro w2 Na Ba hNa hb
  replace Ba := hide Ba
  replace Bz := hide (Box.kept Bz.out hb)
  have hza : w.heap.size ≤ Na := Nat.le_trans hU.size hNa
  clear hNa
  replace hU := hU.trans (hb.mono hU.size)
  clear hb
  refine wpl_boxvec (A := Ab) (m := lb.length) (c := cb) (s := sb) rfl (by kernel_rfl) rfl (by kernel_rfl) ?_
  intro w3 Nb Bb hNb hb
  replace Bb := hide Bb
  replace Bz := hide (Box.kept Bz.out hb)
  replace Ba := hide (Box.kept Ba.out hb)
  have hzb : w.heap.size ≤ Nb := Nat.le_trans hU.size hNb
  clear hNb
  replace hU := hU.trans (hb.mono hU.size)
  clear hb
  refine wpl_r1 [(6, .bool false)] (by kernel_rfl) (wpl_end (then_normal (wp_seq (wp_seq (reg_lit (wpl_ldvec Bz.out rfl (by kernel_rfl) rfl (by kernel_rfl) (wpl_ldvec Ba.out rfl (by kernel_rfl) rfl (by kernel_rfl) ?_)))))))
  refine wpl_ldvec Bb.out rfl (by kernel_rfl) rfl (by kernel_rfl) (wpl_bsL3 rfl (by kernel_rfl) rfl (A0 := Az) (m0 := lz.length) (c0 := cz) (s0 := sz) (A1 := Aa) (m1 := la.length) (c1 := ca) (s1 := sa) (A2 := Ab) (m2 := lb.length) (c2 := cb) (s2 := sb) (by kernel_rfl) (by kernel_rfl) (by kernel_rfl) ?_)
  intro w4 NV4 RV4 hb
  replace RV4 := hide RV4
  replace Bz := hide (Box.kept Bz.out hb)
  replace Ba := hide (Box.kept Ba.out hb)
  replace Bb := hide (Box.kept Bb.out hb)
  replace hU := hU.trans (hb.mono hU.size)
  clear hb
  refine wpl_call rfl (by kernel_rfl) (by kernel_rfl) ((vlong_yes NV4 3 [(Az, lz.length, cz, sz), (Aa, la.length, ca, sa), (Ab, lb.length, cb, sb)] _ (by simp) RV4.out hl.out hm.out).mono ?_)
  rintro e w' ⟨rfl, rfl⟩
  refine ⟨_, rfl, ?_⟩
  refine wpl_end (then_normal (wp_ift (by kernel_rfl) (wp_seq (reg_lit ?_))))
  refine wpl_call rfl (by kernel_rfl) (by kernel_rfl) ((vawake_any _ (HT.out.kept hU)).mono ?_)
  rintro e w5 ⟨rfl, hb⟩
  refine ⟨_, rfl, ?_⟩
  replace Bz := hide (Box.kept Bz.out hb)
  replace Ba := hide (Box.kept Ba.out hb)
  replace Bb := hide (Box.kept Bb.out hb)
  replace hU := hU.trans (hb.mono hU.size)
  clear hb
  refine wpl_r1 [(6, .bool true)] (by kernel_rfl) (wpl_end (then_normal (wp_ret ?_)))
  refine (show bodyPost _ _ _ .ret _ _ from ret_sl (.bool true) rfl (by kernel_rfl) ?_)
  exact ⟨rfl, hU⟩
set_option maxHeartbeats 16000000 in
theorem VecCondMatches_short (Az : Option Addr) (lz : List Int) (cz : Nat) (sz : Bool) (Aa : Option Addr) (la : List Int) (ca : Nat) (sa : Bool) (Ab : Option Addr) (lb : List Int) (cb : Nat) (sb : Bool) (w : World) (mz : lz.length ≤ maxLen) (rz : RQ w Az lz) (yz : By lz) (pz : Hid (lz.length ≤ cz ∧ cz ≤ maxLen)) (ma : la.length ≤ maxLen) (ra : RQ w Aa la) (ya : By la) (pa : Hid (la.length ≤ ca ∧ ca ≤ maxLen)) (mb : lb.length ≤ maxLen) (rb : RQ w Ab lb) (yb : By lb) (pb : Hid (lb.length ≤ cb ∧ cb ≤ maxLen)) (tn : Tab1 4 mNot w) (tb : Tab1 5 mBuf w) (ta : Tab2 1 mAnd w) (tO : Tab2 2 mOr w) (tx : Tab2 3 mXor w) (tg : Tab2 0 mAgree w) (hs : Hid (∀ i (h : i < 3), [(Az, lz.length, cz, sz), (Aa, la.length, ca, sa), (Ab, lb.length, cb, sb)][i].2.1 ≤ 140)) : Calls Tryz.prog 5 #[.agg #[.slice Az lz.length cz, .bool sz], .agg #[.slice Aa la.length ca, .bool sa], .agg #[.slice Ab lb.length cb, .bool sb]] w (Mk (.bool true) w) := by
  have Lz : Hid (lz.length ≤ 4096) := hide (Nat.le_trans (hs.out 0 (by decide)) (by decide))
  have La : Hid (la.length ≤ 4096) := hide (Nat.le_trans (hs.out 1 (by decide)) (by decide))
  have Lb : Hid (lb.length ≤ 4096) := hide (Nat.le_trans (hs.out 2 (by decide)) (by decide))
  clear mz ma mb
  have Oz := hide rz
  have Yz := hide yz
  have Cz := pz
  have Oa := hide ra
  have Ya := hide ya
  have Ca := pa
  have Ob := hide rb
  have Yb := hide yb
  have Cb := pb
  clear rz yz
  clear ra ya
  clear rb yb
  have HT := hide (show Tabs w from ⟨tn, tb, ta, tO, tx, tg⟩)
  clear tn tb ta tO tx tg
  have hU : Below w.heap.size w w := Below.refl _ _
  refine calls_sl (l := [.agg #[.slice Az lz.length cz, .bool sz], .agg #[.slice Aa la.length ca, .bool sa], .agg #[.slice Ab lb.length cb, .bool sb]]) 50 Tryz.func5 rfl (by kernel_rfl) (by simp) (wp_seq (reg_lit (wpl_boxvec (A := Az) (m := lz.length) (c := cz) (s := sz) rfl (by kernel_rfl) rfl (by kernel_rfl) ?_)))
  intro w1 Nz Bz hNz hb
  replace Bz := hide Bz
  replace Oz := hide (RQ.below Oz.out hb)
  replace Oa := hide (RQ.below Oa.out hb)
  replace Ob := hide (RQ.below Ob.out hb)
  have hzz : w.heap.size ≤ Nz := Nat.le_trans hU.size hNz
  clear hNz
  replace hU := hU.trans (hb.mono hU.size)
  clear hb
  refine wpl_boxvec (A := Aa) (m := la.length) (c := ca) (s := sa) rfl (by kernel_rfl) rfl (by kernel_rfl) ?_
  intro w2 Na Ba hNa hb
  replace Ba := hide Ba
  have neza : Nz ≠ Na := by have := Bz.out.lt; omega
  replace Oz := hide (RQ.below Oz.out hb)
  replace Oa := hide (RQ.below Oa.out hb)
  replace Ob := hide (RQ.below Ob.out hb)
  replace Bz := hide (Box.kept Bz.out hb)
  have hza : w.heap.size ≤ Na := Nat.le_trans hU.size hNa
  clear hNa
  replace hU := hU.trans (hb.mono hU.size)
  clear hb
  refine wpl_boxvec (A := Ab) (m := lb.length) (c := cb) (s := sb) rfl (by kernel_rfl) rfl (by kernel_rfl) ?_
  intro w3 Nb Bb hNb hb
  replace Bb := hide Bb
  have nezb : Nz ≠ Nb := by have := Bz.out.lt; omega
  have neab : Na ≠ Nb := by have := Ba.out.lt; omega
  replace Oz := hide (RQ.below Oz.out hb)
  replace Oa := hide (RQ.below Oa.out hb)
  replace Ob := hide (RQ.below Ob.out hb)
  replace Bz := hide (Box.kept Bz.out hb)
  replace Ba := hide (Box.kept Ba.out hb)
  have hzb : w.heap.size ≤ Nb := Nat.le_trans hU.size hNb
  clear hNb
  replace hU := hU.trans (hb.mono hU.size)
  clear hb
  refine wpl_r1 [(6, .bool false)] (by kernel_rfl) (wpl_end (then_normal (wp_seq (wp_seq (reg_lit (wpl_ldvec Bz.out rfl (by kernel_rfl) rfl (by kernel_rfl) (wpl_ldvec Ba.out rfl (by kernel_rfl) rfl (by kernel_rfl) ?_)))))))
  refine wpl_ldvec Bb.out rfl (by kernel_rfl) rfl (by kernel_rfl) (wpl_bsL3 rfl (by kernel_rfl) rfl (A0 := Az) (m0 := lz.length) (c0 := cz) (s0 := sz) (A1 := Aa) (m1 := la.length) (c1 := ca) (s1 := sa) (A2 := Ab) (m2 := lb.length) (c2 := cb) (s2 := sb) (by kernel_rfl) (by kernel_rfl) (by kernel_rfl) ?_)
  intro w4 NV4 RV4 hb
  replace RV4 := hide RV4
  replace Oz := hide (RQ.below Oz.out hb)
  replace Oa := hide (RQ.below Oa.out hb)
  replace Ob := hide (RQ.below Ob.out hb)
  replace Bz := hide (Box.kept Bz.out hb)
  replace Ba := hide (Box.kept Ba.out hb)
  replace Bb := hide (Box.kept Bb.out hb)
  replace hU := hU.trans (hb.mono hU.size)
  clear hb
  refine wpl_call rfl (by kernel_rfl) (by kernel_rfl) ((vlong_no NV4 3 [(Az, lz.length, cz, sz), (Aa, la.length, ca, sa), (Ab, lb.length, cb, sb)] _ (by simp) RV4.out hs.out).mono ?_)
  rintro e w' ⟨rfl, rfl⟩
  refine ⟨_, rfl, ?_⟩
  clear RV4
  refine wpl_end (then_normal (wp_iff (by kernel_rfl) (wp_skip (then_normal (wp_seq ?_)))))
  refine wp_cutK (α := (List Int × Bool × Option Addr × Nat) × (List Int × Bool × Option Addr × Nat) × (Nat) × (Nat)) (fun ((lx, sx, Ax, cx), (ly, sy, Ay, cy), Nu, Nv) => [(0, .agg #[.slice Az lz.length cz, .bool sz]), (1, .agg #[.slice Aa la.length ca, .bool sa]), (2, .agg #[.slice Ab lb.length cb, .bool sb]), (3, .pointer (some ⟨Nz, 0, none⟩)), (4, .pointer (some ⟨Na, 0, none⟩)), (5, .pointer (some ⟨Nb, 0, none⟩)), (6, .bool false), (11, .agg #[.slice Az lz.length cz, .bool sz]), (12, .agg #[.slice Aa la.length ca, .bool sa]), (13, .agg #[.slice Ab lb.length cb, .bool sb]), (14, .slice (some ⟨NV4, 0, none⟩) 3 3), (15, .bool false), (17, .agg #[.slice Aa la.length ca, .bool sa]), (19, .agg #[.slice Ab lb.length cb, .bool sb]), (18, .agg #[.slice Ax lx.length cx, .bool sx]), (20, .agg #[.slice Ay ly.length cy, .bool sy]), (7, .pointer (some ⟨Nu, 0, none⟩)), (8, .pointer (some ⟨Nv, 0, none⟩))]) (fun ((lx, sx, Ax, cx), (ly, sy, Ay, cy), Nu, Nv) W => Below w.heap.size w W ∧ Hid (RQ W Az lz) ∧ Hid (RQ W Aa la) ∧ Hid (RQ W Ab lb) ∧ Hid ((⟨lx, sx⟩ : Vc) = ⟨la, sa⟩) ∧ Hid (RQ W Ax lx) ∧ Hid (lx.length ≤ cx ∧ cx ≤ maxLen) ∧ Hid (lx.length ≤ 4096) ∧ Hid (By lx) ∧ Hid ((⟨ly, sy⟩ : Vc) = ⟨lb, sb⟩) ∧ Hid (RQ W Ay ly) ∧ Hid (ly.length ≤ cy ∧ cy ≤ maxLen) ∧ Hid (ly.length ≤ 4096) ∧ Hid (By ly) ∧ Hid (Box Nz Az lz.length cz sz W) ∧ Hid (Box Na Aa la.length ca sa W) ∧ Hid (Box Nb Ab lb.length cb sb W) ∧ Hid (Box Nu Ax lx.length cx sx W) ∧ Hid (Box Nv Ay ly.length cy sy W) ∧ w.heap.size ≤ Nu ∧ w.heap.size ≤ Nv) ?_ ?_
  refine region_R (n := 6) (N := 8) (by kernel_rfl) (by kernel_rfl) (by kernel_rfl) (by kernel_rfl) (by kernel_rfl) (by kernel_rfl) (fun _ _ _ _ _ h => h) ?_
  intro F hQ
  have Bz0 := Bz
  have Ba0 := Ba
  have Bb0 := Bb
  refine anyR_ldvec (i := 0) (m' := 1) Ba0.out F hQ rfl rfl (by kernel_rfl) (by kernel_rfl) (by kernel_rfl) (by kernel_rfl) (by kernel_rfl) rfl (by kernel_rfl) (anyR_ldvec (i := 2) (m' := 5) Bb0.out F hQ rfl rfl (by kernel_rfl) (by kernel_rfl) (by kernel_rfl) (by kernel_rfl) (by kernel_rfl) rfl (by kernel_rfl) ?_)
  refine anyR_split [1, 4, 5] (by kernel_rfl) rfl ⟨?_, ?_, ?_, trivial⟩
  refine stepR_call (i := 1) (m' := 7) rfl rfl (by kernel_rfl) (by kernel_rfl) (by kernel_rfl) (by kernel_rfl) ((vown_any Aa la ca sa _ La.out Ca (by exact Oa.out) Ya.out).mono ?_)
  rintro e w5 ⟨lx, sx, Ax, cx, Ex, rfl, Cx, Ox, hb⟩
  refine ⟨_, rfl, hb, ?_⟩
  replace hb : Below w4.heap.size w4 w5 := Below.trans ((Below.refl _ _).drew) hb
  replace Oz := hide (RQ.below Oz.out hb)
  replace Oa := hide (RQ.below Oa.out hb)
  replace Ob := hide (RQ.below Ob.out hb)
  replace Bz := hide (Box.kept Bz.out hb)
  replace Ba := hide (Box.kept Ba.out hb)
  replace Bb := hide (Box.kept Bb.out hb)
  replace Ox := hide Ox.out.rd
  replace hU := hU.trans (hb.mono hU.size)
  clear hb
  have g : By lx ∧ lx.length ≤ 4096 := by have h := congrArg Vc.b Ex.out; dsimp only at h; rw [h]; exact ⟨Ya.out, La.out⟩
  have Lx := hide g.2
  have Yx := hide g.1
  clear g
  refine anyR_split [3, 4, 5] (by kernel_rfl) rfl ⟨?_, ?_, ?_, trivial⟩
  refine stepR_call (i := 3) (m' := 15) rfl rfl (by kernel_rfl) (by kernel_rfl) (by kernel_rfl) (by kernel_rfl) ((vown_any Ab lb cb sb _ Lb.out Cb Ob.out Yb.out).mono ?_)
  rintro e w6 ⟨ly, sy, Ay, cy, Ey, rfl, Cy, Oy, hb⟩
  refine ⟨_, rfl, hb, ?_⟩
  replace Oz := hide (RQ.below Oz.out hb)
  replace Oa := hide (RQ.below Oa.out hb)
  replace Ob := hide (RQ.below Ob.out hb)
  replace Ox := hide (RQ.below Ox.out hb)
  replace Bz := hide (Box.kept Bz.out hb)
  replace Ba := hide (Box.kept Ba.out hb)
  replace Bb := hide (Box.kept Bb.out hb)
  replace Oy := hide Oy.out.rd
  replace hU := hU.trans (hb.mono hU.size)
  clear hb
  have g : By ly ∧ ly.length ≤ 4096 := by have h := congrArg Vc.b Ey.out; dsimp only at h; rw [h]; exact ⟨Yb.out, Lb.out⟩
  have Ly := hide g.2
  have Yy := hide g.1
  clear g
  refine anyR_split [4, 5] (by kernel_rfl) rfl ⟨?_, ?_, trivial⟩
  refine stepR_al (i := 4) (m' := 31) rfl rfl (by kernel_rfl) (by kernel_rfl) (by kernel_rfl) rfl ?_
  intro w7 Nu Bu hNu hb
  replace Bu := hide Bu
  have nezu : Nz ≠ Nu := by have := Bz.out.lt; omega
  have neau : Na ≠ Nu := by have := Ba.out.lt; omega
  have nebu : Nb ≠ Nu := by have := Bb.out.lt; omega
  replace Oz := hide (RQ.below Oz.out hb)
  replace Oa := hide (RQ.below Oa.out hb)
  replace Ob := hide (RQ.below Ob.out hb)
  replace Ox := hide (RQ.below Ox.out hb)
  replace Oy := hide (RQ.below Oy.out hb)
  replace Bz := hide (Box.kept Bz.out hb)
  replace Ba := hide (Box.kept Ba.out hb)
  replace Bb := hide (Box.kept Bb.out hb)
  have hzu : w.heap.size ≤ Nu := Nat.le_trans hU.size hNu
  clear hNu
  replace hU := hU.trans (hb.mono hU.size)
  clear hb
  refine anyR_split [5] (by kernel_rfl) rfl ⟨?_, trivial⟩
  refine stepR_al (i := 5) (m' := 63) rfl rfl (by kernel_rfl) (by kernel_rfl) (by kernel_rfl) rfl ?_
  intro w8 Nv Bv hNv hb
  replace Bv := hide Bv
  have nezv : Nz ≠ Nv := by have := Bz.out.lt; omega
  have neav : Na ≠ Nv := by have := Ba.out.lt; omega
  have nebv : Nb ≠ Nv := by have := Bb.out.lt; omega
  have neuv : Nu ≠ Nv := by have := Bu.out.lt; omega
  replace Oz := hide (RQ.below Oz.out hb)
  replace Oa := hide (RQ.below Oa.out hb)
  replace Ob := hide (RQ.below Ob.out hb)
  replace Ox := hide (RQ.below Ox.out hb)
  replace Oy := hide (RQ.below Oy.out hb)
  replace Bz := hide (Box.kept Bz.out hb)
  replace Ba := hide (Box.kept Ba.out hb)
  replace Bb := hide (Box.kept Bb.out hb)
  replace Bu := hide (Box.kept Bu.out hb)
  have hzv : w.heap.size ≤ Nv := Nat.le_trans hU.size hNv
  clear hNv
  replace hU := hU.trans (hb.mono hU.size)
  clear hb
  refine anyR_e (anyE_st (i := 6) (m' := 127) Bu.out rfl rfl (by kernel_rfl) (by kernel_rfl) (by kernel_rfl) (by kernel_rfl) rfl (by kernel_rfl) (A2 := Ax) (m2 := lx.length) (c2 := cx) (s2 := sx) (by kernel_rfl) ?_)
  intro w9 hst
  replace Oz := hide (hst.rq Oz.out)
  replace Oa := hide (hst.rq Oa.out)
  replace Ob := hide (hst.rq Ob.out)
  replace Ox := hide (hst.rq Ox.out)
  replace Oy := hide (hst.rq Oy.out)
  replace Bz := hide (hst.ne Bz.out (by first | exact nezu | exact (Ne.symm neuz) | assumption | (exact Ne.symm (by assumption)) | omega))
  replace Ba := hide (hst.ne Ba.out (by first | exact neau | exact (Ne.symm neua) | assumption | (exact Ne.symm (by assumption)) | omega))
  replace Bb := hide (hst.ne Bb.out (by first | exact nebu | exact (Ne.symm neub) | assumption | (exact Ne.symm (by assumption)) | omega))
  replace Bv := hide (hst.ne Bv.out (by first | exact nevu | exact (Ne.symm neuv) | assumption | (exact Ne.symm (by assumption)) | omega))
  replace Bu := hide hst.box
  replace hU := hU.trans (hst.bel hzu)
  clear hst
  refine anyE_st (i := 7) (m' := 255) Bv.out rfl rfl (by kernel_rfl) (by kernel_rfl) (by kernel_rfl) (by kernel_rfl) rfl (by kernel_rfl) (A2 := Ay) (m2 := ly.length) (c2 := cy) (s2 := sy) (by kernel_rfl) ?_
  intro w10 hst
  replace Oz := hide (hst.rq Oz.out)
  replace Oa := hide (hst.rq Oa.out)
  replace Ob := hide (hst.rq Ob.out)
  replace Ox := hide (hst.rq Ox.out)
  replace Oy := hide (hst.rq Oy.out)
  replace Bz := hide (hst.ne Bz.out (by first | exact nezv | exact (Ne.symm nevz) | assumption | (exact Ne.symm (by assumption)) | omega))
  replace Ba := hide (hst.ne Ba.out (by first | exact neav | exact (Ne.symm neva) | assumption | (exact Ne.symm (by assumption)) | omega))
  replace Bb := hide (hst.ne Bb.out (by first | exact nebv | exact (Ne.symm nevb) | assumption | (exact Ne.symm (by assumption)) | omega))
  replace Bu := hide (hst.ne Bu.out (by first | exact neuv | exact (Ne.symm nevu) | assumption | (exact Ne.symm (by assumption)) | omega))
  replace Bv := hide hst.box
  replace hU := hU.trans (hst.bel hzv)
  clear hst
  refine anyE_done (by kernel_rfl) ?_
  refine then_normal ⟨((lx, sx, Ax, cx), (ly, sy, Ay, cy), Nu, Nv), _, rfl, Kp_c (by kernel_rfl) (Kp_c (by kernel_rfl) (Kp_c (by kernel_rfl) (Kp_c (by kernel_rfl) (Kp_c (by kernel_rfl) (Kp_c (by kernel_rfl) (Kp_c (by kernel_rfl) (Kp_c (by kernel_rfl) (Kp_c (by kernel_rfl) (Kp_c (by kernel_rfl) (Kp_c (by kernel_rfl) (Kp_c (by kernel_rfl) (Kp_c (by kernel_rfl) (Kp_c (by kernel_rfl) (Kp_c (by kernel_rfl) (Kp_c (by kernel_rfl) (Kp_c (by kernel_rfl) (Kp_c (by kernel_rfl) (Kp_n)))))))))))))))))), ?_⟩
  dsimp only
  exact ⟨hU, Oz, Oa, Ob, Ex, Ox, Cx, Lx, Yx, Ey, Oy, Cy, Ly, Yy, Bz, Ba, Bb, Bu, Bv, hzu, hzv⟩
  refine stepR_al (i := 5) (m' := 47) rfl rfl (by kernel_rfl) (by kernel_rfl) (by kernel_rfl) rfl ?_
  intro w11 Nv Bv hNv hb
  replace Bv := hide Bv
  have nezv : Nz ≠ Nv := by have := Bz.out.lt; omega
  have neav : Na ≠ Nv := by have := Ba.out.lt; omega
  have nebv : Nb ≠ Nv := by have := Bb.out.lt; omega
  replace Oz := hide (RQ.below Oz.out hb)
  replace Oa := hide (RQ.below Oa.out hb)
  replace Ob := hide (RQ.below Ob.out hb)
  replace Ox := hide (RQ.below Ox.out hb)
  replace Oy := hide (RQ.below Oy.out hb)
  replace Bz := hide (Box.kept Bz.out hb)
  replace Ba := hide (Box.kept Ba.out hb)
  replace Bb := hide (Box.kept Bb.out hb)
  have hzv : w.heap.size ≤ Nv := Nat.le_trans hU.size hNv
  clear hNv
  replace hU := hU.trans (hb.mono hU.size)
  clear hb
  refine anyR_split [4] (by kernel_rfl) rfl ⟨?_, trivial⟩
  refine stepR_al (i := 4) (m' := 63) rfl rfl (by kernel_rfl) (by kernel_rfl) (by kernel_rfl) rfl ?_
  intro w12 Nu Bu hNu hb
  replace Bu := hide Bu
  have nezu : Nz ≠ Nu := by have := Bz.out.lt; omega
  have neau : Na ≠ Nu := by have := Ba.out.lt; omega
  have nebu : Nb ≠ Nu := by have := Bb.out.lt; omega
  have nevu : Nv ≠ Nu := by have := Bv.out.lt; omega
  replace Oz := hide (RQ.below Oz.out hb)
  replace Oa := hide (RQ.below Oa.out hb)
  replace Ob := hide (RQ.below Ob.out hb)
  replace Ox := hide (RQ.below Ox.out hb)
  replace Oy := hide (RQ.below Oy.out hb)
  replace Bz := hide (Box.kept Bz.out hb)
  replace Ba := hide (Box.kept Ba.out hb)
  replace Bb := hide (Box.kept Bb.out hb)
  replace Bv := hide (Box.kept Bv.out hb)
  have hzu : w.heap.size ≤ Nu := Nat.le_trans hU.size hNu
  clear hNu
  replace hU := hU.trans (hb.mono hU.size)
  clear hb
  refine anyR_e (anyE_st (i := 6) (m' := 127) Bu.out rfl rfl (by kernel_rfl) (by kernel_rfl) (by kernel_rfl) (by kernel_rfl) rfl (by kernel_rfl) (A2 := Ax) (m2 := lx.length) (c2 := cx) (s2 := sx) (by kernel_rfl) ?_)
  intro w13 hst
  replace Oz := hide (hst.rq Oz.out)
  replace Oa := hide (hst.rq Oa.out)
  replace Ob := hide (hst.rq Ob.out)
  replace Ox := hide (hst.rq Ox.out)
  replace Oy := hide (hst.rq Oy.out)
  replace Bz := hide (hst.ne Bz.out (by first | exact nezu | exact (Ne.symm neuz) | assumption | (exact Ne.symm (by assumption)) | omega))
  replace Ba := hide (hst.ne Ba.out (by first | exact neau | exact (Ne.symm neua) | assumption | (exact Ne.symm (by assumption)) | omega))
  replace Bb := hide (hst.ne Bb.out (by first | exact nebu | exact (Ne.symm neub) | assumption | (exact Ne.symm (by assumption)) | omega))
  replace Bv := hide (hst.ne Bv.out (by first | exact nevu | exact (Ne.symm neuv) | assumption | (exact Ne.symm (by assumption)) | omega))
  replace Bu := hide hst.box
  replace hU := hU.trans (hst.bel hzu)
  clear hst
  refine anyE_st (i := 7) (m' := 255) Bv.out rfl rfl (by kernel_rfl) (by kernel_rfl) (by kernel_rfl) (by kernel_rfl) rfl (by kernel_rfl) (A2 := Ay) (m2 := ly.length) (c2 := cy) (s2 := sy) (by kernel_rfl) ?_
  intro w14 hst
  replace Oz := hide (hst.rq Oz.out)
  replace Oa := hide (hst.rq Oa.out)
  replace Ob := hide (hst.rq Ob.out)
  replace Ox := hide (hst.rq Ox.out)
  replace Oy := hide (hst.rq Oy.out)
  replace Bz := hide (hst.ne Bz.out (by first | exact nezv | exact (Ne.symm nevz) | assumption | (exact Ne.symm (by assumption)) | omega))
  replace Ba := hide (hst.ne Ba.out (by first | exact neav | exact (Ne.symm neva) | assumption | (exact Ne.symm (by assumption)) | omega))
  replace Bb := hide (hst.ne Bb.out (by first | exact nebv | exact (Ne.symm nevb) | assumption | (exact Ne.symm (by assumption)) | omega))
  replace Bu := hide (hst.ne Bu.out (by first | exact neuv | exact (Ne.symm nevu) | assumption | (exact Ne.symm (by assumption)) | omega))
  replace Bv := hide hst.box
  replace hU := hU.trans (hst.bel hzv)
  clear hst
  refine anyE_done (by kernel_rfl) ?_
  refine then_normal ⟨((lx, sx, Ax, cx), (ly, sy, Ay, cy), Nu, Nv), _, rfl, Kp_c (by kernel_rfl) (Kp_c (by kernel_rfl) (Kp_c (by kernel_rfl) (Kp_c (by kernel_rfl) (Kp_c (by kernel_rfl) (Kp_c (by kernel_rfl) (Kp_c (by kernel_rfl) (Kp_c (by kernel_rfl) (Kp_c (by kernel_rfl) (Kp_c (by kernel_rfl) (Kp_c (by kernel_rfl) (Kp_c (by kernel_rfl) (Kp_c (by kernel_rfl) (Kp_c (by kernel_rfl) (Kp_c (by kernel_rfl) (Kp_c (by kernel_rfl) (Kp_c (by kernel_rfl) (Kp_c (by kernel_rfl) (Kp_n)))))))))))))))))), ?_⟩
  dsimp only
  exact ⟨hU, Oz, Oa, Ob, Ex, Ox, Cx, Lx, Yx, Ey, Oy, Cy, Ly, Yy, Bz, Ba, Bb, Bu, Bv, hzu, hzv⟩
  refine stepR_al (i := 4) (m' := 23) rfl rfl (by kernel_rfl) (by kernel_rfl) (by kernel_rfl) rfl ?_
  intro w15 Nu Bu hNu hb
  replace Bu := hide Bu
  have nezu : Nz ≠ Nu := by have := Bz.out.lt; omega
  have neau : Na ≠ Nu := by have := Ba.out.lt; omega
  have nebu : Nb ≠ Nu := by have := Bb.out.lt; omega
  replace Oz := hide (RQ.below Oz.out hb)
  replace Oa := hide (RQ.below Oa.out hb)
  replace Ob := hide (RQ.below Ob.out hb)
  replace Ox := hide (RQ.below Ox.out hb)
  replace Bz := hide (Box.kept Bz.out hb)
  replace Ba := hide (Box.kept Ba.out hb)
  replace Bb := hide (Box.kept Bb.out hb)
  have hzu : w.heap.size ≤ Nu := Nat.le_trans hU.size hNu
  clear hNu
  replace hU := hU.trans (hb.mono hU.size)
  clear hb
  refine anyR_split [3, 5] (by kernel_rfl) rfl ⟨?_, ?_, trivial⟩
  refine stepR_call (i := 3) (m' := 31) rfl rfl (by kernel_rfl) (by kernel_rfl) (by kernel_rfl) (by kernel_rfl) ((vown_any Ab lb cb sb _ Lb.out Cb Ob.out Yb.out).mono ?_)
  rintro e w16 ⟨ly, sy, Ay, cy, Ey, rfl, Cy, Oy, hb⟩
  refine ⟨_, rfl, hb, ?_⟩
  replace Oz := hide (RQ.below Oz.out hb)
  replace Oa := hide (RQ.below Oa.out hb)
  replace Ob := hide (RQ.below Ob.out hb)
  replace Ox := hide (RQ.below Ox.out hb)
  replace Bz := hide (Box.kept Bz.out hb)
  replace Ba := hide (Box.kept Ba.out hb)
  replace Bb := hide (Box.kept Bb.out hb)
  replace Bu := hide (Box.kept Bu.out hb)
  replace Oy := hide Oy.out.rd
  replace hU := hU.trans (hb.mono hU.size)
  clear hb
  have g : By ly ∧ ly.length ≤ 4096 := by have h := congrArg Vc.b Ey.out; dsimp only at h; rw [h]; exact ⟨Yb.out, Lb.out⟩
  have Ly := hide g.2
  have Yy := hide g.1
  clear g
  refine anyR_split [5] (by kernel_rfl) rfl ⟨?_, trivial⟩
  refine stepR_al (i := 5) (m' := 63) rfl rfl (by kernel_rfl) (by kernel_rfl) (by kernel_rfl) rfl ?_
  intro w17 Nv Bv hNv hb
  replace Bv := hide Bv
  have nezv : Nz ≠ Nv := by have := Bz.out.lt; omega
  have neav : Na ≠ Nv := by have := Ba.out.lt; omega
  have nebv : Nb ≠ Nv := by have := Bb.out.lt; omega
  have neuv : Nu ≠ Nv := by have := Bu.out.lt; omega
  replace Oz := hide (RQ.below Oz.out hb)
  replace Oa := hide (RQ.below Oa.out hb)
  replace Ob := hide (RQ.below Ob.out hb)
  replace Ox := hide (RQ.below Ox.out hb)
  replace Oy := hide (RQ.below Oy.out hb)
  replace Bz := hide (Box.kept Bz.out hb)
  replace Ba := hide (Box.kept Ba.out hb)
  replace Bb := hide (Box.kept Bb.out hb)
  replace Bu := hide (Box.kept Bu.out hb)
  have hzv : w.heap.size ≤ Nv := Nat.le_trans hU.size hNv
  clear hNv
  replace hU := hU.trans (hb.mono hU.size)
  clear hb
  refine anyR_e (anyE_st (i := 6) (m' := 127) Bu.out rfl rfl (by kernel_rfl) (by kernel_rfl) (by kernel_rfl) (by kernel_rfl) rfl (by kernel_rfl) (A2 := Ax) (m2 := lx.length) (c2 := cx) (s2 := sx) (by kernel_rfl) ?_)
  intro w18 hst
  replace Oz := hide (hst.rq Oz.out)
  replace Oa := hide (hst.rq Oa.out)
  replace Ob := hide (hst.rq Ob.out)
  replace Ox := hide (hst.rq Ox.out)
  replace Oy := hide (hst.rq Oy.out)
  replace Bz := hide (hst.ne Bz.out (by first | exact nezu | exact (Ne.symm neuz) | assumption | (exact Ne.symm (by assumption)) | omega))
  replace Ba := hide (hst.ne Ba.out (by first | exact neau | exact (Ne.symm neua) | assumption | (exact Ne.symm (by assumption)) | omega))
  replace Bb := hide (hst.ne Bb.out (by first | exact nebu | exact (Ne.symm neub) | assumption | (exact Ne.symm (by assumption)) | omega))
  replace Bv := hide (hst.ne Bv.out (by first | exact nevu | exact (Ne.symm neuv) | assumption | (exact Ne.symm (by assumption)) | omega))
  replace Bu := hide hst.box
  replace hU := hU.trans (hst.bel hzu)
  clear hst
  refine anyE_st (i := 7) (m' := 255) Bv.out rfl rfl (by kernel_rfl) (by kernel_rfl) (by kernel_rfl) (by kernel_rfl) rfl (by kernel_rfl) (A2 := Ay) (m2 := ly.length) (c2 := cy) (s2 := sy) (by kernel_rfl) ?_
  intro w19 hst
  replace Oz := hide (hst.rq Oz.out)
  replace Oa := hide (hst.rq Oa.out)
  replace Ob := hide (hst.rq Ob.out)
  replace Ox := hide (hst.rq Ox.out)
  replace Oy := hide (hst.rq Oy.out)
  replace Bz := hide (hst.ne Bz.out (by first | exact nezv | exact (Ne.symm nevz) | assumption | (exact Ne.symm (by assumption)) | omega))
  replace Ba := hide (hst.ne Ba.out (by first | exact neav | exact (Ne.symm neva) | assumption | (exact Ne.symm (by assumption)) | omega))
  replace Bb := hide (hst.ne Bb.out (by first | exact nebv | exact (Ne.symm nevb) | assumption | (exact Ne.symm (by assumption)) | omega))
  replace Bu := hide (hst.ne Bu.out (by first | exact neuv | exact (Ne.symm nevu) | assumption | (exact Ne.symm (by assumption)) | omega))
  replace Bv := hide hst.box
  replace hU := hU.trans (hst.bel hzv)
  clear hst
  refine anyE_done (by kernel_rfl) ?_
  refine then_normal ⟨((lx, sx, Ax, cx), (ly, sy, Ay, cy), Nu, Nv), _, rfl, Kp_c (by kernel_rfl) (Kp_c (by kernel_rfl) (Kp_c (by kernel_rfl) (Kp_c (by kernel_rfl) (Kp_c (by kernel_rfl) (Kp_c (by kernel_rfl) (Kp_c (by kernel_rfl) (Kp_c (by kernel_rfl) (Kp_c (by kernel_rfl) (Kp_c (by kernel_rfl) (Kp_c (by kernel_rfl) (Kp_c (by kernel_rfl) (Kp_c (by kernel_rfl) (Kp_c (by kernel_rfl) (Kp_c (by kernel_rfl) (Kp_c (by kernel_rfl) (Kp_c (by kernel_rfl) (Kp_c (by kernel_rfl) (Kp_n)))))))))))))))))), ?_⟩
  dsimp only
  exact ⟨hU, Oz, Oa, Ob, Ex, Ox, Cx, Lx, Yx, Ey, Oy, Cy, Ly, Yy, Bz, Ba, Bb, Bu, Bv, hzu, hzv⟩
  refine stepR_al (i := 5) (m' := 55) rfl rfl (by kernel_rfl) (by kernel_rfl) (by kernel_rfl) rfl ?_
  intro w20 Nv Bv hNv hb
  replace Bv := hide Bv
  have nezv : Nz ≠ Nv := by have := Bz.out.lt; omega
  have neav : Na ≠ Nv := by have := Ba.out.lt; omega
  have nebv : Nb ≠ Nv := by have := Bb.out.lt; omega
  have neuv : Nu ≠ Nv := by have := Bu.out.lt; omega
  replace Oz := hide (RQ.below Oz.out hb)
  replace Oa := hide (RQ.below Oa.out hb)
  replace Ob := hide (RQ.below Ob.out hb)
  replace Ox := hide (RQ.below Ox.out hb)
  replace Bz := hide (Box.kept Bz.out hb)
  replace Ba := hide (Box.kept Ba.out hb)
  replace Bb := hide (Box.kept Bb.out hb)
  replace Bu := hide (Box.kept Bu.out hb)
  have hzv : w.heap.size ≤ Nv := Nat.le_trans hU.size hNv
  clear hNv
  replace hU := hU.trans (hb.mono hU.size)
  clear hb
  refine anyR_call (i := 3) (m' := 63) rfl rfl (by kernel_rfl) (by kernel_rfl) (by kernel_rfl) (by kernel_rfl) (by kernel_rfl) ((vown_any Ab lb cb sb _ Lb.out Cb Ob.out Yb.out).mono ?_)
  rintro e w21 ⟨ly, sy, Ay, cy, Ey, rfl, Cy, Oy, hb⟩
  refine ⟨_, rfl, hb, ?_⟩
  replace Oz := hide (RQ.below Oz.out hb)
  replace Oa := hide (RQ.below Oa.out hb)
  replace Ob := hide (RQ.below Ob.out hb)
  replace Ox := hide (RQ.below Ox.out hb)
  replace Bz := hide (Box.kept Bz.out hb)
  replace Ba := hide (Box.kept Ba.out hb)
  replace Bb := hide (Box.kept Bb.out hb)
  replace Bu := hide (Box.kept Bu.out hb)
  replace Bv := hide (Box.kept Bv.out hb)
  replace Oy := hide Oy.out.rd
  replace hU := hU.trans (hb.mono hU.size)
  clear hb
  have g : By ly ∧ ly.length ≤ 4096 := by have h := congrArg Vc.b Ey.out; dsimp only at h; rw [h]; exact ⟨Yb.out, Lb.out⟩
  have Ly := hide g.2
  have Yy := hide g.1
  clear g
  refine anyR_e (anyE_st (i := 6) (m' := 127) Bu.out rfl rfl (by kernel_rfl) (by kernel_rfl) (by kernel_rfl) (by kernel_rfl) rfl (by kernel_rfl) (A2 := Ax) (m2 := lx.length) (c2 := cx) (s2 := sx) (by kernel_rfl) ?_)
  intro w22 hst
  replace Oz := hide (hst.rq Oz.out)
  replace Oa := hide (hst.rq Oa.out)
  replace Ob := hide (hst.rq Ob.out)
  replace Ox := hide (hst.rq Ox.out)
  replace Oy := hide (hst.rq Oy.out)
  replace Bz := hide (hst.ne Bz.out (by first | exact nezu | exact (Ne.symm neuz) | assumption | (exact Ne.symm (by assumption)) | omega))
  replace Ba := hide (hst.ne Ba.out (by first | exact neau | exact (Ne.symm neua) | assumption | (exact Ne.symm (by assumption)) | omega))
  replace Bb := hide (hst.ne Bb.out (by first | exact nebu | exact (Ne.symm neub) | assumption | (exact Ne.symm (by assumption)) | omega))
  replace Bv := hide (hst.ne Bv.out (by first | exact nevu | exact (Ne.symm neuv) | assumption | (exact Ne.symm (by assumption)) | omega))
  replace Bu := hide hst.box
  replace hU := hU.trans (hst.bel hzu)
  clear hst
  refine anyE_st (i := 7) (m' := 255) Bv.out rfl rfl (by kernel_rfl) (by kernel_rfl) (by kernel_rfl) (by kernel_rfl) rfl (by kernel_rfl) (A2 := Ay) (m2 := ly.length) (c2 := cy) (s2 := sy) (by kernel_rfl) ?_
  intro w23 hst
  replace Oz := hide (hst.rq Oz.out)
  replace Oa := hide (hst.rq Oa.out)
  replace Ob := hide (hst.rq Ob.out)
  replace Ox := hide (hst.rq Ox.out)
  replace Oy := hide (hst.rq Oy.out)
  replace Bz := hide (hst.ne Bz.out (by first | exact nezv | exact (Ne.symm nevz) | assumption | (exact Ne.symm (by assumption)) | omega))
  replace Ba := hide (hst.ne Ba.out (by first | exact neav | exact (Ne.symm neva) | assumption | (exact Ne.symm (by assumption)) | omega))
  replace Bb := hide (hst.ne Bb.out (by first | exact nebv | exact (Ne.symm nevb) | assumption | (exact Ne.symm (by assumption)) | omega))
  replace Bu := hide (hst.ne Bu.out (by first | exact neuv | exact (Ne.symm nevu) | assumption | (exact Ne.symm (by assumption)) | omega))
  replace Bv := hide hst.box
  replace hU := hU.trans (hst.bel hzv)
  clear hst
  refine anyE_done (by kernel_rfl) ?_
  refine then_normal ⟨((lx, sx, Ax, cx), (ly, sy, Ay, cy), Nu, Nv), _, rfl, Kp_c (by kernel_rfl) (Kp_c (by kernel_rfl) (Kp_c (by kernel_rfl) (Kp_c (by kernel_rfl) (Kp_c (by kernel_rfl) (Kp_c (by kernel_rfl) (Kp_c (by kernel_rfl) (Kp_c (by kernel_rfl) (Kp_c (by kernel_rfl) (Kp_c (by kernel_rfl) (Kp_c (by kernel_rfl) (Kp_c (by kernel_rfl) (Kp_c (by kernel_rfl) (Kp_c (by kernel_rfl) (Kp_c (by kernel_rfl) (Kp_c (by kernel_rfl) (Kp_c (by kernel_rfl) (Kp_c (by kernel_rfl) (Kp_n)))))))))))))))))), ?_⟩
  dsimp only
  exact ⟨hU, Oz, Oa, Ob, Ex, Ox, Cx, Lx, Yx, Ey, Oy, Cy, Ly, Yy, Bz, Ba, Bb, Bu, Bv, hzu, hzv⟩
  refine stepR_al (i := 5) (m' := 39) rfl rfl (by kernel_rfl) (by kernel_rfl) (by kernel_rfl) rfl ?_
  intro w24 Nv Bv hNv hb
  replace Bv := hide Bv
  have nezv : Nz ≠ Nv := by have := Bz.out.lt; omega
  have neav : Na ≠ Nv := by have := Ba.out.lt; omega
  have nebv : Nb ≠ Nv := by have := Bb.out.lt; omega
  replace Oz := hide (RQ.below Oz.out hb)
  replace Oa := hide (RQ.below Oa.out hb)
  replace Ob := hide (RQ.below Ob.out hb)
  replace Ox := hide (RQ.below Ox.out hb)
  replace Bz := hide (Box.kept Bz.out hb)
  replace Ba := hide (Box.kept Ba.out hb)
  replace Bb := hide (Box.kept Bb.out hb)
  have hzv : w.heap.size ≤ Nv := Nat.le_trans hU.size hNv
  clear hNv
  replace hU := hU.trans (hb.mono hU.size)
  clear hb
  refine anyR_split [3, 4] (by kernel_rfl) rfl ⟨?_, ?_, trivial⟩
  refine stepR_call (i := 3) (m' := 47) rfl rfl (by kernel_rfl) (by kernel_rfl) (by kernel_rfl) (by kernel_rfl) ((vown_any Ab lb cb sb _ Lb.out Cb Ob.out Yb.out).mono ?_)
  rintro e w25 ⟨ly, sy, Ay, cy, Ey, rfl, Cy, Oy, hb⟩
  refine ⟨_, rfl, hb, ?_⟩
  replace Oz := hide (RQ.below Oz.out hb)
  replace Oa := hide (RQ.below Oa.out hb)
  replace Ob := hide (RQ.below Ob.out hb)
  replace Ox := hide (RQ.below Ox.out hb)
  replace Bz := hide (Box.kept Bz.out hb)
  replace Ba := hide (Box.kept Ba.out hb)
  replace Bb := hide (Box.kept Bb.out hb)
  replace Bv := hide (Box.kept Bv.out hb)
  replace Oy := hide Oy.out.rd
  replace hU := hU.trans (hb.mono hU.size)
  clear hb
  have g : By ly ∧ ly.length ≤ 4096 := by have h := congrArg Vc.b Ey.out; dsimp only at h; rw [h]; exact ⟨Yb.out, Lb.out⟩
  have Ly := hide g.2
  have Yy := hide g.1
  clear g
  refine anyR_split [4] (by kernel_rfl) rfl ⟨?_, trivial⟩
  refine stepR_al (i := 4) (m' := 63) rfl rfl (by kernel_rfl) (by kernel_rfl) (by kernel_rfl) rfl ?_
  intro w26 Nu Bu hNu hb
  replace Bu := hide Bu
  have nezu : Nz ≠ Nu := by have := Bz.out.lt; omega
  have neau : Na ≠ Nu := by have := Ba.out.lt; omega
  have nebu : Nb ≠ Nu := by have := Bb.out.lt; omega
  have nevu : Nv ≠ Nu := by have := Bv.out.lt; omega
  replace Oz := hide (RQ.below Oz.out hb)
  replace Oa := hide (RQ.below Oa.out hb)
  replace Ob := hide (RQ.below Ob.out hb)
  replace Ox := hide (RQ.below Ox.out hb)
  replace Oy := hide (RQ.below Oy.out hb)
  replace Bz := hide (Box.kept Bz.out hb)
  replace Ba := hide (Box.kept Ba.out hb)
  replace Bb := hide (Box.kept Bb.out hb)
  replace Bv := hide (Box.kept Bv.out hb)
  have hzu : w.heap.size ≤ Nu := Nat.le_trans hU.size hNu
  clear hNu
  replace hU := hU.trans (hb.mono hU.size)
  clear hb
  refine anyR_e (anyE_st (i := 6) (m' := 127) Bu.out rfl rfl (by kernel_rfl) (by kernel_rfl) (by kernel_rfl) (by kernel_rfl) rfl (by kernel_rfl) (A2 := Ax) (m2 := lx.length) (c2 := cx) (s2 := sx) (by kernel_rfl) ?_)
  intro w27 hst
  replace Oz := hide (hst.rq Oz.out)
  replace Oa := hide (hst.rq Oa.out)
  replace Ob := hide (hst.rq Ob.out)
  replace Ox := hide (hst.rq Ox.out)
  replace Oy := hide (hst.rq Oy.out)
  replace Bz := hide (hst.ne Bz.out (by first | exact nezu | exact (Ne.symm neuz) | assumption | (exact Ne.symm (by assumption)) | omega))
  replace Ba := hide (hst.ne Ba.out (by first | exact neau | exact (Ne.symm neua) | assumption | (exact Ne.symm (by assumption)) | omega))
  replace Bb := hide (hst.ne Bb.out (by first | exact nebu | exact (Ne.symm neub) | assumption | (exact Ne.symm (by assumption)) | omega))
  replace Bv := hide (hst.ne Bv.out (by first | exact nevu | exact (Ne.symm neuv) | assumption | (exact Ne.symm (by assumption)) | omega))
  replace Bu := hide hst.box
  replace hU := hU.trans (hst.bel hzu)
  clear hst
  refine anyE_st (i := 7) (m' := 255) Bv.out rfl rfl (by kernel_rfl) (by kernel_rfl) (by kernel_rfl) (by kernel_rfl) rfl (by kernel_rfl) (A2 := Ay) (m2 := ly.length) (c2 := cy) (s2 := sy) (by kernel_rfl) ?_
  intro w28 hst
  replace Oz := hide (hst.rq Oz.out)
  replace Oa := hide (hst.rq Oa.out)
  replace Ob := hide (hst.rq Ob.out)
  replace Ox := hide (hst.rq Ox.out)
  replace Oy := hide (hst.rq Oy.out)
  replace Bz := hide (hst.ne Bz.out (by first | exact nezv | exact (Ne.symm nevz) | assumption | (exact Ne.symm (by assumption)) | omega))
  replace Ba := hide (hst.ne Ba.out (by first | exact neav | exact (Ne.symm neva) | assumption | (exact Ne.symm (by assumption)) | omega))
  replace Bb := hide (hst.ne Bb.out (by first | exact nebv | exact (Ne.symm nevb) | assumption | (exact Ne.symm (by assumption)) | omega))
  replace Bu := hide (hst.ne Bu.out (by first | exact neuv | exact (Ne.symm nevu) | assumption | (exact Ne.symm (by assumption)) | omega))
  replace Bv := hide hst.box
  replace hU := hU.trans (hst.bel hzv)
  clear hst
  refine anyE_done (by kernel_rfl) ?_
  refine then_normal ⟨((lx, sx, Ax, cx), (ly, sy, Ay, cy), Nu, Nv), _, rfl, Kp_c (by kernel_rfl) (Kp_c (by kernel_rfl) (Kp_c (by kernel_rfl) (Kp_c (by kernel_rfl) (Kp_c (by kernel_rfl) (Kp_c (by kernel_rfl) (Kp_c (by kernel_rfl) (Kp_c (by kernel_rfl) (Kp_c (by kernel_rfl) (Kp_c (by kernel_rfl) (Kp_c (by kernel_rfl) (Kp_c (by kernel_rfl) (Kp_c (by kernel_rfl) (Kp_c (by kernel_rfl) (Kp_c (by kernel_rfl) (Kp_c (by kernel_rfl) (Kp_c (by kernel_rfl) (Kp_c (by kernel_rfl) (Kp_n)))))))))))))))))), ?_⟩
  dsimp only
  exact ⟨hU, Oz, Oa, Ob, Ex, Ox, Cx, Lx, Yx, Ey, Oy, Cy, Ly, Yy, Bz, Ba, Bb, Bu, Bv, hzu, hzv⟩
  refine stepR_al (i := 4) (m' := 55) rfl rfl (by kernel_rfl) (by kernel_rfl) (by kernel_rfl) rfl ?_
  intro w29 Nu Bu hNu hb
  replace Bu := hide Bu
  have nezu : Nz ≠ Nu := by have := Bz.out.lt; omega
  have neau : Na ≠ Nu := by have := Ba.out.lt; omega
  have nebu : Nb ≠ Nu := by have := Bb.out.lt; omega
  have nevu : Nv ≠ Nu := by have := Bv.out.lt; omega
  replace Oz := hide (RQ.below Oz.out hb)
  replace Oa := hide (RQ.below Oa.out hb)
  replace Ob := hide (RQ.below Ob.out hb)
  replace Ox := hide (RQ.below Ox.out hb)
  replace Bz := hide (Box.kept Bz.out hb)
  replace Ba := hide (Box.kept Ba.out hb)
  replace Bb := hide (Box.kept Bb.out hb)
  replace Bv := hide (Box.kept Bv.out hb)
  have hzu : w.heap.size ≤ Nu := Nat.le_trans hU.size hNu
  clear hNu
  replace hU := hU.trans (hb.mono hU.size)
  clear hb
  refine anyR_call (i := 3) (m' := 63) rfl rfl (by kernel_rfl) (by kernel_rfl) (by kernel_rfl) (by kernel_rfl) (by kernel_rfl) ((vown_any Ab lb cb sb _ Lb.out Cb Ob.out Yb.out).mono ?_)
  rintro e w30 ⟨ly, sy, Ay, cy, Ey, rfl, Cy, Oy, hb⟩
  refine ⟨_, rfl, hb, ?_⟩
  replace Oz := hide (RQ.below Oz.out hb)
  replace Oa := hide (RQ.below Oa.out hb)
  replace Ob := hide (RQ.below Ob.out hb)
  replace Ox := hide (RQ.below Ox.out hb)
  replace Bz := hide (Box.kept Bz.out hb)
  replace Ba := hide (Box.kept Ba.out hb)
  replace Bb := hide (Box.kept Bb.out hb)
  replace Bv := hide (Box.kept Bv.out hb)
  replace Bu := hide (Box.kept Bu.out hb)
  replace Oy := hide Oy.out.rd
  replace hU := hU.trans (hb.mono hU.size)
  clear hb
  have g : By ly ∧ ly.length ≤ 4096 := by have h := congrArg Vc.b Ey.out; dsimp only at h; rw [h]; exact ⟨Yb.out, Lb.out⟩
  have Ly := hide g.2
  have Yy := hide g.1
  clear g
  refine anyR_e (anyE_st (i := 6) (m' := 127) Bu.out rfl rfl (by kernel_rfl) (by kernel_rfl) (by kernel_rfl) (by kernel_rfl) rfl (by kernel_rfl) (A2 := Ax) (m2 := lx.length) (c2 := cx) (s2 := sx) (by kernel_rfl) ?_)
  intro w31 hst
  replace Oz := hide (hst.rq Oz.out)
  replace Oa := hide (hst.rq Oa.out)
  replace Ob := hide (hst.rq Ob.out)
  replace Ox := hide (hst.rq Ox.out)
  replace Oy := hide (hst.rq Oy.out)
  replace Bz := hide (hst.ne Bz.out (by first | exact nezu | exact (Ne.symm neuz) | assumption | (exact Ne.symm (by assumption)) | omega))
  replace Ba := hide (hst.ne Ba.out (by first | exact neau | exact (Ne.symm neua) | assumption | (exact Ne.symm (by assumption)) | omega))
  replace Bb := hide (hst.ne Bb.out (by first | exact nebu | exact (Ne.symm neub) | assumption | (exact Ne.symm (by assumption)) | omega))
  replace Bv := hide (hst.ne Bv.out (by first | exact nevu | exact (Ne.symm neuv) | assumption | (exact Ne.symm (by assumption)) | omega))
  replace Bu := hide hst.box
  replace hU := hU.trans (hst.bel hzu)
  clear hst
  refine anyE_st (i := 7) (m' := 255) Bv.out rfl rfl (by kernel_rfl) (by kernel_rfl) (by kernel_rfl) (by kernel_rfl) rfl (by kernel_rfl) (A2 := Ay) (m2 := ly.length) (c2 := cy) (s2 := sy) (by kernel_rfl) ?_
  intro w32 hst
  replace Oz := hide (hst.rq Oz.out)
  replace Oa := hide (hst.rq Oa.out)
  replace Ob := hide (hst.rq Ob.out)
  replace Ox := hide (hst.rq Ox.out)
  replace Oy := hide (hst.rq Oy.out)
  replace Bz := hide (hst.ne Bz.out (by first | exact nezv | exact (Ne.symm nevz) | assumption | (exact Ne.symm (by assumption)) | omega))
  replace Ba := hide (hst.ne Ba.out (by first | exact neav | exact (Ne.symm neva) | assumption | (exact Ne.symm (by assumption)) | omega))
  replace Bb := hide (hst.ne Bb.out (by first | exact nebv | exact (Ne.symm nevb) | assumption | (exact Ne.symm (by assumption)) | omega))
  replace Bu := hide (hst.ne Bu.out (by first | exact neuv | exact (Ne.symm nevu) | assumption | (exact Ne.symm (by assumption)) | omega))
  replace Bv := hide hst.box
  replace hU := hU.trans (hst.bel hzv)
  clear hst
  refine anyE_done (by kernel_rfl) ?_
  refine then_normal ⟨((lx, sx, Ax, cx), (ly, sy, Ay, cy), Nu, Nv), _, rfl, Kp_c (by kernel_rfl) (Kp_c (by kernel_rfl) (Kp_c (by kernel_rfl) (Kp_c (by kernel_rfl) (Kp_c (by kernel_rfl) (Kp_c (by kernel_rfl) (Kp_c (by kernel_rfl) (Kp_c (by kernel_rfl) (Kp_c (by kernel_rfl) (Kp_c (by kernel_rfl) (Kp_c (by kernel_rfl) (Kp_c (by kernel_rfl) (Kp_c (by kernel_rfl) (Kp_c (by kernel_rfl) (Kp_c (by kernel_rfl) (Kp_c (by kernel_rfl) (Kp_c (by kernel_rfl) (Kp_c (by kernel_rfl) (Kp_n)))))))))))))))))), ?_⟩
  dsimp only
  exact ⟨hU, Oz, Oa, Ob, Ex, Ox, Cx, Lx, Yx, Ey, Oy, Cy, Ly, Yy, Bz, Ba, Bb, Bu, Bv, hzu, hzv⟩
  refine stepR_al (i := 4) (m' := 21) rfl rfl (by kernel_rfl) (by kernel_rfl) (by kernel_rfl) rfl ?_
  intro w33 Nu Bu hNu hb
  replace Bu := hide Bu
  replace hb : Below w4.heap.size w4 w33 := Below.trans ((Below.refl _ _).drew) hb
  replace hNu : w4.heap.size ≤ Nu := hNu
  have nezu : Nz ≠ Nu := by have := Bz.out.lt; omega
  have neau : Na ≠ Nu := by have := Ba.out.lt; omega
  have nebu : Nb ≠ Nu := by have := Bb.out.lt; omega
  replace Oz := hide (RQ.below Oz.out hb)
  replace Oa := hide (RQ.below Oa.out hb)
  replace Ob := hide (RQ.below Ob.out hb)
  replace Bz := hide (Box.kept Bz.out hb)
  replace Ba := hide (Box.kept Ba.out hb)
  replace Bb := hide (Box.kept Bb.out hb)
  have hzu : w.heap.size ≤ Nu := Nat.le_trans hU.size hNu
  clear hNu
  replace hU := hU.trans (hb.mono hU.size)
  clear hb
  refine anyR_split [1, 5] (by kernel_rfl) rfl ⟨?_, ?_, trivial⟩
  refine stepR_call (i := 1) (m' := 23) rfl rfl (by kernel_rfl) (by kernel_rfl) (by kernel_rfl) (by kernel_rfl) ((vown_any Aa la ca sa _ La.out Ca Oa.out Ya.out).mono ?_)
  rintro e w34 ⟨lx, sx, Ax, cx, Ex, rfl, Cx, Ox, hb⟩
  refine ⟨_, rfl, hb, ?_⟩
  replace Oz := hide (RQ.below Oz.out hb)
  replace Oa := hide (RQ.below Oa.out hb)
  replace Ob := hide (RQ.below Ob.out hb)
  replace Bz := hide (Box.kept Bz.out hb)
  replace Ba := hide (Box.kept Ba.out hb)
  replace Bb := hide (Box.kept Bb.out hb)
  replace Bu := hide (Box.kept Bu.out hb)
  replace Ox := hide Ox.out.rd
  replace hU := hU.trans (hb.mono hU.size)
  clear hb
  have g : By lx ∧ lx.length ≤ 4096 := by have h := congrArg Vc.b Ex.out; dsimp only at h; rw [h]; exact ⟨Ya.out, La.out⟩
  have Lx := hide g.2
  have Yx := hide g.1
  clear g
  refine anyR_split [3, 5] (by kernel_rfl) rfl ⟨?_, ?_, trivial⟩
  refine stepR_call (i := 3) (m' := 31) rfl rfl (by kernel_rfl) (by kernel_rfl) (by kernel_rfl) (by kernel_rfl) ((vown_any Ab lb cb sb _ Lb.out Cb Ob.out Yb.out).mono ?_)
  rintro e w35 ⟨ly, sy, Ay, cy, Ey, rfl, Cy, Oy, hb⟩
  refine ⟨_, rfl, hb, ?_⟩
  replace Oz := hide (RQ.below Oz.out hb)
  replace Oa := hide (RQ.below Oa.out hb)
  replace Ob := hide (RQ.below Ob.out hb)
  replace Ox := hide (RQ.below Ox.out hb)
  replace Bz := hide (Box.kept Bz.out hb)
  replace Ba := hide (Box.kept Ba.out hb)
  replace Bb := hide (Box.kept Bb.out hb)
  replace Bu := hide (Box.kept Bu.out hb)
  replace Oy := hide Oy.out.rd
  replace hU := hU.trans (hb.mono hU.size)
  clear hb
  have g : By ly ∧ ly.length ≤ 4096 := by have h := congrArg Vc.b Ey.out; dsimp only at h; rw [h]; exact ⟨Yb.out, Lb.out⟩
  have Ly := hide g.2
  have Yy := hide g.1
  clear g
  refine anyR_split [5] (by kernel_rfl) rfl ⟨?_, trivial⟩
  refine stepR_al (i := 5) (m' := 63) rfl rfl (by kernel_rfl) (by kernel_rfl) (by kernel_rfl) rfl ?_
  intro w36 Nv Bv hNv hb
  replace Bv := hide Bv
  have nezv : Nz ≠ Nv := by have := Bz.out.lt; omega
  have neav : Na ≠ Nv := by have := Ba.out.lt; omega
  have nebv : Nb ≠ Nv := by have := Bb.out.lt; omega
  have neuv : Nu ≠ Nv := by have := Bu.out.lt; omega
  replace Oz := hide (RQ.below Oz.out hb)
  replace Oa := hide (RQ.below Oa.out hb)
  replace Ob := hide (RQ.below Ob.out hb)
  replace Ox := hide (RQ.below Ox.out hb)
  replace Oy := hide (RQ.below Oy.out hb)
  replace Bz := hide (Box.kept Bz.out hb)
  replace Ba := hide (Box.kept Ba.out hb)
  replace Bb := hide (Box.kept Bb.out hb)
  replace Bu := hide (Box.kept Bu.out hb)
  have hzv : w.heap.size ≤ Nv := Nat.le_trans hU.size hNv
  clear hNv
  replace hU := hU.trans (hb.mono hU.size)
  clear hb
  refine anyR_e (anyE_st (i := 6) (m' := 127) Bu.out rfl rfl (by kernel_rfl) (by kernel_rfl) (by kernel_rfl) (by kernel_rfl) rfl (by kernel_rfl) (A2 := Ax) (m2 := lx.length) (c2 := cx) (s2 := sx) (by kernel_rfl) ?_)
  intro w37 hst
  replace Oz := hide (hst.rq Oz.out)
  replace Oa := hide (hst.rq Oa.out)
  replace Ob := hide (hst.rq Ob.out)
  replace Ox := hide (hst.rq Ox.out)
  replace Oy := hide (hst.rq Oy.out)
  replace Bz := hide (hst.ne Bz.out (by first | exact nezu | exact (Ne.symm neuz) | assumption | (exact Ne.symm (by assumption)) | omega))
  replace Ba := hide (hst.ne Ba.out (by first | exact neau | exact (Ne.symm neua) | assumption | (exact Ne.symm (by assumption)) | omega))
  replace Bb := hide (hst.ne Bb.out (by first | exact nebu | exact (Ne.symm neub) | assumption | (exact Ne.symm (by assumption)) | omega))
  replace Bv := hide (hst.ne Bv.out (by first | exact nevu | exact (Ne.symm neuv) | assumption | (exact Ne.symm (by assumption)) | omega))
  replace Bu := hide hst.box
  replace hU := hU.trans (hst.bel hzu)
  clear hst
  refine anyE_st (i := 7) (m' := 255) Bv.out rfl rfl (by kernel_rfl) (by kernel_rfl) (by kernel_rfl) (by kernel_rfl) rfl (by kernel_rfl) (A2 := Ay) (m2 := ly.length) (c2 := cy) (s2 := sy) (by kernel_rfl) ?_
  intro w38 hst
  replace Oz := hide (hst.rq Oz.out)
  replace Oa := hide (hst.rq Oa.out)
  replace Ob := hide (hst.rq Ob.out)
  replace Ox := hide (hst.rq Ox.out)
  replace Oy := hide (hst.rq Oy.out)
  replace Bz := hide (hst.ne Bz.out (by first | exact nezv | exact (Ne.symm nevz) | assumption | (exact Ne.symm (by assumption)) | omega))
  replace Ba := hide (hst.ne Ba.out (by first | exact neav | exact (Ne.symm neva) | assumption | (exact Ne.symm (by assumption)) | omega))
  replace Bb := hide (hst.ne Bb.out (by first | exact nebv | exact (Ne.symm nevb) | assumption | (exact Ne.symm (by assumption)) | omega))
  replace Bu := hide (hst.ne Bu.out (by first | exact neuv | exact (Ne.symm nevu) | assumption | (exact Ne.symm (by assumption)) | omega))
  replace Bv := hide hst.box
  replace hU := hU.trans (hst.bel hzv)
  clear hst
  refine anyE_done (by kernel_rfl) ?_
  refine then_normal ⟨((lx, sx, Ax, cx), (ly, sy, Ay, cy), Nu, Nv), _, rfl, Kp_c (by kernel_rfl) (Kp_c (by kernel_rfl) (Kp_c (by kernel_rfl) (Kp_c (by kernel_rfl) (Kp_c (by kernel_rfl) (Kp_c (by kernel_rfl) (Kp_c (by kernel_rfl) (Kp_c (by kernel_rfl) (Kp_c (by kernel_rfl) (Kp_c (by kernel_rfl) (Kp_c (by kernel_rfl) (Kp_c (by kernel_rfl) (Kp_c (by kernel_rfl) (Kp_c (by kernel_rfl) (Kp_c (by kernel_rfl) (Kp_c (by kernel_rfl) (Kp_c (by kernel_rfl) (Kp_c (by kernel_rfl) (Kp_n)))))))))))))))))), ?_⟩
  dsimp only
  exact ⟨hU, Oz, Oa, Ob, Ex, Ox, Cx, Lx, Yx, Ey, Oy, Cy, Ly, Yy, Bz, Ba, Bb, Bu, Bv, hzu, hzv⟩
  refine stepR_al (i := 5) (m' := 55) rfl rfl (by kernel_rfl) (by kernel_rfl) (by kernel_rfl) rfl ?_
  intro w39 Nv Bv hNv hb
  replace Bv := hide Bv
  have nezv : Nz ≠ Nv := by have := Bz.out.lt; omega
  have neav : Na ≠ Nv := by have := Ba.out.lt; omega
  have nebv : Nb ≠ Nv := by have := Bb.out.lt; omega
  have neuv : Nu ≠ Nv := by have := Bu.out.lt; omega
  replace Oz := hide (RQ.below Oz.out hb)
  replace Oa := hide (RQ.below Oa.out hb)
  replace Ob := hide (RQ.below Ob.out hb)
  replace Ox := hide (RQ.below Ox.out hb)
  replace Bz := hide (Box.kept Bz.out hb)
  replace Ba := hide (Box.kept Ba.out hb)
  replace Bb := hide (Box.kept Bb.out hb)
  replace Bu := hide (Box.kept Bu.out hb)
  have hzv : w.heap.size ≤ Nv := Nat.le_trans hU.size hNv
  clear hNv
  replace hU := hU.trans (hb.mono hU.size)
  clear hb
  refine anyR_call (i := 3) (m' := 63) rfl rfl (by kernel_rfl) (by kernel_rfl) (by kernel_rfl) (by kernel_rfl) (by kernel_rfl) ((vown_any Ab lb cb sb _ Lb.out Cb Ob.out Yb.out).mono ?_)
  rintro e w40 ⟨ly, sy, Ay, cy, Ey, rfl, Cy, Oy, hb⟩
  refine ⟨_, rfl, hb, ?_⟩
  replace Oz := hide (RQ.below Oz.out hb)
  replace Oa := hide (RQ.below Oa.out hb)
  replace Ob := hide (RQ.below Ob.out hb)
  replace Ox := hide (RQ.below Ox.out hb)
  replace Bz := hide (Box.kept Bz.out hb)
  replace Ba := hide (Box.kept Ba.out hb)
  replace Bb := hide (Box.kept Bb.out hb)
  replace Bu := hide (Box.kept Bu.out hb)
  replace Bv := hide (Box.kept Bv.out hb)
  replace Oy := hide Oy.out.rd
  replace hU := hU.trans (hb.mono hU.size)
  clear hb
  have g : By ly ∧ ly.length ≤ 4096 := by have h := congrArg Vc.b Ey.out; dsimp only at h; rw [h]; exact ⟨Yb.out, Lb.out⟩
  have Ly := hide g.2
  have Yy := hide g.1
  clear g
  refine anyR_e (anyE_st (i := 6) (m' := 127) Bu.out rfl rfl (by kernel_rfl) (by kernel_rfl) (by kernel_rfl) (by kernel_rfl) rfl (by kernel_rfl) (A2 := Ax) (m2 := lx.length) (c2 := cx) (s2 := sx) (by kernel_rfl) ?_)
  intro w41 hst
  replace Oz := hide (hst.rq Oz.out)
  replace Oa := hide (hst.rq Oa.out)
  replace Ob := hide (hst.rq Ob.out)
  replace Ox := hide (hst.rq Ox.out)
  replace Oy := hide (hst.rq Oy.out)
  replace Bz := hide (hst.ne Bz.out (by first | exact nezu | exact (Ne.symm neuz) | assumption | (exact Ne.symm (by assumption)) | omega))
  replace Ba := hide (hst.ne Ba.out (by first | exact neau | exact (Ne.symm neua) | assumption | (exact Ne.symm (by assumption)) | omega))
  replace Bb := hide (hst.ne Bb.out (by first | exact nebu | exact (Ne.symm neub) | assumption | (exact Ne.symm (by assumption)) | omega))
  replace Bv := hide (hst.ne Bv.out (by first | exact nevu | exact (Ne.symm neuv) | assumption | (exact Ne.symm (by assumption)) | omega))
  replace Bu := hide hst.box
  replace hU := hU.trans (hst.bel hzu)
  clear hst
  refine anyE_st (i := 7) (m' := 255) Bv.out rfl rfl (by kernel_rfl) (by kernel_rfl) (by kernel_rfl) (by kernel_rfl) rfl (by kernel_rfl) (A2 := Ay) (m2 := ly.length) (c2 := cy) (s2 := sy) (by kernel_rfl) ?_
  intro w42 hst
  replace Oz := hide (hst.rq Oz.out)
  replace Oa := hide (hst.rq Oa.out)
  replace Ob := hide (hst.rq Ob.out)
  replace Ox := hide (hst.rq Ox.out)
  replace Oy := hide (hst.rq Oy.out)
  replace Bz := hide (hst.ne Bz.out (by first | exact nezv | exact (Ne.symm nevz) | assumption | (exact Ne.symm (by assumption)) | omega))
  replace Ba := hide (hst.ne Ba.out (by first | exact neav | exact (Ne.symm neva) | assumption | (exact Ne.symm (by assumption)) | omega))
  replace Bb := hide (hst.ne Bb.out (by first | exact nebv | exact (Ne.symm nevb) | assumption | (exact Ne.symm (by assumption)) | omega))
  replace Bu := hide (hst.ne Bu.out (by first | exact neuv | exact (Ne.symm nevu) | assumption | (exact Ne.symm (by assumption)) | omega))
  replace Bv := hide hst.box
  replace hU := hU.trans (hst.bel hzv)
  clear hst
  refine anyE_done (by kernel_rfl) ?_
  refine then_normal ⟨((lx, sx, Ax, cx), (ly, sy, Ay, cy), Nu, Nv), _, rfl, Kp_c (by kernel_rfl) (Kp_c (by kernel_rfl) (Kp_c (by kernel_rfl) (Kp_c (by kernel_rfl) (Kp_c (by kernel_rfl) (Kp_c (by kernel_rfl) (Kp_c (by kernel_rfl) (Kp_c (by kernel_rfl) (Kp_c (by kernel_rfl) (Kp_c (by kernel_rfl) (Kp_c (by kernel_rfl) (Kp_c (by kernel_rfl) (Kp_c (by kernel_rfl) (Kp_c (by kernel_rfl) (Kp_c (by kernel_rfl) (Kp_c (by kernel_rfl) (Kp_c (by kernel_rfl) (Kp_c (by kernel_rfl) (Kp_n)))))))))))))))))), ?_⟩
  dsimp only
  exact ⟨hU, Oz, Oa, Ob, Ex, Ox, Cx, Lx, Yx, Ey, Oy, Cy, Ly, Yy, Bz, Ba, Bb, Bu, Bv, hzu, hzv⟩
  refine stepR_al (i := 5) (m' := 53) rfl rfl (by kernel_rfl) (by kernel_rfl) (by kernel_rfl) rfl ?_
  intro w43 Nv Bv hNv hb
  replace Bv := hide Bv
  have nezv : Nz ≠ Nv := by have := Bz.out.lt; omega
  have neav : Na ≠ Nv := by have := Ba.out.lt; omega
  have nebv : Nb ≠ Nv := by have := Bb.out.lt; omega
  have neuv : Nu ≠ Nv := by have := Bu.out.lt; omega
  replace Oz := hide (RQ.below Oz.out hb)
  replace Oa := hide (RQ.below Oa.out hb)
  replace Ob := hide (RQ.below Ob.out hb)
  replace Bz := hide (Box.kept Bz.out hb)
  replace Ba := hide (Box.kept Ba.out hb)
  replace Bb := hide (Box.kept Bb.out hb)
  replace Bu := hide (Box.kept Bu.out hb)
  have hzv : w.heap.size ≤ Nv := Nat.le_trans hU.size hNv
  clear hNv
  replace hU := hU.trans (hb.mono hU.size)
  clear hb
  refine anyR_call (i := 1) (m' := 55) rfl rfl (by kernel_rfl) (by kernel_rfl) (by kernel_rfl) (by kernel_rfl) (by kernel_rfl) ((vown_any Aa la ca sa _ La.out Ca Oa.out Ya.out).mono ?_)
  rintro e w44 ⟨lx, sx, Ax, cx, Ex, rfl, Cx, Ox, hb⟩
  refine ⟨_, rfl, hb, ?_⟩
  replace Oz := hide (RQ.below Oz.out hb)
  replace Oa := hide (RQ.below Oa.out hb)
  replace Ob := hide (RQ.below Ob.out hb)
  replace Bz := hide (Box.kept Bz.out hb)
  replace Ba := hide (Box.kept Ba.out hb)
  replace Bb := hide (Box.kept Bb.out hb)
  replace Bu := hide (Box.kept Bu.out hb)
  replace Bv := hide (Box.kept Bv.out hb)
  replace Ox := hide Ox.out.rd
  replace hU := hU.trans (hb.mono hU.size)
  clear hb
  have g : By lx ∧ lx.length ≤ 4096 := by have h := congrArg Vc.b Ex.out; dsimp only at h; rw [h]; exact ⟨Ya.out, La.out⟩
  have Lx := hide g.2
  have Yx := hide g.1
  clear g
  refine anyR_call (i := 3) (m' := 63) rfl rfl (by kernel_rfl) (by kernel_rfl) (by kernel_rfl) (by kernel_rfl) (by kernel_rfl) ((vown_any Ab lb cb sb _ Lb.out Cb Ob.out Yb.out).mono ?_)
  rintro e w45 ⟨ly, sy, Ay, cy, Ey, rfl, Cy, Oy, hb⟩
  refine ⟨_, rfl, hb, ?_⟩
  replace Oz := hide (RQ.below Oz.out hb)
  replace Oa := hide (RQ.below Oa.out hb)
  replace Ob := hide (RQ.below Ob.out hb)
  replace Ox := hide (RQ.below Ox.out hb)
  replace Bz := hide (Box.kept Bz.out hb)
  replace Ba := hide (Box.kept Ba.out hb)
  replace Bb := hide (Box.kept Bb.out hb)
  replace Bu := hide (Box.kept Bu.out hb)
  replace Bv := hide (Box.kept Bv.out hb)
  replace Oy := hide Oy.out.rd
  replace hU := hU.trans (hb.mono hU.size)
  clear hb
  have g : By ly ∧ ly.length ≤ 4096 := by have h := congrArg Vc.b Ey.out; dsimp only at h; rw [h]; exact ⟨Yb.out, Lb.out⟩
  have Ly := hide g.2
  have Yy := hide g.1
  clear g
  refine anyR_e (anyE_st (i := 6) (m' := 127) Bu.out rfl rfl (by kernel_rfl) (by kernel_rfl) (by kernel_rfl) (by kernel_rfl) rfl (by kernel_rfl) (A2 := Ax) (m2 := lx.length) (c2 := cx) (s2 := sx) (by kernel_rfl) ?_)
  intro w46 hst
  replace Oz := hide (hst.rq Oz.out)
  replace Oa := hide (hst.rq Oa.out)
  replace Ob := hide (hst.rq Ob.out)
  replace Ox := hide (hst.rq Ox.out)
  replace Oy := hide (hst.rq Oy.out)
  replace Bz := hide (hst.ne Bz.out (by first | exact nezu | exact (Ne.symm neuz) | assumption | (exact Ne.symm (by assumption)) | omega))
  replace Ba := hide (hst.ne Ba.out (by first | exact neau | exact (Ne.symm neua) | assumption | (exact Ne.symm (by assumption)) | omega))
  replace Bb := hide (hst.ne Bb.out (by first | exact nebu | exact (Ne.symm neub) | assumption | (exact Ne.symm (by assumption)) | omega))
  replace Bv := hide (hst.ne Bv.out (by first | exact nevu | exact (Ne.symm neuv) | assumption | (exact Ne.symm (by assumption)) | omega))
  replace Bu := hide hst.box
  replace hU := hU.trans (hst.bel hzu)
  clear hst
  refine anyE_st (i := 7) (m' := 255) Bv.out rfl rfl (by kernel_rfl) (by kernel_rfl) (by kernel_rfl) (by kernel_rfl) rfl (by kernel_rfl) (A2 := Ay) (m2 := ly.length) (c2 := cy) (s2 := sy) (by kernel_rfl) ?_
  intro w47 hst
  replace Oz := hide (hst.rq Oz.out)
  replace Oa := hide (hst.rq Oa.out)
  replace Ob := hide (hst.rq Ob.out)
  replace Ox := hide (hst.rq Ox.out)
  replace Oy := hide (hst.rq Oy.out)
  replace Bz := hide (hst.ne Bz.out (by first | exact nezv | exact (Ne.symm nevz) | assumption | (exact Ne.symm (by assumption)) | omega))
  replace Ba := hide (hst.ne Ba.out (by first | exact neav | exact (Ne.symm neva) | assumption | (exact Ne.symm (by assumption)) | omega))
  replace Bb := hide (hst.ne Bb.out (by first | exact nebv | exact (Ne.symm nevb) | assumption | (exact Ne.symm (by assumption)) | omega))
  replace Bu := hide (hst.ne Bu.out (by first | exact neuv | exact (Ne.symm nevu) | assumption | (exact Ne.symm (by assumption)) | omega))
  replace Bv := hide hst.box
  replace hU := hU.trans (hst.bel hzv)
  clear hst
  refine anyE_done (by kernel_rfl) ?_
  refine then_normal ⟨((lx, sx, Ax, cx), (ly, sy, Ay, cy), Nu, Nv), _, rfl, Kp_c (by kernel_rfl) (Kp_c (by kernel_rfl) (Kp_c (by kernel_rfl) (Kp_c (by kernel_rfl) (Kp_c (by kernel_rfl) (Kp_c (by kernel_rfl) (Kp_c (by kernel_rfl) (Kp_c (by kernel_rfl) (Kp_c (by kernel_rfl) (Kp_c (by kernel_rfl) (Kp_c (by kernel_rfl) (Kp_c (by kernel_rfl) (Kp_c (by kernel_rfl) (Kp_c (by kernel_rfl) (Kp_c (by kernel_rfl) (Kp_c (by kernel_rfl) (Kp_c (by kernel_rfl) (Kp_c (by kernel_rfl) (Kp_n)))))))))))))))))), ?_⟩
  dsimp only
  exact ⟨hU, Oz, Oa, Ob, Ex, Ox, Cx, Lx, Yx, Ey, Oy, Cy, Ly, Yy, Bz, Ba, Bb, Bu, Bv, hzu, hzv⟩
  refine stepR_al (i := 5) (m' := 37) rfl rfl (by kernel_rfl) (by kernel_rfl) (by kernel_rfl) rfl ?_
  intro w48 Nv Bv hNv hb
  replace Bv := hide Bv
  replace hb : Below w4.heap.size w4 w48 := Below.trans ((Below.refl _ _).drew) hb
  replace hNv : w4.heap.size ≤ Nv := hNv
  have nezv : Nz ≠ Nv := by have := Bz.out.lt; omega
  have neav : Na ≠ Nv := by have := Ba.out.lt; omega
  have nebv : Nb ≠ Nv := by have := Bb.out.lt; omega
  replace Oz := hide (RQ.below Oz.out hb)
  replace Oa := hide (RQ.below Oa.out hb)
  replace Ob := hide (RQ.below Ob.out hb)
  replace Bz := hide (Box.kept Bz.out hb)
  replace Ba := hide (Box.kept Ba.out hb)
  replace Bb := hide (Box.kept Bb.out hb)
  have hzv : w.heap.size ≤ Nv := Nat.le_trans hU.size hNv
  clear hNv
  replace hU := hU.trans (hb.mono hU.size)
  clear hb
  refine anyR_split [1, 4] (by kernel_rfl) rfl ⟨?_, ?_, trivial⟩
  refine stepR_call (i := 1) (m' := 39) rfl rfl (by kernel_rfl) (by kernel_rfl) (by kernel_rfl) (by kernel_rfl) ((vown_any Aa la ca sa _ La.out Ca Oa.out Ya.out).mono ?_)
  rintro e w49 ⟨lx, sx, Ax, cx, Ex, rfl, Cx, Ox, hb⟩
  refine ⟨_, rfl, hb, ?_⟩
  replace Oz := hide (RQ.below Oz.out hb)
  replace Oa := hide (RQ.below Oa.out hb)
  replace Ob := hide (RQ.below Ob.out hb)
  replace Bz := hide (Box.kept Bz.out hb)
  replace Ba := hide (Box.kept Ba.out hb)
  replace Bb := hide (Box.kept Bb.out hb)
  replace Bv := hide (Box.kept Bv.out hb)
  replace Ox := hide Ox.out.rd
  replace hU := hU.trans (hb.mono hU.size)
  clear hb
  have g : By lx ∧ lx.length ≤ 4096 := by have h := congrArg Vc.b Ex.out; dsimp only at h; rw [h]; exact ⟨Ya.out, La.out⟩
  have Lx := hide g.2
  have Yx := hide g.1
  clear g
  refine anyR_split [3, 4] (by kernel_rfl) rfl ⟨?_, ?_, trivial⟩
  refine stepR_call (i := 3) (m' := 47) rfl rfl (by kernel_rfl) (by kernel_rfl) (by kernel_rfl) (by kernel_rfl) ((vown_any Ab lb cb sb _ Lb.out Cb Ob.out Yb.out).mono ?_)
  rintro e w50 ⟨ly, sy, Ay, cy, Ey, rfl, Cy, Oy, hb⟩
  refine ⟨_, rfl, hb, ?_⟩
  replace Oz := hide (RQ.below Oz.out hb)
  replace Oa := hide (RQ.below Oa.out hb)
  replace Ob := hide (RQ.below Ob.out hb)
  replace Ox := hide (RQ.below Ox.out hb)
  replace Bz := hide (Box.kept Bz.out hb)
  replace Ba := hide (Box.kept Ba.out hb)
  replace Bb := hide (Box.kept Bb.out hb)
  replace Bv := hide (Box.kept Bv.out hb)
  replace Oy := hide Oy.out.rd
  replace hU := hU.trans (hb.mono hU.size)
  clear hb
  have g : By ly ∧ ly.length ≤ 4096 := by have h := congrArg Vc.b Ey.out; dsimp only at h; rw [h]; exact ⟨Yb.out, Lb.out⟩
  have Ly := hide g.2
  have Yy := hide g.1
  clear g
  refine anyR_split [4] (by kernel_rfl) rfl ⟨?_, trivial⟩
  refine stepR_al (i := 4) (m' := 63) rfl rfl (by kernel_rfl) (by kernel_rfl) (by kernel_rfl) rfl ?_
  intro w51 Nu Bu hNu hb
  replace Bu := hide Bu
  have nezu : Nz ≠ Nu := by have := Bz.out.lt; omega
  have neau : Na ≠ Nu := by have := Ba.out.lt; omega
  have nebu : Nb ≠ Nu := by have := Bb.out.lt; omega
  have nevu : Nv ≠ Nu := by have := Bv.out.lt; omega
  replace Oz := hide (RQ.below Oz.out hb)
  replace Oa := hide (RQ.below Oa.out hb)
  replace Ob := hide (RQ.below Ob.out hb)
  replace Ox := hide (RQ.below Ox.out hb)
  replace Oy := hide (RQ.below Oy.out hb)
  replace Bz := hide (Box.kept Bz.out hb)
  replace Ba := hide (Box.kept Ba.out hb)
  replace Bb := hide (Box.kept Bb.out hb)
  replace Bv := hide (Box.kept Bv.out hb)
  have hzu : w.heap.size ≤ Nu := Nat.le_trans hU.size hNu
  clear hNu
  replace hU := hU.trans (hb.mono hU.size)
  clear hb
  refine anyR_e (anyE_st (i := 6) (m' := 127) Bu.out rfl rfl (by kernel_rfl) (by kernel_rfl) (by kernel_rfl) (by kernel_rfl) rfl (by kernel_rfl) (A2 := Ax) (m2 := lx.length) (c2 := cx) (s2 := sx) (by kernel_rfl) ?_)
  intro w52 hst
  replace Oz := hide (hst.rq Oz.out)
  replace Oa := hide (hst.rq Oa.out)
  replace Ob := hide (hst.rq Ob.out)
  replace Ox := hide (hst.rq Ox.out)
  replace Oy := hide (hst.rq Oy.out)
  replace Bz := hide (hst.ne Bz.out (by first | exact nezu | exact (Ne.symm neuz) | assumption | (exact Ne.symm (by assumption)) | omega))
  replace Ba := hide (hst.ne Ba.out (by first | exact neau | exact (Ne.symm neua) | assumption | (exact Ne.symm (by assumption)) | omega))
  replace Bb := hide (hst.ne Bb.out (by first | exact nebu | exact (Ne.symm neub) | assumption | (exact Ne.symm (by assumption)) | omega))
  replace Bv := hide (hst.ne Bv.out (by first | exact nevu | exact (Ne.symm neuv) | assumption | (exact Ne.symm (by assumption)) | omega))
  replace Bu := hide hst.box
  replace hU := hU.trans (hst.bel hzu)
  clear hst
  refine anyE_st (i := 7) (m' := 255) Bv.out rfl rfl (by kernel_rfl) (by kernel_rfl) (by kernel_rfl) (by kernel_rfl) rfl (by kernel_rfl) (A2 := Ay) (m2 := ly.length) (c2 := cy) (s2 := sy) (by kernel_rfl) ?_
  intro w53 hst
  replace Oz := hide (hst.rq Oz.out)
  replace Oa := hide (hst.rq Oa.out)
  replace Ob := hide (hst.rq Ob.out)
  replace Ox := hide (hst.rq Ox.out)
  replace Oy := hide (hst.rq Oy.out)
  replace Bz := hide (hst.ne Bz.out (by first | exact nezv | exact (Ne.symm nevz) | assumption | (exact Ne.symm (by assumption)) | omega))
  replace Ba := hide (hst.ne Ba.out (by first | exact neav | exact (Ne.symm neva) | assumption | (exact Ne.symm (by assumption)) | omega))
  replace Bb := hide (hst.ne Bb.out (by first | exact nebv | exact (Ne.symm nevb) | assumption | (exact Ne.symm (by assumption)) | omega))
  replace Bu := hide (hst.ne Bu.out (by first | exact neuv | exact (Ne.symm nevu) | assumption | (exact Ne.symm (by assumption)) | omega))
  replace Bv := hide hst.box
  replace hU := hU.trans (hst.bel hzv)
  clear hst
  refine anyE_done (by kernel_rfl) ?_
  refine then_normal ⟨((lx, sx, Ax, cx), (ly, sy, Ay, cy), Nu, Nv), _, rfl, Kp_c (by kernel_rfl) (Kp_c (by kernel_rfl) (Kp_c (by kernel_rfl) (Kp_c (by kernel_rfl) (Kp_c (by kernel_rfl) (Kp_c (by kernel_rfl) (Kp_c (by kernel_rfl) (Kp_c (by kernel_rfl) (Kp_c (by kernel_rfl) (Kp_c (by kernel_rfl) (Kp_c (by kernel_rfl) (Kp_c (by kernel_rfl) (Kp_c (by kernel_rfl) (Kp_c (by kernel_rfl) (Kp_c (by kernel_rfl) (Kp_c (by kernel_rfl) (Kp_c (by kernel_rfl) (Kp_c (by kernel_rfl) (Kp_n)))))))))))))))))), ?_⟩
  dsimp only
  exact ⟨hU, Oz, Oa, Ob, Ex, Ox, Cx, Lx, Yx, Ey, Oy, Cy, Ly, Yy, Bz, Ba, Bb, Bu, Bv, hzu, hzv⟩
  refine stepR_al (i := 4) (m' := 55) rfl rfl (by kernel_rfl) (by kernel_rfl) (by kernel_rfl) rfl ?_
  intro w54 Nu Bu hNu hb
  replace Bu := hide Bu
  have nezu : Nz ≠ Nu := by have := Bz.out.lt; omega
  have neau : Na ≠ Nu := by have := Ba.out.lt; omega
  have nebu : Nb ≠ Nu := by have := Bb.out.lt; omega
  have nevu : Nv ≠ Nu := by have := Bv.out.lt; omega
  replace Oz := hide (RQ.below Oz.out hb)
  replace Oa := hide (RQ.below Oa.out hb)
  replace Ob := hide (RQ.below Ob.out hb)
  replace Ox := hide (RQ.below Ox.out hb)
  replace Bz := hide (Box.kept Bz.out hb)
  replace Ba := hide (Box.kept Ba.out hb)
  replace Bb := hide (Box.kept Bb.out hb)
  replace Bv := hide (Box.kept Bv.out hb)
  have hzu : w.heap.size ≤ Nu := Nat.le_trans hU.size hNu
  clear hNu
  replace hU := hU.trans (hb.mono hU.size)
  clear hb
  refine anyR_call (i := 3) (m' := 63) rfl rfl (by kernel_rfl) (by kernel_rfl) (by kernel_rfl) (by kernel_rfl) (by kernel_rfl) ((vown_any Ab lb cb sb _ Lb.out Cb Ob.out Yb.out).mono ?_)
  rintro e w55 ⟨ly, sy, Ay, cy, Ey, rfl, Cy, Oy, hb⟩
  refine ⟨_, rfl, hb, ?_⟩
  replace Oz := hide (RQ.below Oz.out hb)
  replace Oa := hide (RQ.below Oa.out hb)
  replace Ob := hide (RQ.below Ob.out hb)
  replace Ox := hide (RQ.below Ox.out hb)
  replace Bz := hide (Box.kept Bz.out hb)
  replace Ba := hide (Box.kept Ba.out hb)
  replace Bb := hide (Box.kept Bb.out hb)
  replace Bv := hide (Box.kept Bv.out hb)
  replace Bu := hide (Box.kept Bu.out hb)
  replace Oy := hide Oy.out.rd
  replace hU := hU.trans (hb.mono hU.size)
  clear hb
  have g : By ly ∧ ly.length ≤ 4096 := by have h := congrArg Vc.b Ey.out; dsimp only at h; rw [h]; exact ⟨Yb.out, Lb.out⟩
  have Ly := hide g.2
  have Yy := hide g.1
  clear g
  refine anyR_e (anyE_st (i := 6) (m' := 127) Bu.out rfl rfl (by kernel_rfl) (by kernel_rfl) (by kernel_rfl) (by kernel_rfl) rfl (by kernel_rfl) (A2 := Ax) (m2 := lx.length) (c2 := cx) (s2 := sx) (by kernel_rfl) ?_)
  intro w56 hst
  replace Oz := hide (hst.rq Oz.out)
  replace Oa := hide (hst.rq Oa.out)
  replace Ob := hide (hst.rq Ob.out)
  replace Ox := hide (hst.rq Ox.out)
  replace Oy := hide (hst.rq Oy.out)
  replace Bz := hide (hst.ne Bz.out (by first | exact nezu | exact (Ne.symm neuz) | assumption | (exact Ne.symm (by assumption)) | omega))
  replace Ba := hide (hst.ne Ba.out (by first | exact neau | exact (Ne.symm neua) | assumption | (exact Ne.symm (by assumption)) | omega))
  replace Bb := hide (hst.ne Bb.out (by first | exact nebu | exact (Ne.symm neub) | assumption | (exact Ne.symm (by assumption)) | omega))
  replace Bv := hide (hst.ne Bv.out (by first | exact nevu | exact (Ne.symm neuv) | assumption | (exact Ne.symm (by assumption)) | omega))
  replace Bu := hide hst.box
  replace hU := hU.trans (hst.bel hzu)
  clear hst
  refine anyE_st (i := 7) (m' := 255) Bv.out rfl rfl (by kernel_rfl) (by kernel_rfl) (by kernel_rfl) (by kernel_rfl) rfl (by kernel_rfl) (A2 := Ay) (m2 := ly.length) (c2 := cy) (s2 := sy) (by kernel_rfl) ?_
  intro w57 hst
  replace Oz := hide (hst.rq Oz.out)
  replace Oa := hide (hst.rq Oa.out)
  replace Ob := hide (hst.rq Ob.out)
  replace Ox := hide (hst.rq Ox.out)
  replace Oy := hide (hst.rq Oy.out)
  replace Bz := hide (hst.ne Bz.out (by first | exact nezv | exact (Ne.symm nevz) | assumption | (exact Ne.symm (by assumption)) | omega))
  replace Ba := hide (hst.ne Ba.out (by first | exact neav | exact (Ne.symm neva) | assumption | (exact Ne.symm (by assumption)) | omega))
  replace Bb := hide (hst.ne Bb.out (by first | exact nebv | exact (Ne.symm nevb) | assumption | (exact Ne.symm (by assumption)) | omega))
  replace Bu := hide (hst.ne Bu.out (by first | exact neuv | exact (Ne.symm nevu) | assumption | (exact Ne.symm (by assumption)) | omega))
  replace Bv := hide hst.box
  replace hU := hU.trans (hst.bel hzv)
  clear hst
  refine anyE_done (by kernel_rfl) ?_
  refine then_normal ⟨((lx, sx, Ax, cx), (ly, sy, Ay, cy), Nu, Nv), _, rfl, Kp_c (by kernel_rfl) (Kp_c (by kernel_rfl) (Kp_c (by kernel_rfl) (Kp_c (by kernel_rfl) (Kp_c (by kernel_rfl) (Kp_c (by kernel_rfl) (Kp_c (by kernel_rfl) (Kp_c (by kernel_rfl) (Kp_c (by kernel_rfl) (Kp_c (by kernel_rfl) (Kp_c (by kernel_rfl) (Kp_c (by kernel_rfl) (Kp_c (by kernel_rfl) (Kp_c (by kernel_rfl) (Kp_c (by kernel_rfl) (Kp_c (by kernel_rfl) (Kp_c (by kernel_rfl) (Kp_c (by kernel_rfl) (Kp_n)))))))))))))))))), ?_⟩
  dsimp only
  exact ⟨hU, Oz, Oa, Ob, Ex, Ox, Cx, Lx, Yx, Ey, Oy, Cy, Ly, Yy, Bz, Ba, Bb, Bu, Bv, hzu, hzv⟩
  refine stepR_al (i := 4) (m' := 53) rfl rfl (by kernel_rfl) (by kernel_rfl) (by kernel_rfl) rfl ?_
  intro w58 Nu Bu hNu hb
  replace Bu := hide Bu
  have nezu : Nz ≠ Nu := by have := Bz.out.lt; omega
  have neau : Na ≠ Nu := by have := Ba.out.lt; omega
  have nebu : Nb ≠ Nu := by have := Bb.out.lt; omega
  have nevu : Nv ≠ Nu := by have := Bv.out.lt; omega
  replace Oz := hide (RQ.below Oz.out hb)
  replace Oa := hide (RQ.below Oa.out hb)
  replace Ob := hide (RQ.below Ob.out hb)
  replace Bz := hide (Box.kept Bz.out hb)
  replace Ba := hide (Box.kept Ba.out hb)
  replace Bb := hide (Box.kept Bb.out hb)
  replace Bv := hide (Box.kept Bv.out hb)
  have hzu : w.heap.size ≤ Nu := Nat.le_trans hU.size hNu
  clear hNu
  replace hU := hU.trans (hb.mono hU.size)
  clear hb
  refine anyR_call (i := 1) (m' := 55) rfl rfl (by kernel_rfl) (by kernel_rfl) (by kernel_rfl) (by kernel_rfl) (by kernel_rfl) ((vown_any Aa la ca sa _ La.out Ca Oa.out Ya.out).mono ?_)
  rintro e w59 ⟨lx, sx, Ax, cx, Ex, rfl, Cx, Ox, hb⟩
  refine ⟨_, rfl, hb, ?_⟩
  replace Oz := hide (RQ.below Oz.out hb)
  replace Oa := hide (RQ.below Oa.out hb)
  replace Ob := hide (RQ.below Ob.out hb)
  replace Bz := hide (Box.kept Bz.out hb)
  replace Ba := hide (Box.kept Ba.out hb)
  replace Bb := hide (Box.kept Bb.out hb)
  replace Bv := hide (Box.kept Bv.out hb)
  replace Bu := hide (Box.kept Bu.out hb)
  replace Ox := hide Ox.out.rd
  replace hU := hU.trans (hb.mono hU.size)
  clear hb
  have g : By lx ∧ lx.length ≤ 4096 := by have h := congrArg Vc.b Ex.out; dsimp only at h; rw [h]; exact ⟨Ya.out, La.out⟩
  have Lx := hide g.2
  have Yx := hide g.1
  clear g
  refine anyR_call (i := 3) (m' := 63) rfl rfl (by kernel_rfl) (by kernel_rfl) (by kernel_rfl) (by kernel_rfl) (by kernel_rfl) ((vown_any Ab lb cb sb _ Lb.out Cb Ob.out Yb.out).mono ?_)
  rintro e w60 ⟨ly, sy, Ay, cy, Ey, rfl, Cy, Oy, hb⟩
  refine ⟨_, rfl, hb, ?_⟩
  replace Oz := hide (RQ.below Oz.out hb)
  replace Oa := hide (RQ.below Oa.out hb)
  replace Ob := hide (RQ.below Ob.out hb)
  replace Ox := hide (RQ.below Ox.out hb)
  replace Bz := hide (Box.kept Bz.out hb)
  replace Ba := hide (Box.kept Ba.out hb)
  replace Bb := hide (Box.kept Bb.out hb)
  replace Bv := hide (Box.kept Bv.out hb)
  replace Bu := hide (Box.kept Bu.out hb)
  replace Oy := hide Oy.out.rd
  replace hU := hU.trans (hb.mono hU.size)
  clear hb
  have g : By ly ∧ ly.length ≤ 4096 := by have h := congrArg Vc.b Ey.out; dsimp only at h; rw [h]; exact ⟨Yb.out, Lb.out⟩
  have Ly := hide g.2
  have Yy := hide g.1
  clear g
  refine anyR_e (anyE_st (i := 6) (m' := 127) Bu.out rfl rfl (by kernel_rfl) (by kernel_rfl) (by kernel_rfl) (by kernel_rfl) rfl (by kernel_rfl) (A2 := Ax) (m2 := lx.length) (c2 := cx) (s2 := sx) (by kernel_rfl) ?_)
  intro w61 hst
  replace Oz := hide (hst.rq Oz.out)
  replace Oa := hide (hst.rq Oa.out)
  replace Ob := hide (hst.rq Ob.out)
  replace Ox := hide (hst.rq Ox.out)
  replace Oy := hide (hst.rq Oy.out)
  replace Bz := hide (hst.ne Bz.out (by first | exact nezu | exact (Ne.symm neuz) | assumption | (exact Ne.symm (by assumption)) | omega))
  replace Ba := hide (hst.ne Ba.out (by first | exact neau | exact (Ne.symm neua) | assumption | (exact Ne.symm (by assumption)) | omega))
  replace Bb := hide (hst.ne Bb.out (by first | exact nebu | exact (Ne.symm neub) | assumption | (exact Ne.symm (by assumption)) | omega))
  replace Bv := hide (hst.ne Bv.out (by first | exact nevu | exact (Ne.symm neuv) | assumption | (exact Ne.symm (by assumption)) | omega))
  replace Bu := hide hst.box
  replace hU := hU.trans (hst.bel hzu)
  clear hst
  refine anyE_st (i := 7) (m' := 255) Bv.out rfl rfl (by kernel_rfl) (by kernel_rfl) (by kernel_rfl) (by kernel_rfl) rfl (by kernel_rfl) (A2 := Ay) (m2 := ly.length) (c2 := cy) (s2 := sy) (by kernel_rfl) ?_
  intro w62 hst
  replace Oz := hide (hst.rq Oz.out)
  replace Oa := hide (hst.rq Oa.out)
  replace Ob := hide (hst.rq Ob.out)
  replace Ox := hide (hst.rq Ox.out)
  replace Oy := hide (hst.rq Oy.out)
  replace Bz := hide (hst.ne Bz.out (by first | exact nezv | exact (Ne.symm nevz) | assumption | (exact Ne.symm (by assumption)) | omega))
  replace Ba := hide (hst.ne Ba.out (by first | exact neav | exact (Ne.symm neva) | assumption | (exact Ne.symm (by assumption)) | omega))
  replace Bb := hide (hst.ne Bb.out (by first | exact nebv | exact (Ne.symm nevb) | assumption | (exact Ne.symm (by assumption)) | omega))
  replace Bu := hide (hst.ne Bu.out (by first | exact neuv | exact (Ne.symm nevu) | assumption | (exact Ne.symm (by assumption)) | omega))
  replace Bv := hide hst.box
  replace hU := hU.trans (hst.bel hzv)
  clear hst
  refine anyE_done (by kernel_rfl) ?_
  refine then_normal ⟨((lx, sx, Ax, cx), (ly, sy, Ay, cy), Nu, Nv), _, rfl, Kp_c (by kernel_rfl) (Kp_c (by kernel_rfl) (Kp_c (by kernel_rfl) (Kp_c (by kernel_rfl) (Kp_c (by kernel_rfl) (Kp_c (by kernel_rfl) (Kp_c (by kernel_rfl) (Kp_c (by kernel_rfl) (Kp_c (by kernel_rfl) (Kp_c (by kernel_rfl) (Kp_c (by kernel_rfl) (Kp_c (by kernel_rfl) (Kp_c (by kernel_rfl) (Kp_c (by kernel_rfl) (Kp_c (by kernel_rfl) (Kp_c (by kernel_rfl) (Kp_c (by kernel_rfl) (Kp_c (by kernel_rfl) (Kp_n)))))))))))))))))), ?_⟩
  dsimp only
  exact ⟨hU, Oz, Oa, Ob, Ex, Ox, Cx, Lx, Yx, Ey, Oy, Cy, Ly, Yy, Bz, Ba, Bb, Bu, Bv, hzu, hzv⟩
  rintro ⟨⟨lx, sx, Ax, cx⟩, ⟨ly, sy, Ay, cy⟩, Nu, Nv⟩ X63 w63 h
  clear hU Oz Oa Ob Bz Ba Bb
  dsimp only at h
  obtain ⟨hU, Oz, Oa, Ob, Ex, Ox, Cx, Lx, Yx, Ey, Oy, Cy, Ly, Yy, Bz, Ba, Bb, Bu, Bv, hzu, hzv⟩ := h
  refine then_normal (wp_seq (wp_seq ?_))
  obtain ⟨Pr1, HM1, HC1, p1_z, p1_a, p1_b, p1_x, p1_y, q1_z, q1_a, q1_b, q1_u, q1_v⟩ : ∃ Pr : World → Prop, (∀ w w', Pr w → Below w.heap.size w w' → Pr w') ∧ Hid (Pr w63) ∧ (∀ W, Pr W → RQ W Az lz) ∧ (∀ W, Pr W → RQ W Aa la) ∧ (∀ W, Pr W → RQ W Ab lb) ∧ (∀ W, Pr W → RQ W Ax lx) ∧ (∀ W, Pr W → RQ W Ay ly) ∧ (∀ W, Pr W → Box Nz Az lz.length cz sz W) ∧ (∀ W, Pr W → Box Na Aa la.length ca sa W) ∧ (∀ W, Pr W → Box Nb Ab lb.length cb sb W) ∧ (∀ W, Pr W → Box Nu Ax lx.length cx sx W) ∧ (∀ W, Pr W → Box Nv Ay ly.length cy sy W) := ⟨fun W => RQ W Az lz ∧ RQ W Aa la ∧ RQ W Ab lb ∧ RQ W Ax lx ∧ RQ W Ay ly ∧ Box Nz Az lz.length cz sz W ∧ Box Na Aa la.length ca sa W ∧ Box Nb Ab lb.length cb sb W ∧ Box Nu Ax lx.length cx sx W ∧ Box Nv Ay ly.length cy sy W, fun _ _ h hb => ⟨RQ.below h.1 hb, RQ.below h.2.1 hb, RQ.below h.2.2.1 hb, RQ.below h.2.2.2.1 hb, RQ.below h.2.2.2.2.1 hb, Box.kept h.2.2.2.2.2.1 hb, Box.kept h.2.2.2.2.2.2.1 hb, Box.kept h.2.2.2.2.2.2.2.1 hb, Box.kept h.2.2.2.2.2.2.2.2.1 hb, Box.kept h.2.2.2.2.2.2.2.2.2 hb⟩, hide ⟨Oz.out, Oa.out, Ob.out, Ox.out, Oy.out, Bz.out, Ba.out, Bb.out, Bu.out, Bv.out⟩, fun _ h => h.1, fun _ h => h.2.1, fun _ h => h.2.2.1, fun _ h => h.2.2.2.1, fun _ h => h.2.2.2.2.1, fun _ h => h.2.2.2.2.2.1, fun _ h => h.2.2.2.2.2.2.1, fun _ h => h.2.2.2.2.2.2.2.1, fun _ h => h.2.2.2.2.2.2.2.2.1, fun _ h => h.2.2.2.2.2.2.2.2.2⟩
  clear Oz Oa Ob Ox Oy Bz Ba Bb Bu Bv
  refine reg_lit (wpl_r1 [(9, .int .i64 0)] (by kernel_rfl) (wpl_end (then_normal (wp_block (loop_r 3 (round_s (wp_seq ?_)))))))
  refine sw_t [(22, .bool true), (21, .int .i64 0)] rfl (by kernel_rfl) (by kernel_rfl) (wp_skip (then_normal (wp_seq (wp_block (wp_seq ?_)))))
  have HK := HC1
  have hUK := hU
  have hV : Below w63.heap.size w63 w63 := Below.refl _ _
  refine reg_lit (wpl_ldvec (q1_z _ HC1.out) rfl (by kernel_rfl) rfl (by kernel_rfl) (wpl_ldvec (q1_u _ HC1.out) rfl (by kernel_rfl) rfl (by kernel_rfl) (wpl_ldvec (q1_v _ HC1.out) rfl (by kernel_rfl) rfl (by kernel_rfl) ?_)))
  refine wpl_call rfl (by kernel_rfl) (by kernel_rfl) ((vCond_any Az lz cz sz Ax Ay lx ly cx cy sx sy _ Lx.out Ly.out Cx Cy (p1_x w63 HC1.out) (p1_y w63 HC1.out) Yx.out Yy.out Lz.out Cz (p1_z w63 HC1.out) Yz.out (HT.out.kept hU)).mono ?_)
  rintro e w64 ⟨lg1, sg1, Ag1, cg1, Eg1, rfl, Cg1, Og1, hb⟩
  refine ⟨_, rfl, ?_⟩
  replace HC1 := hide (HM1 _ _ HC1.out hb)
  replace hU := hU.trans (hb.mono hU.size)
  replace hV := hV.trans (hb.mono hV.size)
  clear hb
  have Gg1 : Gd lg1 := by have h := congrArg Vc.b Eg1.out; dsimp only at h; rw [h]; exact (gd_cond (c := ⟨lz, sz⟩) (a := ⟨lx, sx⟩) (b := ⟨ly, sy⟩) Yx.out Yy.out)
  have Lg1 := hide (show lg1.length ≤ 4096 from Nat.le_trans Gg1.le (by decide))
  have Yg1 := hide Gg1.by_
  clear Gg1
  refine wpl_made (A := Ag1) (m := lg1.length) (c := cg1) (s := sg1) rfl rfl rfl rfl rfl rfl (fun _ => by kernel_rfl) (fun _ => by kernel_rfl) ?_
  intro w65 Ng1 Bg1 hNg1 hb
  replace Bg1 := hide Bg1
  replace HC1 := hide (HM1 _ _ HC1.out hb)
  replace Og1 := hide (OwQ.kept Og1.out hb)
  have hzg1 : w.heap.size ≤ Ng1 := Nat.le_trans hU.size hNg1
  clear hNg1
  replace hU := hU.trans (hb.mono hU.size)
  replace hV := hV.trans (hb.mono hV.size)
  clear hb
  refine wpl_end (then_normal (wp_seq (wp_seq (region_R (n := 6) (N := 7) (by kernel_rfl) (by kernel_rfl) (by kernel_rfl) (by kernel_rfl) (by kernel_rfl) (by kernel_rfl) (fun _ _ _ _ _ h => h) ?_))))
  intro F hQ
  have Bg10 := Bg1
  have HC0 := HC1
  refine anyR_ldvec (i := 0) (m' := 1) Bg10.out F hQ rfl rfl (by kernel_rfl) (by kernel_rfl) (by kernel_rfl) (by kernel_rfl) (by kernel_rfl) rfl (by kernel_rfl) (anyR_ldvec (i := 1) (m' := 3) (q1_z _ HC0.out) F hQ rfl rfl (by kernel_rfl) (by kernel_rfl) (by kernel_rfl) (by kernel_rfl) (by kernel_rfl) rfl (by kernel_rfl) (anyR_ldvec (i := 2) (m' := 7) (q1_a _ HC0.out) F hQ rfl rfl (by kernel_rfl) (by kernel_rfl) (by kernel_rfl) (by kernel_rfl) (by kernel_rfl) rfl (by kernel_rfl) (anyR_ldvec (i := 3) (m' := 15) (q1_b _ HC0.out) F hQ rfl rfl (by kernel_rfl) (by kernel_rfl) (by kernel_rfl) (by kernel_rfl) (by kernel_rfl) rfl (by kernel_rfl) ?_)))
  refine anyR_call (i := 4) (m' := 31) rfl rfl (by kernel_rfl) (by kernel_rfl) (by kernel_rfl) (by kernel_rfl) (by kernel_rfl) ((rcond_any Az Aa Ab lz la lb cz ca cb sz sa sb _ Lz.out La.out Lb.out Cz Ca Cb (by exact (p1_z w65 HC1.out)) (by exact (p1_a w65 HC1.out)) (by exact (p1_b w65 HC1.out)) Yz.out Ya.out Yb.out).mono ?_)
  rintro e w66 ⟨lh1, sh1, Ah1, ch1, Eh1, rfl, Ch1, Oh1, hb⟩
  refine ⟨_, rfl, hb, ?_⟩
  replace hb : Below w65.heap.size w65 w66 := Below.trans ((Below.refl _ _).drew) hb
  replace HC1 := hide (HM1 _ _ HC1.out hb)
  replace Og1 := hide (OwQ.kept Og1.out hb)
  replace Bg1 := hide (Box.kept Bg1.out hb)
  replace Oh1 := hide Oh1.out.rd
  replace hU := hU.trans (hb.mono hU.size)
  replace hV := hV.trans (hb.mono hV.size)
  clear hb
  have Gh1 : Gd lh1 := by have h := congrArg Vc.b Eh1.out; dsimp only at h; rw [h]; exact (gd_cond (c := ⟨lz, sz⟩) (a := ⟨la, sa⟩) (b := ⟨lb, sb⟩) Ya.out Yb.out)
  have Lh1 := hide (show lh1.length ≤ 4096 from Nat.le_trans Gh1.le (by decide))
  have Yh1 := hide Gh1.by_
  clear Gh1
  refine anyR_call (i := 5) (m' := 63) rfl rfl (by kernel_rfl) (by kernel_rfl) (by kernel_rfl) (by kernel_rfl) (by kernel_rfl) ((rsame_yes Ag1 Ah1 lg1 lh1 cg1 ch1 sg1 sh1 _ Lg1.out Lh1.out Og1.out.rd Oh1.out (by rw [Eg1.out, Eh1.out, Ex.out, Ey.out])).mono ?_)
  rintro e w67 ⟨rfl, hb⟩
  refine ⟨_, rfl, hb, ?_⟩
  replace HC1 := hide (HM1 _ _ HC1.out hb)
  replace Og1 := hide (OwQ.kept Og1.out hb)
  replace Oh1 := hide (RQ.below Oh1.out hb)
  replace Bg1 := hide (Box.kept Bg1.out hb)
  replace hU := hU.trans (hb.mono hU.size)
  replace hV := hV.trans (hb.mono hV.size)
  clear hb
  clear Oh1 Ch1 Lh1 Yh1
  refine anyR_e (anyR_last (i := 6) (m' := 127) (v := .bool false) rfl rfl (by kernel_rfl) (by kernel_rfl) (by kernel_rfl) (by kernel_rfl) (by kernel_rfl) (anyE_done (by kernel_rfl) ?_))
  clear F hQ Bg10 HC0
  refine then_normal (wp_iff (by kernel_rfl) (wp_skip (then_normal (reg_lit (wpl_ldvec Bg1.out rfl (by kernel_rfl) rfl (by kernel_rfl) (wpl_bsL1 rfl (by kernel_rfl) rfl (A0 := Ag1) (m0 := lg1.length) (c0 := cg1) (s0 := sg1) (by kernel_rfl) ?_))))))
  intro w68 NV68 RV68 hb
  replace RV68 := hide RV68
  replace HC1 := hide (HM1 _ _ HC1.out hb)
  replace Og1 := hide (OwQ.kept Og1.out hb)
  replace Bg1 := hide (Box.kept Bg1.out hb)
  replace hU := hU.trans (hb.mono hU.size)
  replace hV := hV.trans (hb.mono hV.size)
  clear hb
  refine wpl_call rfl (by kernel_rfl) (by kernel_rfl) ((vspoil1 (A := Ag1) (l := lg1) (cc := cg1) (s := sg1) w63.heap.size NV68 1 _ Lg1.out RV68.out Og1.out).mono ?_)
  rintro e w69 ⟨rfl, hb⟩
  refine ⟨_, rfl, ?_⟩
  replace hV := hV.trans hb
  replace HC1 := hide (HM1 _ _ HK.out hV)
  replace hU := hUK.trans (hV.mono hUK.size)
  clear hb hV HK hUK Og1 Bg1
  clear RV68 Cg1 Lg1 Yg1 Eg1
  refine wpl_end (block_normal (then_normal (reg_lit (wpl_r3 [(9, .int .i64 1), (24, .int .i64 1), (23, .int .i64 0)] (by kernel_rfl) (wpl_end (then_normal ?_))))))
  refine round_keep [(3, .pointer (some ⟨Nz, 0, none⟩)), (4, .pointer (some ⟨Na, 0, none⟩)), (5, .pointer (some ⟨Nb, 0, none⟩)), (6, .bool false), (7, .pointer (some ⟨Nu, 0, none⟩)), (8, .pointer (some ⟨Nv, 0, none⟩)), (9, .int .i64 1)] (Kp_c (by kernel_rfl) (Kp_c (by kernel_rfl) (Kp_c (by kernel_rfl) (Kp_c (by kernel_rfl) (Kp_c (by kernel_rfl) (Kp_c (by kernel_rfl) (Kp_c (by kernel_rfl) (Kp_n)))))))) (fun X => ?_)
  refine round_s (wp_seq (sw_t [(22, .bool true), (21, .int .i64 1)] rfl (by kernel_rfl) (by kernel_rfl) (wp_skip (then_normal (wp_seq (wp_block (wp_seq ?_)))))))
  have HK := HC1
  have hUK := hU
  have hV : Below w69.heap.size w69 w69 := Below.refl _ _
  refine reg_lit (wpl_ldvec (q1_z _ HC1.out) rfl (by kernel_rfl) rfl (by kernel_rfl) (wpl_ldvec (q1_u _ HC1.out) rfl (by kernel_rfl) rfl (by kernel_rfl) (wpl_ldvec (q1_v _ HC1.out) rfl (by kernel_rfl) rfl (by kernel_rfl) ?_)))
  refine wpl_call rfl (by kernel_rfl) (by kernel_rfl) ((vCond_any Az lz cz sz Ax Ay lx ly cx cy sx sy _ Lx.out Ly.out Cx Cy (p1_x w69 HC1.out) (p1_y w69 HC1.out) Yx.out Yy.out Lz.out Cz (p1_z w69 HC1.out) Yz.out (HT.out.kept hU)).mono ?_)
  rintro e w70 ⟨lg1, sg1, Ag1, cg1, Eg1, rfl, Cg1, Og1, hb⟩
  refine ⟨_, rfl, ?_⟩
  replace HC1 := hide (HM1 _ _ HC1.out hb)
  replace hU := hU.trans (hb.mono hU.size)
  replace hV := hV.trans (hb.mono hV.size)
  clear hb
  have Gg1 : Gd lg1 := by have h := congrArg Vc.b Eg1.out; dsimp only at h; rw [h]; exact (gd_cond (c := ⟨lz, sz⟩) (a := ⟨lx, sx⟩) (b := ⟨ly, sy⟩) Yx.out Yy.out)
  have Lg1 := hide (show lg1.length ≤ 4096 from Nat.le_trans Gg1.le (by decide))
  have Yg1 := hide Gg1.by_
  clear Gg1
  refine wpl_made (A := Ag1) (m := lg1.length) (c := cg1) (s := sg1) rfl rfl rfl rfl rfl rfl (fun _ => by kernel_rfl) (fun _ => by kernel_rfl) ?_
  intro w71 Ng1 Bg1 hNg1 hb
  replace Bg1 := hide Bg1
  replace HC1 := hide (HM1 _ _ HC1.out hb)
  replace Og1 := hide (OwQ.kept Og1.out hb)
  have hzg1 : w.heap.size ≤ Ng1 := Nat.le_trans hU.size hNg1
  clear hNg1
  replace hU := hU.trans (hb.mono hU.size)
  replace hV := hV.trans (hb.mono hV.size)
  clear hb
  refine wpl_end (then_normal (wp_seq (wp_seq (region_R (n := 6) (N := 7) (by kernel_rfl) (by kernel_rfl) (by kernel_rfl) (by kernel_rfl) (by kernel_rfl) (by kernel_rfl) (fun _ _ _ _ _ h => h) ?_))))
  intro F hQ
  have Bg10 := Bg1
  have HC0 := HC1
  refine anyR_ldvec (i := 0) (m' := 1) Bg10.out F hQ rfl rfl (by kernel_rfl) (by kernel_rfl) (by kernel_rfl) (by kernel_rfl) (by kernel_rfl) rfl (by kernel_rfl) (anyR_ldvec (i := 1) (m' := 3) (q1_z _ HC0.out) F hQ rfl rfl (by kernel_rfl) (by kernel_rfl) (by kernel_rfl) (by kernel_rfl) (by kernel_rfl) rfl (by kernel_rfl) (anyR_ldvec (i := 2) (m' := 7) (q1_a _ HC0.out) F hQ rfl rfl (by kernel_rfl) (by kernel_rfl) (by kernel_rfl) (by kernel_rfl) (by kernel_rfl) rfl (by kernel_rfl) (anyR_ldvec (i := 3) (m' := 15) (q1_b _ HC0.out) F hQ rfl rfl (by kernel_rfl) (by kernel_rfl) (by kernel_rfl) (by kernel_rfl) (by kernel_rfl) rfl (by kernel_rfl) ?_)))
  refine anyR_call (i := 4) (m' := 31) rfl rfl (by kernel_rfl) (by kernel_rfl) (by kernel_rfl) (by kernel_rfl) (by kernel_rfl) ((rcond_any Az Aa Ab lz la lb cz ca cb sz sa sb _ Lz.out La.out Lb.out Cz Ca Cb (by exact (p1_z w71 HC1.out)) (by exact (p1_a w71 HC1.out)) (by exact (p1_b w71 HC1.out)) Yz.out Ya.out Yb.out).mono ?_)
  rintro e w72 ⟨lh1, sh1, Ah1, ch1, Eh1, rfl, Ch1, Oh1, hb⟩
  refine ⟨_, rfl, hb, ?_⟩
  replace hb : Below w71.heap.size w71 w72 := Below.trans ((Below.refl _ _).drew) hb
  replace HC1 := hide (HM1 _ _ HC1.out hb)
  replace Og1 := hide (OwQ.kept Og1.out hb)
  replace Bg1 := hide (Box.kept Bg1.out hb)
  replace Oh1 := hide Oh1.out.rd
  replace hU := hU.trans (hb.mono hU.size)
  replace hV := hV.trans (hb.mono hV.size)
  clear hb
  have Gh1 : Gd lh1 := by have h := congrArg Vc.b Eh1.out; dsimp only at h; rw [h]; exact (gd_cond (c := ⟨lz, sz⟩) (a := ⟨la, sa⟩) (b := ⟨lb, sb⟩) Ya.out Yb.out)
  have Lh1 := hide (show lh1.length ≤ 4096 from Nat.le_trans Gh1.le (by decide))
  have Yh1 := hide Gh1.by_
  clear Gh1
  refine anyR_call (i := 5) (m' := 63) rfl rfl (by kernel_rfl) (by kernel_rfl) (by kernel_rfl) (by kernel_rfl) (by kernel_rfl) ((rsame_yes Ag1 Ah1 lg1 lh1 cg1 ch1 sg1 sh1 _ Lg1.out Lh1.out Og1.out.rd Oh1.out (by rw [Eg1.out, Eh1.out, Ex.out, Ey.out])).mono ?_)
  rintro e w73 ⟨rfl, hb⟩
  refine ⟨_, rfl, hb, ?_⟩
  replace HC1 := hide (HM1 _ _ HC1.out hb)
  replace Og1 := hide (OwQ.kept Og1.out hb)
  replace Oh1 := hide (RQ.below Oh1.out hb)
  replace Bg1 := hide (Box.kept Bg1.out hb)
  replace hU := hU.trans (hb.mono hU.size)
  replace hV := hV.trans (hb.mono hV.size)
  clear hb
  clear Oh1 Ch1 Lh1 Yh1
  refine anyR_e (anyR_last (i := 6) (m' := 127) (v := .bool false) rfl rfl (by kernel_rfl) (by kernel_rfl) (by kernel_rfl) (by kernel_rfl) (by kernel_rfl) (anyE_done (by kernel_rfl) ?_))
  clear F hQ Bg10 HC0
  refine then_normal (wp_iff (by kernel_rfl) (wp_skip (then_normal (reg_lit (wpl_ldvec Bg1.out rfl (by kernel_rfl) rfl (by kernel_rfl) (wpl_bsL1 rfl (by kernel_rfl) rfl (A0 := Ag1) (m0 := lg1.length) (c0 := cg1) (s0 := sg1) (by kernel_rfl) ?_))))))
  intro w74 NV74 RV74 hb
  replace RV74 := hide RV74
  replace HC1 := hide (HM1 _ _ HC1.out hb)
  replace Og1 := hide (OwQ.kept Og1.out hb)
  replace Bg1 := hide (Box.kept Bg1.out hb)
  replace hU := hU.trans (hb.mono hU.size)
  replace hV := hV.trans (hb.mono hV.size)
  clear hb
  refine wpl_call rfl (by kernel_rfl) (by kernel_rfl) ((vspoil1 (A := Ag1) (l := lg1) (cc := cg1) (s := sg1) w69.heap.size NV74 1 _ Lg1.out RV74.out Og1.out).mono ?_)
  rintro e w75 ⟨rfl, hb⟩
  refine ⟨_, rfl, ?_⟩
  replace hV := hV.trans hb
  replace HC1 := hide (HM1 _ _ HK.out hV)
  replace hU := hUK.trans (hV.mono hUK.size)
  clear hb hV HK hUK Og1 Bg1
  clear RV74 Cg1 Lg1 Yg1 Eg1
  refine wpl_end (block_normal (then_normal (reg_lit (wpl_r3 [(9, .int .i64 2), (24, .int .i64 2), (23, .int .i64 1)] (by kernel_rfl) (wpl_end (then_normal ?_))))))
  refine round_keep [(3, .pointer (some ⟨Nz, 0, none⟩)), (4, .pointer (some ⟨Na, 0, none⟩)), (5, .pointer (some ⟨Nb, 0, none⟩)), (6, .bool false), (7, .pointer (some ⟨Nu, 0, none⟩)), (8, .pointer (some ⟨Nv, 0, none⟩)), (9, .int .i64 2)] (Kp_c (by kernel_rfl) (Kp_c (by kernel_rfl) (Kp_c (by kernel_rfl) (Kp_c (by kernel_rfl) (Kp_c (by kernel_rfl) (Kp_c (by kernel_rfl) (Kp_c (by kernel_rfl) (Kp_n)))))))) (fun X => ?_)
  refine round_s (wp_seq (sw_f [(22, .bool false), (21, .int .i64 2)] rfl (by kernel_rfl) (by kernel_rfl) (wp_exit (then_exit (then_exit (exit_here (then_normal ?_)))))))
  refine wp_seq (reg_lit (wpl_ldvec (q1_u _ HC1.out) rfl (by kernel_rfl) rfl (by kernel_rfl) (wpl_ldvec (q1_a _ HC1.out) rfl (by kernel_rfl) rfl (by kernel_rfl) ?_)))
  refine wpl_call rfl (by kernel_rfl) (by kernel_rfl) ((rsame_yes Ax Aa lx la cx ca sx sa _ Lx.out La.out (p1_x w75 HC1.out) (p1_a w75 HC1.out) Ex.out).mono ?_)
  rintro e w76 ⟨rfl, hb⟩
  refine ⟨_, rfl, ?_⟩
  replace HC1 := hide (HM1 _ _ HC1.out hb)
  replace hU := hU.trans (hb.mono hU.size)
  clear hb
  refine wpl_r1 [(42, .bool true)] (by kernel_rfl) (wpl_ldvec (q1_v _ HC1.out) rfl (by kernel_rfl) rfl (by kernel_rfl) (wpl_ldvec (q1_b _ HC1.out) rfl (by kernel_rfl) rfl (by kernel_rfl) ?_))
  refine wpl_call rfl (by kernel_rfl) (by kernel_rfl) ((rsame_yes Ay Ab ly lb cy cb sy sb _ Ly.out Lb.out (p1_y w76 HC1.out) (p1_b w76 HC1.out) Ey.out).mono ?_)
  rintro e w77 ⟨rfl, hb⟩
  refine ⟨_, rfl, ?_⟩
  replace HC1 := hide (HM1 _ _ HC1.out hb)
  replace hU := hU.trans (hb.mono hU.size)
  clear hb
  refine wpl_r2 [(47, .bool true), (46, .bool true)] (by kernel_rfl) ?_
  refine wpl_call rfl (by kernel_rfl) (by kernel_rfl) ((vawake_any _ (HT.out.kept hU)).mono ?_)
  rintro e w78 ⟨rfl, hb⟩
  refine ⟨_, rfl, ?_⟩
  replace HC1 := hide (HM1 _ _ HC1.out hb)
  replace hU := hU.trans (hb.mono hU.size)
  clear hb
  refine wpl_r2 [(6, .bool true), (49, .bool true)] (by kernel_rfl) (wpl_end (then_normal (wp_ret ?_)))
  refine (show bodyPost _ _ _ .ret _ _ from ret_sl (.bool true) rfl (by kernel_rfl) ?_)
  exact ⟨rfl, hU⟩
theorem VecCondMatches_walk (Az : Option Addr) (lz : List Int) (cz : Nat) (sz : Bool) (Aa : Option Addr) (la : List Int) (ca : Nat) (sa : Bool) (Ab : Option Addr) (lb : List Int) (cb : Nat) (sb : Bool) (w : World) (mz : lz.length ≤ maxLen) (rz : RQ w Az lz) (yz : By lz) (pz : Hid (lz.length ≤ cz ∧ cz ≤ maxLen)) (ma : la.length ≤ maxLen) (ra : RQ w Aa la) (ya : By la) (pa : Hid (la.length ≤ ca ∧ ca ≤ maxLen)) (mb : lb.length ≤ maxLen) (rb : RQ w Ab lb) (yb : By lb) (pb : Hid (lb.length ≤ cb ∧ cb ≤ maxLen)) (tn : Tab1 4 mNot w) (tb : Tab1 5 mBuf w) (ta : Tab2 1 mAnd w) (tO : Tab2 2 mOr w) (tx : Tab2 3 mXor w) (tg : Tab2 0 mAgree w) : Calls Tryz.prog 5 #[.agg #[.slice Az lz.length cz, .bool sz], .agg #[.slice Aa la.length ca, .bool sa], .agg #[.slice Ab lb.length cb, .bool sb]] w (Mk (.bool true) w) := by
  by_cases hl : lz.length ≤ 140 ∧ la.length ≤ 140 ∧ lb.length ≤ 140
  · exact VecCondMatches_short Az lz cz sz Aa la ca sa Ab lb cb sb w mz rz yz pz ma ra ya pa mb rb yb pb tn tb ta tO tx tg (hide fun i h => by
      rcases i with _ | _ | _ | i
      · exact hl.1
      · exact hl.2.1
      · exact hl.2.2
      · omega)
  · exact VecCondMatches_long Az lz cz sz Aa la ca sa Ab lb cb sb w mz rz yz pz ma ra ya pa mb rb yb pb tn tb ta tO tx tg (hide (by
      rcases Nat.lt_or_ge 140 lz.length with h | h
      · exact ⟨0, by decide, h⟩
      · rcases Nat.lt_or_ge 140 la.length with h2 | h2
        · exact ⟨1, by decide, h2⟩
        · exact ⟨2, by decide, by show 140 < lb.length; omega⟩))
end
section
open Go.ChangeShapes Go.WideShapes Go.ChangeAt Go.WideMaps Go.WideElems Go.RowKit
theorem own : ownKnob Tryz.prog.godebug = none := by kernel_rfl
/-- The cells of an array of arrays of integers that reads as known rows. -/
theorem cells_of_grid {H : Type} {enc : TypeId × Value → H} {P : Program} {w : World} {base : Nat} {sp : Nat → Bool} {held : Bool} {fuel : Nat} {t e i : TypeId} {n m : Nat} {k : IntKind} {cs : List Value} {rows : List (List Int)} {p : List MemPlace}
    (ht : P.underlying t = some (.array n e)) (he : P.underlying e = some (.array m i)) (hi : P.underlying i = some (.int k)) (hci : P.cellsOf i = 1) (hce : P.cellsOf e = m)
    (h : DataW.trod enc P w base sp held fuel t cs = some (.agg (rows.map (Lib.tabData k)), p)) (r : Nat) (zs : List Int) (hr : rows[r]? = some zs) : (cs.drop (r * m)).take m = zs.map fun z => Value.int k z := by
  cases fuel with
  | zero => simp [DataW.trod] at h
  | succ fuel =>
    simp only [DataW.trod, ht, hce] at h
    split at h
    · obtain ⟨xs, hm, hx⟩ := Option.map_eq_some_iff.1 h
      have hxs : xs.map (·.1) = rows.map (Lib.tabData k) := by
        have := congrArg Prod.fst hx
        simpa using this
      have hxl : xs.length = n := by simpa using Lib.mapM_length hm
      have hrl : rows.length = n := by
        have := congrArg List.length hxs
        simp at this
        omega
      have hrn : r < n := by
        have := (List.getElem?_eq_some_iff.1 hr).1
        omega
      obtain ⟨b, hb, hf⟩ := Lib.mapM_at hm r r (by simp [hrn])
      have hb1 : b.1 = Lib.tabData k zs := by
        have h2 : (xs.map (·.1))[r]? = some b.1 := by simp [hb]
        rw [hxs] at h2
        simp only [List.getElem?_map, hr, Option.map_some, Option.some.injEq] at h2
        exact h2.symm
      obtain ⟨b1, b2⟩ := b
      simp only at hb1
      subst hb1
      exact Lib.cells_of_tab he hi hci hce hf
    · cases h
theorem tab1_of_head {name : String} {rest : List (String × DataW Unit)} {W : World} {g : Nat} {t e : TypeId} {zs : List Int} {f : Int → Int}
    (hg : Tryz.prog.globalNamed name = some g) (hty : (Tryz.prog.globals[g]?).map (·.type) = some t) (ht : Tryz.prog.underlying t = some (.array 4 e)) (he : Tryz.prog.underlying e = some (.int .u8)) (hce : Tryz.prog.cellsOf e = 1) (hct : Tryz.prog.cellsOf t = 4)
    (hz : zs = [f 0, f 1, f 2, f 3]) (hf : ∀ a, f (bst a) = f a)
    (h : laidMet Tryz.prog ((name, Lib.tabData .u8 zs) :: rest) W) : Tab1 g f W := by
  have hT := Lib.tabIs_of_head hg hty ht he hce hct h
  subst hz
  intro a h0
  have hb := bst_bd a h0
  rw [hT.cell hg _ (by simp; omega), ← hf a]
  have : bst a = 0 ∨ bst a = 1 ∨ bst a = 2 ∨ bst a = 3 := by omega
  rcases this with e | e | e | e <;> rw [e] <;> rfl
theorem tab2_of_head {name : String} {rest : List (String × DataW Unit)} {W : World} {g : Nat} {t e i : TypeId} {rows : List (List Int)} {f : Int → Int → Int}
    (hg : Tryz.prog.globalNamed name = some g) (hty : (Tryz.prog.globals[g]?).map (·.type) = some t) (ht : Tryz.prog.underlying t = some (.array 4 e)) (he : Tryz.prog.underlying e = some (.array 4 i)) (hi : Tryz.prog.underlying i = some (.int .u8)) (hci : Tryz.prog.cellsOf i = 1) (hce : Tryz.prog.cellsOf e = 4)
    (hz : rows = [[f 0 0, f 0 1, f 0 2, f 0 3], [f 1 0, f 1 1, f 1 2, f 1 3], [f 2 0, f 2 1, f 2 2, f 2 3], [f 3 0, f 3 1, f 3 2, f 3 3]]) (hf : ∀ a b, f (bst a) (bst b) = f a b)
    (h : laidMet Tryz.prog ((name, .agg (rows.map (Lib.tabData .u8))) :: rest) W) : Tab2 g f W := by
  obtain ⟨ps, ⟨g', t', cs, fuel, p, q, hg', ht', hvar, hd, _, _⟩, _⟩ := h
  obtain rfl := Option.some.inj (hg.symm.trans hg')
  obtain rfl := Option.some.inj (hty.symm.trans ht')
  have hgrid := cells_of_grid ht he hi hci hce hd
  subst hz
  intro a b h0 h1
  have ha := bst_bd a h0
  have hb := bst_bd b h1
  rw [World.var?_cell hg hvar, ← hf a b]
  have key : ∀ (r j : Nat) (zs : List Int) (z : Int), [[f 0 0, f 0 1, f 0 2, f 0 3], [f 1 0, f 1 1, f 1 2, f 1 3], [f 2 0, f 2 1, f 2 2, f 2 3], [f 3 0, f 3 1, f 3 2, f 3 3]][r]? = some zs → zs[j]? = some z → j < 4 → cs[r * 4 + j]? = some (.int .u8 z) := by
    intro r j zs z hr hj hlt
    have := congrArg (·[j]?) (hgrid r zs hr)
    simp only [List.getElem?_take, List.getElem?_drop, List.getElem?_map, hj, hlt, if_true, Option.map_some] at this
    simpa using this
  have ea : bst a = 0 ∨ bst a = 1 ∨ bst a = 2 ∨ bst a = 3 := by omega
  have eb : bst b = 0 ∨ bst b = 1 ∨ bst b = 2 ∨ bst b = 3 := by omega
  rcases ea with ea | ea | ea | ea <;> rcases eb with eb | eb | eb | eb <;> rw [ea, eb] <;> exact key _ _ _ _ rfl rfl (by decide)
section
variable {rest : List (String × DataW Unit)} {W : World}
theorem tab_notTable (h : laidMet Tryz.prog (("netlab/bit.notTable", Rows.laid_netlab_bit_notTable) :: rest) W) : Tab1 4 mNot W :=
  tab1_of_head (t := 124) (e := 65) (zs := [1, 0, 2, 2]) (by kernel_rfl) (by kernel_rfl) (by kernel_rfl) (by kernel_rfl) (by kernel_rfl) (by kernel_rfl) (by decide) mNot_bst h
theorem tab_bufTable (h : laidMet Tryz.prog (("netlab/bit.bufTable", Rows.laid_netlab_bit_bufTable) :: rest) W) : Tab1 5 mBuf W :=
  tab1_of_head (t := 124) (e := 65) (zs := [0, 1, 2, 2]) (by kernel_rfl) (by kernel_rfl) (by kernel_rfl) (by kernel_rfl) (by kernel_rfl) (by kernel_rfl) (by decide) mBuf_bst h
theorem tab_andTable (h : laidMet Tryz.prog (("netlab/bit.andTable", Rows.laid_netlab_bit_andTable) :: rest) W) : Tab2 1 mAnd W :=
  tab2_of_head (t := 125) (e := 124) (i := 65) (rows := [[0, 0, 0, 0], [0, 1, 2, 2], [0, 2, 2, 2], [0, 2, 2, 2]]) (by kernel_rfl) (by kernel_rfl) (by kernel_rfl) (by kernel_rfl) (by kernel_rfl) (by kernel_rfl) (by kernel_rfl) (by decide) mAnd_bst h
theorem tab_orTable (h : laidMet Tryz.prog (("netlab/bit.orTable", Rows.laid_netlab_bit_orTable) :: rest) W) : Tab2 2 mOr W :=
  tab2_of_head (t := 125) (e := 124) (i := 65) (rows := [[0, 1, 2, 2], [1, 1, 1, 1], [2, 1, 2, 2], [2, 1, 2, 2]]) (by kernel_rfl) (by kernel_rfl) (by kernel_rfl) (by kernel_rfl) (by kernel_rfl) (by kernel_rfl) (by kernel_rfl) (by decide) mOr_bst h
theorem tab_xorTable (h : laidMet Tryz.prog (("netlab/bit.xorTable", Rows.laid_netlab_bit_xorTable) :: rest) W) : Tab2 3 mXor W :=
  tab2_of_head (t := 125) (e := 124) (i := 65) (rows := [[0, 1, 2, 2], [1, 0, 2, 2], [2, 2, 2, 2], [2, 2, 2, 2]]) (by kernel_rfl) (by kernel_rfl) (by kernel_rfl) (by kernel_rfl) (by kernel_rfl) (by kernel_rfl) (by kernel_rfl) (by decide) mXor_bst h
theorem tab_agreeTable (h : laidMet Tryz.prog (("netlab/bit.agreeTable", Rows.laid_netlab_bit_agreeTable) :: rest) W) : Tab2 0 mAgree W :=
  tab2_of_head (t := 125) (e := 124) (i := 65) (rows := [[0, 2, 2, 2], [2, 1, 2, 2], [2, 2, 2, 2], [2, 2, 2, 2]]) (by kernel_rfl) (by kernel_rfl) (by kernel_rfl) (by kernel_rfl) (by kernel_rfl) (by kernel_rfl) (by kernel_rfl) (by decide) mAgree_bst h
end
end
section
open Go Go.ChangeShapes Go.WideShapes Go.Deep Go.RowKit Go.Joins
section
variable {H : Type} {enc : TypeId × Value → H} {P : Program} {W : World}
theorem trod_bits {t e : TypeId} {n : Nat} {v : Value} {y : DataW H × List MemPlace} (ht : P.underlying t = some (.slice e)) (he : P.underlying e = some (.int .u8)) (hce : P.cellsOf e = 1)
    (h : DataW.trod enc P W 0 (fun _ => true) true n t [v] = some y) :
    ∃ (A : Option Addr) (l : List Int) (c : Nat), v = .slice A l.length c ∧ l.length ≤ maxLen ∧ RQ W A l ∧ By l ∧ Hid (l.length ≤ c ∧ c ≤ maxLen) := by
  rcases open_ints ht he hce h with ⟨h2, -⟩ | ⟨a, len, cap, zs, hcs, hb, hl, hm, hz, hx, hcell, hwf⟩
  · simp only [List.cons.injEq, and_true] at h2
    subst h2
    exact ⟨none, [], 0, rfl, by simp, fun h => absurd h (by simp), fun i => by rw [qt_ge (by simp)]; decide, show _ ∧ _ from ⟨Nat.le_refl _, by simp [maxLen]⟩⟩
  · simp only [if_true] at hz
    simp only [List.cons.injEq, and_true] at hcs
    subst hcs
    have hlen : (zs.take len).length = len := by rw [List.length_take]; omega
    have hq : ∀ i, i < len → qt (zs.take len) i = zs.getD i 0 := fun i hi => by
      unfold qt
      rw [List.getD_eq_getElem?_getD, List.getElem?_take, if_pos hi, List.getD_eq_getElem?_getD]
    refine ⟨some a, zs.take len, cap, by rw [hlen], by omega, fun hn => ?_, fun i => ?_, show _ ∧ _ from ⟨by omega, hm⟩⟩
    · rw [hlen] at hn
      refine ⟨a, rfl, ?_, fun i hi => ?_⟩
      · have h0 := hcell 0 (by omega)
        have := block_lt_of_cell h0
        rwa [block_of_add] at this
      · rw [hlen] at hi
        rw [hcell i (by omega), hq i hi]
    · rcases Nat.lt_or_ge i len with hi | hi
      · rw [hq i hi, List.getD_eq_getElem?_getD, List.getElem?_eq_getElem (by omega : i < zs.length)]
        have h := hwf _ (List.getElem_mem (by omega : i < zs.length))
        simp only [Lit.wf, Bool.and_eq_true] at h
        exact ⟨of_decide_eq_true h.1, of_decide_eq_true h.2⟩
      · rw [qt_ge (by omega)]; decide
theorem open_vec {r : Reach} {b0 : Nat} {t e : TypeId} {f0 f1 : Field} {v : Value} {d : DataW H} {p : List MemPlace} (hs : P.underlying t = some (.struct #[f0, f1])) (hone : oneCellFields P #[f0, f1] = true) (hC : P.cellsOf t = 2)
    (h0 : P.underlying f0.type = some (.slice e)) (he : P.underlying e = some (.int .u8)) (hce : P.cellsOf e = 1) (h1 : P.underlying f1.type = some .bool)
    (hv : Value.okWide P W r b0 t v) (h : DataW.Trod enc P W 0 (fun _ => true) true t v d p) :
    ∃ (A : Option Addr) (l : List Int) (c : Nat) (s : Bool), v = .agg #[.slice A l.length c, .bool s] ∧ l.length ≤ maxLen ∧ RQ W A l ∧ By l ∧ Hid (l.length ≤ c ∧ c ≤ maxLen) := by
  obtain ⟨v0, v1, y0, y1, n, rfl, -, -, t0, t1⟩ := open_agg2 hs hone hC hv h
  obtain ⟨A, l, c, rfl, k1, k2, k3, k4⟩ := trod_bits h0 he hce t0
  obtain ⟨s, hs1, -⟩ := DataW.trod_bool h1 t1
  obtain rfl : v1 = .bool s := by simpa using hs1
  exact ⟨A, l, c, s, rfl, k1, k2, k3, k4⟩
end
end
section
open Go Go.ChangeShapes Go.WideShapes Go.WideElems Go.RowKit
section
variable {H : Type} {enc : TypeId × Value → H} {P : Program}
theorem carry_all (hl : laidOutB P = true) {W W' : World} {sp : Nat → Bool} (hb : Below W.heap.size W W') : ∀ {ts : List TypeId} {vs : List Value} {ds : List (DataW H)} {ps : List MemPlace},
    (ts.all fun t => P.readableRec t && decide (t < P.types.size)) = true → DataW.TrodAll enc P W 0 (fun _ => true) true ts vs ds ps → (∀ p ∈ ps, p.block < W.heap.size) → (∀ p ∈ ps, sp p.block = true) →
    DataW.TrodAll enc P W' 0 sp true ts vs ds ps
  | [], [], [], _, _, h, _, _ => h
  | [], [], _ :: _, _, _, h, _, _ => h.elim
  | [], _ :: _, _, _, _, h, _, _ => h.elim
  | _ :: _, [], _, _, _, h, _, _ => h.elim
  | _ :: _, _ :: _, [], _, _, h, _, _ => h.elim
  | t :: ts, v :: vs, d :: ds, ps, hr, h, hlt, hsp => by
    obtain ⟨p, q, h1, h2, e⟩ := h
    simp only [List.all_cons, Bool.and_eq_true, decide_eq_true_eq] at hr
    subst e
    exact ⟨p, q, Trod_stays hl hr.1.1 hr.1.2 h1 (fun x hx => hb.same (hlt x (by simp [hx]))) (fun x hx => hsp x (by simp [hx])),
      carry_all hl hb (by simpa using hr.2) h2 (fun x hx => hlt x (by simp [hx])) (fun x hx => hsp x (by simp [hx])), rfl⟩
theorem law_post {f : Func} {s : ChangeSpec} {bt : TypeId} {W W' : World} {args : Array Value} {ds gs : List (DataW H)} {before : List MemPlace}
    (hl : laidOutB P = true) (hr : (f.params.toList.all fun t => P.readableRec t && decide (t < P.types.size)) = true) (hbool : P.underlying bt = some .bool) (hres : f.resultTypes = #[bt]) (hvars : s.vars = [])
    (hW : DataW.Whole enc P f.params.toList s.vars false W args.toList ds gs before)
    (hf1 : (s.fn H (ds ++ gs)).results = [.lit (.bool true)]) (hf2 : (s.fn H (ds ++ gs)).args = ds) (hf3 : (s.fn H (ds ++ gs)).vars = []) (hb : Below W.heap.size W W') :
    s.post enc P f false true false false W args (.bool true) W' := by
  have hlt : ∀ p ∈ before, p.block < W.heap.size := fun p hp => hW.lt p hp
  have hW0 := hW
  obtain ⟨pa, pv, hA, hV, e, hz, hn⟩ := hW
  rw [hvars] at hV
  obtain ⟨rfl, rfl⟩ := trodVars_none hV
  rw [List.append_nil] at e
  subst e
  have hbs : (Value.bool true).resultList f.resultTypes.size = [.bool true] := by rw [hres]; rfl
  have hR : ∀ (b : Nat) (sp : Nat → Bool) (hd : Bool), DataW.TrodAll enc P W' b sp hd f.resultTypes.toList ((Value.bool true).resultList f.resultTypes.size) (s.fn H (ds ++ [])).results [] := by
    intro b sp hd
    rw [hbs, hf1, hres]
    exact trodAll_mk1 (shut_bool hbool _)
  have hG : ∀ sp : Nat → Bool, (∀ p ∈ before, sp p.block = true) → DataW.TrodAll enc P W' 0 sp true f.params.toList args.toList (s.fn H (ds ++ [])).args before := fun sp hsp => by
    rw [hf2]; exact carry_all hl hb hr hA hlt hsp
  have hVs : ∀ sp : Nat → Bool, DataW.TrodVars enc P W' sp s.vars (s.fn H (ds ++ [])).vars [] := fun sp => by rw [hf3, hvars]; rfl
  have hok : ∀ (j : Nat) (t : TypeId) (r : Value), f.resultTypes[j]? = some t → ((Value.bool true).resultList f.resultTypes.size)[j]? = some r → Value.okWide P W' .any 0 t r := ok_one hres rfl (okWide_bool_mk hbool _)
  have hold : ∀ p ∈ before, (fun b => decide (b < W.heap.size)) p.block = true := fun p hp => by simpa using hlt p hp
  refine ⟨ds, [], before, [], before, [], hW0, hR _ _ _, hG _ hold, hVs _, World.keptBut_mono (fun p hp => ⟨hp, by simpa using hp⟩) (hb.frame (· ∈ before)), fun _ => ?_⟩
  refine ⟨hok, _, _, ([] ++ before) ++ [], ⟨[] ++ before, [], trodAll_append (hG _ (fun _ _ => rfl)) (hR _ _ _), hVs _, rfl, ?_, ?_⟩, ?_⟩
  · intro b off hp
    have hin : MemPlace.cell b off ∈ before := by simpa using hp
    rw [hb.frozen (hlt _ hin)]
    exact hz b off hin
  · intro ha
    have := hn ha
    simpa using this
  · intro p hp _
    simpa using hp
end
end
end Go.Proofs.YtbcpeagannjgpaaGreatDoor
