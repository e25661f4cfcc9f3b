/-
  Texts of MS joined (VecLS, QT, VecXX, Post).
-/
import Derived.Test.YtpiakebbndoecaaDoorRows
import Derived.Test.YtpiakebbndoecaaDoorTie
import Derived.ProofKit
import Derived.LaidMore
import Derived.OpenShut
import Derived.Stop.Joined
import Derived.Stop.LaidErr
import Derived.Lib.LaidTab
import Derived.Deep.Slices
import Derived.Deep.Fields
import Derived.Lib.SmallJoins
import Derived.ChangeSame
import Derived.ChangeSlices
import Derived.Carry
import Derived.WideKeyArgs
import Derived.Test.YtpiakebbndoecaaDoorMS5
set_option linter.unusedVariables false
set_option linter.unusedSimpArgs false
set_option linter.unusedSectionVars false
namespace Go.Proofs.YtpiakebbndoecaaDoor
section
open Go.RowKit
set_option maxRecDepth 100000
set_option linter.unusedSimpArgs false
set_option linter.unusedVariables false
section
variable {a b : Vc} {lx lz : List Int} {sx sz : Bool} (ex : (⟨lx, sx⟩ : Vc) = cnt a) (ez : (⟨lz, sz⟩ : Vc) = cnt b)
include ex ez
theorem cats_xz : cats [a, b] = lz ++ lx := by rw [cats_2, ← ex, ← ez]
theorem cte_le (h : lx.length + lz.length ≤ 128) : cte [a, b] = 0 := by
  unfold cte
  rw [if_neg (by simp), cats_xz ex ez, if_neg (by rw [List.length_append]; omega)]
theorem cte_gt (h : 128 < lx.length + lz.length) : cte [a, b] = 12 := by
  unfold cte
  rw [if_neg (by simp), cats_xz ex ez, if_pos (by rw [List.length_append]; omega)]
end
theorem gd_eqv {v u : Vc} (h : v = u) (g : Gd u.b) : Gd v.b := by rw [h]; exact g
theorem spn_ok {hi lo : Int} (h : lo ≤ hi) (h2 : hi - lo < 128) : spn hi lo = 0 := by
  unfold spn
  rw [if_neg (by omega), if_neg (by omega)]
theorem low_eq {lx lz lp : List Int} {sp : Bool} (ep : (⟨lp, sp⟩ : Vc) = ⟨lz ++ lx, false⟩) (g : Gd (lz ++ lx)) (hi : Int) (h : hi = lz.length - 1) (h0 : 0 < lz.length) : (⟨wdw (cnt ⟨lp, sp⟩).b 0 (hi - 0 + 1).toNat 2, false⟩ : Vc) = ⟨lz, false⟩ := by
  rw [ep, cnt_of_gd (v := ⟨lz ++ lx, false⟩) g, show (hi - 0 + 1).toNat = lz.length by omega]
  show (⟨wdw (lz ++ lx) 0 lz.length 2, false⟩ : Vc) = _
  rw [wdw_low]
theorem high_eq {lx lz lp : List Int} {sp : Bool} (ep : (⟨lp, sp⟩ : Vc) = ⟨lz ++ lx, false⟩) (g : Gd (lz ++ lx)) (hi : Int) (h : hi = lz.length + lx.length - 1) : (⟨wdw (cnt ⟨lp, sp⟩).b lz.length (hi - lz.length + 1).toNat 2, false⟩ : Vc) = ⟨lx, false⟩ := by
  rw [ep, cnt_of_gd (v := ⟨lz ++ lx, false⟩) g, show (hi - lz.length + 1).toNat = lx.length by omega]
  show (⟨wdw (lz ++ lx) lz.length lx.length 2, false⟩ : Vc) = _
  rw [wdw_high]
theorem IntV_ex (v : Vc) : ∃ (n : Int) (q : Bool), IntV v (.returned (.tuple #[.int .i64 n, .bool q])) := by
  unfold IntV
  cases kn (cnt v).b
  · exact ⟨0, false, rfl⟩
  · by_cases h : -9223372036854775808 ≤ sv (nx (cnt v).b (cnt v).s) ∧ sv (nx (cnt v).b (cnt v).s) ≤ 9223372036854775807
    · exact ⟨_, true, Or.inl ⟨h.1, h.2, rfl⟩⟩
    · exact ⟨0, false, Or.inr ⟨h, rfl⟩⟩
theorem IntV_uniq {v : Vc} {e f : Ending} (h : IntV v e) (k : IntV v f) : e = f := by
  unfold IntV at h k
  cases hk : kn (cnt v).b
  · rw [hk] at h k
    exact (show e = _ from h).trans (show f = _ from k).symm
  · rw [hk] at h k
    exact IntA_eq rfl h k
theorem vInt_is (V : Value) (A : Option Addr) (a : List Int) (c : Nat) (s : Bool) (w : World) (ha : a.length ≤ 4096) (hca : Hid (a.length ≤ c ∧ c ≤ maxLen)) (hA : RQ w A a) (ya : By a) (hV : ∀ e, IntV ⟨a, s⟩ e → e = .returned V) :
    Calls Tryd.prog 14 #[.agg #[.slice A a.length c, .bool s]] w (Mk V w) :=
  (vInt_any A a c s w ha hca hA ya).mono fun e w' h => ⟨hV e h.1, h.2⟩
theorem vResize_e0 (n : Nat) (A : Option Addr) (a : List Int) (c : Nat) (s : Bool) (w : World) (ha : a.length ≤ 4096) (hca : Hid (a.length ≤ c ∧ c ≤ maxLen)) (hA : RQ w A a) (ya : By a) (h1 : 1 ≤ n) (h2 : n ≤ 128) :
    Calls Tryd.prog 13 #[.agg #[.slice A a.length c, .bool s], .int .i64 n] w (RetE 0 ⟨rsz (cnt ⟨a, s⟩) n, (cnt ⟨a, s⟩).s⟩ w) := by
  have h := vResize_any n A a c s w ha hca hA ya
  rw [if_pos (by omega), Int.toNat_natCast] at h
  exact h
theorem vPut_e0 (hi lo : Int) (A B : Option Addr) (a b : List Int) (c d : Nat) (s t : Bool) (w : World) (ha : a.length ≤ 4096) (hb : b.length ≤ 4096) (hca : Hid (a.length ≤ c ∧ c ≤ maxLen)) (hcb : Hid (b.length ≤ d ∧ d ≤ maxLen)) (hA : RQ w A a) (hB : RQ w B b) (ya : By a) (yb : By b) (b1 : -9223372036854775808 ≤ lo) (b2 : hi ≤ 9223372036854775807) (b3 : -9223372036854775808 ≤ hi) (b4 : lo ≤ 9223372036854775807) (he : spn hi lo = 0) :
    Calls Tryd.prog 12 #[.agg #[.slice A a.length c, .bool s], .int .i64 hi, .int .i64 lo, .agg #[.slice B b.length d, .bool t]] w (RetE 0 (vPut ⟨a, s⟩ ⟨b, t⟩ hi lo) w) := by
  have h := vPut_any hi lo A B a b c d s t w ha hb hca hcb hA hB ya yb b1 b2 b3 b4
  rw [he] at h
  exact h
theorem vConcat_e12 (g c : Nat) (vs : List Va) (w : World) (hg : g < w.heap.size) (h0 : 0 < vs.length) (hn : vs.length ≤ 4096) (hv : Vrow w g vs) (he : cte (vcs vs) = 12) :
    Calls Tryd.prog 8 #[.slice (some ⟨g, 0, none⟩) vs.length c] w (RetE 12 ⟨cats (vcs vs), false⟩ w) := by
  have h := vConcat_any g c vs w hg h0 hn hv
  rw [he] at h
  exact h
set_option maxHeartbeats 8000000 in
theorem VecStructure_long (Aa : Option Addr) (la : List Int) (ca : Nat) (sa : Bool) (Ab : Option Addr) (lb : List Int) (cb : Nat) (sb : Bool) (m n : Int) (w : World) (ma : la.length ≤ maxLen) (ra : RQ w Aa la) (ya : By la) (pa : Hid (la.length ≤ ca ∧ ca ≤ maxLen)) (mb : lb.length ≤ maxLen) (rb : RQ w Ab lb) (yb : By lb) (pb : Hid (lb.length ≤ cb ∧ cb ≤ maxLen)) (m0 : 0 ≤ m) (m1 : m ≤ 255) (n0 : 0 ≤ n) (n1 : n ≤ 255) (tn : Tab1 4 mNot w) (tb : Tab1 2 mBuf w) (ta : Tab2 1 mAnd w) (tO : Tab2 3 mOr w) (tx : Tab2 5 mXor w) (tg : Tab2 0 mAgree w) (hl : Hid (∃ i, ∃ h : i < 2, 140 < [(Aa, la.length, ca, sa), (Ab, lb.length, cb, sb)][i].2.1)) : Calls Tryd.prog 3 #[.agg #[.slice Aa la.length ca, .bool sa], .agg #[.slice Ab lb.length cb, .bool sb], .int .u8 m, .int .u8 n] w (Mk (.bool true) w) := by
  have hm : Hid (∀ i (h : i < 2), [(Aa, la.length, ca, sa), (Ab, lb.length, cb, sb)][i].2.1 ≤ maxLen) := hide fun i h => by rcases i with _ | _ | i <;> first | assumption | omega
  clear ma mb
  have Oa := hide ra
  have Ya := hide ya
  have Ca := pa
  have Ob := hide rb
  have Yb := hide yb
  have Cb := pb
  clear ra ya
  clear rb yb
  have HT := hide (show Tabs w from ⟨tn, tb, ta, tO, tx, tg⟩)
  clear tn tb ta tO tx tg
  have hU : Below w.heap.size w w := Below.refl _ _
  refine calls_sl (l := [.agg #[.slice Aa la.length ca, .bool sa], .agg #[.slice Ab lb.length cb, .bool sb], .int .u8 m, .int .u8 n]) 213 Tryd.func3 rfl (by kernel_rfl) (by simp) (wp_seq (reg_lit (wpl_boxvec (A := Aa) (m := la.length) (c := ca) (s := sa) rfl (by kernel_rfl) rfl (by kernel_rfl) ?_)))
  intro w1 Na Ba hNa hb
  replace Ba := hide Ba
  have hza : w.heap.size ≤ Na := Nat.le_trans hU.size hNa
  clear hNa
  replace hU := hU.trans (hb.mono hU.size)
  clear hb
  refine wpl_boxvec (A := Ab) (m := lb.length) (c := cb) (s := sb) rfl (by kernel_rfl) rfl (by kernel_rfl) ?_
  intro w2 Nb Bb hNb hb
  replace Bb := hide Bb
  replace Ba := hide (Box.kept Ba.out hb)
  have hzb : w.heap.size ≤ Nb := Nat.le_trans hU.size hNb
  clear hNb
  replace hU := hU.trans (hb.mono hU.size)
  clear hb
  refine wpl_r1 [(8, .bool false)] (by kernel_rfl) (wpl_end (then_normal (wp_seq (wp_seq (reg_lit (wpl_ldvec Ba.out rfl (by kernel_rfl) rfl (by kernel_rfl) (wpl_ldvec Bb.out rfl (by kernel_rfl) rfl (by kernel_rfl) ?_)))))))
  refine wpl_bsL2 rfl (by kernel_rfl) rfl (A0 := Aa) (m0 := la.length) (c0 := ca) (s0 := sa) (A1 := Ab) (m1 := lb.length) (c1 := cb) (s1 := sb) (by kernel_rfl) (by kernel_rfl) ?_
  intro w3 NV3 RV3 hb
  replace RV3 := hide RV3
  replace Ba := hide (Box.kept Ba.out hb)
  replace Bb := hide (Box.kept Bb.out hb)
  replace hU := hU.trans (hb.mono hU.size)
  clear hb
  refine wpl_call rfl (by kernel_rfl) (by kernel_rfl) ((vlong_yes NV3 2 [(Aa, la.length, ca, sa), (Ab, lb.length, cb, sb)] _ (by simp) RV3.out hl.out hm.out).mono ?_)
  rintro e w' ⟨rfl, rfl⟩
  refine ⟨_, rfl, ?_⟩
  refine wpl_r4 [(40, .bool true), (39, undef), (38, undef), (37, .bool true)] (by kernel_rfl) (wpl_end (then_normal (wp_ift (by kernel_rfl) (wp_seq (reg_lit ?_)))))
  refine wpl_call rfl (by kernel_rfl) (by kernel_rfl) ((vawake_any _ (HT.out.kept hU)).mono ?_)
  rintro e w4 ⟨rfl, hb⟩
  refine ⟨_, rfl, ?_⟩
  replace Ba := hide (Box.kept Ba.out hb)
  replace Bb := hide (Box.kept Bb.out hb)
  replace hU := hU.trans (hb.mono hU.size)
  clear hb
  refine wpl_r1 [(8, .bool true)] (by kernel_rfl) (wpl_end (then_normal (wp_ret ?_)))
  refine (show bodyPost _ _ _ .ret _ _ from ret_sl (.bool true) rfl (by kernel_rfl) ?_)
  exact ⟨rfl, hU⟩
set_option maxHeartbeats 16000000 in
theorem VecStructure_short (Aa : Option Addr) (la : List Int) (ca : Nat) (sa : Bool) (Ab : Option Addr) (lb : List Int) (cb : Nat) (sb : Bool) (m n : Int) (w : World) (ma : la.length ≤ maxLen) (ra : RQ w Aa la) (ya : By la) (pa : Hid (la.length ≤ ca ∧ ca ≤ maxLen)) (mb : lb.length ≤ maxLen) (rb : RQ w Ab lb) (yb : By lb) (pb : Hid (lb.length ≤ cb ∧ cb ≤ maxLen)) (m0 : 0 ≤ m) (m1 : m ≤ 255) (n0 : 0 ≤ n) (n1 : n ≤ 255) (tn : Tab1 4 mNot w) (tb : Tab1 2 mBuf w) (ta : Tab2 1 mAnd w) (tO : Tab2 3 mOr w) (tx : Tab2 5 mXor w) (tg : Tab2 0 mAgree w) (hs : Hid (∀ i (h : i < 2), [(Aa, la.length, ca, sa), (Ab, lb.length, cb, sb)][i].2.1 ≤ 140)) : Calls Tryd.prog 3 #[.agg #[.slice Aa la.length ca, .bool sa], .agg #[.slice Ab lb.length cb, .bool sb], .int .u8 m, .int .u8 n] w (Mk (.bool true) w) := by
  have La : Hid (la.length ≤ 4096) := hide (Nat.le_trans (hs.out 0 (by decide)) (by decide))
  have Lb : Hid (lb.length ≤ 4096) := hide (Nat.le_trans (hs.out 1 (by decide)) (by decide))
  clear ma mb
  have Oa := hide ra
  have Ya := hide ya
  have Ca := pa
  have Ob := hide rb
  have Yb := hide yb
  have Cb := pb
  clear ra ya
  clear rb yb
  have HT := hide (show Tabs w from ⟨tn, tb, ta, tO, tx, tg⟩)
  clear tn tb ta tO tx tg
  have hU : Below w.heap.size w w := Below.refl _ _
  refine calls_sl (l := [.agg #[.slice Aa la.length ca, .bool sa], .agg #[.slice Ab lb.length cb, .bool sb], .int .u8 m, .int .u8 n]) 213 Tryd.func3 rfl (by kernel_rfl) (by simp) (wp_seq (reg_lit (wpl_boxvec (A := Aa) (m := la.length) (c := ca) (s := sa) rfl (by kernel_rfl) rfl (by kernel_rfl) ?_)))
  intro w1 Na Ba hNa hb
  replace Ba := hide Ba
  replace Oa := hide (RQ.below Oa.out hb)
  replace Ob := hide (RQ.below Ob.out hb)
  have hza : w.heap.size ≤ Na := Nat.le_trans hU.size hNa
  clear hNa
  replace hU := hU.trans (hb.mono hU.size)
  clear hb
  refine wpl_boxvec (A := Ab) (m := lb.length) (c := cb) (s := sb) rfl (by kernel_rfl) rfl (by kernel_rfl) ?_
  intro w2 Nb Bb hNb hb
  replace Bb := hide Bb
  replace Oa := hide (RQ.below Oa.out hb)
  replace Ob := hide (RQ.below Ob.out hb)
  replace Ba := hide (Box.kept Ba.out hb)
  have hzb : w.heap.size ≤ Nb := Nat.le_trans hU.size hNb
  clear hNb
  replace hU := hU.trans (hb.mono hU.size)
  clear hb
  refine wpl_r1 [(8, .bool false)] (by kernel_rfl) (wpl_end (then_normal (wp_seq (wp_seq (reg_lit (wpl_ldvec Ba.out rfl (by kernel_rfl) rfl (by kernel_rfl) (wpl_ldvec Bb.out rfl (by kernel_rfl) rfl (by kernel_rfl) ?_)))))))
  refine wpl_bsL2 rfl (by kernel_rfl) rfl (A0 := Aa) (m0 := la.length) (c0 := ca) (s0 := sa) (A1 := Ab) (m1 := lb.length) (c1 := cb) (s1 := sb) (by kernel_rfl) (by kernel_rfl) ?_
  intro w3 NV3 RV3 hb
  replace RV3 := hide RV3
  replace Oa := hide (RQ.below Oa.out hb)
  replace Ob := hide (RQ.below Ob.out hb)
  replace Ba := hide (Box.kept Ba.out hb)
  replace Bb := hide (Box.kept Bb.out hb)
  replace hU := hU.trans (hb.mono hU.size)
  clear hb
  refine wpl_call rfl (by kernel_rfl) (by kernel_rfl) ((vlong_no NV3 2 [(Aa, la.length, ca, sa), (Ab, lb.length, cb, sb)] _ (by simp) RV3.out hs.out).mono ?_)
  rintro e w' ⟨rfl, rfl⟩
  refine ⟨_, rfl, ?_⟩
  clear RV3
  refine wpl_r1 [(37, .bool false)] (by kernel_rfl) ?_
  refine wpl_call rfl (by kernel_rfl) (by kernel_rfl) ((vawake_any _ (HT.out.kept hU)).mono ?_)
  rintro e w4 ⟨rfl, hb⟩
  refine ⟨_, rfl, ?_⟩
  replace Oa := hide (RQ.below Oa.out hb)
  replace Ob := hide (RQ.below Ob.out hb)
  replace Ba := hide (Box.kept Ba.out hb)
  replace Bb := hide (Box.kept Bb.out hb)
  replace hU := hU.trans (hb.mono hU.size)
  clear hb
  refine wpl_r2 [(40, .bool false), (39, .bool false)] (by kernel_rfl) (wpl_end (then_normal (wp_iff (by kernel_rfl) (wp_skip (then_normal (wp_seq ?_))))))
  refine wp_cutK (α := (List Int × Bool × Option Addr × Nat) × (List Int × Bool × Option Addr × Nat) × (Nat) × (Nat)) (fun ((lx, sx, Ax, cx), (lz, sz, Az, cz), Nx, Nz) => [(0, .agg #[.slice Aa la.length ca, .bool sa]), (1, .agg #[.slice Ab lb.length cb, .bool sb]), (2, .int .u8 m), (3, .int .u8 n), (4, .pointer (some ⟨Na, 0, none⟩)), (5, .pointer (some ⟨Nb, 0, none⟩)), (8, .bool false), (33, .agg #[.slice Aa la.length ca, .bool sa]), (34, .agg #[.slice Ab lb.length cb, .bool sb]), (35, .slice (some ⟨NV3, 0, none⟩) 2 2), (36, .bool false), (37, .bool false), (38, .bool true), (39, .bool false), (40, .bool false), (42, .agg #[.slice Aa la.length ca, .bool sa]), (44, .agg #[.slice Ab lb.length cb, .bool sb]), (43, .agg #[.slice Ax lx.length cx, .bool sx]), (45, .agg #[.slice Az lz.length cz, .bool sz]), (9, .pointer (some ⟨Nx, 0, none⟩)), (10, .pointer (some ⟨Nz, 0, none⟩))]) (fun ((lx, sx, Ax, cx), (lz, sz, Az, cz), Nx, Nz) W => Below w.heap.size w W ∧ Hid (RQ W Aa la) ∧ Hid (RQ W Ab lb) ∧ Hid ((⟨lx, sx⟩ : Vc) = cnt ⟨la, sa⟩) ∧ Hid (RQ W Ax lx) ∧ Hid (lx.length ≤ cx ∧ cx ≤ maxLen) ∧ Hid (lx.length ≤ 4096) ∧ Hid (By lx) ∧ Hid ((⟨lz, sz⟩ : Vc) = cnt ⟨lb, sb⟩) ∧ Hid (RQ W Az lz) ∧ Hid (lz.length ≤ cz ∧ cz ≤ maxLen) ∧ Hid (lz.length ≤ 4096) ∧ Hid (By lz) ∧ Hid (Box Na Aa la.length ca sa W) ∧ Hid (Box Nb Ab lb.length cb sb W) ∧ Hid (Box Nx Ax lx.length cx sx W) ∧ Hid (Box Nz Az lz.length cz sz W) ∧ w.heap.size ≤ Nx ∧ w.heap.size ≤ Nz) ?_ ?_
  refine region_R (n := 6) (N := 8) (by kernel_rfl) (by kernel_rfl) (by kernel_rfl) (by kernel_rfl) (by kernel_rfl) (by kernel_rfl) (fun _ _ _ _ _ h => h) ?_
  intro F hQ
  have Ba0 := Ba
  have Bb0 := Bb
  refine anyR_ldvec (i := 0) (m' := 1) Ba0.out F hQ rfl rfl (by kernel_rfl) (by kernel_rfl) (by kernel_rfl) (by kernel_rfl) (by kernel_rfl) rfl (by kernel_rfl) (anyR_ldvec (i := 2) (m' := 5) Bb0.out F hQ rfl rfl (by kernel_rfl) (by kernel_rfl) (by kernel_rfl) (by kernel_rfl) (by kernel_rfl) rfl (by kernel_rfl) ?_)
  refine anyR_split [1, 4, 5] (by kernel_rfl) rfl ⟨?_, ?_, ?_, trivial⟩
  refine stepR_call (i := 1) (m' := 7) rfl rfl (by kernel_rfl) (by kernel_rfl) (by kernel_rfl) (by kernel_rfl) ((rnorm_any' Aa la ca sa _ La.out Ca (by exact Oa.out) Ya.out).mono ?_)
  rintro e w5 ⟨lx, sx, Ax, cx, Ex, rfl, Cx, Ox, hb⟩
  refine ⟨_, rfl, hb, ?_⟩
  replace hb : Below w4.heap.size w4 w5 := Below.trans ((Below.refl _ _).drew) hb
  replace Oa := hide (RQ.below Oa.out hb)
  replace Ob := hide (RQ.below Ob.out hb)
  replace Ba := hide (Box.kept Ba.out hb)
  replace Bb := hide (Box.kept Bb.out hb)
  replace Ox := hide Ox.out.rd
  replace hU := hU.trans (hb.mono hU.size)
  clear hb
  have Gx : Gd lx := by have h := congrArg Vc.b Ex.out; dsimp only at h; rw [h]; exact (cnt_gd (v := ⟨la, sa⟩) Ya.out)
  have Lx := hide (show lx.length ≤ 4096 from Nat.le_trans Gx.le (by decide))
  have Yx := hide Gx.by_
  clear Gx
  refine anyR_split [3, 4, 5] (by kernel_rfl) rfl ⟨?_, ?_, ?_, trivial⟩
  refine stepR_call (i := 3) (m' := 15) rfl rfl (by kernel_rfl) (by kernel_rfl) (by kernel_rfl) (by kernel_rfl) ((rnorm_any' Ab lb cb sb _ Lb.out Cb Ob.out Yb.out).mono ?_)
  rintro e w6 ⟨lz, sz, Az, cz, Ez, rfl, Cz, Oz, hb⟩
  refine ⟨_, rfl, hb, ?_⟩
  replace Oa := hide (RQ.below Oa.out hb)
  replace Ob := hide (RQ.below Ob.out hb)
  replace Ox := hide (RQ.below Ox.out hb)
  replace Ba := hide (Box.kept Ba.out hb)
  replace Bb := hide (Box.kept Bb.out hb)
  replace Oz := hide Oz.out.rd
  replace hU := hU.trans (hb.mono hU.size)
  clear hb
  have Gz : Gd lz := by have h := congrArg Vc.b Ez.out; dsimp only at h; rw [h]; exact (cnt_gd (v := ⟨lb, sb⟩) Yb.out)
  have Lz := hide (show lz.length ≤ 4096 from Nat.le_trans Gz.le (by decide))
  have Yz := hide Gz.by_
  clear Gz
  refine anyR_split [4, 5] (by kernel_rfl) rfl ⟨?_, ?_, trivial⟩
  refine stepR_al (i := 4) (m' := 31) rfl rfl (by kernel_rfl) (by kernel_rfl) (by kernel_rfl) rfl ?_
  intro w7 Nx Bx hNx hb
  replace Bx := hide Bx
  have neax : Na ≠ Nx := by have := Ba.out.lt; omega
  have nebx : Nb ≠ Nx := by have := Bb.out.lt; omega
  replace Oa := hide (RQ.below Oa.out hb)
  replace Ob := hide (RQ.below Ob.out hb)
  replace Ox := hide (RQ.below Ox.out hb)
  replace Oz := hide (RQ.below Oz.out hb)
  replace Ba := hide (Box.kept Ba.out hb)
  replace Bb := hide (Box.kept Bb.out hb)
  have hzx : w.heap.size ≤ Nx := Nat.le_trans hU.size hNx
  clear hNx
  replace hU := hU.trans (hb.mono hU.size)
  clear hb
  refine anyR_split [5] (by kernel_rfl) rfl ⟨?_, trivial⟩
  refine stepR_al (i := 5) (m' := 63) rfl rfl (by kernel_rfl) (by kernel_rfl) (by kernel_rfl) rfl ?_
  intro w8 Nz Bz hNz hb
  replace Bz := hide Bz
  have neaz : Na ≠ Nz := by have := Ba.out.lt; omega
  have nebz : Nb ≠ Nz := by have := Bb.out.lt; omega
  have nexz : Nx ≠ Nz := by have := Bx.out.lt; omega
  replace Oa := hide (RQ.below Oa.out hb)
  replace Ob := hide (RQ.below Ob.out hb)
  replace Ox := hide (RQ.below Ox.out hb)
  replace Oz := hide (RQ.below Oz.out hb)
  replace Ba := hide (Box.kept Ba.out hb)
  replace Bb := hide (Box.kept Bb.out hb)
  replace Bx := hide (Box.kept Bx.out hb)
  have hzz : w.heap.size ≤ Nz := Nat.le_trans hU.size hNz
  clear hNz
  replace hU := hU.trans (hb.mono hU.size)
  clear hb
  refine anyR_e (anyE_st (i := 6) (m' := 127) Bx.out rfl rfl (by kernel_rfl) (by kernel_rfl) (by kernel_rfl) (by kernel_rfl) rfl (by kernel_rfl) (A2 := Ax) (m2 := lx.length) (c2 := cx) (s2 := sx) (by kernel_rfl) ?_)
  intro w9 hst
  replace Oa := hide (hst.rq Oa.out)
  replace Ob := hide (hst.rq Ob.out)
  replace Ox := hide (hst.rq Ox.out)
  replace Oz := hide (hst.rq Oz.out)
  replace Ba := hide (hst.ne Ba.out (by first | exact neax | exact (Ne.symm nexa) | assumption | (exact Ne.symm (by assumption)) | omega))
  replace Bb := hide (hst.ne Bb.out (by first | exact nebx | exact (Ne.symm nexb) | assumption | (exact Ne.symm (by assumption)) | omega))
  replace Bz := hide (hst.ne Bz.out (by first | exact nezx | exact (Ne.symm nexz) | assumption | (exact Ne.symm (by assumption)) | omega))
  replace Bx := hide hst.box
  replace hU := hU.trans (hst.bel hzx)
  clear hst
  refine anyE_st (i := 7) (m' := 255) Bz.out rfl rfl (by kernel_rfl) (by kernel_rfl) (by kernel_rfl) (by kernel_rfl) rfl (by kernel_rfl) (A2 := Az) (m2 := lz.length) (c2 := cz) (s2 := sz) (by kernel_rfl) ?_
  intro w10 hst
  replace Oa := hide (hst.rq Oa.out)
  replace Ob := hide (hst.rq Ob.out)
  replace Ox := hide (hst.rq Ox.out)
  replace Oz := hide (hst.rq Oz.out)
  replace Ba := hide (hst.ne Ba.out (by first | exact neaz | exact (Ne.symm neza) | assumption | (exact Ne.symm (by assumption)) | omega))
  replace Bb := hide (hst.ne Bb.out (by first | exact nebz | exact (Ne.symm nezb) | assumption | (exact Ne.symm (by assumption)) | omega))
  replace Bx := hide (hst.ne Bx.out (by first | exact nexz | exact (Ne.symm nezx) | assumption | (exact Ne.symm (by assumption)) | omega))
  replace Bz := hide hst.box
  replace hU := hU.trans (hst.bel hzz)
  clear hst
  refine anyE_done (by kernel_rfl) ?_
  refine then_normal ⟨((lx, sx, Ax, cx), (lz, sz, Az, cz), Nx, Nz), _, rfl, Kp_c (by kernel_rfl) (Kp_c (by kernel_rfl) (Kp_c (by kernel_rfl) (Kp_c (by kernel_rfl) (Kp_c (by kernel_rfl) (Kp_c (by kernel_rfl) (Kp_c (by kernel_rfl) (Kp_c (by kernel_rfl) (Kp_c (by kernel_rfl) (Kp_c (by kernel_rfl) (Kp_c (by kernel_rfl) (Kp_c (by kernel_rfl) (Kp_c (by kernel_rfl) (Kp_c (by kernel_rfl) (Kp_c (by kernel_rfl) (Kp_c (by kernel_rfl) (Kp_c (by kernel_rfl) (Kp_c (by kernel_rfl) (Kp_c (by kernel_rfl) (Kp_c (by kernel_rfl) (Kp_c (by kernel_rfl) (Kp_n))))))))))))))))))))), ?_⟩
  dsimp only
  exact ⟨hU, Oa, Ob, Ex, Ox, Cx, Lx, Yx, Ez, Oz, Cz, Lz, Yz, Ba, Bb, Bx, Bz, hzx, hzz⟩
  refine stepR_al (i := 5) (m' := 47) rfl rfl (by kernel_rfl) (by kernel_rfl) (by kernel_rfl) rfl ?_
  intro w11 Nz Bz hNz hb
  replace Bz := hide Bz
  have neaz : Na ≠ Nz := by have := Ba.out.lt; omega
  have nebz : Nb ≠ Nz := by have := Bb.out.lt; omega
  replace Oa := hide (RQ.below Oa.out hb)
  replace Ob := hide (RQ.below Ob.out hb)
  replace Ox := hide (RQ.below Ox.out hb)
  replace Oz := hide (RQ.below Oz.out hb)
  replace Ba := hide (Box.kept Ba.out hb)
  replace Bb := hide (Box.kept Bb.out hb)
  have hzz : w.heap.size ≤ Nz := Nat.le_trans hU.size hNz
  clear hNz
  replace hU := hU.trans (hb.mono hU.size)
  clear hb
  refine anyR_split [4] (by kernel_rfl) rfl ⟨?_, trivial⟩
  refine stepR_al (i := 4) (m' := 63) rfl rfl (by kernel_rfl) (by kernel_rfl) (by kernel_rfl) rfl ?_
  intro w12 Nx Bx hNx hb
  replace Bx := hide Bx
  have neax : Na ≠ Nx := by have := Ba.out.lt; omega
  have nebx : Nb ≠ Nx := by have := Bb.out.lt; omega
  have nezx : Nz ≠ Nx := by have := Bz.out.lt; omega
  replace Oa := hide (RQ.below Oa.out hb)
  replace Ob := hide (RQ.below Ob.out hb)
  replace Ox := hide (RQ.below Ox.out hb)
  replace Oz := hide (RQ.below Oz.out hb)
  replace Ba := hide (Box.kept Ba.out hb)
  replace Bb := hide (Box.kept Bb.out hb)
  replace Bz := hide (Box.kept Bz.out hb)
  have hzx : w.heap.size ≤ Nx := Nat.le_trans hU.size hNx
  clear hNx
  replace hU := hU.trans (hb.mono hU.size)
  clear hb
  refine anyR_e (anyE_st (i := 6) (m' := 127) Bx.out rfl rfl (by kernel_rfl) (by kernel_rfl) (by kernel_rfl) (by kernel_rfl) rfl (by kernel_rfl) (A2 := Ax) (m2 := lx.length) (c2 := cx) (s2 := sx) (by kernel_rfl) ?_)
  intro w13 hst
  replace Oa := hide (hst.rq Oa.out)
  replace Ob := hide (hst.rq Ob.out)
  replace Ox := hide (hst.rq Ox.out)
  replace Oz := hide (hst.rq Oz.out)
  replace Ba := hide (hst.ne Ba.out (by first | exact neax | exact (Ne.symm nexa) | assumption | (exact Ne.symm (by assumption)) | omega))
  replace Bb := hide (hst.ne Bb.out (by first | exact nebx | exact (Ne.symm nexb) | assumption | (exact Ne.symm (by assumption)) | omega))
  replace Bz := hide (hst.ne Bz.out (by first | exact nezx | exact (Ne.symm nexz) | assumption | (exact Ne.symm (by assumption)) | omega))
  replace Bx := hide hst.box
  replace hU := hU.trans (hst.bel hzx)
  clear hst
  refine anyE_st (i := 7) (m' := 255) Bz.out rfl rfl (by kernel_rfl) (by kernel_rfl) (by kernel_rfl) (by kernel_rfl) rfl (by kernel_rfl) (A2 := Az) (m2 := lz.length) (c2 := cz) (s2 := sz) (by kernel_rfl) ?_
  intro w14 hst
  replace Oa := hide (hst.rq Oa.out)
  replace Ob := hide (hst.rq Ob.out)
  replace Ox := hide (hst.rq Ox.out)
  replace Oz := hide (hst.rq Oz.out)
  replace Ba := hide (hst.ne Ba.out (by first | exact neaz | exact (Ne.symm neza) | assumption | (exact Ne.symm (by assumption)) | omega))
  replace Bb := hide (hst.ne Bb.out (by first | exact nebz | exact (Ne.symm nezb) | assumption | (exact Ne.symm (by assumption)) | omega))
  replace Bx := hide (hst.ne Bx.out (by first | exact nexz | exact (Ne.symm nezx) | assumption | (exact Ne.symm (by assumption)) | omega))
  replace Bz := hide hst.box
  replace hU := hU.trans (hst.bel hzz)
  clear hst
  refine anyE_done (by kernel_rfl) ?_
  refine then_normal ⟨((lx, sx, Ax, cx), (lz, sz, Az, cz), Nx, Nz), _, rfl, Kp_c (by kernel_rfl) (Kp_c (by kernel_rfl) (Kp_c (by kernel_rfl) (Kp_c (by kernel_rfl) (Kp_c (by kernel_rfl) (Kp_c (by kernel_rfl) (Kp_c (by kernel_rfl) (Kp_c (by kernel_rfl) (Kp_c (by kernel_rfl) (Kp_c (by kernel_rfl) (Kp_c (by kernel_rfl) (Kp_c (by kernel_rfl) (Kp_c (by kernel_rfl) (Kp_c (by kernel_rfl) (Kp_c (by kernel_rfl) (Kp_c (by kernel_rfl) (Kp_c (by kernel_rfl) (Kp_c (by kernel_rfl) (Kp_c (by kernel_rfl) (Kp_c (by kernel_rfl) (Kp_c (by kernel_rfl) (Kp_n))))))))))))))))))))), ?_⟩
  dsimp only
  exact ⟨hU, Oa, Ob, Ex, Ox, Cx, Lx, Yx, Ez, Oz, Cz, Lz, Yz, Ba, Bb, Bx, Bz, hzx, hzz⟩
  refine stepR_al (i := 4) (m' := 23) rfl rfl (by kernel_rfl) (by kernel_rfl) (by kernel_rfl) rfl ?_
  intro w15 Nx Bx hNx hb
  replace Bx := hide Bx
  have neax : Na ≠ Nx := by have := Ba.out.lt; omega
  have nebx : Nb ≠ Nx := by have := Bb.out.lt; omega
  replace Oa := hide (RQ.below Oa.out hb)
  replace Ob := hide (RQ.below Ob.out hb)
  replace Ox := hide (RQ.below Ox.out hb)
  replace Ba := hide (Box.kept Ba.out hb)
  replace Bb := hide (Box.kept Bb.out hb)
  have hzx : w.heap.size ≤ Nx := Nat.le_trans hU.size hNx
  clear hNx
  replace hU := hU.trans (hb.mono hU.size)
  clear hb
  refine anyR_split [3, 5] (by kernel_rfl) rfl ⟨?_, ?_, trivial⟩
  refine stepR_call (i := 3) (m' := 31) rfl rfl (by kernel_rfl) (by kernel_rfl) (by kernel_rfl) (by kernel_rfl) ((rnorm_any' Ab lb cb sb _ Lb.out Cb Ob.out Yb.out).mono ?_)
  rintro e w16 ⟨lz, sz, Az, cz, Ez, rfl, Cz, Oz, hb⟩
  refine ⟨_, rfl, hb, ?_⟩
  replace Oa := hide (RQ.below Oa.out hb)
  replace Ob := hide (RQ.below Ob.out hb)
  replace Ox := hide (RQ.below Ox.out hb)
  replace Ba := hide (Box.kept Ba.out hb)
  replace Bb := hide (Box.kept Bb.out hb)
  replace Bx := hide (Box.kept Bx.out hb)
  replace Oz := hide Oz.out.rd
  replace hU := hU.trans (hb.mono hU.size)
  clear hb
  have Gz : Gd lz := by have h := congrArg Vc.b Ez.out; dsimp only at h; rw [h]; exact (cnt_gd (v := ⟨lb, sb⟩) Yb.out)
  have Lz := hide (show lz.length ≤ 4096 from Nat.le_trans Gz.le (by decide))
  have Yz := hide Gz.by_
  clear Gz
  refine anyR_split [5] (by kernel_rfl) rfl ⟨?_, trivial⟩
  refine stepR_al (i := 5) (m' := 63) rfl rfl (by kernel_rfl) (by kernel_rfl) (by kernel_rfl) rfl ?_
  intro w17 Nz Bz hNz hb
  replace Bz := hide Bz
  have neaz : Na ≠ Nz := by have := Ba.out.lt; omega
  have nebz : Nb ≠ Nz := by have := Bb.out.lt; omega
  have nexz : Nx ≠ Nz := by have := Bx.out.lt; omega
  replace Oa := hide (RQ.below Oa.out hb)
  replace Ob := hide (RQ.below Ob.out hb)
  replace Ox := hide (RQ.below Ox.out hb)
  replace Oz := hide (RQ.below Oz.out hb)
  replace Ba := hide (Box.kept Ba.out hb)
  replace Bb := hide (Box.kept Bb.out hb)
  replace Bx := hide (Box.kept Bx.out hb)
  have hzz : w.heap.size ≤ Nz := Nat.le_trans hU.size hNz
  clear hNz
  replace hU := hU.trans (hb.mono hU.size)
  clear hb
  refine anyR_e (anyE_st (i := 6) (m' := 127) Bx.out rfl rfl (by kernel_rfl) (by kernel_rfl) (by kernel_rfl) (by kernel_rfl) rfl (by kernel_rfl) (A2 := Ax) (m2 := lx.length) (c2 := cx) (s2 := sx) (by kernel_rfl) ?_)
  intro w18 hst
  replace Oa := hide (hst.rq Oa.out)
  replace Ob := hide (hst.rq Ob.out)
  replace Ox := hide (hst.rq Ox.out)
  replace Oz := hide (hst.rq Oz.out)
  replace Ba := hide (hst.ne Ba.out (by first | exact neax | exact (Ne.symm nexa) | assumption | (exact Ne.symm (by assumption)) | omega))
  replace Bb := hide (hst.ne Bb.out (by first | exact nebx | exact (Ne.symm nexb) | assumption | (exact Ne.symm (by assumption)) | omega))
  replace Bz := hide (hst.ne Bz.out (by first | exact nezx | exact (Ne.symm nexz) | assumption | (exact Ne.symm (by assumption)) | omega))
  replace Bx := hide hst.box
  replace hU := hU.trans (hst.bel hzx)
  clear hst
  refine anyE_st (i := 7) (m' := 255) Bz.out rfl rfl (by kernel_rfl) (by kernel_rfl) (by kernel_rfl) (by kernel_rfl) rfl (by kernel_rfl) (A2 := Az) (m2 := lz.length) (c2 := cz) (s2 := sz) (by kernel_rfl) ?_
  intro w19 hst
  replace Oa := hide (hst.rq Oa.out)
  replace Ob := hide (hst.rq Ob.out)
  replace Ox := hide (hst.rq Ox.out)
  replace Oz := hide (hst.rq Oz.out)
  replace Ba := hide (hst.ne Ba.out (by first | exact neaz | exact (Ne.symm neza) | assumption | (exact Ne.symm (by assumption)) | omega))
  replace Bb := hide (hst.ne Bb.out (by first | exact nebz | exact (Ne.symm nezb) | assumption | (exact Ne.symm (by assumption)) | omega))
  replace Bx := hide (hst.ne Bx.out (by first | exact nexz | exact (Ne.symm nezx) | assumption | (exact Ne.symm (by assumption)) | omega))
  replace Bz := hide hst.box
  replace hU := hU.trans (hst.bel hzz)
  clear hst
  refine anyE_done (by kernel_rfl) ?_
  refine then_normal ⟨((lx, sx, Ax, cx), (lz, sz, Az, cz), Nx, Nz), _, rfl, Kp_c (by kernel_rfl) (Kp_c (by kernel_rfl) (Kp_c (by kernel_rfl) (Kp_c (by kernel_rfl) (Kp_c (by kernel_rfl) (Kp_c (by kernel_rfl) (Kp_c (by kernel_rfl) (Kp_c (by kernel_rfl) (Kp_c (by kernel_rfl) (Kp_c (by kernel_rfl) (Kp_c (by kernel_rfl) (Kp_c (by kernel_rfl) (Kp_c (by kernel_rfl) (Kp_c (by kernel_rfl) (Kp_c (by kernel_rfl) (Kp_c (by kernel_rfl) (Kp_c (by kernel_rfl) (Kp_c (by kernel_rfl) (Kp_c (by kernel_rfl) (Kp_c (by kernel_rfl) (Kp_c (by kernel_rfl) (Kp_n))))))))))))))))))))), ?_⟩
  dsimp only
  exact ⟨hU, Oa, Ob, Ex, Ox, Cx, Lx, Yx, Ez, Oz, Cz, Lz, Yz, Ba, Bb, Bx, Bz, hzx, hzz⟩
  refine stepR_al (i := 5) (m' := 55) rfl rfl (by kernel_rfl) (by kernel_rfl) (by kernel_rfl) rfl ?_
  intro w20 Nz Bz hNz hb
  replace Bz := hide Bz
  have neaz : Na ≠ Nz := by have := Ba.out.lt; omega
  have nebz : Nb ≠ Nz := by have := Bb.out.lt; omega
  have nexz : Nx ≠ Nz := by have := Bx.out.lt; omega
  replace Oa := hide (RQ.below Oa.out hb)
  replace Ob := hide (RQ.below Ob.out hb)
  replace Ox := hide (RQ.below Ox.out hb)
  replace Ba := hide (Box.kept Ba.out hb)
  replace Bb := hide (Box.kept Bb.out hb)
  replace Bx := hide (Box.kept Bx.out hb)
  have hzz : w.heap.size ≤ Nz := Nat.le_trans hU.size hNz
  clear hNz
  replace hU := hU.trans (hb.mono hU.size)
  clear hb
  refine anyR_call (i := 3) (m' := 63) rfl rfl (by kernel_rfl) (by kernel_rfl) (by kernel_rfl) (by kernel_rfl) (by kernel_rfl) ((rnorm_any' Ab lb cb sb _ Lb.out Cb Ob.out Yb.out).mono ?_)
  rintro e w21 ⟨lz, sz, Az, cz, Ez, rfl, Cz, Oz, hb⟩
  refine ⟨_, rfl, hb, ?_⟩
  replace Oa := hide (RQ.below Oa.out hb)
  replace Ob := hide (RQ.below Ob.out hb)
  replace Ox := hide (RQ.below Ox.out hb)
  replace Ba := hide (Box.kept Ba.out hb)
  replace Bb := hide (Box.kept Bb.out hb)
  replace Bx := hide (Box.kept Bx.out hb)
  replace Bz := hide (Box.kept Bz.out hb)
  replace Oz := hide Oz.out.rd
  replace hU := hU.trans (hb.mono hU.size)
  clear hb
  have Gz : Gd lz := by have h := congrArg Vc.b Ez.out; dsimp only at h; rw [h]; exact (cnt_gd (v := ⟨lb, sb⟩) Yb.out)
  have Lz := hide (show lz.length ≤ 4096 from Nat.le_trans Gz.le (by decide))
  have Yz := hide Gz.by_
  clear Gz
  refine anyR_e (anyE_st (i := 6) (m' := 127) Bx.out rfl rfl (by kernel_rfl) (by kernel_rfl) (by kernel_rfl) (by kernel_rfl) rfl (by kernel_rfl) (A2 := Ax) (m2 := lx.length) (c2 := cx) (s2 := sx) (by kernel_rfl) ?_)
  intro w22 hst
  replace Oa := hide (hst.rq Oa.out)
  replace Ob := hide (hst.rq Ob.out)
  replace Ox := hide (hst.rq Ox.out)
  replace Oz := hide (hst.rq Oz.out)
  replace Ba := hide (hst.ne Ba.out (by first | exact neax | exact (Ne.symm nexa) | assumption | (exact Ne.symm (by assumption)) | omega))
  replace Bb := hide (hst.ne Bb.out (by first | exact nebx | exact (Ne.symm nexb) | assumption | (exact Ne.symm (by assumption)) | omega))
  replace Bz := hide (hst.ne Bz.out (by first | exact nezx | exact (Ne.symm nexz) | assumption | (exact Ne.symm (by assumption)) | omega))
  replace Bx := hide hst.box
  replace hU := hU.trans (hst.bel hzx)
  clear hst
  refine anyE_st (i := 7) (m' := 255) Bz.out rfl rfl (by kernel_rfl) (by kernel_rfl) (by kernel_rfl) (by kernel_rfl) rfl (by kernel_rfl) (A2 := Az) (m2 := lz.length) (c2 := cz) (s2 := sz) (by kernel_rfl) ?_
  intro w23 hst
  replace Oa := hide (hst.rq Oa.out)
  replace Ob := hide (hst.rq Ob.out)
  replace Ox := hide (hst.rq Ox.out)
  replace Oz := hide (hst.rq Oz.out)
  replace Ba := hide (hst.ne Ba.out (by first | exact neaz | exact (Ne.symm neza) | assumption | (exact Ne.symm (by assumption)) | omega))
  replace Bb := hide (hst.ne Bb.out (by first | exact nebz | exact (Ne.symm nezb) | assumption | (exact Ne.symm (by assumption)) | omega))
  replace Bx := hide (hst.ne Bx.out (by first | exact nexz | exact (Ne.symm nezx) | assumption | (exact Ne.symm (by assumption)) | omega))
  replace Bz := hide hst.box
  replace hU := hU.trans (hst.bel hzz)
  clear hst
  refine anyE_done (by kernel_rfl) ?_
  refine then_normal ⟨((lx, sx, Ax, cx), (lz, sz, Az, cz), Nx, Nz), _, rfl, Kp_c (by kernel_rfl) (Kp_c (by kernel_rfl) (Kp_c (by kernel_rfl) (Kp_c (by kernel_rfl) (Kp_c (by kernel_rfl) (Kp_c (by kernel_rfl) (Kp_c (by kernel_rfl) (Kp_c (by kernel_rfl) (Kp_c (by kernel_rfl) (Kp_c (by kernel_rfl) (Kp_c (by kernel_rfl) (Kp_c (by kernel_rfl) (Kp_c (by kernel_rfl) (Kp_c (by kernel_rfl) (Kp_c (by kernel_rfl) (Kp_c (by kernel_rfl) (Kp_c (by kernel_rfl) (Kp_c (by kernel_rfl) (Kp_c (by kernel_rfl) (Kp_c (by kernel_rfl) (Kp_c (by kernel_rfl) (Kp_n))))))))))))))))))))), ?_⟩
  dsimp only
  exact ⟨hU, Oa, Ob, Ex, Ox, Cx, Lx, Yx, Ez, Oz, Cz, Lz, Yz, Ba, Bb, Bx, Bz, hzx, hzz⟩
  refine stepR_al (i := 5) (m' := 39) rfl rfl (by kernel_rfl) (by kernel_rfl) (by kernel_rfl) rfl ?_
  intro w24 Nz Bz hNz hb
  replace Bz := hide Bz
  have neaz : Na ≠ Nz := by have := Ba.out.lt; omega
  have nebz : Nb ≠ Nz := by have := Bb.out.lt; omega
  replace Oa := hide (RQ.below Oa.out hb)
  replace Ob := hide (RQ.below Ob.out hb)
  replace Ox := hide (RQ.below Ox.out hb)
  replace Ba := hide (Box.kept Ba.out hb)
  replace Bb := hide (Box.kept Bb.out hb)
  have hzz : w.heap.size ≤ Nz := Nat.le_trans hU.size hNz
  clear hNz
  replace hU := hU.trans (hb.mono hU.size)
  clear hb
  refine anyR_split [3, 4] (by kernel_rfl) rfl ⟨?_, ?_, trivial⟩
  refine stepR_call (i := 3) (m' := 47) rfl rfl (by kernel_rfl) (by kernel_rfl) (by kernel_rfl) (by kernel_rfl) ((rnorm_any' Ab lb cb sb _ Lb.out Cb Ob.out Yb.out).mono ?_)
  rintro e w25 ⟨lz, sz, Az, cz, Ez, rfl, Cz, Oz, hb⟩
  refine ⟨_, rfl, hb, ?_⟩
  replace Oa := hide (RQ.below Oa.out hb)
  replace Ob := hide (RQ.below Ob.out hb)
  replace Ox := hide (RQ.below Ox.out hb)
  replace Ba := hide (Box.kept Ba.out hb)
  replace Bb := hide (Box.kept Bb.out hb)
  replace Bz := hide (Box.kept Bz.out hb)
  replace Oz := hide Oz.out.rd
  replace hU := hU.trans (hb.mono hU.size)
  clear hb
  have Gz : Gd lz := by have h := congrArg Vc.b Ez.out; dsimp only at h; rw [h]; exact (cnt_gd (v := ⟨lb, sb⟩) Yb.out)
  have Lz := hide (show lz.length ≤ 4096 from Nat.le_trans Gz.le (by decide))
  have Yz := hide Gz.by_
  clear Gz
  refine anyR_split [4] (by kernel_rfl) rfl ⟨?_, trivial⟩
  refine stepR_al (i := 4) (m' := 63) rfl rfl (by kernel_rfl) (by kernel_rfl) (by kernel_rfl) rfl ?_
  intro w26 Nx Bx hNx hb
  replace Bx := hide Bx
  have neax : Na ≠ Nx := by have := Ba.out.lt; omega
  have nebx : Nb ≠ Nx := by have := Bb.out.lt; omega
  have nezx : Nz ≠ Nx := by have := Bz.out.lt; omega
  replace Oa := hide (RQ.below Oa.out hb)
  replace Ob := hide (RQ.below Ob.out hb)
  replace Ox := hide (RQ.below Ox.out hb)
  replace Oz := hide (RQ.below Oz.out hb)
  replace Ba := hide (Box.kept Ba.out hb)
  replace Bb := hide (Box.kept Bb.out hb)
  replace Bz := hide (Box.kept Bz.out hb)
  have hzx : w.heap.size ≤ Nx := Nat.le_trans hU.size hNx
  clear hNx
  replace hU := hU.trans (hb.mono hU.size)
  clear hb
  refine anyR_e (anyE_st (i := 6) (m' := 127) Bx.out rfl rfl (by kernel_rfl) (by kernel_rfl) (by kernel_rfl) (by kernel_rfl) rfl (by kernel_rfl) (A2 := Ax) (m2 := lx.length) (c2 := cx) (s2 := sx) (by kernel_rfl) ?_)
  intro w27 hst
  replace Oa := hide (hst.rq Oa.out)
  replace Ob := hide (hst.rq Ob.out)
  replace Ox := hide (hst.rq Ox.out)
  replace Oz := hide (hst.rq Oz.out)
  replace Ba := hide (hst.ne Ba.out (by first | exact neax | exact (Ne.symm nexa) | assumption | (exact Ne.symm (by assumption)) | omega))
  replace Bb := hide (hst.ne Bb.out (by first | exact nebx | exact (Ne.symm nexb) | assumption | (exact Ne.symm (by assumption)) | omega))
  replace Bz := hide (hst.ne Bz.out (by first | exact nezx | exact (Ne.symm nexz) | assumption | (exact Ne.symm (by assumption)) | omega))
  replace Bx := hide hst.box
  replace hU := hU.trans (hst.bel hzx)
  clear hst
  refine anyE_st (i := 7) (m' := 255) Bz.out rfl rfl (by kernel_rfl) (by kernel_rfl) (by kernel_rfl) (by kernel_rfl) rfl (by kernel_rfl) (A2 := Az) (m2 := lz.length) (c2 := cz) (s2 := sz) (by kernel_rfl) ?_
  intro w28 hst
  replace Oa := hide (hst.rq Oa.out)
  replace Ob := hide (hst.rq Ob.out)
  replace Ox := hide (hst.rq Ox.out)
  replace Oz := hide (hst.rq Oz.out)
  replace Ba := hide (hst.ne Ba.out (by first | exact neaz | exact (Ne.symm neza) | assumption | (exact Ne.symm (by assumption)) | omega))
  replace Bb := hide (hst.ne Bb.out (by first | exact nebz | exact (Ne.symm nezb) | assumption | (exact Ne.symm (by assumption)) | omega))
  replace Bx := hide (hst.ne Bx.out (by first | exact nexz | exact (Ne.symm nezx) | assumption | (exact Ne.symm (by assumption)) | omega))
  replace Bz := hide hst.box
  replace hU := hU.trans (hst.bel hzz)
  clear hst
  refine anyE_done (by kernel_rfl) ?_
  refine then_normal ⟨((lx, sx, Ax, cx), (lz, sz, Az, cz), Nx, Nz), _, rfl, Kp_c (by kernel_rfl) (Kp_c (by kernel_rfl) (Kp_c (by kernel_rfl) (Kp_c (by kernel_rfl) (Kp_c (by kernel_rfl) (Kp_c (by kernel_rfl) (Kp_c (by kernel_rfl) (Kp_c (by kernel_rfl) (Kp_c (by kernel_rfl) (Kp_c (by kernel_rfl) (Kp_c (by kernel_rfl) (Kp_c (by kernel_rfl) (Kp_c (by kernel_rfl) (Kp_c (by kernel_rfl) (Kp_c (by kernel_rfl) (Kp_c (by kernel_rfl) (Kp_c (by kernel_rfl) (Kp_c (by kernel_rfl) (Kp_c (by kernel_rfl) (Kp_c (by kernel_rfl) (Kp_c (by kernel_rfl) (Kp_n))))))))))))))))))))), ?_⟩
  dsimp only
  exact ⟨hU, Oa, Ob, Ex, Ox, Cx, Lx, Yx, Ez, Oz, Cz, Lz, Yz, Ba, Bb, Bx, Bz, hzx, hzz⟩
  refine stepR_al (i := 4) (m' := 55) rfl rfl (by kernel_rfl) (by kernel_rfl) (by kernel_rfl) rfl ?_
  intro w29 Nx Bx hNx hb
  replace Bx := hide Bx
  have neax : Na ≠ Nx := by have := Ba.out.lt; omega
  have nebx : Nb ≠ Nx := by have := Bb.out.lt; omega
  have nezx : Nz ≠ Nx := by have := Bz.out.lt; omega
  replace Oa := hide (RQ.below Oa.out hb)
  replace Ob := hide (RQ.below Ob.out hb)
  replace Ox := hide (RQ.below Ox.out hb)
  replace Ba := hide (Box.kept Ba.out hb)
  replace Bb := hide (Box.kept Bb.out hb)
  replace Bz := hide (Box.kept Bz.out hb)
  have hzx : w.heap.size ≤ Nx := Nat.le_trans hU.size hNx
  clear hNx
  replace hU := hU.trans (hb.mono hU.size)
  clear hb
  refine anyR_call (i := 3) (m' := 63) rfl rfl (by kernel_rfl) (by kernel_rfl) (by kernel_rfl) (by kernel_rfl) (by kernel_rfl) ((rnorm_any' Ab lb cb sb _ Lb.out Cb Ob.out Yb.out).mono ?_)
  rintro e w30 ⟨lz, sz, Az, cz, Ez, rfl, Cz, Oz, hb⟩
  refine ⟨_, rfl, hb, ?_⟩
  replace Oa := hide (RQ.below Oa.out hb)
  replace Ob := hide (RQ.below Ob.out hb)
  replace Ox := hide (RQ.below Ox.out hb)
  replace Ba := hide (Box.kept Ba.out hb)
  replace Bb := hide (Box.kept Bb.out hb)
  replace Bz := hide (Box.kept Bz.out hb)
  replace Bx := hide (Box.kept Bx.out hb)
  replace Oz := hide Oz.out.rd
  replace hU := hU.trans (hb.mono hU.size)
  clear hb
  have Gz : Gd lz := by have h := congrArg Vc.b Ez.out; dsimp only at h; rw [h]; exact (cnt_gd (v := ⟨lb, sb⟩) Yb.out)
  have Lz := hide (show lz.length ≤ 4096 from Nat.le_trans Gz.le (by decide))
  have Yz := hide Gz.by_
  clear Gz
  refine anyR_e (anyE_st (i := 6) (m' := 127) Bx.out rfl rfl (by kernel_rfl) (by kernel_rfl) (by kernel_rfl) (by kernel_rfl) rfl (by kernel_rfl) (A2 := Ax) (m2 := lx.length) (c2 := cx) (s2 := sx) (by kernel_rfl) ?_)
  intro w31 hst
  replace Oa := hide (hst.rq Oa.out)
  replace Ob := hide (hst.rq Ob.out)
  replace Ox := hide (hst.rq Ox.out)
  replace Oz := hide (hst.rq Oz.out)
  replace Ba := hide (hst.ne Ba.out (by first | exact neax | exact (Ne.symm nexa) | assumption | (exact Ne.symm (by assumption)) | omega))
  replace Bb := hide (hst.ne Bb.out (by first | exact nebx | exact (Ne.symm nexb) | assumption | (exact Ne.symm (by assumption)) | omega))
  replace Bz := hide (hst.ne Bz.out (by first | exact nezx | exact (Ne.symm nexz) | assumption | (exact Ne.symm (by assumption)) | omega))
  replace Bx := hide hst.box
  replace hU := hU.trans (hst.bel hzx)
  clear hst
  refine anyE_st (i := 7) (m' := 255) Bz.out rfl rfl (by kernel_rfl) (by kernel_rfl) (by kernel_rfl) (by kernel_rfl) rfl (by kernel_rfl) (A2 := Az) (m2 := lz.length) (c2 := cz) (s2 := sz) (by kernel_rfl) ?_
  intro w32 hst
  replace Oa := hide (hst.rq Oa.out)
  replace Ob := hide (hst.rq Ob.out)
  replace Ox := hide (hst.rq Ox.out)
  replace Oz := hide (hst.rq Oz.out)
  replace Ba := hide (hst.ne Ba.out (by first | exact neaz | exact (Ne.symm neza) | assumption | (exact Ne.symm (by assumption)) | omega))
  replace Bb := hide (hst.ne Bb.out (by first | exact nebz | exact (Ne.symm nezb) | assumption | (exact Ne.symm (by assumption)) | omega))
  replace Bx := hide (hst.ne Bx.out (by first | exact nexz | exact (Ne.symm nezx) | assumption | (exact Ne.symm (by assumption)) | omega))
  replace Bz := hide hst.box
  replace hU := hU.trans (hst.bel hzz)
  clear hst
  refine anyE_done (by kernel_rfl) ?_
  refine then_normal ⟨((lx, sx, Ax, cx), (lz, sz, Az, cz), Nx, Nz), _, rfl, Kp_c (by kernel_rfl) (Kp_c (by kernel_rfl) (Kp_c (by kernel_rfl) (Kp_c (by kernel_rfl) (Kp_c (by kernel_rfl) (Kp_c (by kernel_rfl) (Kp_c (by kernel_rfl) (Kp_c (by kernel_rfl) (Kp_c (by kernel_rfl) (Kp_c (by kernel_rfl) (Kp_c (by kernel_rfl) (Kp_c (by kernel_rfl) (Kp_c (by kernel_rfl) (Kp_c (by kernel_rfl) (Kp_c (by kernel_rfl) (Kp_c (by kernel_rfl) (Kp_c (by kernel_rfl) (Kp_c (by kernel_rfl) (Kp_c (by kernel_rfl) (Kp_c (by kernel_rfl) (Kp_c (by kernel_rfl) (Kp_n))))))))))))))))))))), ?_⟩
  dsimp only
  exact ⟨hU, Oa, Ob, Ex, Ox, Cx, Lx, Yx, Ez, Oz, Cz, Lz, Yz, Ba, Bb, Bx, Bz, hzx, hzz⟩
  refine stepR_al (i := 4) (m' := 21) rfl rfl (by kernel_rfl) (by kernel_rfl) (by kernel_rfl) rfl ?_
  intro w33 Nx Bx hNx hb
  replace Bx := hide Bx
  replace hb : Below w4.heap.size w4 w33 := Below.trans ((Below.refl _ _).drew) hb
  replace hNx : w4.heap.size ≤ Nx := hNx
  have neax : Na ≠ Nx := by have := Ba.out.lt; omega
  have nebx : Nb ≠ Nx := by have := Bb.out.lt; omega
  replace Oa := hide (RQ.below Oa.out hb)
  replace Ob := hide (RQ.below Ob.out hb)
  replace Ba := hide (Box.kept Ba.out hb)
  replace Bb := hide (Box.kept Bb.out hb)
  have hzx : w.heap.size ≤ Nx := Nat.le_trans hU.size hNx
  clear hNx
  replace hU := hU.trans (hb.mono hU.size)
  clear hb
  refine anyR_split [1, 5] (by kernel_rfl) rfl ⟨?_, ?_, trivial⟩
  refine stepR_call (i := 1) (m' := 23) rfl rfl (by kernel_rfl) (by kernel_rfl) (by kernel_rfl) (by kernel_rfl) ((rnorm_any' Aa la ca sa _ La.out Ca Oa.out Ya.out).mono ?_)
  rintro e w34 ⟨lx, sx, Ax, cx, Ex, rfl, Cx, Ox, hb⟩
  refine ⟨_, rfl, hb, ?_⟩
  replace Oa := hide (RQ.below Oa.out hb)
  replace Ob := hide (RQ.below Ob.out hb)
  replace Ba := hide (Box.kept Ba.out hb)
  replace Bb := hide (Box.kept Bb.out hb)
  replace Bx := hide (Box.kept Bx.out hb)
  replace Ox := hide Ox.out.rd
  replace hU := hU.trans (hb.mono hU.size)
  clear hb
  have Gx : Gd lx := by have h := congrArg Vc.b Ex.out; dsimp only at h; rw [h]; exact (cnt_gd (v := ⟨la, sa⟩) Ya.out)
  have Lx := hide (show lx.length ≤ 4096 from Nat.le_trans Gx.le (by decide))
  have Yx := hide Gx.by_
  clear Gx
  refine anyR_split [3, 5] (by kernel_rfl) rfl ⟨?_, ?_, trivial⟩
  refine stepR_call (i := 3) (m' := 31) rfl rfl (by kernel_rfl) (by kernel_rfl) (by kernel_rfl) (by kernel_rfl) ((rnorm_any' Ab lb cb sb _ Lb.out Cb Ob.out Yb.out).mono ?_)
  rintro e w35 ⟨lz, sz, Az, cz, Ez, rfl, Cz, Oz, hb⟩
  refine ⟨_, rfl, hb, ?_⟩
  replace Oa := hide (RQ.below Oa.out hb)
  replace Ob := hide (RQ.below Ob.out hb)
  replace Ox := hide (RQ.below Ox.out hb)
  replace Ba := hide (Box.kept Ba.out hb)
  replace Bb := hide (Box.kept Bb.out hb)
  replace Bx := hide (Box.kept Bx.out hb)
  replace Oz := hide Oz.out.rd
  replace hU := hU.trans (hb.mono hU.size)
  clear hb
  have Gz : Gd lz := by have h := congrArg Vc.b Ez.out; dsimp only at h; rw [h]; exact (cnt_gd (v := ⟨lb, sb⟩) Yb.out)
  have Lz := hide (show lz.length ≤ 4096 from Nat.le_trans Gz.le (by decide))
  have Yz := hide Gz.by_
  clear Gz
  refine anyR_split [5] (by kernel_rfl) rfl ⟨?_, trivial⟩
  refine stepR_al (i := 5) (m' := 63) rfl rfl (by kernel_rfl) (by kernel_rfl) (by kernel_rfl) rfl ?_
  intro w36 Nz Bz hNz hb
  replace Bz := hide Bz
  have neaz : Na ≠ Nz := by have := Ba.out.lt; omega
  have nebz : Nb ≠ Nz := by have := Bb.out.lt; omega
  have nexz : Nx ≠ Nz := by have := Bx.out.lt; omega
  replace Oa := hide (RQ.below Oa.out hb)
  replace Ob := hide (RQ.below Ob.out hb)
  replace Ox := hide (RQ.below Ox.out hb)
  replace Oz := hide (RQ.below Oz.out hb)
  replace Ba := hide (Box.kept Ba.out hb)
  replace Bb := hide (Box.kept Bb.out hb)
  replace Bx := hide (Box.kept Bx.out hb)
  have hzz : w.heap.size ≤ Nz := Nat.le_trans hU.size hNz
  clear hNz
  replace hU := hU.trans (hb.mono hU.size)
  clear hb
  refine anyR_e (anyE_st (i := 6) (m' := 127) Bx.out rfl rfl (by kernel_rfl) (by kernel_rfl) (by kernel_rfl) (by kernel_rfl) rfl (by kernel_rfl) (A2 := Ax) (m2 := lx.length) (c2 := cx) (s2 := sx) (by kernel_rfl) ?_)
  intro w37 hst
  replace Oa := hide (hst.rq Oa.out)
  replace Ob := hide (hst.rq Ob.out)
  replace Ox := hide (hst.rq Ox.out)
  replace Oz := hide (hst.rq Oz.out)
  replace Ba := hide (hst.ne Ba.out (by first | exact neax | exact (Ne.symm nexa) | assumption | (exact Ne.symm (by assumption)) | omega))
  replace Bb := hide (hst.ne Bb.out (by first | exact nebx | exact (Ne.symm nexb) | assumption | (exact Ne.symm (by assumption)) | omega))
  replace Bz := hide (hst.ne Bz.out (by first | exact nezx | exact (Ne.symm nexz) | assumption | (exact Ne.symm (by assumption)) | omega))
  replace Bx := hide hst.box
  replace hU := hU.trans (hst.bel hzx)
  clear hst
  refine anyE_st (i := 7) (m' := 255) Bz.out rfl rfl (by kernel_rfl) (by kernel_rfl) (by kernel_rfl) (by kernel_rfl) rfl (by kernel_rfl) (A2 := Az) (m2 := lz.length) (c2 := cz) (s2 := sz) (by kernel_rfl) ?_
  intro w38 hst
  replace Oa := hide (hst.rq Oa.out)
  replace Ob := hide (hst.rq Ob.out)
  replace Ox := hide (hst.rq Ox.out)
  replace Oz := hide (hst.rq Oz.out)
  replace Ba := hide (hst.ne Ba.out (by first | exact neaz | exact (Ne.symm neza) | assumption | (exact Ne.symm (by assumption)) | omega))
  replace Bb := hide (hst.ne Bb.out (by first | exact nebz | exact (Ne.symm nezb) | assumption | (exact Ne.symm (by assumption)) | omega))
  replace Bx := hide (hst.ne Bx.out (by first | exact nexz | exact (Ne.symm nezx) | assumption | (exact Ne.symm (by assumption)) | omega))
  replace Bz := hide hst.box
  replace hU := hU.trans (hst.bel hzz)
  clear hst
  refine anyE_done (by kernel_rfl) ?_
  refine then_normal ⟨((lx, sx, Ax, cx), (lz, sz, Az, cz), Nx, Nz), _, rfl, Kp_c (by kernel_rfl) (Kp_c (by kernel_rfl) (Kp_c (by kernel_rfl) (Kp_c (by kernel_rfl) (Kp_c (by kernel_rfl) (Kp_c (by kernel_rfl) (Kp_c (by kernel_rfl) (Kp_c (by kernel_rfl) (Kp_c (by kernel_rfl) (Kp_c (by kernel_rfl) (Kp_c (by kernel_rfl) (Kp_c (by kernel_rfl) (Kp_c (by kernel_rfl) (Kp_c (by kernel_rfl) (Kp_c (by kernel_rfl) (Kp_c (by kernel_rfl) (Kp_c (by kernel_rfl) (Kp_c (by kernel_rfl) (Kp_c (by kernel_rfl) (Kp_c (by kernel_rfl) (Kp_c (by kernel_rfl) (Kp_n))))))))))))))))))))), ?_⟩
  dsimp only
  exact ⟨hU, Oa, Ob, Ex, Ox, Cx, Lx, Yx, Ez, Oz, Cz, Lz, Yz, Ba, Bb, Bx, Bz, hzx, hzz⟩
  refine stepR_al (i := 5) (m' := 55) rfl rfl (by kernel_rfl) (by kernel_rfl) (by kernel_rfl) rfl ?_
  intro w39 Nz Bz hNz hb
  replace Bz := hide Bz
  have neaz : Na ≠ Nz := by have := Ba.out.lt; omega
  have nebz : Nb ≠ Nz := by have := Bb.out.lt; omega
  have nexz : Nx ≠ Nz := by have := Bx.out.lt; omega
  replace Oa := hide (RQ.below Oa.out hb)
  replace Ob := hide (RQ.below Ob.out hb)
  replace Ox := hide (RQ.below Ox.out hb)
  replace Ba := hide (Box.kept Ba.out hb)
  replace Bb := hide (Box.kept Bb.out hb)
  replace Bx := hide (Box.kept Bx.out hb)
  have hzz : w.heap.size ≤ Nz := Nat.le_trans hU.size hNz
  clear hNz
  replace hU := hU.trans (hb.mono hU.size)
  clear hb
  refine anyR_call (i := 3) (m' := 63) rfl rfl (by kernel_rfl) (by kernel_rfl) (by kernel_rfl) (by kernel_rfl) (by kernel_rfl) ((rnorm_any' Ab lb cb sb _ Lb.out Cb Ob.out Yb.out).mono ?_)
  rintro e w40 ⟨lz, sz, Az, cz, Ez, rfl, Cz, Oz, hb⟩
  refine ⟨_, rfl, hb, ?_⟩
  replace Oa := hide (RQ.below Oa.out hb)
  replace Ob := hide (RQ.below Ob.out hb)
  replace Ox := hide (RQ.below Ox.out hb)
  replace Ba := hide (Box.kept Ba.out hb)
  replace Bb := hide (Box.kept Bb.out hb)
  replace Bx := hide (Box.kept Bx.out hb)
  replace Bz := hide (Box.kept Bz.out hb)
  replace Oz := hide Oz.out.rd
  replace hU := hU.trans (hb.mono hU.size)
  clear hb
  have Gz : Gd lz := by have h := congrArg Vc.b Ez.out; dsimp only at h; rw [h]; exact (cnt_gd (v := ⟨lb, sb⟩) Yb.out)
  have Lz := hide (show lz.length ≤ 4096 from Nat.le_trans Gz.le (by decide))
  have Yz := hide Gz.by_
  clear Gz
  refine anyR_e (anyE_st (i := 6) (m' := 127) Bx.out rfl rfl (by kernel_rfl) (by kernel_rfl) (by kernel_rfl) (by kernel_rfl) rfl (by kernel_rfl) (A2 := Ax) (m2 := lx.length) (c2 := cx) (s2 := sx) (by kernel_rfl) ?_)
  intro w41 hst
  replace Oa := hide (hst.rq Oa.out)
  replace Ob := hide (hst.rq Ob.out)
  replace Ox := hide (hst.rq Ox.out)
  replace Oz := hide (hst.rq Oz.out)
  replace Ba := hide (hst.ne Ba.out (by first | exact neax | exact (Ne.symm nexa) | assumption | (exact Ne.symm (by assumption)) | omega))
  replace Bb := hide (hst.ne Bb.out (by first | exact nebx | exact (Ne.symm nexb) | assumption | (exact Ne.symm (by assumption)) | omega))
  replace Bz := hide (hst.ne Bz.out (by first | exact nezx | exact (Ne.symm nexz) | assumption | (exact Ne.symm (by assumption)) | omega))
  replace Bx := hide hst.box
  replace hU := hU.trans (hst.bel hzx)
  clear hst
  refine anyE_st (i := 7) (m' := 255) Bz.out rfl rfl (by kernel_rfl) (by kernel_rfl) (by kernel_rfl) (by kernel_rfl) rfl (by kernel_rfl) (A2 := Az) (m2 := lz.length) (c2 := cz) (s2 := sz) (by kernel_rfl) ?_
  intro w42 hst
  replace Oa := hide (hst.rq Oa.out)
  replace Ob := hide (hst.rq Ob.out)
  replace Ox := hide (hst.rq Ox.out)
  replace Oz := hide (hst.rq Oz.out)
  replace Ba := hide (hst.ne Ba.out (by first | exact neaz | exact (Ne.symm neza) | assumption | (exact Ne.symm (by assumption)) | omega))
  replace Bb := hide (hst.ne Bb.out (by first | exact nebz | exact (Ne.symm nezb) | assumption | (exact Ne.symm (by assumption)) | omega))
  replace Bx := hide (hst.ne Bx.out (by first | exact nexz | exact (Ne.symm nezx) | assumption | (exact Ne.symm (by assumption)) | omega))
  replace Bz := hide hst.box
  replace hU := hU.trans (hst.bel hzz)
  clear hst
  refine anyE_done (by kernel_rfl) ?_
  refine then_normal ⟨((lx, sx, Ax, cx), (lz, sz, Az, cz), Nx, Nz), _, rfl, Kp_c (by kernel_rfl) (Kp_c (by kernel_rfl) (Kp_c (by kernel_rfl) (Kp_c (by kernel_rfl) (Kp_c (by kernel_rfl) (Kp_c (by kernel_rfl) (Kp_c (by kernel_rfl) (Kp_c (by kernel_rfl) (Kp_c (by kernel_rfl) (Kp_c (by kernel_rfl) (Kp_c (by kernel_rfl) (Kp_c (by kernel_rfl) (Kp_c (by kernel_rfl) (Kp_c (by kernel_rfl) (Kp_c (by kernel_rfl) (Kp_c (by kernel_rfl) (Kp_c (by kernel_rfl) (Kp_c (by kernel_rfl) (Kp_c (by kernel_rfl) (Kp_c (by kernel_rfl) (Kp_c (by kernel_rfl) (Kp_n))))))))))))))))))))), ?_⟩
  dsimp only
  exact ⟨hU, Oa, Ob, Ex, Ox, Cx, Lx, Yx, Ez, Oz, Cz, Lz, Yz, Ba, Bb, Bx, Bz, hzx, hzz⟩
  refine stepR_al (i := 5) (m' := 53) rfl rfl (by kernel_rfl) (by kernel_rfl) (by kernel_rfl) rfl ?_
  intro w43 Nz Bz hNz hb
  replace Bz := hide Bz
  have neaz : Na ≠ Nz := by have := Ba.out.lt; omega
  have nebz : Nb ≠ Nz := by have := Bb.out.lt; omega
  have nexz : Nx ≠ Nz := by have := Bx.out.lt; omega
  replace Oa := hide (RQ.below Oa.out hb)
  replace Ob := hide (RQ.below Ob.out hb)
  replace Ba := hide (Box.kept Ba.out hb)
  replace Bb := hide (Box.kept Bb.out hb)
  replace Bx := hide (Box.kept Bx.out hb)
  have hzz : w.heap.size ≤ Nz := Nat.le_trans hU.size hNz
  clear hNz
  replace hU := hU.trans (hb.mono hU.size)
  clear hb
  refine anyR_call (i := 1) (m' := 55) rfl rfl (by kernel_rfl) (by kernel_rfl) (by kernel_rfl) (by kernel_rfl) (by kernel_rfl) ((rnorm_any' Aa la ca sa _ La.out Ca Oa.out Ya.out).mono ?_)
  rintro e w44 ⟨lx, sx, Ax, cx, Ex, rfl, Cx, Ox, hb⟩
  refine ⟨_, rfl, hb, ?_⟩
  replace Oa := hide (RQ.below Oa.out hb)
  replace Ob := hide (RQ.below Ob.out hb)
  replace Ba := hide (Box.kept Ba.out hb)
  replace Bb := hide (Box.kept Bb.out hb)
  replace Bx := hide (Box.kept Bx.out hb)
  replace Bz := hide (Box.kept Bz.out hb)
  replace Ox := hide Ox.out.rd
  replace hU := hU.trans (hb.mono hU.size)
  clear hb
  have Gx : Gd lx := by have h := congrArg Vc.b Ex.out; dsimp only at h; rw [h]; exact (cnt_gd (v := ⟨la, sa⟩) Ya.out)
  have Lx := hide (show lx.length ≤ 4096 from Nat.le_trans Gx.le (by decide))
  have Yx := hide Gx.by_
  clear Gx
  refine anyR_call (i := 3) (m' := 63) rfl rfl (by kernel_rfl) (by kernel_rfl) (by kernel_rfl) (by kernel_rfl) (by kernel_rfl) ((rnorm_any' Ab lb cb sb _ Lb.out Cb Ob.out Yb.out).mono ?_)
  rintro e w45 ⟨lz, sz, Az, cz, Ez, rfl, Cz, Oz, hb⟩
  refine ⟨_, rfl, hb, ?_⟩
  replace Oa := hide (RQ.below Oa.out hb)
  replace Ob := hide (RQ.below Ob.out hb)
  replace Ox := hide (RQ.below Ox.out hb)
  replace Ba := hide (Box.kept Ba.out hb)
  replace Bb := hide (Box.kept Bb.out hb)
  replace Bx := hide (Box.kept Bx.out hb)
  replace Bz := hide (Box.kept Bz.out hb)
  replace Oz := hide Oz.out.rd
  replace hU := hU.trans (hb.mono hU.size)
  clear hb
  have Gz : Gd lz := by have h := congrArg Vc.b Ez.out; dsimp only at h; rw [h]; exact (cnt_gd (v := ⟨lb, sb⟩) Yb.out)
  have Lz := hide (show lz.length ≤ 4096 from Nat.le_trans Gz.le (by decide))
  have Yz := hide Gz.by_
  clear Gz
  refine anyR_e (anyE_st (i := 6) (m' := 127) Bx.out rfl rfl (by kernel_rfl) (by kernel_rfl) (by kernel_rfl) (by kernel_rfl) rfl (by kernel_rfl) (A2 := Ax) (m2 := lx.length) (c2 := cx) (s2 := sx) (by kernel_rfl) ?_)
  intro w46 hst
  replace Oa := hide (hst.rq Oa.out)
  replace Ob := hide (hst.rq Ob.out)
  replace Ox := hide (hst.rq Ox.out)
  replace Oz := hide (hst.rq Oz.out)
  replace Ba := hide (hst.ne Ba.out (by first | exact neax | exact (Ne.symm nexa) | assumption | (exact Ne.symm (by assumption)) | omega))
  replace Bb := hide (hst.ne Bb.out (by first | exact nebx | exact (Ne.symm nexb) | assumption | (exact Ne.symm (by assumption)) | omega))
  replace Bz := hide (hst.ne Bz.out (by first | exact nezx | exact (Ne.symm nexz) | assumption | (exact Ne.symm (by assumption)) | omega))
  replace Bx := hide hst.box
  replace hU := hU.trans (hst.bel hzx)
  clear hst
  refine anyE_st (i := 7) (m' := 255) Bz.out rfl rfl (by kernel_rfl) (by kernel_rfl) (by kernel_rfl) (by kernel_rfl) rfl (by kernel_rfl) (A2 := Az) (m2 := lz.length) (c2 := cz) (s2 := sz) (by kernel_rfl) ?_
  intro w47 hst
  replace Oa := hide (hst.rq Oa.out)
  replace Ob := hide (hst.rq Ob.out)
  replace Ox := hide (hst.rq Ox.out)
  replace Oz := hide (hst.rq Oz.out)
  replace Ba := hide (hst.ne Ba.out (by first | exact neaz | exact (Ne.symm neza) | assumption | (exact Ne.symm (by assumption)) | omega))
  replace Bb := hide (hst.ne Bb.out (by first | exact nebz | exact (Ne.symm nezb) | assumption | (exact Ne.symm (by assumption)) | omega))
  replace Bx := hide (hst.ne Bx.out (by first | exact nexz | exact (Ne.symm nezx) | assumption | (exact Ne.symm (by assumption)) | omega))
  replace Bz := hide hst.box
  replace hU := hU.trans (hst.bel hzz)
  clear hst
  refine anyE_done (by kernel_rfl) ?_
  refine then_normal ⟨((lx, sx, Ax, cx), (lz, sz, Az, cz), Nx, Nz), _, rfl, Kp_c (by kernel_rfl) (Kp_c (by kernel_rfl) (Kp_c (by kernel_rfl) (Kp_c (by kernel_rfl) (Kp_c (by kernel_rfl) (Kp_c (by kernel_rfl) (Kp_c (by kernel_rfl) (Kp_c (by kernel_rfl) (Kp_c (by kernel_rfl) (Kp_c (by kernel_rfl) (Kp_c (by kernel_rfl) (Kp_c (by kernel_rfl) (Kp_c (by kernel_rfl) (Kp_c (by kernel_rfl) (Kp_c (by kernel_rfl) (Kp_c (by kernel_rfl) (Kp_c (by kernel_rfl) (Kp_c (by kernel_rfl) (Kp_c (by kernel_rfl) (Kp_c (by kernel_rfl) (Kp_c (by kernel_rfl) (Kp_n))))))))))))))))))))), ?_⟩
  dsimp only
  exact ⟨hU, Oa, Ob, Ex, Ox, Cx, Lx, Yx, Ez, Oz, Cz, Lz, Yz, Ba, Bb, Bx, Bz, hzx, hzz⟩
  refine stepR_al (i := 5) (m' := 37) rfl rfl (by kernel_rfl) (by kernel_rfl) (by kernel_rfl) rfl ?_
  intro w48 Nz Bz hNz hb
  replace Bz := hide Bz
  replace hb : Below w4.heap.size w4 w48 := Below.trans ((Below.refl _ _).drew) hb
  replace hNz : w4.heap.size ≤ Nz := hNz
  have neaz : Na ≠ Nz := by have := Ba.out.lt; omega
  have nebz : Nb ≠ Nz := by have := Bb.out.lt; omega
  replace Oa := hide (RQ.below Oa.out hb)
  replace Ob := hide (RQ.below Ob.out hb)
  replace Ba := hide (Box.kept Ba.out hb)
  replace Bb := hide (Box.kept Bb.out hb)
  have hzz : w.heap.size ≤ Nz := Nat.le_trans hU.size hNz
  clear hNz
  replace hU := hU.trans (hb.mono hU.size)
  clear hb
  refine anyR_split [1, 4] (by kernel_rfl) rfl ⟨?_, ?_, trivial⟩
  refine stepR_call (i := 1) (m' := 39) rfl rfl (by kernel_rfl) (by kernel_rfl) (by kernel_rfl) (by kernel_rfl) ((rnorm_any' Aa la ca sa _ La.out Ca Oa.out Ya.out).mono ?_)
  rintro e w49 ⟨lx, sx, Ax, cx, Ex, rfl, Cx, Ox, hb⟩
  refine ⟨_, rfl, hb, ?_⟩
  replace Oa := hide (RQ.below Oa.out hb)
  replace Ob := hide (RQ.below Ob.out hb)
  replace Ba := hide (Box.kept Ba.out hb)
  replace Bb := hide (Box.kept Bb.out hb)
  replace Bz := hide (Box.kept Bz.out hb)
  replace Ox := hide Ox.out.rd
  replace hU := hU.trans (hb.mono hU.size)
  clear hb
  have Gx : Gd lx := by have h := congrArg Vc.b Ex.out; dsimp only at h; rw [h]; exact (cnt_gd (v := ⟨la, sa⟩) Ya.out)
  have Lx := hide (show lx.length ≤ 4096 from Nat.le_trans Gx.le (by decide))
  have Yx := hide Gx.by_
  clear Gx
  refine anyR_split [3, 4] (by kernel_rfl) rfl ⟨?_, ?_, trivial⟩
  refine stepR_call (i := 3) (m' := 47) rfl rfl (by kernel_rfl) (by kernel_rfl) (by kernel_rfl) (by kernel_rfl) ((rnorm_any' Ab lb cb sb _ Lb.out Cb Ob.out Yb.out).mono ?_)
  rintro e w50 ⟨lz, sz, Az, cz, Ez, rfl, Cz, Oz, hb⟩
  refine ⟨_, rfl, hb, ?_⟩
  replace Oa := hide (RQ.below Oa.out hb)
  replace Ob := hide (RQ.below Ob.out hb)
  replace Ox := hide (RQ.below Ox.out hb)
  replace Ba := hide (Box.kept Ba.out hb)
  replace Bb := hide (Box.kept Bb.out hb)
  replace Bz := hide (Box.kept Bz.out hb)
  replace Oz := hide Oz.out.rd
  replace hU := hU.trans (hb.mono hU.size)
  clear hb
  have Gz : Gd lz := by have h := congrArg Vc.b Ez.out; dsimp only at h; rw [h]; exact (cnt_gd (v := ⟨lb, sb⟩) Yb.out)
  have Lz := hide (show lz.length ≤ 4096 from Nat.le_trans Gz.le (by decide))
  have Yz := hide Gz.by_
  clear Gz
  refine anyR_split [4] (by kernel_rfl) rfl ⟨?_, trivial⟩
  refine stepR_al (i := 4) (m' := 63) rfl rfl (by kernel_rfl) (by kernel_rfl) (by kernel_rfl) rfl ?_
  intro w51 Nx Bx hNx hb
  replace Bx := hide Bx
  have neax : Na ≠ Nx := by have := Ba.out.lt; omega
  have nebx : Nb ≠ Nx := by have := Bb.out.lt; omega
  have nezx : Nz ≠ Nx := by have := Bz.out.lt; omega
  replace Oa := hide (RQ.below Oa.out hb)
  replace Ob := hide (RQ.below Ob.out hb)
  replace Ox := hide (RQ.below Ox.out hb)
  replace Oz := hide (RQ.below Oz.out hb)
  replace Ba := hide (Box.kept Ba.out hb)
  replace Bb := hide (Box.kept Bb.out hb)
  replace Bz := hide (Box.kept Bz.out hb)
  have hzx : w.heap.size ≤ Nx := Nat.le_trans hU.size hNx
  clear hNx
  replace hU := hU.trans (hb.mono hU.size)
  clear hb
  refine anyR_e (anyE_st (i := 6) (m' := 127) Bx.out rfl rfl (by kernel_rfl) (by kernel_rfl) (by kernel_rfl) (by kernel_rfl) rfl (by kernel_rfl) (A2 := Ax) (m2 := lx.length) (c2 := cx) (s2 := sx) (by kernel_rfl) ?_)
  intro w52 hst
  replace Oa := hide (hst.rq Oa.out)
  replace Ob := hide (hst.rq Ob.out)
  replace Ox := hide (hst.rq Ox.out)
  replace Oz := hide (hst.rq Oz.out)
  replace Ba := hide (hst.ne Ba.out (by first | exact neax | exact (Ne.symm nexa) | assumption | (exact Ne.symm (by assumption)) | omega))
  replace Bb := hide (hst.ne Bb.out (by first | exact nebx | exact (Ne.symm nexb) | assumption | (exact Ne.symm (by assumption)) | omega))
  replace Bz := hide (hst.ne Bz.out (by first | exact nezx | exact (Ne.symm nexz) | assumption | (exact Ne.symm (by assumption)) | omega))
  replace Bx := hide hst.box
  replace hU := hU.trans (hst.bel hzx)
  clear hst
  refine anyE_st (i := 7) (m' := 255) Bz.out rfl rfl (by kernel_rfl) (by kernel_rfl) (by kernel_rfl) (by kernel_rfl) rfl (by kernel_rfl) (A2 := Az) (m2 := lz.length) (c2 := cz) (s2 := sz) (by kernel_rfl) ?_
  intro w53 hst
  replace Oa := hide (hst.rq Oa.out)
  replace Ob := hide (hst.rq Ob.out)
  replace Ox := hide (hst.rq Ox.out)
  replace Oz := hide (hst.rq Oz.out)
  replace Ba := hide (hst.ne Ba.out (by first | exact neaz | exact (Ne.symm neza) | assumption | (exact Ne.symm (by assumption)) | omega))
  replace Bb := hide (hst.ne Bb.out (by first | exact nebz | exact (Ne.symm nezb) | assumption | (exact Ne.symm (by assumption)) | omega))
  replace Bx := hide (hst.ne Bx.out (by first | exact nexz | exact (Ne.symm nezx) | assumption | (exact Ne.symm (by assumption)) | omega))
  replace Bz := hide hst.box
  replace hU := hU.trans (hst.bel hzz)
  clear hst
  refine anyE_done (by kernel_rfl) ?_
  refine then_normal ⟨((lx, sx, Ax, cx), (lz, sz, Az, cz), Nx, Nz), _, rfl, Kp_c (by kernel_rfl) (Kp_c (by kernel_rfl) (Kp_c (by kernel_rfl) (Kp_c (by kernel_rfl) (Kp_c (by kernel_rfl) (Kp_c (by kernel_rfl) (Kp_c (by kernel_rfl) (Kp_c (by kernel_rfl) (Kp_c (by kernel_rfl) (Kp_c (by kernel_rfl) (Kp_c (by kernel_rfl) (Kp_c (by kernel_rfl) (Kp_c (by kernel_rfl) (Kp_c (by kernel_rfl) (Kp_c (by kernel_rfl) (Kp_c (by kernel_rfl) (Kp_c (by kernel_rfl) (Kp_c (by kernel_rfl) (Kp_c (by kernel_rfl) (Kp_c (by kernel_rfl) (Kp_c (by kernel_rfl) (Kp_n))))))))))))))))))))), ?_⟩
  dsimp only
  exact ⟨hU, Oa, Ob, Ex, Ox, Cx, Lx, Yx, Ez, Oz, Cz, Lz, Yz, Ba, Bb, Bx, Bz, hzx, hzz⟩
  refine stepR_al (i := 4) (m' := 55) rfl rfl (by kernel_rfl) (by kernel_rfl) (by kernel_rfl) rfl ?_
  intro w54 Nx Bx hNx hb
  replace Bx := hide Bx
  have neax : Na ≠ Nx := by have := Ba.out.lt; omega
  have nebx : Nb ≠ Nx := by have := Bb.out.lt; omega
  have nezx : Nz ≠ Nx := by have := Bz.out.lt; omega
  replace Oa := hide (RQ.below Oa.out hb)
  replace Ob := hide (RQ.below Ob.out hb)
  replace Ox := hide (RQ.below Ox.out hb)
  replace Ba := hide (Box.kept Ba.out hb)
  replace Bb := hide (Box.kept Bb.out hb)
  replace Bz := hide (Box.kept Bz.out hb)
  have hzx : w.heap.size ≤ Nx := Nat.le_trans hU.size hNx
  clear hNx
  replace hU := hU.trans (hb.mono hU.size)
  clear hb
  refine anyR_call (i := 3) (m' := 63) rfl rfl (by kernel_rfl) (by kernel_rfl) (by kernel_rfl) (by kernel_rfl) (by kernel_rfl) ((rnorm_any' Ab lb cb sb _ Lb.out Cb Ob.out Yb.out).mono ?_)
  rintro e w55 ⟨lz, sz, Az, cz, Ez, rfl, Cz, Oz, hb⟩
  refine ⟨_, rfl, hb, ?_⟩
  replace Oa := hide (RQ.below Oa.out hb)
  replace Ob := hide (RQ.below Ob.out hb)
  replace Ox := hide (RQ.below Ox.out hb)
  replace Ba := hide (Box.kept Ba.out hb)
  replace Bb := hide (Box.kept Bb.out hb)
  replace Bz := hide (Box.kept Bz.out hb)
  replace Bx := hide (Box.kept Bx.out hb)
  replace Oz := hide Oz.out.rd
  replace hU := hU.trans (hb.mono hU.size)
  clear hb
  have Gz : Gd lz := by have h := congrArg Vc.b Ez.out; dsimp only at h; rw [h]; exact (cnt_gd (v := ⟨lb, sb⟩) Yb.out)
  have Lz := hide (show lz.length ≤ 4096 from Nat.le_trans Gz.le (by decide))
  have Yz := hide Gz.by_
  clear Gz
  refine anyR_e (anyE_st (i := 6) (m' := 127) Bx.out rfl rfl (by kernel_rfl) (by kernel_rfl) (by kernel_rfl) (by kernel_rfl) rfl (by kernel_rfl) (A2 := Ax) (m2 := lx.length) (c2 := cx) (s2 := sx) (by kernel_rfl) ?_)
  intro w56 hst
  replace Oa := hide (hst.rq Oa.out)
  replace Ob := hide (hst.rq Ob.out)
  replace Ox := hide (hst.rq Ox.out)
  replace Oz := hide (hst.rq Oz.out)
  replace Ba := hide (hst.ne Ba.out (by first | exact neax | exact (Ne.symm nexa) | assumption | (exact Ne.symm (by assumption)) | omega))
  replace Bb := hide (hst.ne Bb.out (by first | exact nebx | exact (Ne.symm nexb) | assumption | (exact Ne.symm (by assumption)) | omega))
  replace Bz := hide (hst.ne Bz.out (by first | exact nezx | exact (Ne.symm nexz) | assumption | (exact Ne.symm (by assumption)) | omega))
  replace Bx := hide hst.box
  replace hU := hU.trans (hst.bel hzx)
  clear hst
  refine anyE_st (i := 7) (m' := 255) Bz.out rfl rfl (by kernel_rfl) (by kernel_rfl) (by kernel_rfl) (by kernel_rfl) rfl (by kernel_rfl) (A2 := Az) (m2 := lz.length) (c2 := cz) (s2 := sz) (by kernel_rfl) ?_
  intro w57 hst
  replace Oa := hide (hst.rq Oa.out)
  replace Ob := hide (hst.rq Ob.out)
  replace Ox := hide (hst.rq Ox.out)
  replace Oz := hide (hst.rq Oz.out)
  replace Ba := hide (hst.ne Ba.out (by first | exact neaz | exact (Ne.symm neza) | assumption | (exact Ne.symm (by assumption)) | omega))
  replace Bb := hide (hst.ne Bb.out (by first | exact nebz | exact (Ne.symm nezb) | assumption | (exact Ne.symm (by assumption)) | omega))
  replace Bx := hide (hst.ne Bx.out (by first | exact nexz | exact (Ne.symm nezx) | assumption | (exact Ne.symm (by assumption)) | omega))
  replace Bz := hide hst.box
  replace hU := hU.trans (hst.bel hzz)
  clear hst
  refine anyE_done (by kernel_rfl) ?_
  refine then_normal ⟨((lx, sx, Ax, cx), (lz, sz, Az, cz), Nx, Nz), _, rfl, Kp_c (by kernel_rfl) (Kp_c (by kernel_rfl) (Kp_c (by kernel_rfl) (Kp_c (by kernel_rfl) (Kp_c (by kernel_rfl) (Kp_c (by kernel_rfl) (Kp_c (by kernel_rfl) (Kp_c (by kernel_rfl) (Kp_c (by kernel_rfl) (Kp_c (by kernel_rfl) (Kp_c (by kernel_rfl) (Kp_c (by kernel_rfl) (Kp_c (by kernel_rfl) (Kp_c (by kernel_rfl) (Kp_c (by kernel_rfl) (Kp_c (by kernel_rfl) (Kp_c (by kernel_rfl) (Kp_c (by kernel_rfl) (Kp_c (by kernel_rfl) (Kp_c (by kernel_rfl) (Kp_c (by kernel_rfl) (Kp_n))))))))))))))))))))), ?_⟩
  dsimp only
  exact ⟨hU, Oa, Ob, Ex, Ox, Cx, Lx, Yx, Ez, Oz, Cz, Lz, Yz, Ba, Bb, Bx, Bz, hzx, hzz⟩
  refine stepR_al (i := 4) (m' := 53) rfl rfl (by kernel_rfl) (by kernel_rfl) (by kernel_rfl) rfl ?_
  intro w58 Nx Bx hNx hb
  replace Bx := hide Bx
  have neax : Na ≠ Nx := by have := Ba.out.lt; omega
  have nebx : Nb ≠ Nx := by have := Bb.out.lt; omega
  have nezx : Nz ≠ Nx := by have := Bz.out.lt; omega
  replace Oa := hide (RQ.below Oa.out hb)
  replace Ob := hide (RQ.below Ob.out hb)
  replace Ba := hide (Box.kept Ba.out hb)
  replace Bb := hide (Box.kept Bb.out hb)
  replace Bz := hide (Box.kept Bz.out hb)
  have hzx : w.heap.size ≤ Nx := Nat.le_trans hU.size hNx
  clear hNx
  replace hU := hU.trans (hb.mono hU.size)
  clear hb
  refine anyR_call (i := 1) (m' := 55) rfl rfl (by kernel_rfl) (by kernel_rfl) (by kernel_rfl) (by kernel_rfl) (by kernel_rfl) ((rnorm_any' Aa la ca sa _ La.out Ca Oa.out Ya.out).mono ?_)
  rintro e w59 ⟨lx, sx, Ax, cx, Ex, rfl, Cx, Ox, hb⟩
  refine ⟨_, rfl, hb, ?_⟩
  replace Oa := hide (RQ.below Oa.out hb)
  replace Ob := hide (RQ.below Ob.out hb)
  replace Ba := hide (Box.kept Ba.out hb)
  replace Bb := hide (Box.kept Bb.out hb)
  replace Bz := hide (Box.kept Bz.out hb)
  replace Bx := hide (Box.kept Bx.out hb)
  replace Ox := hide Ox.out.rd
  replace hU := hU.trans (hb.mono hU.size)
  clear hb
  have Gx : Gd lx := by have h := congrArg Vc.b Ex.out; dsimp only at h; rw [h]; exact (cnt_gd (v := ⟨la, sa⟩) Ya.out)
  have Lx := hide (show lx.length ≤ 4096 from Nat.le_trans Gx.le (by decide))
  have Yx := hide Gx.by_
  clear Gx
  refine anyR_call (i := 3) (m' := 63) rfl rfl (by kernel_rfl) (by kernel_rfl) (by kernel_rfl) (by kernel_rfl) (by kernel_rfl) ((rnorm_any' Ab lb cb sb _ Lb.out Cb Ob.out Yb.out).mono ?_)
  rintro e w60 ⟨lz, sz, Az, cz, Ez, rfl, Cz, Oz, hb⟩
  refine ⟨_, rfl, hb, ?_⟩
  replace Oa := hide (RQ.below Oa.out hb)
  replace Ob := hide (RQ.below Ob.out hb)
  replace Ox := hide (RQ.below Ox.out hb)
  replace Ba := hide (Box.kept Ba.out hb)
  replace Bb := hide (Box.kept Bb.out hb)
  replace Bz := hide (Box.kept Bz.out hb)
  replace Bx := hide (Box.kept Bx.out hb)
  replace Oz := hide Oz.out.rd
  replace hU := hU.trans (hb.mono hU.size)
  clear hb
  have Gz : Gd lz := by have h := congrArg Vc.b Ez.out; dsimp only at h; rw [h]; exact (cnt_gd (v := ⟨lb, sb⟩) Yb.out)
  have Lz := hide (show lz.length ≤ 4096 from Nat.le_trans Gz.le (by decide))
  have Yz := hide Gz.by_
  clear Gz
  refine anyR_e (anyE_st (i := 6) (m' := 127) Bx.out rfl rfl (by kernel_rfl) (by kernel_rfl) (by kernel_rfl) (by kernel_rfl) rfl (by kernel_rfl) (A2 := Ax) (m2 := lx.length) (c2 := cx) (s2 := sx) (by kernel_rfl) ?_)
  intro w61 hst
  replace Oa := hide (hst.rq Oa.out)
  replace Ob := hide (hst.rq Ob.out)
  replace Ox := hide (hst.rq Ox.out)
  replace Oz := hide (hst.rq Oz.out)
  replace Ba := hide (hst.ne Ba.out (by first | exact neax | exact (Ne.symm nexa) | assumption | (exact Ne.symm (by assumption)) | omega))
  replace Bb := hide (hst.ne Bb.out (by first | exact nebx | exact (Ne.symm nexb) | assumption | (exact Ne.symm (by assumption)) | omega))
  replace Bz := hide (hst.ne Bz.out (by first | exact nezx | exact (Ne.symm nexz) | assumption | (exact Ne.symm (by assumption)) | omega))
  replace Bx := hide hst.box
  replace hU := hU.trans (hst.bel hzx)
  clear hst
  refine anyE_st (i := 7) (m' := 255) Bz.out rfl rfl (by kernel_rfl) (by kernel_rfl) (by kernel_rfl) (by kernel_rfl) rfl (by kernel_rfl) (A2 := Az) (m2 := lz.length) (c2 := cz) (s2 := sz) (by kernel_rfl) ?_
  intro w62 hst
  replace Oa := hide (hst.rq Oa.out)
  replace Ob := hide (hst.rq Ob.out)
  replace Ox := hide (hst.rq Ox.out)
  replace Oz := hide (hst.rq Oz.out)
  replace Ba := hide (hst.ne Ba.out (by first | exact neaz | exact (Ne.symm neza) | assumption | (exact Ne.symm (by assumption)) | omega))
  replace Bb := hide (hst.ne Bb.out (by first | exact nebz | exact (Ne.symm nezb) | assumption | (exact Ne.symm (by assumption)) | omega))
  replace Bx := hide (hst.ne Bx.out (by first | exact nexz | exact (Ne.symm nezx) | assumption | (exact Ne.symm (by assumption)) | omega))
  replace Bz := hide hst.box
  replace hU := hU.trans (hst.bel hzz)
  clear hst
  refine anyE_done (by kernel_rfl) ?_
  refine then_normal ⟨((lx, sx, Ax, cx), (lz, sz, Az, cz), Nx, Nz), _, rfl, Kp_c (by kernel_rfl) (Kp_c (by kernel_rfl) (Kp_c (by kernel_rfl) (Kp_c (by kernel_rfl) (Kp_c (by kernel_rfl) (Kp_c (by kernel_rfl) (Kp_c (by kernel_rfl) (Kp_c (by kernel_rfl) (Kp_c (by kernel_rfl) (Kp_c (by kernel_rfl) (Kp_c (by kernel_rfl) (Kp_c (by kernel_rfl) (Kp_c (by kernel_rfl) (Kp_c (by kernel_rfl) (Kp_c (by kernel_rfl) (Kp_c (by kernel_rfl) (Kp_c (by kernel_rfl) (Kp_c (by kernel_rfl) (Kp_c (by kernel_rfl) (Kp_c (by kernel_rfl) (Kp_c (by kernel_rfl) (Kp_n))))))))))))))))))))), ?_⟩
  dsimp only
  exact ⟨hU, Oa, Ob, Ex, Ox, Cx, Lx, Yx, Ez, Oz, Cz, Lz, Yz, Ba, Bb, Bx, Bz, hzx, hzz⟩
  rintro ⟨⟨lx, sx, Ax, cx⟩, ⟨lz, sz, Az, cz⟩, Nx, Nz⟩ X63 w63 h
  clear hU Oa Ob Ba Bb
  dsimp only at h
  obtain ⟨hU, Oa, Ob, Ex, Ox, Cx, Lx, Yx, Ez, Oz, Cz, Lz, Yz, Ba, Bb, Bx, Bz, hzx, hzz⟩ := h
  refine then_normal (wp_seq ?_)
  have Gxx := hide (show Gd lx by have h := congrArg Vc.b Ex.out; dsimp only at h; rw [h]; exact cnt_gd (v := ⟨la, sa⟩) Ya.out)
  have Gzz := hide (show Gd lz by have h := congrArg Vc.b Ez.out; dsimp only at h; rw [h]; exact cnt_gd (v := ⟨lb, sb⟩) Yb.out)
  have x0 := Gxx.out.pos
  have x1 := Gxx.out.le
  have z0 := Gzz.out.pos
  have z1 := Gzz.out.le
  rcases Nat.lt_or_ge 128 (lx.length + lz.length) with hw | hw
  refine reg_lit (wpl_ldvec Ba.out rfl (by kernel_rfl) rfl (by kernel_rfl) (wpl_ldvec Bb.out rfl (by kernel_rfl) rfl (by kernel_rfl) (wpl_bs2 rfl (by kernel_rfl) rfl (A0 := Aa) (l0 := la) (c0 := ca) (s0 := sa) (A1 := Ab) (l1 := lb) (c1 := cb) (s1 := sb) (by kernel_rfl) (by kernel_rfl) Oa.out Ya.out La.out Ca Ob.out Yb.out Lb.out Cb ?_)))
  intro w64 NV64 RV64 hlV64 hNV64 hb
  replace RV64 := hide RV64
  replace Oa := hide (RQ.below Oa.out hb)
  replace Ob := hide (RQ.below Ob.out hb)
  replace Ox := hide (RQ.below Ox.out hb)
  replace Oz := hide (RQ.below Oz.out hb)
  replace Ba := hide (Box.kept Ba.out hb)
  replace Bb := hide (Box.kept Bb.out hb)
  replace Bx := hide (Box.kept Bx.out hb)
  replace Bz := hide (Box.kept Bz.out hb)
  replace hU := hU.trans (hb.mono hU.size)
  clear hb
  clear hNV64
  refine wpl_call rfl (by kernel_rfl) (by kernel_rfl) ((vConcat_e12 NV64 2 [(Aa, la, ca, sa), (Ab, lb, cb, sb)] _ hlV64 (by simp) (by simp) RV64.out (cte_gt Ex.out Ez.out hw)).mono ?_)
  rintro e w65 ⟨lp, sp, Ap, cp, Ep, rfl, Cp, Op, hb⟩
  refine ⟨_, rfl, ?_⟩
  replace Oa := hide (RQ.below Oa.out hb)
  replace Ob := hide (RQ.below Ob.out hb)
  replace Ox := hide (RQ.below Ox.out hb)
  replace Oz := hide (RQ.below Oz.out hb)
  replace Ba := hide (Box.kept Ba.out hb)
  replace Bb := hide (Box.kept Bb.out hb)
  replace Bx := hide (Box.kept Bx.out hb)
  replace Bz := hide (Box.kept Bz.out hb)
  replace Op := hide Op.out.rd
  replace hU := hU.trans (hb.mono hU.size)
  clear hb
  clear RV64 hlV64
  refine wpl_r3 [(52, .int .i64 12), (51, .agg #[.slice Ap lp.length cp, .bool sp]), (46, .tuple #[.agg #[.slice Ap lp.length cp, .bool sp], .int .i64 12])] (by kernel_rfl) (wpl_made (A := Ap) (m := lp.length) (c := cp) (s := sp) rfl rfl rfl rfl rfl rfl (fun _ => by kernel_rfl) (fun _ => by kernel_rfl) ?_)
  intro w66 Np Bp hNp hb
  replace Bp := hide Bp
  replace Oa := hide (RQ.below Oa.out hb)
  replace Ob := hide (RQ.below Ob.out hb)
  replace Ox := hide (RQ.below Ox.out hb)
  replace Oz := hide (RQ.below Oz.out hb)
  replace Op := hide (RQ.below Op.out hb)
  replace Ba := hide (Box.kept Ba.out hb)
  replace Bb := hide (Box.kept Bb.out hb)
  replace Bx := hide (Box.kept Bx.out hb)
  replace Bz := hide (Box.kept Bz.out hb)
  have hzp : w.heap.size ≤ Np := Nat.le_trans hU.size hNp
  clear hNp
  replace hU := hU.trans (hb.mono hU.size)
  clear hb
  refine wpl_r1 [(12, .int .i64 12)] (by kernel_rfl) (wpl_end (then_normal (wp_seq (wp_seq (reg_lit (wpl_r1 [(53, .pointer (some ⟨Nx, 0, none⟩))] (by kernel_rfl) (wpl_ldsl Bx.out rfl (by kernel_rfl) rfl (by kernel_rfl) ?_)))))))
  refine wpl_r2 [(56, .pointer (some ⟨Nz, 0, none⟩)), (55, .int .i64 ((lx.length : Nat)))] (by kernel_rfl) (wpl_ldsl Bz.out rfl (by kernel_rfl) rfl (by kernel_rfl) (wpl_r1 [(58, .int .i64 ((lz.length : Nat)))] (by kernel_rfl) (wpl_val rfl (by kernel_rfl) (run_add (a := (lx.length : Int)) (b := (lz.length : Int)) (c := ((lx.length : Int) + (lz.length : Int))) rfl (by kernel_rfl) (by kernel_rfl) (rfl) (by omega) (by omega)) (wpl_val rfl (by kernel_rfl) (run_leq (a := ((lx.length : Int) + (lz.length : Int))) (b := 128) rfl (by kernel_rfl) (by kernel_rfl) (decide_eq_false (by omega))) (wpl_end (then_normal (wp_iff (by kernel_rfl) ?_)))))))
  refine sw_f [(108, .bool false), (107, .int .i64 12)] rfl (by kernel_rfl) (by kernel_rfl) (wp_skip (then_normal (wp_seq ?_)))
  obtain ⟨I, hI⟩ : ∃ I : Int, m.tmod (lx.length : Int) = I := ⟨_, rfl⟩
  obtain ⟨i0, i1⟩ : 0 ≤ I ∧ I < lx.length := by rw [← hI]; exact rem_bd m0 (by omega)
  obtain ⟨K, hK⟩ : ∃ K : Int, n.tmod (lx.length : Int) = K := ⟨_, rfl⟩
  obtain ⟨k0, k1⟩ : 0 ≤ K ∧ K < lx.length := by rw [← hK]; exact rem_bd n0 (by omega)
  obtain ⟨H, hH⟩ : ∃ H : Int, (if K > I then K else I) = H := ⟨_, rfl⟩
  obtain ⟨G, hG⟩ : ∃ G : Int, (if K < I then K else I) = G := ⟨_, rfl⟩
  obtain ⟨h0, h1, h2⟩ : 0 ≤ G ∧ G ≤ H ∧ H < lx.length := by rw [← hH, ← hG]; refine ⟨?_, ?_, ?_⟩ <;> (repeat' split) <;> omega
  obtain ⟨J, hJ⟩ : ∃ J : Int, m.tmod (129 - (lx.length : Int)) = J := ⟨_, rfl⟩
  obtain ⟨j0, j1⟩ : 0 ≤ J ∧ J < 129 - lx.length := by rw [← hJ]; exact rem_bd m0 (by omega)
  obtain ⟨M, hM⟩ : ∃ M : Nat, (lx.length : Int) + J = M := ⟨((lx.length : Int) + J).toNat, by omega⟩
  have q1 : lx.length ≤ M := by omega
  have q2 : M ≤ 128 := by omega
  obtain ⟨jn, jq, HI⟩ := IntV_ex ⟨lx, sx⟩
  replace HI := hide HI
  refine region_R (n := 13) (N := 14) (by kernel_rfl) (by kernel_rfl) (by kernel_rfl) (by kernel_rfl) (by kernel_rfl) (by kernel_rfl) (fun _ _ _ _ _ h => h) ?_
  intro F hQ
  have Ba0 := Ba
  have Bb0 := Bb
  have Bx0 := Bx
  have Bz0 := Bz
  have Bp0 := Bp
  refine anyR_val (i := 0) (m' := 1) (v := .int .u8 m) F hQ rfl rfl (by kernel_rfl) (by kernel_rfl) (by kernel_rfl) (by kernel_rfl) (by kernel_rfl) (fun _ _ => by kernel_rfl) (anyR_val (i := 1) (m' := 3) (v := .int .i64 m) F hQ rfl rfl (by kernel_rfl) (by kernel_rfl) (by kernel_rfl) (by kernel_rfl) (by kernel_rfl) (fun _ _ => run_conv8 (a := m) rfl (by kernel_rfl) (by omega) (by omega)) (anyR_val (i := 2) (m' := 7) (v := .pointer (some ⟨Nx, 0, none⟩)) F hQ rfl rfl (by kernel_rfl) (by kernel_rfl) (by kernel_rfl) (by kernel_rfl) (by kernel_rfl) (fun _ _ => by kernel_rfl) (anyR_ldsl (i := 3) (m' := 15) Bx0.out F hQ rfl rfl (by kernel_rfl) (by kernel_rfl) (by kernel_rfl) (by kernel_rfl) (by kernel_rfl) rfl (by kernel_rfl) (anyR_val (i := 4) (m' := 31) (v := .int .i64 ((lx.length : Nat))) F hQ rfl rfl (by kernel_rfl) (by kernel_rfl) (by kernel_rfl) (by kernel_rfl) (by kernel_rfl) (fun _ _ => by kernel_rfl) (anyR_val (i := 5) (m' := 63) (v := .int .i64 I) F hQ rfl rfl (by kernel_rfl) (by kernel_rfl) (by kernel_rfl) (by kernel_rfl) (by kernel_rfl) (fun _ _ => run_rem (a := m) (b := (lx.length : Int)) rfl (by kernel_rfl) (by kernel_rfl) (by omega) hI) (anyR_val (i := 6) (m' := 127) (v := .int .u8 n) F hQ rfl rfl (by kernel_rfl) (by kernel_rfl) (by kernel_rfl) (by kernel_rfl) (by kernel_rfl) (fun _ _ => by kernel_rfl) (anyR_val (i := 7) (m' := 255) (v := .int .i64 n) F hQ rfl rfl (by kernel_rfl) (by kernel_rfl) (by kernel_rfl) (by kernel_rfl) (by kernel_rfl) (fun _ _ => run_conv8 (a := n) rfl (by kernel_rfl) (by omega) (by omega)) ?_)))))))
  refine anyR_val (i := 8) (m' := 511) (v := .pointer (some ⟨Nx, 0, none⟩)) F hQ rfl rfl (by kernel_rfl) (by kernel_rfl) (by kernel_rfl) (by kernel_rfl) (by kernel_rfl) (fun _ _ => by kernel_rfl) (anyR_ldsl (i := 9) (m' := 1023) Bx0.out F hQ rfl rfl (by kernel_rfl) (by kernel_rfl) (by kernel_rfl) (by kernel_rfl) (by kernel_rfl) rfl (by kernel_rfl) (anyR_val (i := 10) (m' := 2047) (v := .int .i64 ((lx.length : Nat))) F hQ rfl rfl (by kernel_rfl) (by kernel_rfl) (by kernel_rfl) (by kernel_rfl) (by kernel_rfl) (fun _ _ => by kernel_rfl) (anyR_val (i := 11) (m' := 4095) (v := .int .i64 K) F hQ rfl rfl (by kernel_rfl) (by kernel_rfl) (by kernel_rfl) (by kernel_rfl) (by kernel_rfl) (fun _ _ => run_rem (a := n) (b := (lx.length : Int)) rfl (by kernel_rfl) (by kernel_rfl) (by omega) hK) (anyR_val (i := 12) (m' := 8191) (v := .int .i64 I) F hQ rfl rfl (by kernel_rfl) (by kernel_rfl) (by kernel_rfl) (by kernel_rfl) (by kernel_rfl) (fun _ _ => by kernel_rfl) (anyR_e (anyR_last (i := 13) (m' := 16383) (v := .int .i64 K) rfl rfl (by kernel_rfl) (by kernel_rfl) (by kernel_rfl) (by kernel_rfl) (by kernel_rfl) (anyE_done (by kernel_rfl) ?_)))))))
  clear F hQ Ba0 Bb0 Bx0 Bz0 Bp0
  generalize hw : World.drew w66 = w67
  have hb : Below w66.heap.size w66 w67 := by rw [← hw]; exact (Below.refl _ _).drew
  clear hw
  replace Oa := hide (RQ.below Oa.out hb)
  replace Ob := hide (RQ.below Ob.out hb)
  replace Ox := hide (RQ.below Ox.out hb)
  replace Oz := hide (RQ.below Oz.out hb)
  replace Op := hide (RQ.below Op.out hb)
  replace Ba := hide (Box.kept Ba.out hb)
  replace Bb := hide (Box.kept Bb.out hb)
  replace Bx := hide (Box.kept Bx.out hb)
  replace Bz := hide (Box.kept Bz.out hb)
  replace Bp := hide (Box.kept Bp.out hb)
  replace hU := hU.trans (hb.mono hU.size)
  clear hb
  refine then_normal (wp_seq (reg_lit (wpl_ldvec Bx.out rfl (by kernel_rfl) rfl (by kernel_rfl) (wpl_r2 [(124, .int .i64 K), (123, .int .i64 I)] (by kernel_rfl) (wpl_val rfl (by kernel_rfl) (run_max (a := I) (b := K) rfl (by kernel_rfl) (by kernel_rfl) hH) (wpl_r2 [(127, .int .i64 K), (126, .int .i64 I)] (by kernel_rfl) (wpl_val rfl (by kernel_rfl) (run_min (a := I) (b := K) rfl (by kernel_rfl) (by kernel_rfl) hG) ?_)))))))
  refine wpl_call rfl (by kernel_rfl) (by kernel_rfl) ((vSlice_e0 H G Ax lx cx sx _ Lx.out Cx Ox.out Yx.out (by omega) (by omega) (by omega) (by omega) (spn_ok (by omega) (by omega))).mono ?_)
  rintro e w68 ⟨ld, sd, Ad, cd, Ed, rfl, Cd, Od, hb⟩
  refine ⟨_, rfl, ?_⟩
  replace Oa := hide (RQ.below Oa.out hb)
  replace Ob := hide (RQ.below Ob.out hb)
  replace Ox := hide (RQ.below Ox.out hb)
  replace Oz := hide (RQ.below Oz.out hb)
  replace Op := hide (RQ.below Op.out hb)
  replace Ba := hide (Box.kept Ba.out hb)
  replace Bb := hide (Box.kept Bb.out hb)
  replace Bx := hide (Box.kept Bx.out hb)
  replace Bz := hide (Box.kept Bz.out hb)
  replace Bp := hide (Box.kept Bp.out hb)
  replace Ed := hide (ret_e0 Ed.out)
  replace Od := hide Od.out.rd
  replace hU := hU.trans (hb.mono hU.size)
  clear hb
  have Gd : Gd ld := by have h := congrArg Vc.b Ed.out; dsimp only at h; rw [h]; exact (by show Gd (wdw (cnt ⟨lx, sx⟩).b G (H - G + 1).toNat 2); rw [(cnt_of_gd (v := ⟨lx, sx⟩) Gxx.out)]; exact gd_wdw Gxx.out (by omega) (by omega) (by decide))
  have Ld := hide (show ld.length ≤ 4096 from Nat.le_trans Gd.le (by decide))
  have Yd := hide Gd.by_
  clear Gd
  replace Ed := hide (show (⟨ld, sd⟩ : Vc) = ⟨wdw lx G (H - G + 1).toNat 2, false⟩ from Ed.out.trans (by rw [(cnt_of_gd (v := ⟨lx, sx⟩) Gxx.out)]))
  refine wpl_r3 [(131, .int .i64 0), (130, .agg #[.slice Ad ld.length cd, .bool sd]), (121, .tuple #[.agg #[.slice Ad ld.length cd, .bool sd], .int .i64 0])] (by kernel_rfl) (wpl_made (A := Ad) (m := ld.length) (c := cd) (s := sd) rfl rfl rfl rfl rfl rfl (fun _ => by kernel_rfl) (fun _ => by kernel_rfl) ?_)
  intro w69 Nd Bd hNd hb
  replace Bd := hide Bd
  replace Oa := hide (RQ.below Oa.out hb)
  replace Ob := hide (RQ.below Ob.out hb)
  replace Ox := hide (RQ.below Ox.out hb)
  replace Oz := hide (RQ.below Oz.out hb)
  replace Op := hide (RQ.below Op.out hb)
  replace Od := hide (RQ.below Od.out hb)
  replace Ba := hide (Box.kept Ba.out hb)
  replace Bb := hide (Box.kept Bb.out hb)
  replace Bx := hide (Box.kept Bx.out hb)
  replace Bz := hide (Box.kept Bz.out hb)
  replace Bp := hide (Box.kept Bp.out hb)
  have hzd : w.heap.size ≤ Nd := Nat.le_trans hU.size hNd
  clear hNd
  replace hU := hU.trans (hb.mono hU.size)
  clear hb
  refine wpl_r1 [(21, .int .i64 0)] (by kernel_rfl) (sx_n (wpl_ldvec Bx.out rfl (by kernel_rfl) rfl (by kernel_rfl) (wpl_r2 [(135, .int .i64 K), (134, .int .i64 I)] (by kernel_rfl) (wpl_val rfl (by kernel_rfl) (run_max (a := I) (b := K) rfl (by kernel_rfl) (by kernel_rfl) hH) (wpl_r2 [(138, .int .i64 K), (137, .int .i64 I)] (by kernel_rfl) (wpl_val rfl (by kernel_rfl) (run_min (a := I) (b := K) rfl (by kernel_rfl) (by kernel_rfl) hG) (wpl_ldvec Bd.out rfl (by kernel_rfl) rfl (by kernel_rfl) ?_)))))))
  refine wpl_call rfl (by kernel_rfl) (by kernel_rfl) ((vPut_e0 H G Ax Ad lx ld cx cd sx sd _ Lx.out Ld.out Cx Cd Ox.out Od.out Yx.out Yd.out (by omega) (by omega) (by omega) (by omega) (spn_ok (by omega) (by omega))).mono ?_)
  rintro e w70 ⟨lu, su, Au, cu, Eu, rfl, Cu, Ou, hb⟩
  refine ⟨_, rfl, ?_⟩
  replace Oa := hide (RQ.below Oa.out hb)
  replace Ob := hide (RQ.below Ob.out hb)
  replace Ox := hide (RQ.below Ox.out hb)
  replace Oz := hide (RQ.below Oz.out hb)
  replace Op := hide (RQ.below Op.out hb)
  replace Od := hide (RQ.below Od.out hb)
  replace Ba := hide (Box.kept Ba.out hb)
  replace Bb := hide (Box.kept Bb.out hb)
  replace Bx := hide (Box.kept Bx.out hb)
  replace Bz := hide (Box.kept Bz.out hb)
  replace Bp := hide (Box.kept Bp.out hb)
  replace Bd := hide (Box.kept Bd.out hb)
  replace Eu := hide (ret_e0 Eu.out)
  replace Ou := hide Ou.out.rd
  replace hU := hU.trans (hb.mono hU.size)
  clear hb
  have Gu : Gd lu := by have h := congrArg Vc.b Eu.out; dsimp only at h; rw [h]; exact (by rw [Ed.out, vPut_back (v := ⟨lx, sx⟩) Gxx.out h0 h1 h2]; exact Gxx.out)
  have Lu := hide (show lu.length ≤ 4096 from Nat.le_trans Gu.le (by decide))
  have Yu := hide Gu.by_
  clear Gu
  replace Eu := hide (show (⟨lu, su⟩ : Vc) = ⟨lx, sx⟩ from Eu.out.trans (by rw [Ed.out]; exact vPut_back (v := ⟨lx, sx⟩) Gxx.out h0 h1 h2))
  refine wpl_r3 [(143, .int .i64 0), (142, .agg #[.slice Au lu.length cu, .bool su]), (132, .tuple #[.agg #[.slice Au lu.length cu, .bool su], .int .i64 0])] (by kernel_rfl) (wpl_made (A := Au) (m := lu.length) (c := cu) (s := su) rfl rfl rfl rfl rfl rfl (fun _ => by kernel_rfl) (fun _ => by kernel_rfl) ?_)
  intro w71 Nu Bu hNu hb
  replace Bu := hide Bu
  replace Oa := hide (RQ.below Oa.out hb)
  replace Ob := hide (RQ.below Ob.out hb)
  replace Ox := hide (RQ.below Ox.out hb)
  replace Oz := hide (RQ.below Oz.out hb)
  replace Op := hide (RQ.below Op.out hb)
  replace Od := hide (RQ.below Od.out hb)
  replace Ou := hide (RQ.below Ou.out hb)
  replace Ba := hide (Box.kept Ba.out hb)
  replace Bb := hide (Box.kept Bb.out hb)
  replace Bx := hide (Box.kept Bx.out hb)
  replace Bz := hide (Box.kept Bz.out hb)
  replace Bp := hide (Box.kept Bp.out hb)
  replace Bd := hide (Box.kept Bd.out hb)
  have hzu : w.heap.size ≤ Nu := Nat.le_trans hU.size hNu
  clear hNu
  replace hU := hU.trans (hb.mono hU.size)
  clear hb
  refine wpl_r1 [(23, .int .i64 0)] (by kernel_rfl) (wpl_end (then_normal (wp_seq (region_R (n := 11) (N := 12) (by kernel_rfl) (by kernel_rfl) (by kernel_rfl) (by kernel_rfl) (by kernel_rfl) (by kernel_rfl) (fun _ _ _ _ _ h => h) ?_))))
  intro F hQ
  have Ba0 := Ba
  have Bb0 := Bb
  have Bx0 := Bx
  have Bz0 := Bz
  have Bp0 := Bp
  have Bd0 := Bd
  have Bu0 := Bu
  refine anyR_val (i := 0) (m' := 1) (v := .pointer (some ⟨Nx, 0, none⟩)) F hQ rfl rfl (by kernel_rfl) (by kernel_rfl) (by kernel_rfl) (by kernel_rfl) (by kernel_rfl) (fun _ _ => by kernel_rfl) (anyR_ldsl (i := 1) (m' := 3) Bx0.out F hQ rfl rfl (by kernel_rfl) (by kernel_rfl) (by kernel_rfl) (by kernel_rfl) (by kernel_rfl) rfl (by kernel_rfl) (anyR_val (i := 2) (m' := 7) (v := .int .i64 ((lx.length : Nat))) F hQ rfl rfl (by kernel_rfl) (by kernel_rfl) (by kernel_rfl) (by kernel_rfl) (by kernel_rfl) (fun _ _ => by kernel_rfl) (anyR_val (i := 3) (m' := 15) (v := .int .u8 m) F hQ rfl rfl (by kernel_rfl) (by kernel_rfl) (by kernel_rfl) (by kernel_rfl) (by kernel_rfl) (fun _ _ => by kernel_rfl) (anyR_val (i := 4) (m' := 31) (v := .int .i64 m) F hQ rfl rfl (by kernel_rfl) (by kernel_rfl) (by kernel_rfl) (by kernel_rfl) (by kernel_rfl) (fun _ _ => run_conv8 (a := m) rfl (by kernel_rfl) (by omega) (by omega)) (anyR_val (i := 5) (m' := 63) (v := .pointer (some ⟨Nx, 0, none⟩)) F hQ rfl rfl (by kernel_rfl) (by kernel_rfl) (by kernel_rfl) (by kernel_rfl) (by kernel_rfl) (fun _ _ => by kernel_rfl) (anyR_ldsl (i := 6) (m' := 127) Bx0.out F hQ rfl rfl (by kernel_rfl) (by kernel_rfl) (by kernel_rfl) (by kernel_rfl) (by kernel_rfl) rfl (by kernel_rfl) (anyR_val (i := 7) (m' := 255) (v := .int .i64 ((lx.length : Nat))) F hQ rfl rfl (by kernel_rfl) (by kernel_rfl) (by kernel_rfl) (by kernel_rfl) (by kernel_rfl) (fun _ _ => by kernel_rfl) ?_)))))))
  refine anyR_val (i := 8) (m' := 511) (v := .int .i64 ((129 - (lx.length : Int)))) F hQ rfl rfl (by kernel_rfl) (by kernel_rfl) (by kernel_rfl) (by kernel_rfl) (by kernel_rfl) (fun _ _ => run_sub (a := 129) (b := (lx.length : Int)) (c := (129 - (lx.length : Int))) rfl (by kernel_rfl) (by kernel_rfl) (rfl) (by omega) (by omega)) (anyR_val (i := 9) (m' := 1023) (v := .int .i64 J) F hQ rfl rfl (by kernel_rfl) (by kernel_rfl) (by kernel_rfl) (by kernel_rfl) (by kernel_rfl) (fun _ _ => run_rem (a := m) (b := (129 - (lx.length : Int))) rfl (by kernel_rfl) (by kernel_rfl) (by omega) hJ) (anyR_val (i := 10) (m' := 2047) (v := .int .i64 ((M : Nat))) F hQ rfl rfl (by kernel_rfl) (by kernel_rfl) (by kernel_rfl) (by kernel_rfl) (by kernel_rfl) (fun _ _ => run_add (a := (lx.length : Int)) (b := J) (c := (M : Int)) rfl (by kernel_rfl) (by kernel_rfl) (hM) (by omega) (by omega)) (anyR_e (anyR_last (i := 11) (m' := 4095) (v := .int .i64 ((M : Nat))) rfl rfl (by kernel_rfl) (by kernel_rfl) (by kernel_rfl) (by kernel_rfl) (by kernel_rfl) (anyE_done (by kernel_rfl) ?_)))))
  clear F hQ Ba0 Bb0 Bx0 Bz0 Bp0 Bd0 Bu0
  generalize hw : World.drew w71 = w72
  have hb : Below w71.heap.size w71 w72 := by rw [← hw]; exact (Below.refl _ _).drew
  clear hw
  replace Oa := hide (RQ.below Oa.out hb)
  replace Ob := hide (RQ.below Ob.out hb)
  replace Ox := hide (RQ.below Ox.out hb)
  replace Oz := hide (RQ.below Oz.out hb)
  replace Op := hide (RQ.below Op.out hb)
  replace Od := hide (RQ.below Od.out hb)
  replace Ou := hide (RQ.below Ou.out hb)
  replace Ba := hide (Box.kept Ba.out hb)
  replace Bb := hide (Box.kept Bb.out hb)
  replace Bx := hide (Box.kept Bx.out hb)
  replace Bz := hide (Box.kept Bz.out hb)
  replace Bp := hide (Box.kept Bp.out hb)
  replace Bd := hide (Box.kept Bd.out hb)
  replace Bu := hide (Box.kept Bu.out hb)
  replace hU := hU.trans (hb.mono hU.size)
  clear hb
  refine then_normal (wp_seq (reg_lit (wpl_ldvec Bx.out rfl (by kernel_rfl) rfl (by kernel_rfl) (wpl_r1 [(157, .int .i64 ((M : Nat)))] (by kernel_rfl) ?_))))
  refine wpl_call rfl (by kernel_rfl) (by kernel_rfl) ((vResize_e0 M Ax lx cx sx _ Lx.out Cx Ox.out Yx.out (by omega) (by omega)).mono ?_)
  rintro e w73 ⟨lh, sh, Ah, ch, Eh, rfl, Ch, Oh, hb⟩
  refine ⟨_, rfl, ?_⟩
  replace Oa := hide (RQ.below Oa.out hb)
  replace Ob := hide (RQ.below Ob.out hb)
  replace Ox := hide (RQ.below Ox.out hb)
  replace Oz := hide (RQ.below Oz.out hb)
  replace Op := hide (RQ.below Op.out hb)
  replace Od := hide (RQ.below Od.out hb)
  replace Ou := hide (RQ.below Ou.out hb)
  replace Ba := hide (Box.kept Ba.out hb)
  replace Bb := hide (Box.kept Bb.out hb)
  replace Bx := hide (Box.kept Bx.out hb)
  replace Bz := hide (Box.kept Bz.out hb)
  replace Bp := hide (Box.kept Bp.out hb)
  replace Bd := hide (Box.kept Bd.out hb)
  replace Bu := hide (Box.kept Bu.out hb)
  replace Eh := hide (ret_e0 Eh.out)
  replace Oh := hide Oh.out.rd
  replace hU := hU.trans (hb.mono hU.size)
  clear hb
  have Gh : Gd lh := by have h := congrArg Vc.b Eh.out; dsimp only at h; rw [h]; exact (by show Gd (rsz (cnt ⟨lx, sx⟩) M); rw [(cnt_of_gd (v := ⟨lx, sx⟩) Gxx.out)]; exact gd_rsz (v := ⟨lx, sx⟩) Gxx.out (by omega) (by omega))
  have Lh := hide (show lh.length ≤ 4096 from Nat.le_trans Gh.le (by decide))
  have Yh := hide Gh.by_
  clear Gh
  replace Eh := hide (show (⟨lh, sh⟩ : Vc) = ⟨rsz ⟨lx, sx⟩ M, sx⟩ from Eh.out.trans (by rw [(cnt_of_gd (v := ⟨lx, sx⟩) Gxx.out)]))
  refine wpl_r3 [(160, .int .i64 0), (159, .agg #[.slice Ah lh.length ch, .bool sh]), (155, .tuple #[.agg #[.slice Ah lh.length ch, .bool sh], .int .i64 0])] (by kernel_rfl) (wpl_made (A := Ah) (m := lh.length) (c := ch) (s := sh) rfl rfl rfl rfl rfl rfl (fun _ => by kernel_rfl) (fun _ => by kernel_rfl) ?_)
  intro w74 Nh Bh hNh hb
  replace Bh := hide Bh
  replace Oa := hide (RQ.below Oa.out hb)
  replace Ob := hide (RQ.below Ob.out hb)
  replace Ox := hide (RQ.below Ox.out hb)
  replace Oz := hide (RQ.below Oz.out hb)
  replace Op := hide (RQ.below Op.out hb)
  replace Od := hide (RQ.below Od.out hb)
  replace Ou := hide (RQ.below Ou.out hb)
  replace Oh := hide (RQ.below Oh.out hb)
  replace Ba := hide (Box.kept Ba.out hb)
  replace Bb := hide (Box.kept Bb.out hb)
  replace Bx := hide (Box.kept Bx.out hb)
  replace Bz := hide (Box.kept Bz.out hb)
  replace Bp := hide (Box.kept Bp.out hb)
  replace Bd := hide (Box.kept Bd.out hb)
  replace Bu := hide (Box.kept Bu.out hb)
  have hzh : w.heap.size ≤ Nh := Nat.le_trans hU.size hNh
  clear hNh
  replace hU := hU.trans (hb.mono hU.size)
  clear hb
  refine wpl_r1 [(26, .int .i64 0)] (by kernel_rfl) (sx_n (wpl_ldvec Bh.out rfl (by kernel_rfl) rfl (by kernel_rfl) (wpl_r1 [(163, .pointer (some ⟨Nx, 0, none⟩))] (by kernel_rfl) (wpl_ldsl Bx.out rfl (by kernel_rfl) rfl (by kernel_rfl) (wpl_r1 [(165, .int .i64 ((lx.length : Nat)))] (by kernel_rfl) ?_)))))
  refine wpl_call rfl (by kernel_rfl) (by kernel_rfl) ((vResize_e0 lx.length Ah lh ch sh _ Lh.out Ch Oh.out Yh.out (by omega) (by omega)).mono ?_)
  rintro e w75 ⟨lr, sr, Ar, cr, Er, rfl, Cr, Or, hb⟩
  refine ⟨_, rfl, ?_⟩
  replace Oa := hide (RQ.below Oa.out hb)
  replace Ob := hide (RQ.below Ob.out hb)
  replace Ox := hide (RQ.below Ox.out hb)
  replace Oz := hide (RQ.below Oz.out hb)
  replace Op := hide (RQ.below Op.out hb)
  replace Od := hide (RQ.below Od.out hb)
  replace Ou := hide (RQ.below Ou.out hb)
  replace Oh := hide (RQ.below Oh.out hb)
  replace Ba := hide (Box.kept Ba.out hb)
  replace Bb := hide (Box.kept Bb.out hb)
  replace Bx := hide (Box.kept Bx.out hb)
  replace Bz := hide (Box.kept Bz.out hb)
  replace Bp := hide (Box.kept Bp.out hb)
  replace Bd := hide (Box.kept Bd.out hb)
  replace Bu := hide (Box.kept Bu.out hb)
  replace Bh := hide (Box.kept Bh.out hb)
  replace Er := hide (ret_e0 Er.out)
  replace Or := hide Or.out.rd
  replace hU := hU.trans (hb.mono hU.size)
  clear hb
  have Gr : Gd lr := by have h := congrArg Vc.b Er.out; dsimp only at h; rw [h]; exact (by rw [Eh.out, cnt_of_gd (v := ⟨rsz ⟨lx, sx⟩ M, sx⟩) (gd_rsz (v := ⟨lx, sx⟩) Gxx.out (by omega) (by omega))]; show Gd (rsz ⟨rsz ⟨lx, sx⟩ M, sx⟩ lx.length); rw [rsz_back (v := ⟨lx, sx⟩) (by exact q1)]; exact Gxx.out)
  have Lr := hide (show lr.length ≤ 4096 from Nat.le_trans Gr.le (by decide))
  have Yr := hide Gr.by_
  clear Gr
  replace Er := hide (show (⟨lr, sr⟩ : Vc) = ⟨lx, sx⟩ from Er.out.trans (by rw [Eh.out, cnt_of_gd (v := ⟨rsz ⟨lx, sx⟩ M, sx⟩) (gd_rsz (v := ⟨lx, sx⟩) Gxx.out (by omega) (by omega))]; show (⟨rsz ⟨rsz ⟨lx, sx⟩ M, sx⟩ lx.length, sx⟩ : Vc) = _; rw [rsz_back (v := ⟨lx, sx⟩) (by exact q1)]))
  refine wpl_r3 [(168, .int .i64 0), (167, .agg #[.slice Ar lr.length cr, .bool sr]), (161, .tuple #[.agg #[.slice Ar lr.length cr, .bool sr], .int .i64 0])] (by kernel_rfl) (wpl_made (A := Ar) (m := lr.length) (c := cr) (s := sr) rfl rfl rfl rfl rfl rfl (fun _ => by kernel_rfl) (fun _ => by kernel_rfl) ?_)
  intro w76 Nr Br hNr hb
  replace Br := hide Br
  replace Oa := hide (RQ.below Oa.out hb)
  replace Ob := hide (RQ.below Ob.out hb)
  replace Ox := hide (RQ.below Ox.out hb)
  replace Oz := hide (RQ.below Oz.out hb)
  replace Op := hide (RQ.below Op.out hb)
  replace Od := hide (RQ.below Od.out hb)
  replace Ou := hide (RQ.below Ou.out hb)
  replace Oh := hide (RQ.below Oh.out hb)
  replace Or := hide (RQ.below Or.out hb)
  replace Ba := hide (Box.kept Ba.out hb)
  replace Bb := hide (Box.kept Bb.out hb)
  replace Bx := hide (Box.kept Bx.out hb)
  replace Bz := hide (Box.kept Bz.out hb)
  replace Bp := hide (Box.kept Bp.out hb)
  replace Bd := hide (Box.kept Bd.out hb)
  replace Bu := hide (Box.kept Bu.out hb)
  replace Bh := hide (Box.kept Bh.out hb)
  have hzr : w.heap.size ≤ Nr := Nat.le_trans hU.size hNr
  clear hNr
  replace hU := hU.trans (hb.mono hU.size)
  clear hb
  refine wpl_r1 [(28, .int .i64 0)] (by kernel_rfl) (sx_n (wpl_ldvec Bx.out rfl (by kernel_rfl) rfl (by kernel_rfl) ?_))
  refine wpl_call rfl (by kernel_rfl) (by kernel_rfl) ((vInt_is (.tuple #[.int .i64 jn, .bool jq]) Ax lx cx sx _ Lx.out Cx Ox.out Yx.out (fun e h => IntV_uniq h HI.out)).mono ?_)
  rintro e w77 ⟨rfl, hb⟩
  refine ⟨_, rfl, ?_⟩
  replace Oa := hide (RQ.below Oa.out hb)
  replace Ob := hide (RQ.below Ob.out hb)
  replace Ox := hide (RQ.below Ox.out hb)
  replace Oz := hide (RQ.below Oz.out hb)
  replace Op := hide (RQ.below Op.out hb)
  replace Od := hide (RQ.below Od.out hb)
  replace Ou := hide (RQ.below Ou.out hb)
  replace Oh := hide (RQ.below Oh.out hb)
  replace Or := hide (RQ.below Or.out hb)
  replace Ba := hide (Box.kept Ba.out hb)
  replace Bb := hide (Box.kept Bb.out hb)
  replace Bx := hide (Box.kept Bx.out hb)
  replace Bz := hide (Box.kept Bz.out hb)
  replace Bp := hide (Box.kept Bp.out hb)
  replace Bd := hide (Box.kept Bd.out hb)
  replace Bu := hide (Box.kept Bu.out hb)
  replace Bh := hide (Box.kept Bh.out hb)
  replace Br := hide (Box.kept Br.out hb)
  replace hU := hU.trans (hb.mono hU.size)
  clear hb
  refine wpl_r5 [(30, .bool jq), (29, .int .i64 jn), (173, .bool jq), (172, .int .i64 jn), (169, .tuple #[.int .i64 jn, .bool jq])] (by kernel_rfl) (sx_n (wpl_ldvec Bh.out rfl (by kernel_rfl) rfl (by kernel_rfl) ?_))
  refine wpl_call rfl (by kernel_rfl) (by kernel_rfl) ((vInt_is (.tuple #[.int .i64 jn, .bool jq]) Ah lh ch sh _ Lh.out Ch Oh.out Yh.out (fun e h => (IntV_more (v := ⟨lx, sx⟩) Gxx.out q1 q2 HI.out (by rw [← Eh.out]; exact h)).symm)).mono ?_)
  rintro e w78 ⟨rfl, hb⟩
  refine ⟨_, rfl, ?_⟩
  replace Oa := hide (RQ.below Oa.out hb)
  replace Ob := hide (RQ.below Ob.out hb)
  replace Ox := hide (RQ.below Ox.out hb)
  replace Oz := hide (RQ.below Oz.out hb)
  replace Op := hide (RQ.below Op.out hb)
  replace Od := hide (RQ.below Od.out hb)
  replace Ou := hide (RQ.below Ou.out hb)
  replace Oh := hide (RQ.below Oh.out hb)
  replace Or := hide (RQ.below Or.out hb)
  replace Ba := hide (Box.kept Ba.out hb)
  replace Bb := hide (Box.kept Bb.out hb)
  replace Bx := hide (Box.kept Bx.out hb)
  replace Bz := hide (Box.kept Bz.out hb)
  replace Bp := hide (Box.kept Bp.out hb)
  replace Bd := hide (Box.kept Bd.out hb)
  replace Bu := hide (Box.kept Bu.out hb)
  replace Bh := hide (Box.kept Bh.out hb)
  replace Br := hide (Box.kept Br.out hb)
  replace hU := hU.trans (hb.mono hU.size)
  clear hb
  refine wpl_r5 [(32, .bool jq), (31, .int .i64 jn), (178, .bool jq), (177, .int .i64 jn), (174, .tuple #[.int .i64 jn, .bool jq])] (by kernel_rfl) (sx_n (wpl_r15 [(193, .bool true), (192, .bool true), (191, .bool true), (190, .int .i64 0), (189, .bool true), (188, .bool true), (187, .bool true), (186, .int .i64 0), (185, .bool true), (184, .bool true), (183, .bool true), (182, .int .i64 0), (181, .bool true), (180, .bool true), (179, .int .i64 0)] (by kernel_rfl) (wpl_ldvec Bu.out rfl (by kernel_rfl) rfl (by kernel_rfl) (wpl_ldvec Bx.out rfl (by kernel_rfl) rfl (by kernel_rfl) ?_))))
  refine wpl_call rfl (by kernel_rfl) (by kernel_rfl) ((rsame_yes Au Ax lu lx cu cx su sx _ Lu.out Lx.out Ou.out Ox.out Eu.out).mono ?_)
  rintro e w79 ⟨rfl, hb⟩
  refine ⟨_, rfl, ?_⟩
  replace Oa := hide (RQ.below Oa.out hb)
  replace Ob := hide (RQ.below Ob.out hb)
  replace Ox := hide (RQ.below Ox.out hb)
  replace Oz := hide (RQ.below Oz.out hb)
  replace Op := hide (RQ.below Op.out hb)
  replace Od := hide (RQ.below Od.out hb)
  replace Ou := hide (RQ.below Ou.out hb)
  replace Oh := hide (RQ.below Oh.out hb)
  replace Or := hide (RQ.below Or.out hb)
  replace Ba := hide (Box.kept Ba.out hb)
  replace Bb := hide (Box.kept Bb.out hb)
  replace Bx := hide (Box.kept Bx.out hb)
  replace Bz := hide (Box.kept Bz.out hb)
  replace Bp := hide (Box.kept Bp.out hb)
  replace Bd := hide (Box.kept Bd.out hb)
  replace Bu := hide (Box.kept Bu.out hb)
  replace Bh := hide (Box.kept Bh.out hb)
  replace Br := hide (Box.kept Br.out hb)
  replace hU := hU.trans (hb.mono hU.size)
  clear hb
  refine wpl_r2 [(198, .bool true), (197, .bool true)] (by kernel_rfl) (wpl_ldvec Br.out rfl (by kernel_rfl) rfl (by kernel_rfl) (wpl_ldvec Bx.out rfl (by kernel_rfl) rfl (by kernel_rfl) ?_))
  refine wpl_call rfl (by kernel_rfl) (by kernel_rfl) ((rsame_yes Ar Ax lr lx cr cx sr sx _ Lr.out Lx.out Or.out Ox.out Er.out).mono ?_)
  rintro e w80 ⟨rfl, hb⟩
  refine ⟨_, rfl, ?_⟩
  replace Oa := hide (RQ.below Oa.out hb)
  replace Ob := hide (RQ.below Ob.out hb)
  replace Ox := hide (RQ.below Ox.out hb)
  replace Oz := hide (RQ.below Oz.out hb)
  replace Op := hide (RQ.below Op.out hb)
  replace Od := hide (RQ.below Od.out hb)
  replace Ou := hide (RQ.below Ou.out hb)
  replace Oh := hide (RQ.below Oh.out hb)
  replace Or := hide (RQ.below Or.out hb)
  replace Ba := hide (Box.kept Ba.out hb)
  replace Bb := hide (Box.kept Bb.out hb)
  replace Bx := hide (Box.kept Bx.out hb)
  replace Bz := hide (Box.kept Bz.out hb)
  replace Bp := hide (Box.kept Bp.out hb)
  replace Bd := hide (Box.kept Bd.out hb)
  replace Bu := hide (Box.kept Bu.out hb)
  replace Bh := hide (Box.kept Bh.out hb)
  replace Br := hide (Box.kept Br.out hb)
  replace hU := hU.trans (hb.mono hU.size)
  clear hb
  refine wpl_r4 [(205, .int .i64 jn), (204, .int .i64 jn), (203, .bool true), (202, .bool true)] (by kernel_rfl) (wpl_val rfl (by kernel_rfl) (run_eql (a := jn) (b := jn) rfl (by kernel_rfl) (by kernel_rfl) (beq_self_eq_true _)) (wpl_r4 [(210, .bool jq), (209, .bool jq), (208, .bool true), (207, .bool true)] (by kernel_rfl) (wpl_val rfl (by kernel_rfl) (run_beql (a := jq) (b := jq) rfl (by kernel_rfl) (by kernel_rfl) (beq_self_eq_true _)) (wpl_r2 [(8, .bool true), (212, .bool true)] (by kernel_rfl) (wpl_end (then_normal (wp_ret ?_)))))))
  refine (show bodyPost _ _ _ .ret _ _ from ret_sl (.bool true) rfl (by kernel_rfl) ?_)
  exact ⟨rfl, hU⟩
  have Gzx := hide (gd_app Gzz.out Gxx.out (by omega))
  refine reg_lit (wpl_ldvec Ba.out rfl (by kernel_rfl) rfl (by kernel_rfl) (wpl_ldvec Bb.out rfl (by kernel_rfl) rfl (by kernel_rfl) (wpl_bs2 rfl (by kernel_rfl) rfl (A0 := Aa) (l0 := la) (c0 := ca) (s0 := sa) (A1 := Ab) (l1 := lb) (c1 := cb) (s1 := sb) (by kernel_rfl) (by kernel_rfl) Oa.out Ya.out La.out Ca Ob.out Yb.out Lb.out Cb ?_)))
  intro w81 NV81 RV81 hlV81 hNV81 hb
  replace RV81 := hide RV81
  replace Oa := hide (RQ.below Oa.out hb)
  replace Ob := hide (RQ.below Ob.out hb)
  replace Ox := hide (RQ.below Ox.out hb)
  replace Oz := hide (RQ.below Oz.out hb)
  replace Ba := hide (Box.kept Ba.out hb)
  replace Bb := hide (Box.kept Bb.out hb)
  replace Bx := hide (Box.kept Bx.out hb)
  replace Bz := hide (Box.kept Bz.out hb)
  replace hU := hU.trans (hb.mono hU.size)
  clear hb
  clear hNV81
  refine wpl_call rfl (by kernel_rfl) (by kernel_rfl) ((vConcat_e0 NV81 2 [(Aa, la, ca, sa), (Ab, lb, cb, sb)] _ hlV81 (by simp) (by simp) RV81.out (cte_le Ex.out Ez.out hw)).mono ?_)
  rintro e w82 ⟨lp, sp, Ap, cp, Ep, rfl, Cp, Op, hb⟩
  refine ⟨_, rfl, ?_⟩
  replace Oa := hide (RQ.below Oa.out hb)
  replace Ob := hide (RQ.below Ob.out hb)
  replace Ox := hide (RQ.below Ox.out hb)
  replace Oz := hide (RQ.below Oz.out hb)
  replace Ba := hide (Box.kept Ba.out hb)
  replace Bb := hide (Box.kept Bb.out hb)
  replace Bx := hide (Box.kept Bx.out hb)
  replace Bz := hide (Box.kept Bz.out hb)
  replace Ep := hide (ret_e0 Ep.out)
  replace Op := hide Op.out.rd
  replace hU := hU.trans (hb.mono hU.size)
  clear hb
  have Gp : Gd lp := by have h := congrArg Vc.b Ep.out; dsimp only at h; rw [h]; exact (by show Gd (cats [⟨la, sa⟩, ⟨lb, sb⟩]); rw [cats_xz Ex.out Ez.out]; exact Gzx.out)
  have Lp := hide (show lp.length ≤ 4096 from Nat.le_trans Gp.le (by decide))
  have Yp := hide Gp.by_
  clear Gp
  clear RV81 hlV81
  replace Ep := hide (show (⟨lp, sp⟩ : Vc) = ⟨lz ++ lx, false⟩ from Ep.out.trans (congrArg (fun l => (⟨l, false⟩ : Vc)) (cats_xz Ex.out Ez.out)))
  refine wpl_r3 [(52, .int .i64 0), (51, .agg #[.slice Ap lp.length cp, .bool sp]), (46, .tuple #[.agg #[.slice Ap lp.length cp, .bool sp], .int .i64 0])] (by kernel_rfl) (wpl_made (A := Ap) (m := lp.length) (c := cp) (s := sp) rfl rfl rfl rfl rfl rfl (fun _ => by kernel_rfl) (fun _ => by kernel_rfl) ?_)
  intro w83 Np Bp hNp hb
  replace Bp := hide Bp
  replace Oa := hide (RQ.below Oa.out hb)
  replace Ob := hide (RQ.below Ob.out hb)
  replace Ox := hide (RQ.below Ox.out hb)
  replace Oz := hide (RQ.below Oz.out hb)
  replace Op := hide (RQ.below Op.out hb)
  replace Ba := hide (Box.kept Ba.out hb)
  replace Bb := hide (Box.kept Bb.out hb)
  replace Bx := hide (Box.kept Bx.out hb)
  replace Bz := hide (Box.kept Bz.out hb)
  have hzp : w.heap.size ≤ Np := Nat.le_trans hU.size hNp
  clear hNp
  replace hU := hU.trans (hb.mono hU.size)
  clear hb
  refine wpl_r1 [(12, .int .i64 0)] (by kernel_rfl) (wpl_end (then_normal (wp_seq (wp_seq (reg_lit (wpl_r1 [(53, .pointer (some ⟨Nx, 0, none⟩))] (by kernel_rfl) (wpl_ldsl Bx.out rfl (by kernel_rfl) rfl (by kernel_rfl) ?_)))))))
  refine wpl_r2 [(56, .pointer (some ⟨Nz, 0, none⟩)), (55, .int .i64 ((lx.length : Nat)))] (by kernel_rfl) (wpl_ldsl Bz.out rfl (by kernel_rfl) rfl (by kernel_rfl) (wpl_r1 [(58, .int .i64 ((lz.length : Nat)))] (by kernel_rfl) (wpl_val rfl (by kernel_rfl) (run_add (a := (lx.length : Int)) (b := (lz.length : Int)) (c := ((lx.length : Int) + (lz.length : Int))) rfl (by kernel_rfl) (by kernel_rfl) (rfl) (by omega) (by omega)) (wpl_val rfl (by kernel_rfl) (run_leq (a := ((lx.length : Int) + (lz.length : Int))) (b := 128) rfl (by kernel_rfl) (by kernel_rfl) (decide_eq_true (by omega))) (wpl_end (then_normal (wp_ift (by kernel_rfl) ?_)))))))
  refine wp_seq (reg_lit (wpl_r1 [(61, .pointer (some ⟨Nz, 0, none⟩))] (by kernel_rfl) (wpl_ldsl Bz.out rfl (by kernel_rfl) rfl (by kernel_rfl) (wpl_r2 [(13, .int .i64 ((lz.length : Nat))), (63, .int .i64 ((lz.length : Nat)))] (by kernel_rfl) (sx_n (wpl_ldvec Bp.out rfl (by kernel_rfl) rfl (by kernel_rfl) (wpl_r1 [(66, .int .i64 ((lz.length : Nat)))] (by kernel_rfl) ?_)))))))
  refine wpl_val rfl (by kernel_rfl) (run_sub (a := (lz.length : Int)) (b := 1) (c := ((lz.length : Int) - 1)) rfl (by kernel_rfl) (by kernel_rfl) (rfl) (by omega) (by omega)) ?_
  refine wpl_call rfl (by kernel_rfl) (by kernel_rfl) ((vSlice_e0 ((lz.length : Int) - 1) (0) Ap lp cp sp _ Lp.out Cp Op.out Yp.out (by omega) (by omega) (by omega) (by omega) (spn_ok (by omega) (by omega))).mono ?_)
  rintro e w84 ⟨lf, sf, Af, cf, Ef, rfl, Cf, Of, hb⟩
  refine ⟨_, rfl, ?_⟩
  replace Oa := hide (RQ.below Oa.out hb)
  replace Ob := hide (RQ.below Ob.out hb)
  replace Ox := hide (RQ.below Ox.out hb)
  replace Oz := hide (RQ.below Oz.out hb)
  replace Op := hide (RQ.below Op.out hb)
  replace Ba := hide (Box.kept Ba.out hb)
  replace Bb := hide (Box.kept Bb.out hb)
  replace Bx := hide (Box.kept Bx.out hb)
  replace Bz := hide (Box.kept Bz.out hb)
  replace Bp := hide (Box.kept Bp.out hb)
  replace Ef := hide (ret_e0 Ef.out)
  replace Of := hide Of.out.rd
  replace hU := hU.trans (hb.mono hU.size)
  clear hb
  have Gf : Gd lf := by have h := congrArg Vc.b Ef.out; dsimp only at h; rw [h]; exact (gd_eqv (low_eq Ep.out Gzx.out ((lz.length : Int) - 1) (by omega) z0) Gzz.out)
  have Lf := hide (show lf.length ≤ 4096 from Nat.le_trans Gf.le (by decide))
  have Yf := hide Gf.by_
  clear Gf
  replace Ef := hide (show (⟨lf, sf⟩ : Vc) = ⟨lz, false⟩ from Ef.out.trans (low_eq Ep.out Gzx.out ((lz.length : Int) - 1) (by omega) z0))
  refine wpl_r3 [(70, .int .i64 0), (69, .agg #[.slice Af lf.length cf, .bool sf]), (64, .tuple #[.agg #[.slice Af lf.length cf, .bool sf], .int .i64 0])] (by kernel_rfl) (wpl_made (A := Af) (m := lf.length) (c := cf) (s := sf) rfl rfl rfl rfl rfl rfl (fun _ => by kernel_rfl) (fun _ => by kernel_rfl) ?_)
  intro w85 Nf Bf hNf hb
  replace Bf := hide Bf
  replace Oa := hide (RQ.below Oa.out hb)
  replace Ob := hide (RQ.below Ob.out hb)
  replace Ox := hide (RQ.below Ox.out hb)
  replace Oz := hide (RQ.below Oz.out hb)
  replace Op := hide (RQ.below Op.out hb)
  replace Of := hide (RQ.below Of.out hb)
  replace Ba := hide (Box.kept Ba.out hb)
  replace Bb := hide (Box.kept Bb.out hb)
  replace Bx := hide (Box.kept Bx.out hb)
  replace Bz := hide (Box.kept Bz.out hb)
  replace Bp := hide (Box.kept Bp.out hb)
  have hzf : w.heap.size ≤ Nf := Nat.le_trans hU.size hNf
  clear hNf
  replace hU := hU.trans (hb.mono hU.size)
  clear hb
  refine wpl_r1 [(15, .int .i64 0)] (by kernel_rfl) (sx_n (wpl_ldvec Bp.out rfl (by kernel_rfl) rfl (by kernel_rfl) (wpl_r2 [(74, .pointer (some ⟨Nx, 0, none⟩)), (73, .int .i64 ((lz.length : Nat)))] (by kernel_rfl) (wpl_ldsl Bx.out rfl (by kernel_rfl) rfl (by kernel_rfl) (wpl_r1 [(76, .int .i64 ((lx.length : Nat)))] (by kernel_rfl) (wpl_val rfl (by kernel_rfl) (run_add (a := (lz.length : Int)) (b := (lx.length : Int)) (c := ((lz.length : Int) + (lx.length : Int))) rfl (by kernel_rfl) (by kernel_rfl) (rfl) (by omega) (by omega)) (wpl_val rfl (by kernel_rfl) (run_sub (a := ((lz.length : Int) + (lx.length : Int))) (b := 1) (c := ((lz.length : Int) + (lx.length : Int) - 1)) rfl (by kernel_rfl) (by kernel_rfl) (rfl) (by omega) (by omega)) ?_)))))))
  refine wpl_r1 [(79, .int .i64 ((lz.length : Nat)))] (by kernel_rfl) ?_
  refine wpl_call rfl (by kernel_rfl) (by kernel_rfl) ((vSlice_e0 ((lz.length : Int) + (lx.length : Int) - 1) ((lz.length : Int)) Ap lp cp sp _ Lp.out Cp Op.out Yp.out (by omega) (by omega) (by omega) (by omega) (spn_ok (by omega) (by omega))).mono ?_)
  rintro e w86 ⟨lk, sk, Ak, ck, Ek, rfl, Ck, Ok, hb⟩
  refine ⟨_, rfl, ?_⟩
  replace Oa := hide (RQ.below Oa.out hb)
  replace Ob := hide (RQ.below Ob.out hb)
  replace Ox := hide (RQ.below Ox.out hb)
  replace Oz := hide (RQ.below Oz.out hb)
  replace Op := hide (RQ.below Op.out hb)
  replace Of := hide (RQ.below Of.out hb)
  replace Ba := hide (Box.kept Ba.out hb)
  replace Bb := hide (Box.kept Bb.out hb)
  replace Bx := hide (Box.kept Bx.out hb)
  replace Bz := hide (Box.kept Bz.out hb)
  replace Bp := hide (Box.kept Bp.out hb)
  replace Bf := hide (Box.kept Bf.out hb)
  replace Ek := hide (ret_e0 Ek.out)
  replace Ok := hide Ok.out.rd
  replace hU := hU.trans (hb.mono hU.size)
  clear hb
  have Gk : Gd lk := by have h := congrArg Vc.b Ek.out; dsimp only at h; rw [h]; exact (gd_eqv (high_eq Ep.out Gzx.out ((lz.length : Int) + (lx.length : Int) - 1) (by omega)) Gxx.out)
  have Lk := hide (show lk.length ≤ 4096 from Nat.le_trans Gk.le (by decide))
  have Yk := hide Gk.by_
  clear Gk
  replace Ek := hide (show (⟨lk, sk⟩ : Vc) = ⟨lx, false⟩ from Ek.out.trans (high_eq Ep.out Gzx.out ((lz.length : Int) + (lx.length : Int) - 1) (by omega)))
  refine wpl_r3 [(82, .int .i64 0), (81, .agg #[.slice Ak lk.length ck, .bool sk]), (71, .tuple #[.agg #[.slice Ak lk.length ck, .bool sk], .int .i64 0])] (by kernel_rfl) (wpl_made (A := Ak) (m := lk.length) (c := ck) (s := sk) rfl rfl rfl rfl rfl rfl (fun _ => by kernel_rfl) (fun _ => by kernel_rfl) ?_)
  intro w87 Nk Bk hNk hb
  replace Bk := hide Bk
  replace Oa := hide (RQ.below Oa.out hb)
  replace Ob := hide (RQ.below Ob.out hb)
  replace Ox := hide (RQ.below Ox.out hb)
  replace Oz := hide (RQ.below Oz.out hb)
  replace Op := hide (RQ.below Op.out hb)
  replace Of := hide (RQ.below Of.out hb)
  replace Ok := hide (RQ.below Ok.out hb)
  replace Ba := hide (Box.kept Ba.out hb)
  replace Bb := hide (Box.kept Bb.out hb)
  replace Bx := hide (Box.kept Bx.out hb)
  replace Bz := hide (Box.kept Bz.out hb)
  replace Bp := hide (Box.kept Bp.out hb)
  replace Bf := hide (Box.kept Bf.out hb)
  have hzk : w.heap.size ≤ Nk := Nat.le_trans hU.size hNk
  clear hNk
  replace hU := hU.trans (hb.mono hU.size)
  clear hb
  refine wpl_r1 [(17, .int .i64 0)] (by kernel_rfl) (wpl_end (then_normal (wp_seq (region_R (n := 23) (N := 24) (by kernel_rfl) (by kernel_rfl) (by kernel_rfl) (by kernel_rfl) (by kernel_rfl) (by kernel_rfl) (fun _ _ _ _ _ h => h) ?_))))
  intro F hQ
  have Ba0 := Ba
  have Bb0 := Bb
  have Bx0 := Bx
  have Bz0 := Bz
  have Bp0 := Bp
  have Bf0 := Bf
  have Bk0 := Bk
  refine anyR_val (i := 0) (m' := 1) (v := .int .i64 0) F hQ rfl rfl (by kernel_rfl) (by kernel_rfl) (by kernel_rfl) (by kernel_rfl) (by kernel_rfl) (fun _ _ => by kernel_rfl) (anyR_val (i := 1) (m' := 3) (v := .bool false) F hQ rfl rfl (by kernel_rfl) (by kernel_rfl) (by kernel_rfl) (by kernel_rfl) (by kernel_rfl) (fun _ _ => by kernel_rfl) (anyR_val (i := 2) (m' := 7) (v := .bool false) F hQ rfl rfl (by kernel_rfl) (by kernel_rfl) (by kernel_rfl) (by kernel_rfl) (by kernel_rfl) (fun _ _ => by kernel_rfl) (anyR_val (i := 3) (m' := 15) (v := .int .i64 0) F hQ rfl rfl (by kernel_rfl) (by kernel_rfl) (by kernel_rfl) (by kernel_rfl) (by kernel_rfl) (fun _ _ => by kernel_rfl) (anyR_val (i := 4) (m' := 31) (v := .bool false) F hQ rfl rfl (by kernel_rfl) (by kernel_rfl) (by kernel_rfl) (by kernel_rfl) (by kernel_rfl) (fun _ _ => by kernel_rfl) (anyR_val (i := 5) (m' := 63) (v := .bool false) F hQ rfl rfl (by kernel_rfl) (by kernel_rfl) (by kernel_rfl) (by kernel_rfl) (by kernel_rfl) (fun _ _ => by kernel_rfl) (anyR_val (i := 6) (m' := 127) (v := .bool false) F hQ rfl rfl (by kernel_rfl) (by kernel_rfl) (by kernel_rfl) (by kernel_rfl) (by kernel_rfl) (fun _ _ => by kernel_rfl) (anyR_val (i := 7) (m' := 255) (v := .int .i64 0) F hQ rfl rfl (by kernel_rfl) (by kernel_rfl) (by kernel_rfl) (by kernel_rfl) (by kernel_rfl) (fun _ _ => by kernel_rfl) ?_)))))))
  refine anyR_val (i := 8) (m' := 511) (v := .bool false) F hQ rfl rfl (by kernel_rfl) (by kernel_rfl) (by kernel_rfl) (by kernel_rfl) (by kernel_rfl) (fun _ _ => by kernel_rfl) (anyR_val (i := 9) (m' := 1023) (v := .bool false) F hQ rfl rfl (by kernel_rfl) (by kernel_rfl) (by kernel_rfl) (by kernel_rfl) (by kernel_rfl) (fun _ _ => by kernel_rfl) (anyR_val (i := 10) (m' := 2047) (v := .bool false) F hQ rfl rfl (by kernel_rfl) (by kernel_rfl) (by kernel_rfl) (by kernel_rfl) (by kernel_rfl) (fun _ _ => by kernel_rfl) (anyR_ldvec (i := 11) (m' := 4095) Bf0.out F hQ rfl rfl (by kernel_rfl) (by kernel_rfl) (by kernel_rfl) (by kernel_rfl) (by kernel_rfl) rfl (by kernel_rfl) (anyR_ldvec (i := 12) (m' := 8191) Bz0.out F hQ rfl rfl (by kernel_rfl) (by kernel_rfl) (by kernel_rfl) (by kernel_rfl) (by kernel_rfl) rfl (by kernel_rfl) ?_))))
  refine anyR_call (i := 13) (m' := 16383) rfl rfl (by kernel_rfl) (by kernel_rfl) (by kernel_rfl) (by kernel_rfl) (by kernel_rfl) ((vWithSign_any false Az lz cz sz _ Lz.out Cz (by exact Oz.out) Yz.out).mono ?_)
  rintro e w88 ⟨li, si, Ai, ci, Ei, rfl, Ci, Oi, hb⟩
  refine ⟨_, rfl, hb, ?_⟩
  replace hb : Below w87.heap.size w87 w88 := Below.trans ((Below.refl _ _).drew) hb
  replace Oa := hide (RQ.below Oa.out hb)
  replace Ob := hide (RQ.below Ob.out hb)
  replace Ox := hide (RQ.below Ox.out hb)
  replace Oz := hide (RQ.below Oz.out hb)
  replace Op := hide (RQ.below Op.out hb)
  replace Of := hide (RQ.below Of.out hb)
  replace Ok := hide (RQ.below Ok.out hb)
  replace Ba := hide (Box.kept Ba.out hb)
  replace Bb := hide (Box.kept Bb.out hb)
  replace Bx := hide (Box.kept Bx.out hb)
  replace Bz := hide (Box.kept Bz.out hb)
  replace Bp := hide (Box.kept Bp.out hb)
  replace Bf := hide (Box.kept Bf.out hb)
  replace Bk := hide (Box.kept Bk.out hb)
  replace Oi := hide Oi.out.rd
  replace hU := hU.trans (hb.mono hU.size)
  clear hb
  have Gi : Gd li := by have h := congrArg Vc.b Ei.out; dsimp only at h; rw [h]; exact (cnt_gd (v := ⟨lz, sz⟩) Yz.out)
  have Li := hide (show li.length ≤ 4096 from Nat.le_trans Gi.le (by decide))
  have Yi := hide Gi.by_
  clear Gi
  refine anyR_call (i := 14) (m' := 32767) rfl rfl (by kernel_rfl) (by kernel_rfl) (by kernel_rfl) (by kernel_rfl) (by kernel_rfl) ((rsame_yes Af Ai lf li cf ci sf si _ Lf.out Li.out Of.out Oi.out (by rw [Ef.out, Ei.out, cnt_of_gd (v := ⟨lz, sz⟩) Gzz.out])).mono ?_)
  rintro e w89 ⟨rfl, hb⟩
  refine ⟨_, rfl, hb, ?_⟩
  replace Oa := hide (RQ.below Oa.out hb)
  replace Ob := hide (RQ.below Ob.out hb)
  replace Ox := hide (RQ.below Ox.out hb)
  replace Oz := hide (RQ.below Oz.out hb)
  replace Op := hide (RQ.below Op.out hb)
  replace Of := hide (RQ.below Of.out hb)
  replace Ok := hide (RQ.below Ok.out hb)
  replace Oi := hide (RQ.below Oi.out hb)
  replace Ba := hide (Box.kept Ba.out hb)
  replace Bb := hide (Box.kept Bb.out hb)
  replace Bx := hide (Box.kept Bx.out hb)
  replace Bz := hide (Box.kept Bz.out hb)
  replace Bp := hide (Box.kept Bp.out hb)
  replace Bf := hide (Box.kept Bf.out hb)
  replace Bk := hide (Box.kept Bk.out hb)
  replace hU := hU.trans (hb.mono hU.size)
  clear hb
  clear Oi Ci Li Yi
  refine anyR_val (i := 15) (m' := 65535) (v := .bool false) F hQ rfl rfl (by kernel_rfl) (by kernel_rfl) (by kernel_rfl) (by kernel_rfl) (by kernel_rfl) (fun _ _ => by kernel_rfl) (anyR_val (i := 16) (m' := 131071) (v := .bool false) F hQ rfl rfl (by kernel_rfl) (by kernel_rfl) (by kernel_rfl) (by kernel_rfl) (by kernel_rfl) (fun _ _ => by kernel_rfl) (anyR_val (i := 17) (m' := 262143) (v := .bool false) F hQ rfl rfl (by kernel_rfl) (by kernel_rfl) (by kernel_rfl) (by kernel_rfl) (by kernel_rfl) (fun _ _ => by kernel_rfl) (anyR_ldvec (i := 18) (m' := 524287) Bk0.out F hQ rfl rfl (by kernel_rfl) (by kernel_rfl) (by kernel_rfl) (by kernel_rfl) (by kernel_rfl) rfl (by kernel_rfl) (anyR_ldvec (i := 19) (m' := 1048575) Bx0.out F hQ rfl rfl (by kernel_rfl) (by kernel_rfl) (by kernel_rfl) (by kernel_rfl) (by kernel_rfl) rfl (by kernel_rfl) ?_))))
  refine anyR_call (i := 20) (m' := 2097151) rfl rfl (by kernel_rfl) (by kernel_rfl) (by kernel_rfl) (by kernel_rfl) (by kernel_rfl) ((vWithSign_any false Ax lx cx sx _ Lx.out Cx Ox.out Yx.out).mono ?_)
  rintro e w90 ⟨lj, sj, Aj, cj, Ej, rfl, Cj, Oj, hb⟩
  refine ⟨_, rfl, hb, ?_⟩
  replace Oa := hide (RQ.below Oa.out hb)
  replace Ob := hide (RQ.below Ob.out hb)
  replace Ox := hide (RQ.below Ox.out hb)
  replace Oz := hide (RQ.below Oz.out hb)
  replace Op := hide (RQ.below Op.out hb)
  replace Of := hide (RQ.below Of.out hb)
  replace Ok := hide (RQ.below Ok.out hb)
  replace Ba := hide (Box.kept Ba.out hb)
  replace Bb := hide (Box.kept Bb.out hb)
  replace Bx := hide (Box.kept Bx.out hb)
  replace Bz := hide (Box.kept Bz.out hb)
  replace Bp := hide (Box.kept Bp.out hb)
  replace Bf := hide (Box.kept Bf.out hb)
  replace Bk := hide (Box.kept Bk.out hb)
  replace Oj := hide Oj.out.rd
  replace hU := hU.trans (hb.mono hU.size)
  clear hb
  have Gj : Gd lj := by have h := congrArg Vc.b Ej.out; dsimp only at h; rw [h]; exact (cnt_gd (v := ⟨lx, sx⟩) Yx.out)
  have Lj := hide (show lj.length ≤ 4096 from Nat.le_trans Gj.le (by decide))
  have Yj := hide Gj.by_
  clear Gj
  refine anyR_call (i := 21) (m' := 4194303) rfl rfl (by kernel_rfl) (by kernel_rfl) (by kernel_rfl) (by kernel_rfl) (by kernel_rfl) ((rsame_yes Ak Aj lk lj ck cj sk sj _ Lk.out Lj.out Ok.out Oj.out (by rw [Ek.out, Ej.out, cnt_of_gd (v := ⟨lx, sx⟩) Gxx.out])).mono ?_)
  rintro e w91 ⟨rfl, hb⟩
  refine ⟨_, rfl, hb, ?_⟩
  replace Oa := hide (RQ.below Oa.out hb)
  replace Ob := hide (RQ.below Ob.out hb)
  replace Ox := hide (RQ.below Ox.out hb)
  replace Oz := hide (RQ.below Oz.out hb)
  replace Op := hide (RQ.below Op.out hb)
  replace Of := hide (RQ.below Of.out hb)
  replace Ok := hide (RQ.below Ok.out hb)
  replace Oj := hide (RQ.below Oj.out hb)
  replace Ba := hide (Box.kept Ba.out hb)
  replace Bb := hide (Box.kept Bb.out hb)
  replace Bx := hide (Box.kept Bx.out hb)
  replace Bz := hide (Box.kept Bz.out hb)
  replace Bp := hide (Box.kept Bp.out hb)
  replace Bf := hide (Box.kept Bf.out hb)
  replace Bk := hide (Box.kept Bk.out hb)
  replace hU := hU.trans (hb.mono hU.size)
  clear hb
  clear Oj Cj Lj Yj
  refine anyR_val (i := 22) (m' := 8388607) (v := .bool false) F hQ rfl rfl (by kernel_rfl) (by kernel_rfl) (by kernel_rfl) (by kernel_rfl) (by kernel_rfl) (fun _ _ => by kernel_rfl) (anyR_e (anyR_last (i := 23) (m' := 16777215) (v := .bool false) rfl rfl (by kernel_rfl) (by kernel_rfl) (by kernel_rfl) (by kernel_rfl) (by kernel_rfl) (anyE_done (by kernel_rfl) ?_)))
  clear F hQ Ba0 Bb0 Bx0 Bz0 Bp0 Bf0 Bk0
  refine then_normal (wp_iff (by kernel_rfl) (wp_skip (then_normal (wp_seq ?_))))
  obtain ⟨I, hI⟩ : ∃ I : Int, m.tmod (lx.length : Int) = I := ⟨_, rfl⟩
  obtain ⟨i0, i1⟩ : 0 ≤ I ∧ I < lx.length := by rw [← hI]; exact rem_bd m0 (by omega)
  obtain ⟨K, hK⟩ : ∃ K : Int, n.tmod (lx.length : Int) = K := ⟨_, rfl⟩
  obtain ⟨k0, k1⟩ : 0 ≤ K ∧ K < lx.length := by rw [← hK]; exact rem_bd n0 (by omega)
  obtain ⟨H, hH⟩ : ∃ H : Int, (if K > I then K else I) = H := ⟨_, rfl⟩
  obtain ⟨G, hG⟩ : ∃ G : Int, (if K < I then K else I) = G := ⟨_, rfl⟩
  obtain ⟨h0, h1, h2⟩ : 0 ≤ G ∧ G ≤ H ∧ H < lx.length := by rw [← hH, ← hG]; refine ⟨?_, ?_, ?_⟩ <;> (repeat' split) <;> omega
  obtain ⟨J, hJ⟩ : ∃ J : Int, m.tmod (129 - (lx.length : Int)) = J := ⟨_, rfl⟩
  obtain ⟨j0, j1⟩ : 0 ≤ J ∧ J < 129 - lx.length := by rw [← hJ]; exact rem_bd m0 (by omega)
  obtain ⟨M, hM⟩ : ∃ M : Nat, (lx.length : Int) + J = M := ⟨((lx.length : Int) + J).toNat, by omega⟩
  have q1 : lx.length ≤ M := by omega
  have q2 : M ≤ 128 := by omega
  obtain ⟨jn, jq, HI⟩ := IntV_ex ⟨lx, sx⟩
  replace HI := hide HI
  refine region_R (n := 13) (N := 14) (by kernel_rfl) (by kernel_rfl) (by kernel_rfl) (by kernel_rfl) (by kernel_rfl) (by kernel_rfl) (fun _ _ _ _ _ h => h) ?_
  intro F hQ
  have Ba0 := Ba
  have Bb0 := Bb
  have Bx0 := Bx
  have Bz0 := Bz
  have Bp0 := Bp
  have Bf0 := Bf
  have Bk0 := Bk
  refine anyR_val (i := 0) (m' := 1) (v := .int .u8 m) F hQ rfl rfl (by kernel_rfl) (by kernel_rfl) (by kernel_rfl) (by kernel_rfl) (by kernel_rfl) (fun _ _ => by kernel_rfl) (anyR_val (i := 1) (m' := 3) (v := .int .i64 m) F hQ rfl rfl (by kernel_rfl) (by kernel_rfl) (by kernel_rfl) (by kernel_rfl) (by kernel_rfl) (fun _ _ => run_conv8 (a := m) rfl (by kernel_rfl) (by omega) (by omega)) (anyR_val (i := 2) (m' := 7) (v := .pointer (some ⟨Nx, 0, none⟩)) F hQ rfl rfl (by kernel_rfl) (by kernel_rfl) (by kernel_rfl) (by kernel_rfl) (by kernel_rfl) (fun _ _ => by kernel_rfl) (anyR_ldsl (i := 3) (m' := 15) Bx0.out F hQ rfl rfl (by kernel_rfl) (by kernel_rfl) (by kernel_rfl) (by kernel_rfl) (by kernel_rfl) rfl (by kernel_rfl) (anyR_val (i := 4) (m' := 31) (v := .int .i64 ((lx.length : Nat))) F hQ rfl rfl (by kernel_rfl) (by kernel_rfl) (by kernel_rfl) (by kernel_rfl) (by kernel_rfl) (fun _ _ => by kernel_rfl) (anyR_val (i := 5) (m' := 63) (v := .int .i64 I) F hQ rfl rfl (by kernel_rfl) (by kernel_rfl) (by kernel_rfl) (by kernel_rfl) (by kernel_rfl) (fun _ _ => run_rem (a := m) (b := (lx.length : Int)) rfl (by kernel_rfl) (by kernel_rfl) (by omega) hI) (anyR_val (i := 6) (m' := 127) (v := .int .u8 n) F hQ rfl rfl (by kernel_rfl) (by kernel_rfl) (by kernel_rfl) (by kernel_rfl) (by kernel_rfl) (fun _ _ => by kernel_rfl) (anyR_val (i := 7) (m' := 255) (v := .int .i64 n) F hQ rfl rfl (by kernel_rfl) (by kernel_rfl) (by kernel_rfl) (by kernel_rfl) (by kernel_rfl) (fun _ _ => run_conv8 (a := n) rfl (by kernel_rfl) (by omega) (by omega)) ?_)))))))
  refine anyR_val (i := 8) (m' := 511) (v := .pointer (some ⟨Nx, 0, none⟩)) F hQ rfl rfl (by kernel_rfl) (by kernel_rfl) (by kernel_rfl) (by kernel_rfl) (by kernel_rfl) (fun _ _ => by kernel_rfl) (anyR_ldsl (i := 9) (m' := 1023) Bx0.out F hQ rfl rfl (by kernel_rfl) (by kernel_rfl) (by kernel_rfl) (by kernel_rfl) (by kernel_rfl) rfl (by kernel_rfl) (anyR_val (i := 10) (m' := 2047) (v := .int .i64 ((lx.length : Nat))) F hQ rfl rfl (by kernel_rfl) (by kernel_rfl) (by kernel_rfl) (by kernel_rfl) (by kernel_rfl) (fun _ _ => by kernel_rfl) (anyR_val (i := 11) (m' := 4095) (v := .int .i64 K) F hQ rfl rfl (by kernel_rfl) (by kernel_rfl) (by kernel_rfl) (by kernel_rfl) (by kernel_rfl) (fun _ _ => run_rem (a := n) (b := (lx.length : Int)) rfl (by kernel_rfl) (by kernel_rfl) (by omega) hK) (anyR_val (i := 12) (m' := 8191) (v := .int .i64 I) F hQ rfl rfl (by kernel_rfl) (by kernel_rfl) (by kernel_rfl) (by kernel_rfl) (by kernel_rfl) (fun _ _ => by kernel_rfl) (anyR_e (anyR_last (i := 13) (m' := 16383) (v := .int .i64 K) rfl rfl (by kernel_rfl) (by kernel_rfl) (by kernel_rfl) (by kernel_rfl) (by kernel_rfl) (anyE_done (by kernel_rfl) ?_)))))))
  clear F hQ Ba0 Bb0 Bx0 Bz0 Bp0 Bf0 Bk0
  generalize hw : World.drew w91 = w92
  have hb : Below w91.heap.size w91 w92 := by rw [← hw]; exact (Below.refl _ _).drew
  clear hw
  replace Oa := hide (RQ.below Oa.out hb)
  replace Ob := hide (RQ.below Ob.out hb)
  replace Ox := hide (RQ.below Ox.out hb)
  replace Oz := hide (RQ.below Oz.out hb)
  replace Op := hide (RQ.below Op.out hb)
  replace Of := hide (RQ.below Of.out hb)
  replace Ok := hide (RQ.below Ok.out hb)
  replace Ba := hide (Box.kept Ba.out hb)
  replace Bb := hide (Box.kept Bb.out hb)
  replace Bx := hide (Box.kept Bx.out hb)
  replace Bz := hide (Box.kept Bz.out hb)
  replace Bp := hide (Box.kept Bp.out hb)
  replace Bf := hide (Box.kept Bf.out hb)
  replace Bk := hide (Box.kept Bk.out hb)
  replace hU := hU.trans (hb.mono hU.size)
  clear hb
  refine then_normal (wp_seq (reg_lit (wpl_ldvec Bx.out rfl (by kernel_rfl) rfl (by kernel_rfl) (wpl_r2 [(124, .int .i64 K), (123, .int .i64 I)] (by kernel_rfl) (wpl_val rfl (by kernel_rfl) (run_max (a := I) (b := K) rfl (by kernel_rfl) (by kernel_rfl) hH) (wpl_r2 [(127, .int .i64 K), (126, .int .i64 I)] (by kernel_rfl) (wpl_val rfl (by kernel_rfl) (run_min (a := I) (b := K) rfl (by kernel_rfl) (by kernel_rfl) hG) ?_)))))))
  refine wpl_call rfl (by kernel_rfl) (by kernel_rfl) ((vSlice_e0 H G Ax lx cx sx _ Lx.out Cx Ox.out Yx.out (by omega) (by omega) (by omega) (by omega) (spn_ok (by omega) (by omega))).mono ?_)
  rintro e w93 ⟨ld, sd, Ad, cd, Ed, rfl, Cd, Od, hb⟩
  refine ⟨_, rfl, ?_⟩
  replace Oa := hide (RQ.below Oa.out hb)
  replace Ob := hide (RQ.below Ob.out hb)
  replace Ox := hide (RQ.below Ox.out hb)
  replace Oz := hide (RQ.below Oz.out hb)
  replace Op := hide (RQ.below Op.out hb)
  replace Of := hide (RQ.below Of.out hb)
  replace Ok := hide (RQ.below Ok.out hb)
  replace Ba := hide (Box.kept Ba.out hb)
  replace Bb := hide (Box.kept Bb.out hb)
  replace Bx := hide (Box.kept Bx.out hb)
  replace Bz := hide (Box.kept Bz.out hb)
  replace Bp := hide (Box.kept Bp.out hb)
  replace Bf := hide (Box.kept Bf.out hb)
  replace Bk := hide (Box.kept Bk.out hb)
  replace Ed := hide (ret_e0 Ed.out)
  replace Od := hide Od.out.rd
  replace hU := hU.trans (hb.mono hU.size)
  clear hb
  have Gd : Gd ld := by have h := congrArg Vc.b Ed.out; dsimp only at h; rw [h]; exact (by show Gd (wdw (cnt ⟨lx, sx⟩).b G (H - G + 1).toNat 2); rw [(cnt_of_gd (v := ⟨lx, sx⟩) Gxx.out)]; exact gd_wdw Gxx.out (by omega) (by omega) (by decide))
  have Ld := hide (show ld.length ≤ 4096 from Nat.le_trans Gd.le (by decide))
  have Yd := hide Gd.by_
  clear Gd
  replace Ed := hide (show (⟨ld, sd⟩ : Vc) = ⟨wdw lx G (H - G + 1).toNat 2, false⟩ from Ed.out.trans (by rw [(cnt_of_gd (v := ⟨lx, sx⟩) Gxx.out)]))
  refine wpl_r3 [(131, .int .i64 0), (130, .agg #[.slice Ad ld.length cd, .bool sd]), (121, .tuple #[.agg #[.slice Ad ld.length cd, .bool sd], .int .i64 0])] (by kernel_rfl) (wpl_made (A := Ad) (m := ld.length) (c := cd) (s := sd) rfl rfl rfl rfl rfl rfl (fun _ => by kernel_rfl) (fun _ => by kernel_rfl) ?_)
  intro w94 Nd Bd hNd hb
  replace Bd := hide Bd
  replace Oa := hide (RQ.below Oa.out hb)
  replace Ob := hide (RQ.below Ob.out hb)
  replace Ox := hide (RQ.below Ox.out hb)
  replace Oz := hide (RQ.below Oz.out hb)
  replace Op := hide (RQ.below Op.out hb)
  replace Of := hide (RQ.below Of.out hb)
  replace Ok := hide (RQ.below Ok.out hb)
  replace Od := hide (RQ.below Od.out hb)
  replace Ba := hide (Box.kept Ba.out hb)
  replace Bb := hide (Box.kept Bb.out hb)
  replace Bx := hide (Box.kept Bx.out hb)
  replace Bz := hide (Box.kept Bz.out hb)
  replace Bp := hide (Box.kept Bp.out hb)
  replace Bf := hide (Box.kept Bf.out hb)
  replace Bk := hide (Box.kept Bk.out hb)
  have hzd : w.heap.size ≤ Nd := Nat.le_trans hU.size hNd
  clear hNd
  replace hU := hU.trans (hb.mono hU.size)
  clear hb
  refine wpl_r1 [(21, .int .i64 0)] (by kernel_rfl) (sx_n (wpl_ldvec Bx.out rfl (by kernel_rfl) rfl (by kernel_rfl) (wpl_r2 [(135, .int .i64 K), (134, .int .i64 I)] (by kernel_rfl) (wpl_val rfl (by kernel_rfl) (run_max (a := I) (b := K) rfl (by kernel_rfl) (by kernel_rfl) hH) (wpl_r2 [(138, .int .i64 K), (137, .int .i64 I)] (by kernel_rfl) (wpl_val rfl (by kernel_rfl) (run_min (a := I) (b := K) rfl (by kernel_rfl) (by kernel_rfl) hG) (wpl_ldvec Bd.out rfl (by kernel_rfl) rfl (by kernel_rfl) ?_)))))))
  refine wpl_call rfl (by kernel_rfl) (by kernel_rfl) ((vPut_e0 H G Ax Ad lx ld cx cd sx sd _ Lx.out Ld.out Cx Cd Ox.out Od.out Yx.out Yd.out (by omega) (by omega) (by omega) (by omega) (spn_ok (by omega) (by omega))).mono ?_)
  rintro e w95 ⟨lu, su, Au, cu, Eu, rfl, Cu, Ou, hb⟩
  refine ⟨_, rfl, ?_⟩
  replace Oa := hide (RQ.below Oa.out hb)
  replace Ob := hide (RQ.below Ob.out hb)
  replace Ox := hide (RQ.below Ox.out hb)
  replace Oz := hide (RQ.below Oz.out hb)
  replace Op := hide (RQ.below Op.out hb)
  replace Of := hide (RQ.below Of.out hb)
  replace Ok := hide (RQ.below Ok.out hb)
  replace Od := hide (RQ.below Od.out hb)
  replace Ba := hide (Box.kept Ba.out hb)
  replace Bb := hide (Box.kept Bb.out hb)
  replace Bx := hide (Box.kept Bx.out hb)
  replace Bz := hide (Box.kept Bz.out hb)
  replace Bp := hide (Box.kept Bp.out hb)
  replace Bf := hide (Box.kept Bf.out hb)
  replace Bk := hide (Box.kept Bk.out hb)
  replace Bd := hide (Box.kept Bd.out hb)
  replace Eu := hide (ret_e0 Eu.out)
  replace Ou := hide Ou.out.rd
  replace hU := hU.trans (hb.mono hU.size)
  clear hb
  have Gu : Gd lu := by have h := congrArg Vc.b Eu.out; dsimp only at h; rw [h]; exact (by rw [Ed.out, vPut_back (v := ⟨lx, sx⟩) Gxx.out h0 h1 h2]; exact Gxx.out)
  have Lu := hide (show lu.length ≤ 4096 from Nat.le_trans Gu.le (by decide))
  have Yu := hide Gu.by_
  clear Gu
  replace Eu := hide (show (⟨lu, su⟩ : Vc) = ⟨lx, sx⟩ from Eu.out.trans (by rw [Ed.out]; exact vPut_back (v := ⟨lx, sx⟩) Gxx.out h0 h1 h2))
  refine wpl_r3 [(143, .int .i64 0), (142, .agg #[.slice Au lu.length cu, .bool su]), (132, .tuple #[.agg #[.slice Au lu.length cu, .bool su], .int .i64 0])] (by kernel_rfl) (wpl_made (A := Au) (m := lu.length) (c := cu) (s := su) rfl rfl rfl rfl rfl rfl (fun _ => by kernel_rfl) (fun _ => by kernel_rfl) ?_)
  intro w96 Nu Bu hNu hb
  replace Bu := hide Bu
  replace Oa := hide (RQ.below Oa.out hb)
  replace Ob := hide (RQ.below Ob.out hb)
  replace Ox := hide (RQ.below Ox.out hb)
  replace Oz := hide (RQ.below Oz.out hb)
  replace Op := hide (RQ.below Op.out hb)
  replace Of := hide (RQ.below Of.out hb)
  replace Ok := hide (RQ.below Ok.out hb)
  replace Od := hide (RQ.below Od.out hb)
  replace Ou := hide (RQ.below Ou.out hb)
  replace Ba := hide (Box.kept Ba.out hb)
  replace Bb := hide (Box.kept Bb.out hb)
  replace Bx := hide (Box.kept Bx.out hb)
  replace Bz := hide (Box.kept Bz.out hb)
  replace Bp := hide (Box.kept Bp.out hb)
  replace Bf := hide (Box.kept Bf.out hb)
  replace Bk := hide (Box.kept Bk.out hb)
  replace Bd := hide (Box.kept Bd.out hb)
  have hzu : w.heap.size ≤ Nu := Nat.le_trans hU.size hNu
  clear hNu
  replace hU := hU.trans (hb.mono hU.size)
  clear hb
  refine wpl_r1 [(23, .int .i64 0)] (by kernel_rfl) (wpl_end (then_normal (wp_seq (region_R (n := 11) (N := 12) (by kernel_rfl) (by kernel_rfl) (by kernel_rfl) (by kernel_rfl) (by kernel_rfl) (by kernel_rfl) (fun _ _ _ _ _ h => h) ?_))))
  intro F hQ
  have Ba0 := Ba
  have Bb0 := Bb
  have Bx0 := Bx
  have Bz0 := Bz
  have Bp0 := Bp
  have Bf0 := Bf
  have Bk0 := Bk
  have Bd0 := Bd
  have Bu0 := Bu
  refine anyR_val (i := 0) (m' := 1) (v := .pointer (some ⟨Nx, 0, none⟩)) F hQ rfl rfl (by kernel_rfl) (by kernel_rfl) (by kernel_rfl) (by kernel_rfl) (by kernel_rfl) (fun _ _ => by kernel_rfl) (anyR_ldsl (i := 1) (m' := 3) Bx0.out F hQ rfl rfl (by kernel_rfl) (by kernel_rfl) (by kernel_rfl) (by kernel_rfl) (by kernel_rfl) rfl (by kernel_rfl) (anyR_val (i := 2) (m' := 7) (v := .int .i64 ((lx.length : Nat))) F hQ rfl rfl (by kernel_rfl) (by kernel_rfl) (by kernel_rfl) (by kernel_rfl) (by kernel_rfl) (fun _ _ => by kernel_rfl) (anyR_val (i := 3) (m' := 15) (v := .int .u8 m) F hQ rfl rfl (by kernel_rfl) (by kernel_rfl) (by kernel_rfl) (by kernel_rfl) (by kernel_rfl) (fun _ _ => by kernel_rfl) (anyR_val (i := 4) (m' := 31) (v := .int .i64 m) F hQ rfl rfl (by kernel_rfl) (by kernel_rfl) (by kernel_rfl) (by kernel_rfl) (by kernel_rfl) (fun _ _ => run_conv8 (a := m) rfl (by kernel_rfl) (by omega) (by omega)) (anyR_val (i := 5) (m' := 63) (v := .pointer (some ⟨Nx, 0, none⟩)) F hQ rfl rfl (by kernel_rfl) (by kernel_rfl) (by kernel_rfl) (by kernel_rfl) (by kernel_rfl) (fun _ _ => by kernel_rfl) (anyR_ldsl (i := 6) (m' := 127) Bx0.out F hQ rfl rfl (by kernel_rfl) (by kernel_rfl) (by kernel_rfl) (by kernel_rfl) (by kernel_rfl) rfl (by kernel_rfl) (anyR_val (i := 7) (m' := 255) (v := .int .i64 ((lx.length : Nat))) F hQ rfl rfl (by kernel_rfl) (by kernel_rfl) (by kernel_rfl) (by kernel_rfl) (by kernel_rfl) (fun _ _ => by kernel_rfl) ?_)))))))
  refine anyR_val (i := 8) (m' := 511) (v := .int .i64 ((129 - (lx.length : Int)))) F hQ rfl rfl (by kernel_rfl) (by kernel_rfl) (by kernel_rfl) (by kernel_rfl) (by kernel_rfl) (fun _ _ => run_sub (a := 129) (b := (lx.length : Int)) (c := (129 - (lx.length : Int))) rfl (by kernel_rfl) (by kernel_rfl) (rfl) (by omega) (by omega)) (anyR_val (i := 9) (m' := 1023) (v := .int .i64 J) F hQ rfl rfl (by kernel_rfl) (by kernel_rfl) (by kernel_rfl) (by kernel_rfl) (by kernel_rfl) (fun _ _ => run_rem (a := m) (b := (129 - (lx.length : Int))) rfl (by kernel_rfl) (by kernel_rfl) (by omega) hJ) (anyR_val (i := 10) (m' := 2047) (v := .int .i64 ((M : Nat))) F hQ rfl rfl (by kernel_rfl) (by kernel_rfl) (by kernel_rfl) (by kernel_rfl) (by kernel_rfl) (fun _ _ => run_add (a := (lx.length : Int)) (b := J) (c := (M : Int)) rfl (by kernel_rfl) (by kernel_rfl) (hM) (by omega) (by omega)) (anyR_e (anyR_last (i := 11) (m' := 4095) (v := .int .i64 ((M : Nat))) rfl rfl (by kernel_rfl) (by kernel_rfl) (by kernel_rfl) (by kernel_rfl) (by kernel_rfl) (anyE_done (by kernel_rfl) ?_)))))
  clear F hQ Ba0 Bb0 Bx0 Bz0 Bp0 Bf0 Bk0 Bd0 Bu0
  generalize hw : World.drew w96 = w97
  have hb : Below w96.heap.size w96 w97 := by rw [← hw]; exact (Below.refl _ _).drew
  clear hw
  replace Oa := hide (RQ.below Oa.out hb)
  replace Ob := hide (RQ.below Ob.out hb)
  replace Ox := hide (RQ.below Ox.out hb)
  replace Oz := hide (RQ.below Oz.out hb)
  replace Op := hide (RQ.below Op.out hb)
  replace Of := hide (RQ.below Of.out hb)
  replace Ok := hide (RQ.below Ok.out hb)
  replace Od := hide (RQ.below Od.out hb)
  replace Ou := hide (RQ.below Ou.out hb)
  replace Ba := hide (Box.kept Ba.out hb)
  replace Bb := hide (Box.kept Bb.out hb)
  replace Bx := hide (Box.kept Bx.out hb)
  replace Bz := hide (Box.kept Bz.out hb)
  replace Bp := hide (Box.kept Bp.out hb)
  replace Bf := hide (Box.kept Bf.out hb)
  replace Bk := hide (Box.kept Bk.out hb)
  replace Bd := hide (Box.kept Bd.out hb)
  replace Bu := hide (Box.kept Bu.out hb)
  replace hU := hU.trans (hb.mono hU.size)
  clear hb
  refine then_normal (wp_seq (reg_lit (wpl_ldvec Bx.out rfl (by kernel_rfl) rfl (by kernel_rfl) (wpl_r1 [(157, .int .i64 ((M : Nat)))] (by kernel_rfl) ?_))))
  refine wpl_call rfl (by kernel_rfl) (by kernel_rfl) ((vResize_e0 M Ax lx cx sx _ Lx.out Cx Ox.out Yx.out (by omega) (by omega)).mono ?_)
  rintro e w98 ⟨lh, sh, Ah, ch, Eh, rfl, Ch, Oh, hb⟩
  refine ⟨_, rfl, ?_⟩
  replace Oa := hide (RQ.below Oa.out hb)
  replace Ob := hide (RQ.below Ob.out hb)
  replace Ox := hide (RQ.below Ox.out hb)
  replace Oz := hide (RQ.below Oz.out hb)
  replace Op := hide (RQ.below Op.out hb)
  replace Of := hide (RQ.below Of.out hb)
  replace Ok := hide (RQ.below Ok.out hb)
  replace Od := hide (RQ.below Od.out hb)
  replace Ou := hide (RQ.below Ou.out hb)
  replace Ba := hide (Box.kept Ba.out hb)
  replace Bb := hide (Box.kept Bb.out hb)
  replace Bx := hide (Box.kept Bx.out hb)
  replace Bz := hide (Box.kept Bz.out hb)
  replace Bp := hide (Box.kept Bp.out hb)
  replace Bf := hide (Box.kept Bf.out hb)
  replace Bk := hide (Box.kept Bk.out hb)
  replace Bd := hide (Box.kept Bd.out hb)
  replace Bu := hide (Box.kept Bu.out hb)
  replace Eh := hide (ret_e0 Eh.out)
  replace Oh := hide Oh.out.rd
  replace hU := hU.trans (hb.mono hU.size)
  clear hb
  have Gh : Gd lh := by have h := congrArg Vc.b Eh.out; dsimp only at h; rw [h]; exact (by show Gd (rsz (cnt ⟨lx, sx⟩) M); rw [(cnt_of_gd (v := ⟨lx, sx⟩) Gxx.out)]; exact gd_rsz (v := ⟨lx, sx⟩) Gxx.out (by omega) (by omega))
  have Lh := hide (show lh.length ≤ 4096 from Nat.le_trans Gh.le (by decide))
  have Yh := hide Gh.by_
  clear Gh
  replace Eh := hide (show (⟨lh, sh⟩ : Vc) = ⟨rsz ⟨lx, sx⟩ M, sx⟩ from Eh.out.trans (by rw [(cnt_of_gd (v := ⟨lx, sx⟩) Gxx.out)]))
  refine wpl_r3 [(160, .int .i64 0), (159, .agg #[.slice Ah lh.length ch, .bool sh]), (155, .tuple #[.agg #[.slice Ah lh.length ch, .bool sh], .int .i64 0])] (by kernel_rfl) (wpl_made (A := Ah) (m := lh.length) (c := ch) (s := sh) rfl rfl rfl rfl rfl rfl (fun _ => by kernel_rfl) (fun _ => by kernel_rfl) ?_)
  intro w99 Nh Bh hNh hb
  replace Bh := hide Bh
  replace Oa := hide (RQ.below Oa.out hb)
  replace Ob := hide (RQ.below Ob.out hb)
  replace Ox := hide (RQ.below Ox.out hb)
  replace Oz := hide (RQ.below Oz.out hb)
  replace Op := hide (RQ.below Op.out hb)
  replace Of := hide (RQ.below Of.out hb)
  replace Ok := hide (RQ.below Ok.out hb)
  replace Od := hide (RQ.below Od.out hb)
  replace Ou := hide (RQ.below Ou.out hb)
  replace Oh := hide (RQ.below Oh.out hb)
  replace Ba := hide (Box.kept Ba.out hb)
  replace Bb := hide (Box.kept Bb.out hb)
  replace Bx := hide (Box.kept Bx.out hb)
  replace Bz := hide (Box.kept Bz.out hb)
  replace Bp := hide (Box.kept Bp.out hb)
  replace Bf := hide (Box.kept Bf.out hb)
  replace Bk := hide (Box.kept Bk.out hb)
  replace Bd := hide (Box.kept Bd.out hb)
  replace Bu := hide (Box.kept Bu.out hb)
  have hzh : w.heap.size ≤ Nh := Nat.le_trans hU.size hNh
  clear hNh
  replace hU := hU.trans (hb.mono hU.size)
  clear hb
  refine wpl_r1 [(26, .int .i64 0)] (by kernel_rfl) (sx_n (wpl_ldvec Bh.out rfl (by kernel_rfl) rfl (by kernel_rfl) (wpl_r1 [(163, .pointer (some ⟨Nx, 0, none⟩))] (by kernel_rfl) (wpl_ldsl Bx.out rfl (by kernel_rfl) rfl (by kernel_rfl) (wpl_r1 [(165, .int .i64 ((lx.length : Nat)))] (by kernel_rfl) ?_)))))
  refine wpl_call rfl (by kernel_rfl) (by kernel_rfl) ((vResize_e0 lx.length Ah lh ch sh _ Lh.out Ch Oh.out Yh.out (by omega) (by omega)).mono ?_)
  rintro e w100 ⟨lr, sr, Ar, cr, Er, rfl, Cr, Or, hb⟩
  refine ⟨_, rfl, ?_⟩
  replace Oa := hide (RQ.below Oa.out hb)
  replace Ob := hide (RQ.below Ob.out hb)
  replace Ox := hide (RQ.below Ox.out hb)
  replace Oz := hide (RQ.below Oz.out hb)
  replace Op := hide (RQ.below Op.out hb)
  replace Of := hide (RQ.below Of.out hb)
  replace Ok := hide (RQ.below Ok.out hb)
  replace Od := hide (RQ.below Od.out hb)
  replace Ou := hide (RQ.below Ou.out hb)
  replace Oh := hide (RQ.below Oh.out hb)
  replace Ba := hide (Box.kept Ba.out hb)
  replace Bb := hide (Box.kept Bb.out hb)
  replace Bx := hide (Box.kept Bx.out hb)
  replace Bz := hide (Box.kept Bz.out hb)
  replace Bp := hide (Box.kept Bp.out hb)
  replace Bf := hide (Box.kept Bf.out hb)
  replace Bk := hide (Box.kept Bk.out hb)
  replace Bd := hide (Box.kept Bd.out hb)
  replace Bu := hide (Box.kept Bu.out hb)
  replace Bh := hide (Box.kept Bh.out hb)
  replace Er := hide (ret_e0 Er.out)
  replace Or := hide Or.out.rd
  replace hU := hU.trans (hb.mono hU.size)
  clear hb
  have Gr : Gd lr := by have h := congrArg Vc.b Er.out; dsimp only at h; rw [h]; exact (by rw [Eh.out, cnt_of_gd (v := ⟨rsz ⟨lx, sx⟩ M, sx⟩) (gd_rsz (v := ⟨lx, sx⟩) Gxx.out (by omega) (by omega))]; show Gd (rsz ⟨rsz ⟨lx, sx⟩ M, sx⟩ lx.length); rw [rsz_back (v := ⟨lx, sx⟩) (by exact q1)]; exact Gxx.out)
  have Lr := hide (show lr.length ≤ 4096 from Nat.le_trans Gr.le (by decide))
  have Yr := hide Gr.by_
  clear Gr
  replace Er := hide (show (⟨lr, sr⟩ : Vc) = ⟨lx, sx⟩ from Er.out.trans (by rw [Eh.out, cnt_of_gd (v := ⟨rsz ⟨lx, sx⟩ M, sx⟩) (gd_rsz (v := ⟨lx, sx⟩) Gxx.out (by omega) (by omega))]; show (⟨rsz ⟨rsz ⟨lx, sx⟩ M, sx⟩ lx.length, sx⟩ : Vc) = _; rw [rsz_back (v := ⟨lx, sx⟩) (by exact q1)]))
  refine wpl_r3 [(168, .int .i64 0), (167, .agg #[.slice Ar lr.length cr, .bool sr]), (161, .tuple #[.agg #[.slice Ar lr.length cr, .bool sr], .int .i64 0])] (by kernel_rfl) (wpl_made (A := Ar) (m := lr.length) (c := cr) (s := sr) rfl rfl rfl rfl rfl rfl (fun _ => by kernel_rfl) (fun _ => by kernel_rfl) ?_)
  intro w101 Nr Br hNr hb
  replace Br := hide Br
  replace Oa := hide (RQ.below Oa.out hb)
  replace Ob := hide (RQ.below Ob.out hb)
  replace Ox := hide (RQ.below Ox.out hb)
  replace Oz := hide (RQ.below Oz.out hb)
  replace Op := hide (RQ.below Op.out hb)
  replace Of := hide (RQ.below Of.out hb)
  replace Ok := hide (RQ.below Ok.out hb)
  replace Od := hide (RQ.below Od.out hb)
  replace Ou := hide (RQ.below Ou.out hb)
  replace Oh := hide (RQ.below Oh.out hb)
  replace Or := hide (RQ.below Or.out hb)
  replace Ba := hide (Box.kept Ba.out hb)
  replace Bb := hide (Box.kept Bb.out hb)
  replace Bx := hide (Box.kept Bx.out hb)
  replace Bz := hide (Box.kept Bz.out hb)
  replace Bp := hide (Box.kept Bp.out hb)
  replace Bf := hide (Box.kept Bf.out hb)
  replace Bk := hide (Box.kept Bk.out hb)
  replace Bd := hide (Box.kept Bd.out hb)
  replace Bu := hide (Box.kept Bu.out hb)
  replace Bh := hide (Box.kept Bh.out hb)
  have hzr : w.heap.size ≤ Nr := Nat.le_trans hU.size hNr
  clear hNr
  replace hU := hU.trans (hb.mono hU.size)
  clear hb
  refine wpl_r1 [(28, .int .i64 0)] (by kernel_rfl) (sx_n (wpl_ldvec Bx.out rfl (by kernel_rfl) rfl (by kernel_rfl) ?_))
  refine wpl_call rfl (by kernel_rfl) (by kernel_rfl) ((vInt_is (.tuple #[.int .i64 jn, .bool jq]) Ax lx cx sx _ Lx.out Cx Ox.out Yx.out (fun e h => IntV_uniq h HI.out)).mono ?_)
  rintro e w102 ⟨rfl, hb⟩
  refine ⟨_, rfl, ?_⟩
  replace Oa := hide (RQ.below Oa.out hb)
  replace Ob := hide (RQ.below Ob.out hb)
  replace Ox := hide (RQ.below Ox.out hb)
  replace Oz := hide (RQ.below Oz.out hb)
  replace Op := hide (RQ.below Op.out hb)
  replace Of := hide (RQ.below Of.out hb)
  replace Ok := hide (RQ.below Ok.out hb)
  replace Od := hide (RQ.below Od.out hb)
  replace Ou := hide (RQ.below Ou.out hb)
  replace Oh := hide (RQ.below Oh.out hb)
  replace Or := hide (RQ.below Or.out hb)
  replace Ba := hide (Box.kept Ba.out hb)
  replace Bb := hide (Box.kept Bb.out hb)
  replace Bx := hide (Box.kept Bx.out hb)
  replace Bz := hide (Box.kept Bz.out hb)
  replace Bp := hide (Box.kept Bp.out hb)
  replace Bf := hide (Box.kept Bf.out hb)
  replace Bk := hide (Box.kept Bk.out hb)
  replace Bd := hide (Box.kept Bd.out hb)
  replace Bu := hide (Box.kept Bu.out hb)
  replace Bh := hide (Box.kept Bh.out hb)
  replace Br := hide (Box.kept Br.out hb)
  replace hU := hU.trans (hb.mono hU.size)
  clear hb
  refine wpl_r5 [(30, .bool jq), (29, .int .i64 jn), (173, .bool jq), (172, .int .i64 jn), (169, .tuple #[.int .i64 jn, .bool jq])] (by kernel_rfl) (sx_n (wpl_ldvec Bh.out rfl (by kernel_rfl) rfl (by kernel_rfl) ?_))
  refine wpl_call rfl (by kernel_rfl) (by kernel_rfl) ((vInt_is (.tuple #[.int .i64 jn, .bool jq]) Ah lh ch sh _ Lh.out Ch Oh.out Yh.out (fun e h => (IntV_more (v := ⟨lx, sx⟩) Gxx.out q1 q2 HI.out (by rw [← Eh.out]; exact h)).symm)).mono ?_)
  rintro e w103 ⟨rfl, hb⟩
  refine ⟨_, rfl, ?_⟩
  replace Oa := hide (RQ.below Oa.out hb)
  replace Ob := hide (RQ.below Ob.out hb)
  replace Ox := hide (RQ.below Ox.out hb)
  replace Oz := hide (RQ.below Oz.out hb)
  replace Op := hide (RQ.below Op.out hb)
  replace Of := hide (RQ.below Of.out hb)
  replace Ok := hide (RQ.below Ok.out hb)
  replace Od := hide (RQ.below Od.out hb)
  replace Ou := hide (RQ.below Ou.out hb)
  replace Oh := hide (RQ.below Oh.out hb)
  replace Or := hide (RQ.below Or.out hb)
  replace Ba := hide (Box.kept Ba.out hb)
  replace Bb := hide (Box.kept Bb.out hb)
  replace Bx := hide (Box.kept Bx.out hb)
  replace Bz := hide (Box.kept Bz.out hb)
  replace Bp := hide (Box.kept Bp.out hb)
  replace Bf := hide (Box.kept Bf.out hb)
  replace Bk := hide (Box.kept Bk.out hb)
  replace Bd := hide (Box.kept Bd.out hb)
  replace Bu := hide (Box.kept Bu.out hb)
  replace Bh := hide (Box.kept Bh.out hb)
  replace Br := hide (Box.kept Br.out hb)
  replace hU := hU.trans (hb.mono hU.size)
  clear hb
  refine wpl_r5 [(32, .bool jq), (31, .int .i64 jn), (178, .bool jq), (177, .int .i64 jn), (174, .tuple #[.int .i64 jn, .bool jq])] (by kernel_rfl) (sx_n (wpl_r15 [(193, .bool true), (192, .bool true), (191, .bool true), (190, .int .i64 0), (189, .bool true), (188, .bool true), (187, .bool true), (186, .int .i64 0), (185, .bool true), (184, .bool true), (183, .bool true), (182, .int .i64 0), (181, .bool true), (180, .bool true), (179, .int .i64 0)] (by kernel_rfl) (wpl_ldvec Bu.out rfl (by kernel_rfl) rfl (by kernel_rfl) (wpl_ldvec Bx.out rfl (by kernel_rfl) rfl (by kernel_rfl) ?_))))
  refine wpl_call rfl (by kernel_rfl) (by kernel_rfl) ((rsame_yes Au Ax lu lx cu cx su sx _ Lu.out Lx.out Ou.out Ox.out Eu.out).mono ?_)
  rintro e w104 ⟨rfl, hb⟩
  refine ⟨_, rfl, ?_⟩
  replace Oa := hide (RQ.below Oa.out hb)
  replace Ob := hide (RQ.below Ob.out hb)
  replace Ox := hide (RQ.below Ox.out hb)
  replace Oz := hide (RQ.below Oz.out hb)
  replace Op := hide (RQ.below Op.out hb)
  replace Of := hide (RQ.below Of.out hb)
  replace Ok := hide (RQ.below Ok.out hb)
  replace Od := hide (RQ.below Od.out hb)
  replace Ou := hide (RQ.below Ou.out hb)
  replace Oh := hide (RQ.below Oh.out hb)
  replace Or := hide (RQ.below Or.out hb)
  replace Ba := hide (Box.kept Ba.out hb)
  replace Bb := hide (Box.kept Bb.out hb)
  replace Bx := hide (Box.kept Bx.out hb)
  replace Bz := hide (Box.kept Bz.out hb)
  replace Bp := hide (Box.kept Bp.out hb)
  replace Bf := hide (Box.kept Bf.out hb)
  replace Bk := hide (Box.kept Bk.out hb)
  replace Bd := hide (Box.kept Bd.out hb)
  replace Bu := hide (Box.kept Bu.out hb)
  replace Bh := hide (Box.kept Bh.out hb)
  replace Br := hide (Box.kept Br.out hb)
  replace hU := hU.trans (hb.mono hU.size)
  clear hb
  refine wpl_r2 [(198, .bool true), (197, .bool true)] (by kernel_rfl) (wpl_ldvec Br.out rfl (by kernel_rfl) rfl (by kernel_rfl) (wpl_ldvec Bx.out rfl (by kernel_rfl) rfl (by kernel_rfl) ?_))
  refine wpl_call rfl (by kernel_rfl) (by kernel_rfl) ((rsame_yes Ar Ax lr lx cr cx sr sx _ Lr.out Lx.out Or.out Ox.out Er.out).mono ?_)
  rintro e w105 ⟨rfl, hb⟩
  refine ⟨_, rfl, ?_⟩
  replace Oa := hide (RQ.below Oa.out hb)
  replace Ob := hide (RQ.below Ob.out hb)
  replace Ox := hide (RQ.below Ox.out hb)
  replace Oz := hide (RQ.below Oz.out hb)
  replace Op := hide (RQ.below Op.out hb)
  replace Of := hide (RQ.below Of.out hb)
  replace Ok := hide (RQ.below Ok.out hb)
  replace Od := hide (RQ.below Od.out hb)
  replace Ou := hide (RQ.below Ou.out hb)
  replace Oh := hide (RQ.below Oh.out hb)
  replace Or := hide (RQ.below Or.out hb)
  replace Ba := hide (Box.kept Ba.out hb)
  replace Bb := hide (Box.kept Bb.out hb)
  replace Bx := hide (Box.kept Bx.out hb)
  replace Bz := hide (Box.kept Bz.out hb)
  replace Bp := hide (Box.kept Bp.out hb)
  replace Bf := hide (Box.kept Bf.out hb)
  replace Bk := hide (Box.kept Bk.out hb)
  replace Bd := hide (Box.kept Bd.out hb)
  replace Bu := hide (Box.kept Bu.out hb)
  replace Bh := hide (Box.kept Bh.out hb)
  replace Br := hide (Box.kept Br.out hb)
  replace hU := hU.trans (hb.mono hU.size)
  clear hb
  refine wpl_r4 [(205, .int .i64 jn), (204, .int .i64 jn), (203, .bool true), (202, .bool true)] (by kernel_rfl) (wpl_val rfl (by kernel_rfl) (run_eql (a := jn) (b := jn) rfl (by kernel_rfl) (by kernel_rfl) (beq_self_eq_true _)) (wpl_r4 [(210, .bool jq), (209, .bool jq), (208, .bool true), (207, .bool true)] (by kernel_rfl) (wpl_val rfl (by kernel_rfl) (run_beql (a := jq) (b := jq) rfl (by kernel_rfl) (by kernel_rfl) (beq_self_eq_true _)) (wpl_r2 [(8, .bool true), (212, .bool true)] (by kernel_rfl) (wpl_end (then_normal (wp_ret ?_)))))))
  refine (show bodyPost _ _ _ .ret _ _ from ret_sl (.bool true) rfl (by kernel_rfl) ?_)
  exact ⟨rfl, hU⟩
theorem VecStructure_walk (Aa : Option Addr) (la : List Int) (ca : Nat) (sa : Bool) (Ab : Option Addr) (lb : List Int) (cb : Nat) (sb : Bool) (m n : Int) (w : World) (ma : la.length ≤ maxLen) (ra : RQ w Aa la) (ya : By la) (pa : Hid (la.length ≤ ca ∧ ca ≤ maxLen)) (mb : lb.length ≤ maxLen) (rb : RQ w Ab lb) (yb : By lb) (pb : Hid (lb.length ≤ cb ∧ cb ≤ maxLen)) (m0 : 0 ≤ m) (m1 : m ≤ 255) (n0 : 0 ≤ n) (n1 : n ≤ 255) (tn : Tab1 4 mNot w) (tb : Tab1 2 mBuf w) (ta : Tab2 1 mAnd w) (tO : Tab2 3 mOr w) (tx : Tab2 5 mXor w) (tg : Tab2 0 mAgree w) : Calls Tryd.prog 3 #[.agg #[.slice Aa la.length ca, .bool sa], .agg #[.slice Ab lb.length cb, .bool sb], .int .u8 m, .int .u8 n] w (Mk (.bool true) w) := by
  by_cases hl : la.length ≤ 140 ∧ lb.length ≤ 140
  · exact VecStructure_short Aa la ca sa Ab lb cb sb m n w ma ra ya pa mb rb yb pb m0 m1 n0 n1 tn tb ta tO tx tg (hide fun i h => by
      rcases i with _ | _ | i
      · exact hl.1
      · exact hl.2
      · omega)
  · exact VecStructure_long Aa la ca sa Ab lb cb sb m n w ma ra ya pa mb rb yb pb m0 m1 n0 n1 tn tb ta tO tx tg (hide (by
      rcases Nat.lt_or_ge 140 la.length with h | h
      · exact ⟨0, by decide, h⟩
      · exact ⟨1, by decide, by show 140 < lb.length; omega⟩))
end
section
open Go.ChangeShapes Go.WideShapes Go.ChangeAt Go.WideMaps Go.WideElems Go.RowKit
theorem own : ownKnob Tryd.prog.godebug = none := by kernel_rfl
/-- The cells of an array of arrays of integers that reads as known rows. -/
theorem cells_of_grid {H : Type} {enc : TypeId × Value → H} {P : Program} {w : World} {base : Nat} {sp : Nat → Bool} {held : Bool} {fuel : Nat} {t e i : TypeId} {n m : Nat} {k : IntKind} {cs : List Value} {rows : List (List Int)} {p : List MemPlace}
    (ht : P.underlying t = some (.array n e)) (he : P.underlying e = some (.array m i)) (hi : P.underlying i = some (.int k)) (hci : P.cellsOf i = 1) (hce : P.cellsOf e = m)
    (h : DataW.trod enc P w base sp held fuel t cs = some (.agg (rows.map (Lib.tabData k)), p)) (r : Nat) (zs : List Int) (hr : rows[r]? = some zs) : (cs.drop (r * m)).take m = zs.map fun z => Value.int k z := by
  cases fuel with
  | zero => simp [DataW.trod] at h
  | succ fuel =>
    simp only [DataW.trod, ht, hce] at h
    split at h
    · obtain ⟨xs, hm, hx⟩ := Option.map_eq_some_iff.1 h
      have hxs : xs.map (·.1) = rows.map (Lib.tabData k) := by
        have := congrArg Prod.fst hx
        simpa using this
      have hxl : xs.length = n := by simpa using Lib.mapM_length hm
      have hrl : rows.length = n := by
        have := congrArg List.length hxs
        simp at this
        omega
      have hrn : r < n := by
        have := (List.getElem?_eq_some_iff.1 hr).1
        omega
      obtain ⟨b, hb, hf⟩ := Lib.mapM_at hm r r (by simp [hrn])
      have hb1 : b.1 = Lib.tabData k zs := by
        have h2 : (xs.map (·.1))[r]? = some b.1 := by simp [hb]
        rw [hxs] at h2
        simp only [List.getElem?_map, hr, Option.map_some, Option.some.injEq] at h2
        exact h2.symm
      obtain ⟨b1, b2⟩ := b
      simp only at hb1
      subst hb1
      exact Lib.cells_of_tab he hi hci hce hf
    · cases h
theorem tab1_of_head {name : String} {rest : List (String × DataW Unit)} {W : World} {g : Nat} {t e : TypeId} {zs : List Int} {f : Int → Int}
    (hg : Tryd.prog.globalNamed name = some g) (hty : (Tryd.prog.globals[g]?).map (·.type) = some t) (ht : Tryd.prog.underlying t = some (.array 4 e)) (he : Tryd.prog.underlying e = some (.int .u8)) (hce : Tryd.prog.cellsOf e = 1) (hct : Tryd.prog.cellsOf t = 4)
    (hz : zs = [f 0, f 1, f 2, f 3]) (hf : ∀ a, f (bst a) = f a)
    (h : laidMet Tryd.prog ((name, Lib.tabData .u8 zs) :: rest) W) : Tab1 g f W := by
  have hT := Lib.tabIs_of_head hg hty ht he hce hct h
  subst hz
  intro a h0
  have hb := bst_bd a h0
  rw [hT.cell hg _ (by simp; omega), ← hf a]
  have : bst a = 0 ∨ bst a = 1 ∨ bst a = 2 ∨ bst a = 3 := by omega
  rcases this with e | e | e | e <;> rw [e] <;> rfl
theorem tab2_of_head {name : String} {rest : List (String × DataW Unit)} {W : World} {g : Nat} {t e i : TypeId} {rows : List (List Int)} {f : Int → Int → Int}
    (hg : Tryd.prog.globalNamed name = some g) (hty : (Tryd.prog.globals[g]?).map (·.type) = some t) (ht : Tryd.prog.underlying t = some (.array 4 e)) (he : Tryd.prog.underlying e = some (.array 4 i)) (hi : Tryd.prog.underlying i = some (.int .u8)) (hci : Tryd.prog.cellsOf i = 1) (hce : Tryd.prog.cellsOf e = 4)
    (hz : rows = [[f 0 0, f 0 1, f 0 2, f 0 3], [f 1 0, f 1 1, f 1 2, f 1 3], [f 2 0, f 2 1, f 2 2, f 2 3], [f 3 0, f 3 1, f 3 2, f 3 3]]) (hf : ∀ a b, f (bst a) (bst b) = f a b)
    (h : laidMet Tryd.prog ((name, .agg (rows.map (Lib.tabData .u8))) :: rest) W) : Tab2 g f W := by
  obtain ⟨ps, ⟨g', t', cs, fuel, p, q, hg', ht', hvar, hd, _, _⟩, _⟩ := h
  obtain rfl := Option.some.inj (hg.symm.trans hg')
  obtain rfl := Option.some.inj (hty.symm.trans ht')
  have hgrid := cells_of_grid ht he hi hci hce hd
  subst hz
  intro a b h0 h1
  have ha := bst_bd a h0
  have hb := bst_bd b h1
  rw [World.var?_cell hg hvar, ← hf a b]
  have key : ∀ (r j : Nat) (zs : List Int) (z : Int), [[f 0 0, f 0 1, f 0 2, f 0 3], [f 1 0, f 1 1, f 1 2, f 1 3], [f 2 0, f 2 1, f 2 2, f 2 3], [f 3 0, f 3 1, f 3 2, f 3 3]][r]? = some zs → zs[j]? = some z → j < 4 → cs[r * 4 + j]? = some (.int .u8 z) := by
    intro r j zs z hr hj hlt
    have := congrArg (·[j]?) (hgrid r zs hr)
    simp only [List.getElem?_take, List.getElem?_drop, List.getElem?_map, hj, hlt, if_true, Option.map_some] at this
    simpa using this
  have ea : bst a = 0 ∨ bst a = 1 ∨ bst a = 2 ∨ bst a = 3 := by omega
  have eb : bst b = 0 ∨ bst b = 1 ∨ bst b = 2 ∨ bst b = 3 := by omega
  rcases ea with ea | ea | ea | ea <;> rcases eb with eb | eb | eb | eb <;> rw [ea, eb] <;> exact key _ _ _ _ rfl rfl (by decide)
section
variable {rest : List (String × DataW Unit)} {W : World}
theorem tab_notTable (h : laidMet Tryd.prog (("netlab/bit.notTable", Rows.laid_netlab_bit_notTable) :: rest) W) : Tab1 4 mNot W :=
  tab1_of_head (t := 84) (e := 47) (zs := [1, 0, 2, 2]) (by kernel_rfl) (by kernel_rfl) (by kernel_rfl) (by kernel_rfl) (by kernel_rfl) (by kernel_rfl) (by decide) mNot_bst h
theorem tab_bufTable (h : laidMet Tryd.prog (("netlab/bit.bufTable", Rows.laid_netlab_bit_bufTable) :: rest) W) : Tab1 2 mBuf W :=
  tab1_of_head (t := 84) (e := 47) (zs := [0, 1, 2, 2]) (by kernel_rfl) (by kernel_rfl) (by kernel_rfl) (by kernel_rfl) (by kernel_rfl) (by kernel_rfl) (by decide) mBuf_bst h
theorem tab_andTable (h : laidMet Tryd.prog (("netlab/bit.andTable", Rows.laid_netlab_bit_andTable) :: rest) W) : Tab2 1 mAnd W :=
  tab2_of_head (t := 85) (e := 84) (i := 47) (rows := [[0, 0, 0, 0], [0, 1, 2, 2], [0, 2, 2, 2], [0, 2, 2, 2]]) (by kernel_rfl) (by kernel_rfl) (by kernel_rfl) (by kernel_rfl) (by kernel_rfl) (by kernel_rfl) (by kernel_rfl) (by decide) mAnd_bst h
theorem tab_orTable (h : laidMet Tryd.prog (("netlab/bit.orTable", Rows.laid_netlab_bit_orTable) :: rest) W) : Tab2 3 mOr W :=
  tab2_of_head (t := 85) (e := 84) (i := 47) (rows := [[0, 1, 2, 2], [1, 1, 1, 1], [2, 1, 2, 2], [2, 1, 2, 2]]) (by kernel_rfl) (by kernel_rfl) (by kernel_rfl) (by kernel_rfl) (by kernel_rfl) (by kernel_rfl) (by kernel_rfl) (by decide) mOr_bst h
theorem tab_xorTable (h : laidMet Tryd.prog (("netlab/bit.xorTable", Rows.laid_netlab_bit_xorTable) :: rest) W) : Tab2 5 mXor W :=
  tab2_of_head (t := 85) (e := 84) (i := 47) (rows := [[0, 1, 2, 2], [1, 0, 2, 2], [2, 2, 2, 2], [2, 2, 2, 2]]) (by kernel_rfl) (by kernel_rfl) (by kernel_rfl) (by kernel_rfl) (by kernel_rfl) (by kernel_rfl) (by kernel_rfl) (by decide) mXor_bst h
theorem tab_agreeTable (h : laidMet Tryd.prog (("netlab/bit.agreeTable", Rows.laid_netlab_bit_agreeTable) :: rest) W) : Tab2 0 mAgree W :=
  tab2_of_head (t := 85) (e := 84) (i := 47) (rows := [[0, 2, 2, 2], [2, 1, 2, 2], [2, 2, 2, 2], [2, 2, 2, 2]]) (by kernel_rfl) (by kernel_rfl) (by kernel_rfl) (by kernel_rfl) (by kernel_rfl) (by kernel_rfl) (by kernel_rfl) (by decide) mAgree_bst h
end
end
section
open Go Go.ChangeShapes Go.WideShapes Go.Deep Go.RowKit Go.Joins
section
variable {H : Type} {enc : TypeId × Value → H} {P : Program} {W : World}
theorem trod_bits {t e : TypeId} {n : Nat} {v : Value} {y : DataW H × List MemPlace} (ht : P.underlying t = some (.slice e)) (he : P.underlying e = some (.int .u8)) (hce : P.cellsOf e = 1)
    (h : DataW.trod enc P W 0 (fun _ => true) true n t [v] = some y) :
    ∃ (A : Option Addr) (l : List Int) (c : Nat), v = .slice A l.length c ∧ l.length ≤ maxLen ∧ RQ W A l ∧ By l ∧ Hid (l.length ≤ c ∧ c ≤ maxLen) := by
  rcases open_ints ht he hce h with ⟨h2, -⟩ | ⟨a, len, cap, zs, hcs, hb, hl, hm, hz, hx, hcell, hwf⟩
  · simp only [List.cons.injEq, and_true] at h2
    subst h2
    exact ⟨none, [], 0, rfl, by simp, fun h => absurd h (by simp), fun i => by rw [qt_ge (by simp)]; decide, show _ ∧ _ from ⟨Nat.le_refl _, by simp [maxLen]⟩⟩
  · simp only [if_true] at hz
    simp only [List.cons.injEq, and_true] at hcs
    subst hcs
    have hlen : (zs.take len).length = len := by rw [List.length_take]; omega
    have hq : ∀ i, i < len → qt (zs.take len) i = zs.getD i 0 := fun i hi => by
      unfold qt
      rw [List.getD_eq_getElem?_getD, List.getElem?_take, if_pos hi, List.getD_eq_getElem?_getD]
    refine ⟨some a, zs.take len, cap, by rw [hlen], by omega, fun hn => ?_, fun i => ?_, show _ ∧ _ from ⟨by omega, hm⟩⟩
    · rw [hlen] at hn
      refine ⟨a, rfl, ?_, fun i hi => ?_⟩
      · have h0 := hcell 0 (by omega)
        have := block_lt_of_cell h0
        rwa [block_of_add] at this
      · rw [hlen] at hi
        rw [hcell i (by omega), hq i hi]
    · rcases Nat.lt_or_ge i len with hi | hi
      · rw [hq i hi, List.getD_eq_getElem?_getD, List.getElem?_eq_getElem (by omega : i < zs.length)]
        have h := hwf _ (List.getElem_mem (by omega : i < zs.length))
        simp only [Lit.wf, Bool.and_eq_true] at h
        exact ⟨of_decide_eq_true h.1, of_decide_eq_true h.2⟩
      · rw [qt_ge (by omega)]; decide
theorem open_vec {r : Reach} {b0 : Nat} {t e : TypeId} {f0 f1 : Field} {v : Value} {d : DataW H} {p : List MemPlace} (hs : P.underlying t = some (.struct #[f0, f1])) (hone : oneCellFields P #[f0, f1] = true) (hC : P.cellsOf t = 2)
    (h0 : P.underlying f0.type = some (.slice e)) (he : P.underlying e = some (.int .u8)) (hce : P.cellsOf e = 1) (h1 : P.underlying f1.type = some .bool)
    (hv : Value.okWide P W r b0 t v) (h : DataW.Trod enc P W 0 (fun _ => true) true t v d p) :
    ∃ (A : Option Addr) (l : List Int) (c : Nat) (s : Bool), v = .agg #[.slice A l.length c, .bool s] ∧ l.length ≤ maxLen ∧ RQ W A l ∧ By l ∧ Hid (l.length ≤ c ∧ c ≤ maxLen) := by
  obtain ⟨v0, v1, y0, y1, n, rfl, -, -, t0, t1⟩ := open_agg2 hs hone hC hv h
  obtain ⟨A, l, c, rfl, k1, k2, k3, k4⟩ := trod_bits h0 he hce t0
  obtain ⟨s, hs1, -⟩ := DataW.trod_bool h1 t1
  obtain rfl : v1 = .bool s := by simpa using hs1
  exact ⟨A, l, c, s, rfl, k1, k2, k3, k4⟩
end
end
section
open Go Go.ChangeShapes Go.WideShapes Go.WideElems Go.RowKit
section
variable {H : Type} {enc : TypeId × Value → H} {P : Program}
theorem carry_all (hl : laidOutB P = true) {W W' : World} {sp : Nat → Bool} (hb : Below W.heap.size W W') : ∀ {ts : List TypeId} {vs : List Value} {ds : List (DataW H)} {ps : List MemPlace},
    (ts.all fun t => P.readableRec t && decide (t < P.types.size)) = true → DataW.TrodAll enc P W 0 (fun _ => true) true ts vs ds ps → (∀ p ∈ ps, p.block < W.heap.size) → (∀ p ∈ ps, sp p.block = true) →
    DataW.TrodAll enc P W' 0 sp true ts vs ds ps
  | [], [], [], _, _, h, _, _ => h
  | [], [], _ :: _, _, _, h, _, _ => h.elim
  | [], _ :: _, _, _, _, h, _, _ => h.elim
  | _ :: _, [], _, _, _, h, _, _ => h.elim
  | _ :: _, _ :: _, [], _, _, h, _, _ => h.elim
  | t :: ts, v :: vs, d :: ds, ps, hr, h, hlt, hsp => by
    obtain ⟨p, q, h1, h2, e⟩ := h
    simp only [List.all_cons, Bool.and_eq_true, decide_eq_true_eq] at hr
    subst e
    exact ⟨p, q, Trod_stays hl hr.1.1 hr.1.2 h1 (fun x hx => hb.same (hlt x (by simp [hx]))) (fun x hx => hsp x (by simp [hx])),
      carry_all hl hb (by simpa using hr.2) h2 (fun x hx => hlt x (by simp [hx])) (fun x hx => hsp x (by simp [hx])), rfl⟩
theorem law_post {f : Func} {s : ChangeSpec} {bt : TypeId} {W W' : World} {args : Array Value} {ds gs : List (DataW H)} {before : List MemPlace}
    (hl : laidOutB P = true) (hr : (f.params.toList.all fun t => P.readableRec t && decide (t < P.types.size)) = true) (hbool : P.underlying bt = some .bool) (hres : f.resultTypes = #[bt]) (hvars : s.vars = [])
    (hW : DataW.Whole enc P f.params.toList s.vars false W args.toList ds gs before)
    (hf1 : (s.fn H (ds ++ gs)).results = [.lit (.bool true)]) (hf2 : (s.fn H (ds ++ gs)).args = ds) (hf3 : (s.fn H (ds ++ gs)).vars = []) (hb : Below W.heap.size W W') :
    s.post enc P f false true false false W args (.bool true) W' := by
  have hlt : ∀ p ∈ before, p.block < W.heap.size := fun p hp => hW.lt p hp
  have hW0 := hW
  obtain ⟨pa, pv, hA, hV, e, hz, hn⟩ := hW
  rw [hvars] at hV
  obtain ⟨rfl, rfl⟩ := trodVars_none hV
  rw [List.append_nil] at e
  subst e
  have hbs : (Value.bool true).resultList f.resultTypes.size = [.bool true] := by rw [hres]; rfl
  have hR : ∀ (b : Nat) (sp : Nat → Bool) (hd : Bool), DataW.TrodAll enc P W' b sp hd f.resultTypes.toList ((Value.bool true).resultList f.resultTypes.size) (s.fn H (ds ++ [])).results [] := by
    intro b sp hd
    rw [hbs, hf1, hres]
    exact trodAll_mk1 (shut_bool hbool _)
  have hG : ∀ sp : Nat → Bool, (∀ p ∈ before, sp p.block = true) → DataW.TrodAll enc P W' 0 sp true f.params.toList args.toList (s.fn H (ds ++ [])).args before := fun sp hsp => by
    rw [hf2]; exact carry_all hl hb hr hA hlt hsp
  have hVs : ∀ sp : Nat → Bool, DataW.TrodVars enc P W' sp s.vars (s.fn H (ds ++ [])).vars [] := fun sp => by rw [hf3, hvars]; rfl
  have hok : ∀ (j : Nat) (t : TypeId) (r : Value), f.resultTypes[j]? = some t → ((Value.bool true).resultList f.resultTypes.size)[j]? = some r → Value.okWide P W' .any 0 t r := ok_one hres rfl (okWide_bool_mk hbool _)
  have hold : ∀ p ∈ before, (fun b => decide (b < W.heap.size)) p.block = true := fun p hp => by simpa using hlt p hp
  refine ⟨ds, [], before, [], before, [], hW0, hR _ _ _, hG _ hold, hVs _, World.keptBut_mono (fun p hp => ⟨hp, by simpa using hp⟩) (hb.frame (· ∈ before)), fun _ => ?_⟩
  refine ⟨hok, _, _, ([] ++ before) ++ [], ⟨[] ++ before, [], trodAll_append (hG _ (fun _ _ => rfl)) (hR _ _ _), hVs _, rfl, ?_, ?_⟩, ?_⟩
  · intro b off hp
    have hin : MemPlace.cell b off ∈ before := by simpa using hp
    rw [hb.frozen (hlt _ hin)]
    exact hz b off hin
  · intro ha
    have := hn ha
    simpa using this
  · intro p hp _
    simpa using hp
end
end
end Go.Proofs.YtpiakebbndoecaaDoor
