/-
  Texts of MU joined (VecLZ).
-/
import Derived.Test.YtpiakebbndoecaaGreatDoorMU5
set_option linter.unusedVariables false
set_option linter.unusedSimpArgs false
set_option linter.unusedSectionVars false
namespace Go.Proofs.YtpiakebbndoecaaGreatDoor
section
open Go.RowKit
set_option maxRecDepth 100000
set_option linter.unusedSimpArgs false
set_option linter.unusedVariables false
theorem vKnown_w (q : Bool) (A : Option Addr) (a : List Int) (c : Nat) (s : Bool) (w : World) (ha : a.length ≤ 4096) (hca : Hid (a.length ≤ c ∧ c ≤ maxLen)) (hA : RQ w A a) (ya : By a) (h : kn (cnt ⟨a, s⟩).b = q) :
   Calls Tryz.prog 31 #[.agg #[.slice A a.length c, .bool s]] w (Mk (.bool q) w) := by
 rw [← h]; exact vKnown_any A a c s w ha hca hA ya
theorem gdu_ar {a b : Vc} (ha : By a.b) (hb : By b.b) {f : List Bool → List Bool → Bool → Option (List Bool)} (hl : ∀ m n s l, f m n s = some l → l.length = m.length) : Gd (ar f a b).b := by
 obtain ⟨h0, h1⟩ := wd_bd ha hb
 unfold ar
 split
 · split
   · rename_i l hl'
     have e := hl _ _ _ _ hl'
     rw [nb_length, blA_length] at e
     exact gd_fb (by omega) (by omega)
   · exact gd_xs h0 h1
 · exact gd_xs h0 h1
theorem gdu_sgl {x : Int} (h : 0 ≤ x ∧ x ≤ 3) : Gd (sgl x).b := ⟨by show 0 < 1; decide, by show 1 ≤ 128; decide, fun i => by
 rcases i with _ | i
 · exact h
 · have e : qt (sgl x).b (i + 1) = 0 := qt_ge (by show 1 ≤ i + 1; omega)
   omega⟩
theorem gdu_cmp (f : Int → Bool) (a b : Vc) : Gd (vCmp f a b).b := by
 unfold vCmp
 refine gdu_sgl ?_
 split
 · exact mFrom_bd _
 · decide
theorem gdu_pow {a b : Vc} (ha : By a.b) : Gd (vPow a b).b := by
 have h0 := (cnt_gd ha).pos
 have h1 := (cnt_gd ha).le
 have hz : Gd (zr (cnt a)).b := gd_ql (by rw [cnt_cnt]; exact h0) (by rw [cnt_cnt]; exact h1) fun i _ => by decide
 have hf : ∀ z : Int, Gd (fb (vz (cnt a).b.length z)) := fun z => gd_fb (by rw [vz_length]; exact h0) (by rw [vz_length]; exact h1)
 unfold vPow
 simp only
 (repeat' split) <;> first | exact gd_xs h0 h1 | exact hf _ | exact hz
theorem gdu_shf {a b : Vc} (ha : By a.b) {m : Vc → Nat → List Int} (hm : ∀ c n, Gd c.b → Gd (m c n)) : Gd (shf m a b).b := by
 unfold shf
 split
 · exact hm _ _ (cnt_gd ha)
 · exact gd_xs (cnt_gd ha).pos (cnt_gd ha).le
theorem gdm_shl (c : Vc) (n : Nat) (h : Gd c.b) : Gd (mShl c n) := gd_wdw h h.pos h.le (by decide)
theorem gdm_shr (c : Vc) (n : Nat) (h : Gd c.b) : Gd (mShr c n) := gd_wdw h h.pos h.le (by decide)
theorem gdm_ashr (c : Vc) (n : Nat) (h : Gd c.b) : Gd (mAShr c n) := gd_wdw h h.pos h.le (xt_bd h)
set_option maxHeartbeats 8000000 in
theorem VecUnknown_long (Aa : Option Addr) (la : List Int) (ca : Nat) (sa : Bool) (Ab : Option Addr) (lb : List Int) (cb : Nat) (sb : Bool) (w : World) (ma : la.length ≤ maxLen) (ra : RQ w Aa la) (ya : By la) (pa : Hid (la.length ≤ ca ∧ ca ≤ maxLen)) (mb : lb.length ≤ maxLen) (rb : RQ w Ab lb) (yb : By lb) (pb : Hid (lb.length ≤ cb ∧ cb ≤ maxLen)) (tn : Tab1 2 mNot w) (tb : Tab1 5 mBuf w) (ta : Tab2 3 mAnd w) (tO : Tab2 0 mOr w) (tx : Tab2 4 mXor w) (tg : Tab2 1 mAgree w) (hl : Hid (∃ i, ∃ h : i < 2, 140 < [(Aa, la.length, ca, sa), (Ab, lb.length, cb, sb)][i].2.1)) : Calls Tryz.prog 11 #[.agg #[.slice Aa la.length ca, .bool sa], .agg #[.slice Ab lb.length cb, .bool sb]] w (Mk (.bool true) w) := by
 have hm : Hid (∀ i (h : i < 2), [(Aa, la.length, ca, sa), (Ab, lb.length, cb, sb)][i].2.1 ≤ maxLen) := hide fun i h => by rcases i with _ | _ | i <;> first | assumption | omega
 clear ma mb
 have Oa := hide ra
 have Ya := hide ya
 have Ca := pa
 have Ob := hide rb
 have Yb := hide yb
 have Cb := pb
 clear ra ya rb yb
 have HT := hide (show Tabs w from ⟨tn, tb, ta, tO, tx, tg⟩)
 clear tn tb ta tO tx tg
 have hU : Below w.heap.size w w := Below.refl _ _
 refine calls_sl (l := [.agg #[.slice Aa la.length ca, .bool sa], .agg #[.slice Ab lb.length cb, .bool sb]]) 88 Tryz.func11 rfl (by kernel_rfl) (by simp) (zs (wpl_boxvec (A := Aa) (m := la.length) (c := ca) (s := sa) rfl (by kernel_rfl) rfl (by kernel_rfl) ?_))
 intro w1 Na Ba hNa hb
 replace Ba := hide Ba
 have hza : w.heap.size ≤ Na := Nat.le_trans hU.size hNa
 clear hNa
 replace hU := zU hU hU.size hb
 clear hb
 refine wpl_boxvec (A := Ab) (m := lb.length) (c := cb) (s := sb) rfl (by kernel_rfl) rfl (by kernel_rfl) ?_
 intro w2 Nb Bb hNb hb
 replace Bb := hide Bb
 replace Ba := zX Ba hb
 have hzb : w.heap.size ≤ Nb := Nat.le_trans hU.size hNb
 clear hNb
 replace hU := zU hU hU.size hb
 clear hb
 refine z1 [(4, z_f)] (ze (wp_seq (zs (zv Ba.out rfl rfl (zv Bb.out rfl rfl ?_)))))
 refine wpl_bsL2 rfl (by kernel_rfl) rfl (A0 := Aa) (m0 := la.length) (c0 := ca) (s0 := sa) (A1 := Ab) (m1 := lb.length) (c1 := cb) (s1 := sb) (by kernel_rfl) (by kernel_rfl) ?_
 intro w3 NV3 RV3 hb
 replace RV3 := hide RV3
 replace Ba := zX Ba hb
 replace Bb := zX Bb hb
 replace hU := zU hU hU.size hb
 clear hb
 refine zc rfl ((vlong_yes NV3 2 [(Aa, la.length, ca, sa), (Ab, lb.length, cb, sb)] _ (by simp) RV3.out hl.out hm.out).mono ?_)
 rintro e w' ⟨rfl, rfl⟩
 refine ⟨_, rfl, ?_⟩
 refine z4 [(19, z_t), (18, undef), (17, undef), (16, z_t)] (ze (zit (zs ?_)))
 refine zc rfl ((vawake_any _ (HT.out.kept hU)).mono ?_)
 rintro e w4 ⟨rfl, hb⟩
 refine ⟨_, rfl, ?_⟩
 replace Ba := zX Ba hb
 replace Bb := zX Bb hb
 replace hU := zU hU hU.size hb
 clear hb
 refine z1 [(4, z_t)] (ze (wp_ret ?_))
 refine (show bodyPost _ _ _ .ret _ _ from ret_sl (.bool true) rfl (by kernel_rfl) ?_)
 exact ⟨rfl, hU⟩
noncomputable def lpU : Code := ((Tryz.f11.body.map loopsOf).getD []).headD .skip
set_option maxHeartbeats 16000000 in
theorem VecUnknown_rff (Aa : Option Addr) (la : List Int) (ca : Nat) (sa : Bool) (Ab : Option Addr) (lb : List Int) (cb : Nat) (sb : Bool) (lx : List Int) (sx : Bool) (Ax : Option Addr) (cx : Nat) (ly : List Int) (sy : Bool) (Ay : Option Addr) (cy : Nat) (Na Nb Nx Nz NV : Nat) (w w0 : World) (La : Hid (la.length ≤ 4096)) (Lb : Hid (lb.length ≤ 4096)) (Ya : Hid (By la)) (Yb : Hid (By lb)) (Ca : Hid (la.length ≤ ca ∧ ca ≤ maxLen)) (Cb : Hid (lb.length ≤ cb ∧ cb ≤ maxLen)) (HT : Hid (Tabs w)) (Lx : Hid (lx.length ≤ 4096)) (Ly : Hid (ly.length ≤ 4096)) (Gxx : Hid (Gd lx)) (Gyy : Hid (Gd ly)) (Lxx : Hid (lx.length = wd ⟨la, sa⟩ ⟨lb, sb⟩)) (Lyy : Hid (ly.length = (cnt ⟨la, sa⟩).b.length)) (hU : Below w.heap.size w w0) (Oa : Hid (RQ w0 Aa la)) (Ob : Hid (RQ w0 Ab lb)) (Ba : Hid (Box Na Aa la.length ca sa w0)) (Bb : Hid (Box Nb Ab lb.length cb sb w0)) (Bx : Hid (Box Nx Ax lx.length cx sx w0)) (Bz : Hid (Box Nz Ay ly.length cy sy w0)) (TV : Hid (Two NV w0)) (hA : kn (cnt ⟨la, sa⟩).b = false) (hB : kn (cnt ⟨lb, sb⟩).b = false) (Q : Exit → Act → World → Prop) (hP : ∀ c a d v w, Q (.panic c) (Act.put a (some d) v) w → Q (.panic c) a w) (hX : ∀ (E : Env) (w9 : World), Below w.heap.size w w9 → Q (.exit 0) (sl 88 E) w9) (X : Env) : Code.rounds Tryz.prog lpU Q 25 (sl 88 ([(2, pt Na 0), (3, pt Nb 0), (4, z_f), (5, pt Nx 0), (6, pt Nz 0), (27, .slice (some ⟨NV, 0, none⟩) 24 24), (28, .int .i64 24), (29, .int .i64 0)] ++ X)) w0 := by
 have HKa := hide hA
 have HKb := hide hB
 clear hA hB
 obtain ⟨Pr1, HM1, HC1, p1_a, p1_b, q1_a, q1_b, q1_x, q1_z, r1_TV⟩ : ∃ Pr : World → Prop, (∀ w w', Pr w → Below w.heap.size w w' → Pr w') ∧ Hid (Pr w0) ∧ (∀ W, Pr W → RQ W Aa la) ∧ (∀ W, Pr W → RQ W Ab lb) ∧ (∀ W, Pr W → Box Na Aa la.length ca sa W) ∧ (∀ W, Pr W → Box Nb Ab lb.length cb sb W) ∧ (∀ W, Pr W → Box Nx Ax lx.length cx sx W) ∧ (∀ W, Pr W → Box Nz Ay ly.length cy sy W) ∧ (∀ W, Pr W → Two NV W) := ⟨fun W => RQ W Aa la ∧ RQ W Ab lb ∧ Box Na Aa la.length ca sa W ∧ Box Nb Ab lb.length cb sb W ∧ Box Nx Ax lx.length cx sx W ∧ Box Nz Ay ly.length cy sy W ∧ Two NV W, fun _ _ h hb => ⟨RQ.below h.1 hb, RQ.below h.2.1 hb, Box.kept h.2.2.1 hb, Box.kept h.2.2.2.1 hb, Box.kept h.2.2.2.2.1 hb, Box.kept h.2.2.2.2.2.1 hb, Two.kept h.2.2.2.2.2.2 hb⟩, hide ⟨Oa.out, Ob.out, Ba.out, Bb.out, Bx.out, Bz.out, TV.out⟩, fun _ h => h.1, fun _ h => h.2.1, fun _ h => h.2.2.1, fun _ h => h.2.2.2.1, fun _ h => h.2.2.2.2.1, fun _ h => h.2.2.2.2.2.1, fun _ h => h.2.2.2.2.2.2⟩
 clear Oa Ob Ba Bb Bx Bz TV
 refine round_s (zs (z1 [(30, z_t)] (ze (wp_seq (zit ?_)))))
 refine wp_skip (then_normal (wp_seq (wp_block (zs (z1 [(31, pt NV 0)] (zw (r1_TV _ HC1.out) 0 (by decide) rfl rfl ?_))))))
 refine zm2 37 88 rfl rfl rfl ?_
 intro w1 ND BD hb
 replace BD := hide BD
 replace HC1 := zH HM1 HC1 hb
 replace hU := zU hU hU.size hb
 clear hb
 refine sx_n (z1 [(33, pt Nx 0)] (zl (q1_x _ HC1.out) rfl rfl (z2 [(9, .int .i64 ((lx.length : Nat))), (35, .int .i64 ((lx.length : Nat)))] (sx_n (zv (q1_a _ HC1.out) rfl rfl ?_)))))
 refine zc rfl ((vKnown_w false Aa la ca sa _ La.out Ca (p1_a w1 HC1.out) Ya.out HKa.out).mono ?_)
 rintro e w2 ⟨rfl, hb⟩
 refine ⟨_, rfl, ?_⟩
 replace HC1 := zH HM1 HC1 hb
 replace BD := zB BD hb
 replace hU := zU hU hU.size hb
 clear hb
 refine z7 [(10, z_t), (43, z_t), (42, undef), (41, undef), (40, undef), (39, z_t), (38, z_t)] (ze (wp_seq (zs (z1 [(44, pt ND 0)] (zop BD.out rfl rfl ?_)))))
 refine ze (wp_block (wp_seq (zg 46 47 (zg 46 48 (zg 46 49 (zg 46 50 ?_))))))
 refine reg_lit (z2 [(46, z_f), (51, z_f)] (ze (zif (wp_seq (zg 52 53 (zg 52 54 ?_))))))
 refine zg 52 55 (reg_lit (z2 [(52, z_f), (56, z_f)] (ze (zif (zg 57 58 (wp_seq ?_))))))
 refine zg 62 63 (zg 62 64 (zg 62 65 (reg_lit (z2 [(62, z_f), (66, z_f)] (ze (zif ?_))))))
 refine wp_exit (exit_pass rfl (then_exit (exit_here (then_normal (reg_lit (z2 [(29, .int .i64 1), (87, .int .i64 1)] (wpl_end ?_)))))))
 refine then_normal ?_
 clear BD
 refine zk (z_R Na Nb Nx Nz NV z_f 1) (fun X => ?_)
 refine round_s (zs (z1 [(30, z_t)] (ze (wp_seq (zit ?_)))))
 refine wp_skip (then_normal (wp_seq (wp_block (zs (z1 [(31, pt NV 2)] (zw (r1_TV _ HC1.out) 1 (by decide) rfl rfl ?_))))))
 refine zm2 38 57 rfl rfl rfl ?_
 intro w3 ND BD hb
 replace BD := hide BD
 replace HC1 := zH HM1 HC1 hb
 replace hU := zU hU hU.size hb
 clear hb
 refine sx_n (z1 [(33, pt Nx 0)] (zl (q1_x _ HC1.out) rfl rfl (z2 [(9, .int .i64 ((lx.length : Nat))), (35, .int .i64 ((lx.length : Nat)))] (sx_n (zv (q1_a _ HC1.out) rfl rfl ?_)))))
 refine zc rfl ((vKnown_w false Aa la ca sa _ La.out Ca (p1_a w3 HC1.out) Ya.out HKa.out).mono ?_)
 rintro e w4 ⟨rfl, hb⟩
 refine ⟨_, rfl, ?_⟩
 replace HC1 := zH HM1 HC1 hb
 replace BD := zB BD hb
 replace hU := zU hU hU.size hb
 clear hb
 refine z7 [(10, z_t), (43, z_t), (42, undef), (41, undef), (40, undef), (39, z_t), (38, z_t)] (ze (wp_seq (zs (z1 [(44, pt ND 0)] (zop BD.out rfl rfl ?_)))))
 refine ze (wp_block (wp_seq (zg 46 47 (zg 46 48 (zg 46 49 (zg 46 50 ?_))))))
 refine reg_lit (z2 [(46, z_f), (51, z_f)] (ze (zif (wp_seq (zg 52 53 (zg 52 54 ?_))))))
 refine zg 52 55 (reg_lit (z2 [(52, z_f), (56, z_f)] (ze (zif (zg 57 58 (wp_seq ?_))))))
 refine zg 62 63 (zg 62 64 (zg 62 65 (reg_lit (z2 [(62, z_f), (66, z_f)] (ze (zif ?_))))))
 refine wp_exit (exit_pass rfl (then_exit (exit_here (then_normal (reg_lit (z2 [(29, .int .i64 2), (87, .int .i64 2)] (wpl_end ?_)))))))
 refine then_normal ?_
 clear BD
 refine zk (z_R Na Nb Nx Nz NV z_f 2) (fun X => ?_)
 refine round_s (zs (z1 [(30, z_t)] (ze (wp_seq (zit ?_)))))
 refine wp_skip (then_normal (wp_seq (wp_block (zs (z1 [(31, pt NV 4)] (zw (r1_TV _ HC1.out) 2 (by decide) rfl rfl ?_))))))
 refine zm2 39 89 rfl rfl rfl ?_
 intro w5 ND BD hb
 replace BD := hide BD
 replace HC1 := zH HM1 HC1 hb
 replace hU := zU hU hU.size hb
 clear hb
 refine sx_n (z1 [(33, pt Nx 0)] (zl (q1_x _ HC1.out) rfl rfl (z2 [(9, .int .i64 ((lx.length : Nat))), (35, .int .i64 ((lx.length : Nat)))] (sx_n (zv (q1_a _ HC1.out) rfl rfl ?_)))))
 refine zc rfl ((vKnown_w false Aa la ca sa _ La.out Ca (p1_a w5 HC1.out) Ya.out HKa.out).mono ?_)
 rintro e w6 ⟨rfl, hb⟩
 refine ⟨_, rfl, ?_⟩
 replace HC1 := zH HM1 HC1 hb
 replace BD := zB BD hb
 replace hU := zU hU hU.size hb
 clear hb
 refine z7 [(10, z_t), (43, z_t), (42, undef), (41, undef), (40, undef), (39, z_t), (38, z_t)] (ze (wp_seq (zs (z1 [(44, pt ND 0)] (zop BD.out rfl rfl ?_)))))
 refine ze (wp_block (wp_seq (zg 46 47 (zg 46 48 (zg 46 49 (zg 46 50 ?_))))))
 refine reg_lit (z2 [(46, z_f), (51, z_f)] (ze (zif (wp_seq (zg 52 53 (zg 52 54 ?_))))))
 refine zg 52 55 (reg_lit (z2 [(52, z_f), (56, z_f)] (ze (zif (zg 57 58 (wp_seq ?_))))))
 refine zg 62 63 (zg 62 64 (zg 62 65 (reg_lit (z2 [(62, z_f), (66, z_f)] (ze (zif ?_))))))
 refine wp_exit (exit_pass rfl (then_exit (exit_here (then_normal (reg_lit (z2 [(29, .int .i64 3), (87, .int .i64 3)] (wpl_end ?_)))))))
 refine then_normal ?_
 clear BD
 refine zk (z_R Na Nb Nx Nz NV z_f 3) (fun X => ?_)
 refine round_s (zs (z1 [(30, z_t)] (ze (wp_seq (zit ?_)))))
 refine wp_skip (then_normal (wp_seq (wp_block (zs (z1 [(31, pt NV 6)] (zw (r1_TV _ HC1.out) 3 (by decide) rfl rfl ?_))))))
 refine zm2 40 90 rfl rfl rfl ?_
 intro w7 ND BD hb
 replace BD := hide BD
 replace HC1 := zH HM1 HC1 hb
 replace hU := zU hU hU.size hb
 clear hb
 refine sx_n (z1 [(33, pt Nx 0)] (zl (q1_x _ HC1.out) rfl rfl (z2 [(9, .int .i64 ((lx.length : Nat))), (35, .int .i64 ((lx.length : Nat)))] (sx_n (zv (q1_a _ HC1.out) rfl rfl ?_)))))
 refine zc rfl ((vKnown_w false Aa la ca sa _ La.out Ca (p1_a w7 HC1.out) Ya.out HKa.out).mono ?_)
 rintro e w8 ⟨rfl, hb⟩
 refine ⟨_, rfl, ?_⟩
 replace HC1 := zH HM1 HC1 hb
 replace BD := zB BD hb
 replace hU := zU hU hU.size hb
 clear hb
 refine z7 [(10, z_t), (43, z_t), (42, undef), (41, undef), (40, undef), (39, z_t), (38, z_t)] (ze (wp_seq (zs (z1 [(44, pt ND 0)] (zop BD.out rfl rfl ?_)))))
 refine ze (wp_block (wp_seq (zg 46 47 (zg 46 48 (zg 46 49 (zg 46 50 ?_))))))
 refine reg_lit (z2 [(46, z_f), (51, z_f)] (ze (zif (wp_seq (zg 52 53 (zg 52 54 ?_))))))
 refine zg 52 55 (reg_lit (z2 [(52, z_f), (56, z_f)] (ze (zif (zg 57 58 (wp_seq ?_))))))
 refine zg 62 63 (zg 62 64 (zg 62 65 (reg_lit (z2 [(62, z_f), (66, z_f)] (ze (zif ?_))))))
 refine wp_exit (exit_pass rfl (then_exit (exit_here (then_normal (reg_lit (z2 [(29, .int .i64 4), (87, .int .i64 4)] (wpl_end ?_)))))))
 refine then_normal ?_
 clear BD
 refine zk (z_R Na Nb Nx Nz NV z_f 4) (fun X => ?_)
 refine round_s (zs (z1 [(30, z_t)] (ze (wp_seq (zit ?_)))))
 refine wp_skip (then_normal (wp_seq (wp_block (zs (z1 [(31, pt NV 8)] (zw (r1_TV _ HC1.out) 4 (by decide) rfl rfl ?_))))))
 refine zm2 21 56 rfl rfl rfl ?_
 intro w9 ND BD hb
 replace BD := hide BD
 replace HC1 := zH HM1 HC1 hb
 replace hU := zU hU hU.size hb
 clear hb
 refine sx_n (z1 [(33, pt Nx 0)] (zl (q1_x _ HC1.out) rfl rfl (z2 [(9, .int .i64 ((lx.length : Nat))), (35, .int .i64 ((lx.length : Nat)))] (sx_n (zv (q1_a _ HC1.out) rfl rfl ?_)))))
 refine zc rfl ((vKnown_w false Aa la ca sa _ La.out Ca (p1_a w9 HC1.out) Ya.out HKa.out).mono ?_)
 rintro e w10 ⟨rfl, hb⟩
 refine ⟨_, rfl, ?_⟩
 replace HC1 := zH HM1 HC1 hb
 replace BD := zB BD hb
 replace hU := zU hU hU.size hb
 clear hb
 refine z7 [(10, z_t), (43, z_t), (42, undef), (41, undef), (40, undef), (39, z_t), (38, z_t)] (ze (wp_seq (zs (z1 [(44, pt ND 0)] (zop BD.out rfl rfl ?_)))))
 refine ze (wp_block (wp_seq (zt [(46, z_t), (47, z_t)] (wp_skip (then_normal (zit ?_))))))
 refine wp_skip (block_normal (then_normal (zs (z1 [(73, pt ND 1)] (zfn BD.out rfl rfl (zv (q1_a _ HC1.out) rfl rfl ?_))))))
 refine zv (q1_b _ HC1.out) rfl rfl ?_
 refine zc rfl ((vAdd_any Aa Ab la lb ca cb sa sb _ La.out Lb.out Ca Cb (p1_a w10 HC1.out) (p1_b w10 HC1.out) Ya.out Yb.out).mono ?_)
 rintro e w11 ⟨lg, sg, Ag, cg, Eg, rfl, Cg, Og, hb⟩
 refine ⟨_, rfl, ?_⟩
 replace HC1 := zH HM1 HC1 hb
 replace BD := zB BD hb
 replace Og := hide Og.out.rd
 replace hU := zU hU hU.size hb
 clear hb
 have Gg := zGd Eg ((gdu_ar Ya.out Yb.out hlen_add))
 have Lg := zLe Gg
 have Yg := hide Gg.by_
 clear Gg
 refine zm (A := Ag) (m := lg.length) (c := cg) (s := sg) rfl rfl rfl ?_
 intro w12 Ng Bg hNg hb
 replace Bg := hide Bg
 replace HC1 := zH HM1 HC1 hb
 replace Og := zQ Og hb
 replace BD := zB BD hb
 have hzg : w.heap.size ≤ Ng := Nat.le_trans hU.size hNg
 clear hNg
 replace hU := zU hU hU.size hb
 clear hb
 refine sx_n (z2 [(79, z_t), (78, z_t)] (zv Bg.out rfl rfl ?_))
 refine zc rfl ((vWithSign_any false Ag lg cg sg _ Lg.out Cg Og.out Yg.out).mono ?_)
 rintro e w13 ⟨lu, su, Au, cu, Eu, rfl, Cu, Ou, hb⟩
 refine ⟨_, rfl, ?_⟩
 replace HC1 := zH HM1 HC1 hb
 replace Og := zQ Og hb
 replace Bg := zX Bg hb
 replace BD := zB BD hb
 replace Ou := hide Ou.out.rd
 replace hU := zU hU hU.size hb
 clear hb
 have Gu := zGd Eu ((cnt_gd (v := ⟨lg, sg⟩) Yg.out))
 have Lu := zLe Gu
 have Yu := hide Gu.by_
 clear Gu
 refine z1 [(82, .int .i64 ((lx.length : Nat)))] ?_
 refine zc rfl ((rfill_any 2 (lx.length) false _ Lx.out).mono ?_)
 rintro e w14 ⟨lv, sv, Av, cv, Ev, rfl, Cv, Ov, hb⟩
 refine ⟨_, rfl, ?_⟩
 replace HC1 := zH HM1 HC1 hb
 replace Og := zQ Og hb
 replace Ou := zQ Ou hb
 replace Bg := zX Bg hb
 replace BD := zB BD hb
 replace Ov := hide Ov.out.rd
 replace hU := zU hU hU.size hb
 clear hb
 have Gv := zGd Ev ((gd_xs (s := false) Gxx.out.pos Gxx.out.le))
 have Lv := zLe Gv
 have Yv := hide Gv.by_
 clear Gv
 refine zc rfl ((rsame_yes Au Av lu lv cu cv su sv _ Lu.out Lv.out Ou.out Ov.out (by rw [Eu.out, Ev.out, Eg.out, Lxx.out]; exact unk_ar Ya.out Yb.out (Or.inl HKa.out))).mono ?_)
 rintro e w15 ⟨rfl, hb⟩
 refine ⟨_, rfl, ?_⟩
 replace HC1 := zH HM1 HC1 hb
 replace Og := zQ Og hb
 replace Ou := zQ Ou hb
 replace Ov := zQ Ov hb
 replace Bg := zX Bg hb
 replace BD := zB BD hb
 replace hU := zU hU hU.size hb
 clear hb Ou Cu Lu Yu
 clear Ov Cv Lv Yv
 refine z2 [(86, z_f), (85, z_f)] (ze (zif (wp_skip (block_normal (then_normal (reg_lit ?_))))))
 refine z2 [(29, .int .i64 5), (87, .int .i64 5)] (ze ?_)
 clear Bg Og Cg Lg Yg
 clear BD
 refine zk (z_R Na Nb Nx Nz NV z_f 5) (fun X => ?_)
 refine round_s (zs (z1 [(30, z_t)] (ze (wp_seq (zit ?_)))))
 refine wp_skip (then_normal (wp_seq (wp_block (zs (z1 [(31, pt NV 10)] (zw (r1_TV _ HC1.out) 5 (by decide) rfl rfl ?_))))))
 refine zm2 22 86 rfl rfl rfl ?_
 intro w16 ND BD hb
 replace BD := hide BD
 replace HC1 := zH HM1 HC1 hb
 replace hU := zU hU hU.size hb
 clear hb
 refine sx_n (z1 [(33, pt Nx 0)] (zl (q1_x _ HC1.out) rfl rfl (z2 [(9, .int .i64 ((lx.length : Nat))), (35, .int .i64 ((lx.length : Nat)))] (sx_n (zv (q1_a _ HC1.out) rfl rfl ?_)))))
 refine zc rfl ((vKnown_w false Aa la ca sa _ La.out Ca (p1_a w16 HC1.out) Ya.out HKa.out).mono ?_)
 rintro e w17 ⟨rfl, hb⟩
 refine ⟨_, rfl, ?_⟩
 replace HC1 := zH HM1 HC1 hb
 replace BD := zB BD hb
 replace hU := zU hU hU.size hb
 clear hb
 refine z7 [(10, z_t), (43, z_t), (42, undef), (41, undef), (40, undef), (39, z_t), (38, z_t)] (ze (wp_seq (zs (z1 [(44, pt ND 0)] (zop BD.out rfl rfl ?_)))))
 refine ze (wp_block (wp_seq (zg 46 47 (zt [(46, z_t), (48, z_t)] (wp_skip (then_normal ?_))))))
 refine zit (wp_skip (block_normal (then_normal (zs (z1 [(73, pt ND 1)] (zfn BD.out rfl rfl ?_))))))
 refine zv (q1_a _ HC1.out) rfl rfl (zv (q1_b _ HC1.out) rfl rfl ?_)
 refine zc rfl ((vSub_any Aa Ab la lb ca cb sa sb _ La.out Lb.out Ca Cb (p1_a w17 HC1.out) (p1_b w17 HC1.out) Ya.out Yb.out).mono ?_)
 rintro e w18 ⟨lg, sg, Ag, cg, Eg, rfl, Cg, Og, hb⟩
 refine ⟨_, rfl, ?_⟩
 replace HC1 := zH HM1 HC1 hb
 replace BD := zB BD hb
 replace Og := hide Og.out.rd
 replace hU := zU hU hU.size hb
 clear hb
 have Gg := zGd Eg ((gdu_ar Ya.out Yb.out hlen_sub))
 have Lg := zLe Gg
 have Yg := hide Gg.by_
 clear Gg
 refine zm (A := Ag) (m := lg.length) (c := cg) (s := sg) rfl rfl rfl ?_
 intro w19 Ng Bg hNg hb
 replace Bg := hide Bg
 replace HC1 := zH HM1 HC1 hb
 replace Og := zQ Og hb
 replace BD := zB BD hb
 have hzg : w.heap.size ≤ Ng := Nat.le_trans hU.size hNg
 clear hNg
 replace hU := zU hU hU.size hb
 clear hb
 refine sx_n (z2 [(79, z_t), (78, z_t)] (zv Bg.out rfl rfl ?_))
 refine zc rfl ((vWithSign_any false Ag lg cg sg _ Lg.out Cg Og.out Yg.out).mono ?_)
 rintro e w20 ⟨lu, su, Au, cu, Eu, rfl, Cu, Ou, hb⟩
 refine ⟨_, rfl, ?_⟩
 replace HC1 := zH HM1 HC1 hb
 replace Og := zQ Og hb
 replace Bg := zX Bg hb
 replace BD := zB BD hb
 replace Ou := hide Ou.out.rd
 replace hU := zU hU hU.size hb
 clear hb
 have Gu := zGd Eu ((cnt_gd (v := ⟨lg, sg⟩) Yg.out))
 have Lu := zLe Gu
 have Yu := hide Gu.by_
 clear Gu
 refine z1 [(82, .int .i64 ((lx.length : Nat)))] ?_
 refine zc rfl ((rfill_any 2 (lx.length) false _ Lx.out).mono ?_)
 rintro e w21 ⟨lv, sv, Av, cv, Ev, rfl, Cv, Ov, hb⟩
 refine ⟨_, rfl, ?_⟩
 replace HC1 := zH HM1 HC1 hb
 replace Og := zQ Og hb
 replace Ou := zQ Ou hb
 replace Bg := zX Bg hb
 replace BD := zB BD hb
 replace Ov := hide Ov.out.rd
 replace hU := zU hU hU.size hb
 clear hb
 have Gv := zGd Ev ((gd_xs (s := false) Gxx.out.pos Gxx.out.le))
 have Lv := zLe Gv
 have Yv := hide Gv.by_
 clear Gv
 refine zc rfl ((rsame_yes Au Av lu lv cu cv su sv _ Lu.out Lv.out Ou.out Ov.out (by rw [Eu.out, Ev.out, Eg.out, Lxx.out]; exact unk_ar Ya.out Yb.out (Or.inl HKa.out))).mono ?_)
 rintro e w22 ⟨rfl, hb⟩
 refine ⟨_, rfl, ?_⟩
 replace HC1 := zH HM1 HC1 hb
 replace Og := zQ Og hb
 replace Ou := zQ Ou hb
 replace Ov := zQ Ov hb
 replace Bg := zX Bg hb
 replace BD := zB BD hb
 replace hU := zU hU hU.size hb
 clear hb Ou Cu Lu Yu
 clear Ov Cv Lv Yv
 refine z2 [(86, z_f), (85, z_f)] (ze (zif (wp_skip (block_normal (then_normal (reg_lit ?_))))))
 refine z2 [(29, .int .i64 6), (87, .int .i64 6)] (ze ?_)
 clear Bg Og Cg Lg Yg
 clear BD
 refine zk (z_R Na Nb Nx Nz NV z_f 6) (fun X => ?_)
 refine round_s (zs (z1 [(30, z_t)] (ze (wp_seq (zit ?_)))))
 refine wp_skip (then_normal (wp_seq (wp_block (zs (z1 [(31, pt NV 12)] (zw (r1_TV _ HC1.out) 6 (by decide) rfl rfl ?_))))))
 refine zm2 23 87 rfl rfl rfl ?_
 intro w23 ND BD hb
 replace BD := hide BD
 replace HC1 := zH HM1 HC1 hb
 replace hU := zU hU hU.size hb
 clear hb
 refine sx_n (z1 [(33, pt Nx 0)] (zl (q1_x _ HC1.out) rfl rfl (z2 [(9, .int .i64 ((lx.length : Nat))), (35, .int .i64 ((lx.length : Nat)))] (sx_n (zv (q1_a _ HC1.out) rfl rfl ?_)))))
 refine zc rfl ((vKnown_w false Aa la ca sa _ La.out Ca (p1_a w23 HC1.out) Ya.out HKa.out).mono ?_)
 rintro e w24 ⟨rfl, hb⟩
 refine ⟨_, rfl, ?_⟩
 replace HC1 := zH HM1 HC1 hb
 replace BD := zB BD hb
 replace hU := zU hU hU.size hb
 clear hb
 refine z7 [(10, z_t), (43, z_t), (42, undef), (41, undef), (40, undef), (39, z_t), (38, z_t)] (ze (wp_seq (zs (z1 [(44, pt ND 0)] (zop BD.out rfl rfl ?_)))))
 refine ze (wp_block (wp_seq (zg 46 47 (zg 46 48 (zt [(46, z_t), (49, z_t)] (wp_skip ?_))))))
 refine then_normal (zit (wp_skip (block_normal (then_normal (zs (z1 [(73, pt ND 1)] ?_))))))
 refine zfn BD.out rfl rfl (zv (q1_a _ HC1.out) rfl rfl (zv (q1_b _ HC1.out) rfl rfl ?_))
 refine zc rfl ((vMul_any Aa Ab la lb ca cb sa sb _ La.out Lb.out Ca Cb (p1_a w24 HC1.out) (p1_b w24 HC1.out) Ya.out Yb.out).mono ?_)
 rintro e w25 ⟨lg, sg, Ag, cg, Eg, rfl, Cg, Og, hb⟩
 refine ⟨_, rfl, ?_⟩
 replace HC1 := zH HM1 HC1 hb
 replace BD := zB BD hb
 replace Og := hide Og.out.rd
 replace hU := zU hU hU.size hb
 clear hb
 have Gg := zGd Eg ((gdu_ar Ya.out Yb.out hlen_mul))
 have Lg := zLe Gg
 have Yg := hide Gg.by_
 clear Gg
 refine zm (A := Ag) (m := lg.length) (c := cg) (s := sg) rfl rfl rfl ?_
 intro w26 Ng Bg hNg hb
 replace Bg := hide Bg
 replace HC1 := zH HM1 HC1 hb
 replace Og := zQ Og hb
 replace BD := zB BD hb
 have hzg : w.heap.size ≤ Ng := Nat.le_trans hU.size hNg
 clear hNg
 replace hU := zU hU hU.size hb
 clear hb
 refine sx_n (z2 [(79, z_t), (78, z_t)] (zv Bg.out rfl rfl ?_))
 refine zc rfl ((vWithSign_any false Ag lg cg sg _ Lg.out Cg Og.out Yg.out).mono ?_)
 rintro e w27 ⟨lu, su, Au, cu, Eu, rfl, Cu, Ou, hb⟩
 refine ⟨_, rfl, ?_⟩
 replace HC1 := zH HM1 HC1 hb
 replace Og := zQ Og hb
 replace Bg := zX Bg hb
 replace BD := zB BD hb
 replace Ou := hide Ou.out.rd
 replace hU := zU hU hU.size hb
 clear hb
 have Gu := zGd Eu ((cnt_gd (v := ⟨lg, sg⟩) Yg.out))
 have Lu := zLe Gu
 have Yu := hide Gu.by_
 clear Gu
 refine z1 [(82, .int .i64 ((lx.length : Nat)))] ?_
 refine zc rfl ((rfill_any 2 (lx.length) false _ Lx.out).mono ?_)
 rintro e w28 ⟨lv, sv, Av, cv, Ev, rfl, Cv, Ov, hb⟩
 refine ⟨_, rfl, ?_⟩
 replace HC1 := zH HM1 HC1 hb
 replace Og := zQ Og hb
 replace Ou := zQ Ou hb
 replace Bg := zX Bg hb
 replace BD := zB BD hb
 replace Ov := hide Ov.out.rd
 replace hU := zU hU hU.size hb
 clear hb
 have Gv := zGd Ev ((gd_xs (s := false) Gxx.out.pos Gxx.out.le))
 have Lv := zLe Gv
 have Yv := hide Gv.by_
 clear Gv
 refine zc rfl ((rsame_yes Au Av lu lv cu cv su sv _ Lu.out Lv.out Ou.out Ov.out (by rw [Eu.out, Ev.out, Eg.out, Lxx.out]; exact unk_ar Ya.out Yb.out (Or.inl HKa.out))).mono ?_)
 rintro e w29 ⟨rfl, hb⟩
 refine ⟨_, rfl, ?_⟩
 replace HC1 := zH HM1 HC1 hb
 replace Og := zQ Og hb
 replace Ou := zQ Ou hb
 replace Ov := zQ Ov hb
 replace Bg := zX Bg hb
 replace BD := zB BD hb
 replace hU := zU hU hU.size hb
 clear hb Ou Cu Lu Yu
 clear Ov Cv Lv Yv
 refine z2 [(86, z_f), (85, z_f)] (ze (zif (wp_skip (block_normal (then_normal (reg_lit ?_))))))
 refine z2 [(29, .int .i64 7), (87, .int .i64 7)] (ze ?_)
 clear Bg Og Cg Lg Yg
 clear BD
 refine zk (z_R Na Nb Nx Nz NV z_f 7) (fun X => ?_)
 refine round_s (zs (z1 [(30, z_t)] (ze (wp_seq (zit ?_)))))
 refine wp_skip (then_normal (wp_seq (wp_block (zs (z1 [(31, pt NV 14)] (zw (r1_TV _ HC1.out) 7 (by decide) rfl rfl ?_))))))
 refine zm2 24 58 rfl rfl rfl ?_
 intro w30 ND BD hb
 replace BD := hide BD
 replace HC1 := zH HM1 HC1 hb
 replace hU := zU hU hU.size hb
 clear hb
 refine sx_n (z1 [(33, pt Nx 0)] (zl (q1_x _ HC1.out) rfl rfl (z2 [(9, .int .i64 ((lx.length : Nat))), (35, .int .i64 ((lx.length : Nat)))] (sx_n (zv (q1_a _ HC1.out) rfl rfl ?_)))))
 refine zc rfl ((vKnown_w false Aa la ca sa _ La.out Ca (p1_a w30 HC1.out) Ya.out HKa.out).mono ?_)
 rintro e w31 ⟨rfl, hb⟩
 refine ⟨_, rfl, ?_⟩
 replace HC1 := zH HM1 HC1 hb
 replace BD := zB BD hb
 replace hU := zU hU hU.size hb
 clear hb
 refine z7 [(10, z_t), (43, z_t), (42, undef), (41, undef), (40, undef), (39, z_t), (38, z_t)] (ze (wp_seq (zs (z1 [(44, pt ND 0)] (zop BD.out rfl rfl ?_)))))
 refine ze (wp_block (wp_seq (zg 46 47 (zg 46 48 (zg 46 49 (zt [(46, z_t), (50, z_t)] ?_))))))
 refine wp_skip (then_normal (zit (wp_skip (block_normal (then_normal (zs ?_))))))
 refine z1 [(73, pt ND 1)] (zfn BD.out rfl rfl (zv (q1_a _ HC1.out) rfl rfl (zv (q1_b _ HC1.out) rfl rfl ?_)))
 refine zc rfl ((vDiv_any Aa Ab la lb ca cb sa sb _ La.out Lb.out Ca Cb (p1_a w31 HC1.out) (p1_b w31 HC1.out) Ya.out Yb.out).mono ?_)
 rintro e w32 ⟨lg, sg, Ag, cg, Eg, rfl, Cg, Og, hb⟩
 refine ⟨_, rfl, ?_⟩
 replace HC1 := zH HM1 HC1 hb
 replace BD := zB BD hb
 replace Og := hide Og.out.rd
 replace hU := zU hU hU.size hb
 clear hb
 have Gg := zGd Eg ((gdu_ar Ya.out Yb.out hlen_div))
 have Lg := zLe Gg
 have Yg := hide Gg.by_
 clear Gg
 refine zm (A := Ag) (m := lg.length) (c := cg) (s := sg) rfl rfl rfl ?_
 intro w33 Ng Bg hNg hb
 replace Bg := hide Bg
 replace HC1 := zH HM1 HC1 hb
 replace Og := zQ Og hb
 replace BD := zB BD hb
 have hzg : w.heap.size ≤ Ng := Nat.le_trans hU.size hNg
 clear hNg
 replace hU := zU hU hU.size hb
 clear hb
 refine sx_n (z2 [(79, z_t), (78, z_t)] (zv Bg.out rfl rfl ?_))
 refine zc rfl ((vWithSign_any false Ag lg cg sg _ Lg.out Cg Og.out Yg.out).mono ?_)
 rintro e w34 ⟨lu, su, Au, cu, Eu, rfl, Cu, Ou, hb⟩
 refine ⟨_, rfl, ?_⟩
 replace HC1 := zH HM1 HC1 hb
 replace Og := zQ Og hb
 replace Bg := zX Bg hb
 replace BD := zB BD hb
 replace Ou := hide Ou.out.rd
 replace hU := zU hU hU.size hb
 clear hb
 have Gu := zGd Eu ((cnt_gd (v := ⟨lg, sg⟩) Yg.out))
 have Lu := zLe Gu
 have Yu := hide Gu.by_
 clear Gu
 refine z1 [(82, .int .i64 ((lx.length : Nat)))] ?_
 refine zc rfl ((rfill_any 2 (lx.length) false _ Lx.out).mono ?_)
 rintro e w35 ⟨lv, sv, Av, cv, Ev, rfl, Cv, Ov, hb⟩
 refine ⟨_, rfl, ?_⟩
 replace HC1 := zH HM1 HC1 hb
 replace Og := zQ Og hb
 replace Ou := zQ Ou hb
 replace Bg := zX Bg hb
 replace BD := zB BD hb
 replace Ov := hide Ov.out.rd
 replace hU := zU hU hU.size hb
 clear hb
 have Gv := zGd Ev ((gd_xs (s := false) Gxx.out.pos Gxx.out.le))
 have Lv := zLe Gv
 have Yv := hide Gv.by_
 clear Gv
 refine zc rfl ((rsame_yes Au Av lu lv cu cv su sv _ Lu.out Lv.out Ou.out Ov.out (by rw [Eu.out, Ev.out, Eg.out, Lxx.out]; exact unk_ar Ya.out Yb.out (Or.inl HKa.out))).mono ?_)
 rintro e w36 ⟨rfl, hb⟩
 refine ⟨_, rfl, ?_⟩
 replace HC1 := zH HM1 HC1 hb
 replace Og := zQ Og hb
 replace Ou := zQ Ou hb
 replace Ov := zQ Ov hb
 replace Bg := zX Bg hb
 replace BD := zB BD hb
 replace hU := zU hU hU.size hb
 clear hb Ou Cu Lu Yu
 clear Ov Cv Lv Yv
 refine z2 [(86, z_f), (85, z_f)] (ze (zif (wp_skip (block_normal (then_normal (reg_lit ?_))))))
 refine z2 [(29, .int .i64 8), (87, .int .i64 8)] (ze ?_)
 clear Bg Og Cg Lg Yg
 clear BD
 refine zk (z_R Na Nb Nx Nz NV z_f 8) (fun X => ?_)
 refine round_s (zs (z1 [(30, z_t)] (ze (wp_seq (zit ?_)))))
 refine wp_skip (then_normal (wp_seq (wp_block (zs (z1 [(31, pt NV 16)] (zw (r1_TV _ HC1.out) 8 (by decide) rfl rfl ?_))))))
 refine zm2 25 60 rfl rfl rfl ?_
 intro w37 ND BD hb
 replace BD := hide BD
 replace HC1 := zH HM1 HC1 hb
 replace hU := zU hU hU.size hb
 clear hb
 refine sx_n (z1 [(33, pt Nx 0)] (zl (q1_x _ HC1.out) rfl rfl (z2 [(9, .int .i64 ((lx.length : Nat))), (35, .int .i64 ((lx.length : Nat)))] (sx_n (zv (q1_a _ HC1.out) rfl rfl ?_)))))
 refine zc rfl ((vKnown_w false Aa la ca sa _ La.out Ca (p1_a w37 HC1.out) Ya.out HKa.out).mono ?_)
 rintro e w38 ⟨rfl, hb⟩
 refine ⟨_, rfl, ?_⟩
 replace HC1 := zH HM1 HC1 hb
 replace BD := zB BD hb
 replace hU := zU hU hU.size hb
 clear hb
 refine z7 [(10, z_t), (43, z_t), (42, undef), (41, undef), (40, undef), (39, z_t), (38, z_t)] (ze (wp_seq (zs (z1 [(44, pt ND 0)] (zop BD.out rfl rfl ?_)))))
 refine ze (wp_block (wp_seq (zg 46 47 (zg 46 48 (zg 46 49 (zg 46 50 ?_))))))
 refine reg_lit (z2 [(46, z_t), (51, z_t)] (ze (zit (wp_skip (block_normal (then_normal ?_))))))
 refine zs (z1 [(73, pt ND 1)] (zfn BD.out rfl rfl (zv (q1_a _ HC1.out) rfl rfl (zv (q1_b _ HC1.out) rfl rfl ?_))))
 refine zc rfl ((vMod_any Aa Ab la lb ca cb sa sb _ La.out Lb.out Ca Cb (p1_a w38 HC1.out) (p1_b w38 HC1.out) Ya.out Yb.out).mono ?_)
 rintro e w39 ⟨lg, sg, Ag, cg, Eg, rfl, Cg, Og, hb⟩
 refine ⟨_, rfl, ?_⟩
 replace HC1 := zH HM1 HC1 hb
 replace BD := zB BD hb
 replace Og := hide Og.out.rd
 replace hU := zU hU hU.size hb
 clear hb
 have Gg := zGd Eg ((gdu_ar Ya.out Yb.out hlen_mod))
 have Lg := zLe Gg
 have Yg := hide Gg.by_
 clear Gg
 refine zm (A := Ag) (m := lg.length) (c := cg) (s := sg) rfl rfl rfl ?_
 intro w40 Ng Bg hNg hb
 replace Bg := hide Bg
 replace HC1 := zH HM1 HC1 hb
 replace Og := zQ Og hb
 replace BD := zB BD hb
 have hzg : w.heap.size ≤ Ng := Nat.le_trans hU.size hNg
 clear hNg
 replace hU := zU hU hU.size hb
 clear hb
 refine sx_n (z2 [(79, z_t), (78, z_t)] (zv Bg.out rfl rfl ?_))
 refine zc rfl ((vWithSign_any false Ag lg cg sg _ Lg.out Cg Og.out Yg.out).mono ?_)
 rintro e w41 ⟨lu, su, Au, cu, Eu, rfl, Cu, Ou, hb⟩
 refine ⟨_, rfl, ?_⟩
 replace HC1 := zH HM1 HC1 hb
 replace Og := zQ Og hb
 replace Bg := zX Bg hb
 replace BD := zB BD hb
 replace Ou := hide Ou.out.rd
 replace hU := zU hU hU.size hb
 clear hb
 have Gu := zGd Eu ((cnt_gd (v := ⟨lg, sg⟩) Yg.out))
 have Lu := zLe Gu
 have Yu := hide Gu.by_
 clear Gu
 refine z1 [(82, .int .i64 ((lx.length : Nat)))] ?_
 refine zc rfl ((rfill_any 2 (lx.length) false _ Lx.out).mono ?_)
 rintro e w42 ⟨lv, sv, Av, cv, Ev, rfl, Cv, Ov, hb⟩
 refine ⟨_, rfl, ?_⟩
 replace HC1 := zH HM1 HC1 hb
 replace Og := zQ Og hb
 replace Ou := zQ Ou hb
 replace Bg := zX Bg hb
 replace BD := zB BD hb
 replace Ov := hide Ov.out.rd
 replace hU := zU hU hU.size hb
 clear hb
 have Gv := zGd Ev ((gd_xs (s := false) Gxx.out.pos Gxx.out.le))
 have Lv := zLe Gv
 have Yv := hide Gv.by_
 clear Gv
 refine zc rfl ((rsame_yes Au Av lu lv cu cv su sv _ Lu.out Lv.out Ou.out Ov.out (by rw [Eu.out, Ev.out, Eg.out, Lxx.out]; exact unk_ar Ya.out Yb.out (Or.inl HKa.out))).mono ?_)
 rintro e w43 ⟨rfl, hb⟩
 refine ⟨_, rfl, ?_⟩
 replace HC1 := zH HM1 HC1 hb
 replace Og := zQ Og hb
 replace Ou := zQ Ou hb
 replace Ov := zQ Ov hb
 replace Bg := zX Bg hb
 replace BD := zB BD hb
 replace hU := zU hU hU.size hb
 clear hb Ou Cu Lu Yu
 clear Ov Cv Lv Yv
 refine z2 [(86, z_f), (85, z_f)] (ze (zif (wp_skip (block_normal (then_normal (reg_lit ?_))))))
 refine z2 [(29, .int .i64 9), (87, .int .i64 9)] (ze ?_)
 clear Bg Og Cg Lg Yg
 clear BD
 refine zk (z_R Na Nb Nx Nz NV z_f 9) (fun X => ?_)
 refine round_s (zs (z1 [(30, z_t)] (ze (wp_seq (zit ?_)))))
 refine wp_skip (then_normal (wp_seq (wp_block (zs (z1 [(31, pt NV 18)] (zw (r1_TV _ HC1.out) 9 (by decide) rfl rfl ?_))))))
 refine zm2 26 61 rfl rfl rfl ?_
 intro w44 ND BD hb
 replace BD := hide BD
 replace HC1 := zH HM1 HC1 hb
 replace hU := zU hU hU.size hb
 clear hb
 refine sx_n (z1 [(33, pt Nx 0)] (zl (q1_x _ HC1.out) rfl rfl (z2 [(9, .int .i64 ((lx.length : Nat))), (35, .int .i64 ((lx.length : Nat)))] (sx_n (zv (q1_a _ HC1.out) rfl rfl ?_)))))
 refine zc rfl ((vKnown_w false Aa la ca sa _ La.out Ca (p1_a w44 HC1.out) Ya.out HKa.out).mono ?_)
 rintro e w45 ⟨rfl, hb⟩
 refine ⟨_, rfl, ?_⟩
 replace HC1 := zH HM1 HC1 hb
 replace BD := zB BD hb
 replace hU := zU hU hU.size hb
 clear hb
 refine z7 [(10, z_t), (43, z_t), (42, undef), (41, undef), (40, undef), (39, z_t), (38, z_t)] (ze (wp_seq (zs (z1 [(44, pt ND 0)] (zop BD.out rfl rfl ?_)))))
 refine ze (wp_block (wp_seq (zg 46 47 (zg 46 48 (zg 46 49 (zg 46 50 ?_))))))
 refine reg_lit (z2 [(46, z_f), (51, z_f)] (ze (zif (wp_seq (zg 52 53 (zg 52 54 ?_))))))
 refine zg 52 55 (reg_lit (z2 [(52, z_f), (56, z_f)] (ze (zif (zt [(57, z_t), (58, z_t)] (reg_lit ?_))))))
 refine z1 [(59, pt Nz 0)] (zl (q1_z _ HC1.out) rfl rfl (z2 [(9, .int .i64 ((ly.length : Nat))), (61, .int .i64 ((ly.length : Nat)))] (wpl_end (block_normal (then_normal (zs ?_))))))
 refine z1 [(73, pt ND 1)] (zfn BD.out rfl rfl (zv (q1_a _ HC1.out) rfl rfl (zv (q1_b _ HC1.out) rfl rfl ?_)))
 refine zc rfl ((vPow_any Aa Ab la lb ca cb sa sb _ La.out Lb.out Ca Cb (p1_a w45 HC1.out) (p1_b w45 HC1.out) Ya.out Yb.out (HT.out.kept hU)).mono ?_)
 rintro e w46 ⟨lg, sg, Ag, cg, Eg, rfl, Cg, Og, hb⟩
 refine ⟨_, rfl, ?_⟩
 replace HC1 := zH HM1 HC1 hb
 replace BD := zB BD hb
 replace Og := hide Og.out.rd
 replace hU := zU hU hU.size hb
 clear hb
 have Gg := zGd Eg ((gdu_pow Ya.out))
 have Lg := zLe Gg
 have Yg := hide Gg.by_
 clear Gg
 refine zm (A := Ag) (m := lg.length) (c := cg) (s := sg) rfl rfl rfl ?_
 intro w47 Ng Bg hNg hb
 replace Bg := hide Bg
 replace HC1 := zH HM1 HC1 hb
 replace Og := zQ Og hb
 replace BD := zB BD hb
 have hzg : w.heap.size ≤ Ng := Nat.le_trans hU.size hNg
 clear hNg
 replace hU := zU hU hU.size hb
 clear hb
 refine sx_n (z2 [(79, z_t), (78, z_t)] (zv Bg.out rfl rfl ?_))
 refine zc rfl ((vWithSign_any false Ag lg cg sg _ Lg.out Cg Og.out Yg.out).mono ?_)
 rintro e w48 ⟨lu, su, Au, cu, Eu, rfl, Cu, Ou, hb⟩
 refine ⟨_, rfl, ?_⟩
 replace HC1 := zH HM1 HC1 hb
 replace Og := zQ Og hb
 replace Bg := zX Bg hb
 replace BD := zB BD hb
 replace Ou := hide Ou.out.rd
 replace hU := zU hU hU.size hb
 clear hb
 have Gu := zGd Eu ((cnt_gd (v := ⟨lg, sg⟩) Yg.out))
 have Lu := zLe Gu
 have Yu := hide Gu.by_
 clear Gu
 refine z1 [(82, .int .i64 ((ly.length : Nat)))] ?_
 refine zc rfl ((rfill_any 2 (ly.length) false _ Ly.out).mono ?_)
 rintro e w49 ⟨lv, sv, Av, cv, Ev, rfl, Cv, Ov, hb⟩
 refine ⟨_, rfl, ?_⟩
 replace HC1 := zH HM1 HC1 hb
 replace Og := zQ Og hb
 replace Ou := zQ Ou hb
 replace Bg := zX Bg hb
 replace BD := zB BD hb
 replace Ov := hide Ov.out.rd
 replace hU := zU hU hU.size hb
 clear hb
 have Gv := zGd Ev ((gd_xs (s := false) Gyy.out.pos Gyy.out.le))
 have Lv := zLe Gv
 have Yv := hide Gv.by_
 clear Gv
 refine zc rfl ((rsame_yes Au Av lu lv cu cv su sv _ Lu.out Lv.out Ou.out Ov.out (by rw [Eu.out, Ev.out, Eg.out, Lyy.out]; exact unk_pow Ya.out Yb.out (Or.inl HKa.out))).mono ?_)
 rintro e w50 ⟨rfl, hb⟩
 refine ⟨_, rfl, ?_⟩
 replace HC1 := zH HM1 HC1 hb
 replace Og := zQ Og hb
 replace Ou := zQ Ou hb
 replace Ov := zQ Ov hb
 replace Bg := zX Bg hb
 replace BD := zB BD hb
 replace hU := zU hU hU.size hb
 clear hb Ou Cu Lu Yu
 clear Ov Cv Lv Yv
 refine z2 [(86, z_f), (85, z_f)] (ze (zif (wp_skip (block_normal (then_normal (reg_lit ?_))))))
 refine z2 [(29, .int .i64 10), (87, .int .i64 10)] (ze ?_)
 clear Bg Og Cg Lg Yg
 clear BD
 refine zk (z_R Na Nb Nx Nz NV z_f 10) (fun X => ?_)
 refine round_s (zs (z1 [(30, z_t)] (ze (wp_seq (zit ?_)))))
 refine wp_skip (then_normal (wp_seq (wp_block (zs (z1 [(31, pt NV 20)] (zw (r1_TV _ HC1.out) 10 (by decide) rfl rfl ?_))))))
 refine zm2 27 91 rfl rfl rfl ?_
 intro w51 ND BD hb
 replace BD := hide BD
 replace HC1 := zH HM1 HC1 hb
 replace hU := zU hU hU.size hb
 clear hb
 refine sx_n (z1 [(33, pt Nx 0)] (zl (q1_x _ HC1.out) rfl rfl (z2 [(9, .int .i64 ((lx.length : Nat))), (35, .int .i64 ((lx.length : Nat)))] (sx_n (zv (q1_a _ HC1.out) rfl rfl ?_)))))
 refine zc rfl ((vKnown_w false Aa la ca sa _ La.out Ca (p1_a w51 HC1.out) Ya.out HKa.out).mono ?_)
 rintro e w52 ⟨rfl, hb⟩
 refine ⟨_, rfl, ?_⟩
 replace HC1 := zH HM1 HC1 hb
 replace BD := zB BD hb
 replace hU := zU hU hU.size hb
 clear hb
 refine z7 [(10, z_t), (43, z_t), (42, undef), (41, undef), (40, undef), (39, z_t), (38, z_t)] (ze (wp_seq (zs (z1 [(44, pt ND 0)] (zop BD.out rfl rfl ?_)))))
 refine ze (wp_block (wp_seq (zg 46 47 (zg 46 48 (zg 46 49 (zg 46 50 ?_))))))
 refine reg_lit (z2 [(46, z_f), (51, z_f)] (ze (zif (wp_seq (zg 52 53 (zg 52 54 ?_))))))
 refine zg 52 55 (reg_lit (z2 [(52, z_f), (56, z_f)] (ze (zif (zg 57 58 (wp_seq ?_))))))
 refine zg 62 63 (zg 62 64 (zg 62 65 (reg_lit (z2 [(62, z_f), (66, z_f)] (ze (zif ?_))))))
 refine wp_exit (exit_pass rfl (then_exit (exit_here (then_normal (reg_lit (z2 [(29, .int .i64 11), (87, .int .i64 11)] (wpl_end ?_)))))))
 refine then_normal ?_
 clear BD
 refine zk (z_R Na Nb Nx Nz NV z_f 11) (fun X => ?_)
 refine round_s (zs (z1 [(30, z_t)] (ze (wp_seq (zit ?_)))))
 refine wp_skip (then_normal (wp_seq (wp_block (zs (z1 [(31, pt NV 22)] (zw (r1_TV _ HC1.out) 11 (by decide) rfl rfl ?_))))))
 refine zm2 28 80 rfl rfl rfl ?_
 intro w53 ND BD hb
 replace BD := hide BD
 replace HC1 := zH HM1 HC1 hb
 replace hU := zU hU hU.size hb
 clear hb
 refine sx_n (z1 [(33, pt Nx 0)] (zl (q1_x _ HC1.out) rfl rfl (z2 [(9, .int .i64 ((lx.length : Nat))), (35, .int .i64 ((lx.length : Nat)))] (sx_n (zv (q1_a _ HC1.out) rfl rfl ?_)))))
 refine zc rfl ((vKnown_w false Aa la ca sa _ La.out Ca (p1_a w53 HC1.out) Ya.out HKa.out).mono ?_)
 rintro e w54 ⟨rfl, hb⟩
 refine ⟨_, rfl, ?_⟩
 replace HC1 := zH HM1 HC1 hb
 replace BD := zB BD hb
 replace hU := zU hU hU.size hb
 clear hb
 refine z7 [(10, z_t), (43, z_t), (42, undef), (41, undef), (40, undef), (39, z_t), (38, z_t)] (ze (wp_seq (zs (z1 [(44, pt ND 0)] (zop BD.out rfl rfl ?_)))))
 refine ze (wp_block (wp_seq (zg 46 47 (zg 46 48 (zg 46 49 (zg 46 50 ?_))))))
 refine reg_lit (z2 [(46, z_f), (51, z_f)] (ze (zif (wp_seq (zg 52 53 (zg 52 54 ?_))))))
 refine zg 52 55 (reg_lit (z2 [(52, z_f), (56, z_f)] (ze (zif (zg 57 58 (wp_seq ?_))))))
 refine zg 62 63 (zg 62 64 (zg 62 65 (reg_lit (z2 [(62, z_f), (66, z_f)] (ze (zif ?_))))))
 refine wp_exit (exit_pass rfl (then_exit (exit_here (then_normal (reg_lit (z2 [(29, .int .i64 12), (87, .int .i64 12)] (wpl_end ?_)))))))
 refine then_normal ?_
 clear BD
 refine zk (z_R Na Nb Nx Nz NV z_f 12) (fun X => ?_)
 refine round_s (zs (z1 [(30, z_t)] (ze (wp_seq (zit ?_)))))
 refine wp_skip (then_normal (wp_seq (wp_block (zs (z1 [(31, pt NV 24)] (zw (r1_TV _ HC1.out) 12 (by decide) rfl rfl ?_))))))
 refine zm2 31 76 rfl rfl rfl ?_
 intro w55 ND BD hb
 replace BD := hide BD
 replace HC1 := zH HM1 HC1 hb
 replace hU := zU hU hU.size hb
 clear hb
 refine sx_n (z1 [(33, pt Nx 0)] (zl (q1_x _ HC1.out) rfl rfl (z2 [(9, .int .i64 ((lx.length : Nat))), (35, .int .i64 ((lx.length : Nat)))] (sx_n (zv (q1_a _ HC1.out) rfl rfl ?_)))))
 refine zc rfl ((vKnown_w false Aa la ca sa _ La.out Ca (p1_a w55 HC1.out) Ya.out HKa.out).mono ?_)
 rintro e w56 ⟨rfl, hb⟩
 refine ⟨_, rfl, ?_⟩
 replace HC1 := zH HM1 HC1 hb
 replace BD := zB BD hb
 replace hU := zU hU hU.size hb
 clear hb
 refine z7 [(10, z_t), (43, z_t), (42, undef), (41, undef), (40, undef), (39, z_t), (38, z_t)] (ze (wp_seq (zs (z1 [(44, pt ND 0)] (zop BD.out rfl rfl ?_)))))
 refine ze (wp_block (wp_seq (zg 46 47 (zg 46 48 (zg 46 49 (zg 46 50 ?_))))))
 refine reg_lit (z2 [(46, z_f), (51, z_f)] (ze (zif (wp_seq (zt [(52, z_t), (53, z_t)] (wp_skip ?_))))))
 refine then_normal (zit (reg_lit (z1 [(9, .int .i64 1)] (wpl_end (block_normal (then_normal (wp_seq ?_)))))))
 refine reg_lit (z1 [(73, pt ND 1)] (zfn BD.out rfl rfl (zv (q1_a _ HC1.out) rfl rfl (zv (q1_b _ HC1.out) rfl rfl ?_))))
 refine zc rfl ((vLt_any Aa Ab la lb ca cb sa sb _ La.out Lb.out Ca Cb (p1_a w56 HC1.out) (p1_b w56 HC1.out) Ya.out Yb.out).mono ?_)
 rintro e w57 ⟨lg, sg, Ag, cg, Eg, rfl, Cg, Og, hb⟩
 refine ⟨_, rfl, ?_⟩
 replace HC1 := zH HM1 HC1 hb
 replace BD := zB BD hb
 replace Og := hide Og.out.rd
 replace hU := zU hU hU.size hb
 clear hb
 have Gg := zGd Eg ((gdu_cmp _ _ _))
 have Lg := zLe Gg
 have Yg := hide Gg.by_
 clear Gg
 refine zm (A := Ag) (m := lg.length) (c := cg) (s := sg) rfl rfl rfl ?_
 intro w58 Ng Bg hNg hb
 replace Bg := hide Bg
 replace HC1 := zH HM1 HC1 hb
 replace Og := zQ Og hb
 replace BD := zB BD hb
 have hzg : w.heap.size ≤ Ng := Nat.le_trans hU.size hNg
 clear hNg
 replace hU := zU hU hU.size hb
 clear hb
 refine sx_n (z2 [(79, z_t), (78, z_t)] (zv Bg.out rfl rfl ?_))
 refine zc rfl ((vWithSign_any false Ag lg cg sg _ Lg.out Cg Og.out Yg.out).mono ?_)
 rintro e w59 ⟨lu, su, Au, cu, Eu, rfl, Cu, Ou, hb⟩
 refine ⟨_, rfl, ?_⟩
 replace HC1 := zH HM1 HC1 hb
 replace Og := zQ Og hb
 replace Bg := zX Bg hb
 replace BD := zB BD hb
 replace Ou := hide Ou.out.rd
 replace hU := zU hU hU.size hb
 clear hb
 have Gu := zGd Eu ((cnt_gd (v := ⟨lg, sg⟩) Yg.out))
 have Lu := zLe Gu
 have Yu := hide Gu.by_
 clear Gu
 refine z1 [(82, .int .i64 1)] ?_
 refine zc rfl ((rfill_any 2 (1) false _ (by decide)).mono ?_)
 rintro e w60 ⟨lv, sv, Av, cv, Ev, rfl, Cv, Ov, hb⟩
 refine ⟨_, rfl, ?_⟩
 replace HC1 := zH HM1 HC1 hb
 replace Og := zQ Og hb
 replace Ou := zQ Ou hb
 replace Bg := zX Bg hb
 replace BD := zB BD hb
 replace Ov := hide Ov.out.rd
 replace hU := zU hU hU.size hb
 clear hb
 have Gv := zGd Ev ((gd_xs (n := 1) (s := false) (by decide) (by decide)))
 have Lv := zLe Gv
 have Yv := hide Gv.by_
 clear Gv
 refine zc rfl ((rsame_yes Au Av lu lv cu cv su sv _ Lu.out Lv.out Ou.out Ov.out (by rw [Eu.out, Ev.out, Eg.out]; exact unk_cmp Ya.out Yb.out (Or.inl HKa.out))).mono ?_)
 rintro e w61 ⟨rfl, hb⟩
 refine ⟨_, rfl, ?_⟩
 replace HC1 := zH HM1 HC1 hb
 replace Og := zQ Og hb
 replace Ou := zQ Ou hb
 replace Ov := zQ Ov hb
 replace Bg := zX Bg hb
 replace BD := zB BD hb
 replace hU := zU hU hU.size hb
 clear hb Ou Cu Lu Yu
 clear Ov Cv Lv Yv
 refine z2 [(86, z_f), (85, z_f)] (ze (zif (wp_skip (block_normal (then_normal (reg_lit ?_))))))
 refine z2 [(29, .int .i64 13), (87, .int .i64 13)] (ze ?_)
 clear Bg Og Cg Lg Yg
 clear BD
 refine zk (z_R Na Nb Nx Nz NV z_f 13) (fun X => ?_)
 refine round_s (zs (z1 [(30, z_t)] (ze (wp_seq (zit ?_)))))
 refine wp_skip (then_normal (wp_seq (wp_block (zs (z1 [(31, pt NV 26)] (zw (r1_TV _ HC1.out) 13 (by decide) rfl rfl ?_))))))
 refine zm2 32 78 rfl rfl rfl ?_
 intro w62 ND BD hb
 replace BD := hide BD
 replace HC1 := zH HM1 HC1 hb
 replace hU := zU hU hU.size hb
 clear hb
 refine sx_n (z1 [(33, pt Nx 0)] (zl (q1_x _ HC1.out) rfl rfl (z2 [(9, .int .i64 ((lx.length : Nat))), (35, .int .i64 ((lx.length : Nat)))] (sx_n (zv (q1_a _ HC1.out) rfl rfl ?_)))))
 refine zc rfl ((vKnown_w false Aa la ca sa _ La.out Ca (p1_a w62 HC1.out) Ya.out HKa.out).mono ?_)
 rintro e w63 ⟨rfl, hb⟩
 refine ⟨_, rfl, ?_⟩
 replace HC1 := zH HM1 HC1 hb
 replace BD := zB BD hb
 replace hU := zU hU hU.size hb
 clear hb
 refine z7 [(10, z_t), (43, z_t), (42, undef), (41, undef), (40, undef), (39, z_t), (38, z_t)] (ze (wp_seq (zs (z1 [(44, pt ND 0)] (zop BD.out rfl rfl ?_)))))
 refine ze (wp_block (wp_seq (zg 46 47 (zg 46 48 (zg 46 49 (zg 46 50 ?_))))))
 refine reg_lit (z2 [(46, z_f), (51, z_f)] (ze (zif (wp_seq (zg 52 53 (zt [(52, z_t), (54, z_t)] ?_))))))
 refine wp_skip (then_normal (zit (reg_lit (z1 [(9, .int .i64 1)] (wpl_end (block_normal (then_normal ?_)))))))
 refine zs (z1 [(73, pt ND 1)] (zfn BD.out rfl rfl (zv (q1_a _ HC1.out) rfl rfl (zv (q1_b _ HC1.out) rfl rfl ?_))))
 refine zc rfl ((vLe_any Aa Ab la lb ca cb sa sb _ La.out Lb.out Ca Cb (p1_a w63 HC1.out) (p1_b w63 HC1.out) Ya.out Yb.out).mono ?_)
 rintro e w64 ⟨lg, sg, Ag, cg, Eg, rfl, Cg, Og, hb⟩
 refine ⟨_, rfl, ?_⟩
 replace HC1 := zH HM1 HC1 hb
 replace BD := zB BD hb
 replace Og := hide Og.out.rd
 replace hU := zU hU hU.size hb
 clear hb
 have Gg := zGd Eg ((gdu_cmp _ _ _))
 have Lg := zLe Gg
 have Yg := hide Gg.by_
 clear Gg
 refine zm (A := Ag) (m := lg.length) (c := cg) (s := sg) rfl rfl rfl ?_
 intro w65 Ng Bg hNg hb
 replace Bg := hide Bg
 replace HC1 := zH HM1 HC1 hb
 replace Og := zQ Og hb
 replace BD := zB BD hb
 have hzg : w.heap.size ≤ Ng := Nat.le_trans hU.size hNg
 clear hNg
 replace hU := zU hU hU.size hb
 clear hb
 refine sx_n (z2 [(79, z_t), (78, z_t)] (zv Bg.out rfl rfl ?_))
 refine zc rfl ((vWithSign_any false Ag lg cg sg _ Lg.out Cg Og.out Yg.out).mono ?_)
 rintro e w66 ⟨lu, su, Au, cu, Eu, rfl, Cu, Ou, hb⟩
 refine ⟨_, rfl, ?_⟩
 replace HC1 := zH HM1 HC1 hb
 replace Og := zQ Og hb
 replace Bg := zX Bg hb
 replace BD := zB BD hb
 replace Ou := hide Ou.out.rd
 replace hU := zU hU hU.size hb
 clear hb
 have Gu := zGd Eu ((cnt_gd (v := ⟨lg, sg⟩) Yg.out))
 have Lu := zLe Gu
 have Yu := hide Gu.by_
 clear Gu
 refine z1 [(82, .int .i64 1)] ?_
 refine zc rfl ((rfill_any 2 (1) false _ (by decide)).mono ?_)
 rintro e w67 ⟨lv, sv, Av, cv, Ev, rfl, Cv, Ov, hb⟩
 refine ⟨_, rfl, ?_⟩
 replace HC1 := zH HM1 HC1 hb
 replace Og := zQ Og hb
 replace Ou := zQ Ou hb
 replace Bg := zX Bg hb
 replace BD := zB BD hb
 replace Ov := hide Ov.out.rd
 replace hU := zU hU hU.size hb
 clear hb
 have Gv := zGd Ev ((gd_xs (n := 1) (s := false) (by decide) (by decide)))
 have Lv := zLe Gv
 have Yv := hide Gv.by_
 clear Gv
 refine zc rfl ((rsame_yes Au Av lu lv cu cv su sv _ Lu.out Lv.out Ou.out Ov.out (by rw [Eu.out, Ev.out, Eg.out]; exact unk_cmp Ya.out Yb.out (Or.inl HKa.out))).mono ?_)
 rintro e w68 ⟨rfl, hb⟩
 refine ⟨_, rfl, ?_⟩
 replace HC1 := zH HM1 HC1 hb
 replace Og := zQ Og hb
 replace Ou := zQ Ou hb
 replace Ov := zQ Ov hb
 replace Bg := zX Bg hb
 replace BD := zB BD hb
 replace hU := zU hU hU.size hb
 clear hb Ou Cu Lu Yu
 clear Ov Cv Lv Yv
 refine z2 [(86, z_f), (85, z_f)] (ze (zif (wp_skip (block_normal (then_normal (reg_lit ?_))))))
 refine z2 [(29, .int .i64 14), (87, .int .i64 14)] (ze ?_)
 clear Bg Og Cg Lg Yg
 clear BD
 refine zk (z_R Na Nb Nx Nz NV z_f 14) (fun X => ?_)
 refine round_s (zs (z1 [(30, z_t)] (ze (wp_seq (zit ?_)))))
 refine wp_skip (then_normal (wp_seq (wp_block (zs (z1 [(31, pt NV 28)] (zw (r1_TV _ HC1.out) 14 (by decide) rfl rfl ?_))))))
 refine zm2 33 79 rfl rfl rfl ?_
 intro w69 ND BD hb
 replace BD := hide BD
 replace HC1 := zH HM1 HC1 hb
 replace hU := zU hU hU.size hb
 clear hb
 refine sx_n (z1 [(33, pt Nx 0)] (zl (q1_x _ HC1.out) rfl rfl (z2 [(9, .int .i64 ((lx.length : Nat))), (35, .int .i64 ((lx.length : Nat)))] (sx_n (zv (q1_a _ HC1.out) rfl rfl ?_)))))
 refine zc rfl ((vKnown_w false Aa la ca sa _ La.out Ca (p1_a w69 HC1.out) Ya.out HKa.out).mono ?_)
 rintro e w70 ⟨rfl, hb⟩
 refine ⟨_, rfl, ?_⟩
 replace HC1 := zH HM1 HC1 hb
 replace BD := zB BD hb
 replace hU := zU hU hU.size hb
 clear hb
 refine z7 [(10, z_t), (43, z_t), (42, undef), (41, undef), (40, undef), (39, z_t), (38, z_t)] (ze (wp_seq (zs (z1 [(44, pt ND 0)] (zop BD.out rfl rfl ?_)))))
 refine ze (wp_block (wp_seq (zg 46 47 (zg 46 48 (zg 46 49 (zg 46 50 ?_))))))
 refine reg_lit (z2 [(46, z_f), (51, z_f)] (ze (zif (wp_seq (zg 52 53 (zg 52 54 ?_))))))
 refine zt [(52, z_t), (55, z_t)] (wp_skip (then_normal (zit (reg_lit (z1 [(9, .int .i64 1)] (wpl_end (block_normal ?_)))))))
 refine then_normal (zs (z1 [(73, pt ND 1)] (zfn BD.out rfl rfl (zv (q1_a _ HC1.out) rfl rfl (zv (q1_b _ HC1.out) rfl rfl ?_)))))
 refine zc rfl ((vGt_any Aa Ab la lb ca cb sa sb _ La.out Lb.out Ca Cb (p1_a w70 HC1.out) (p1_b w70 HC1.out) Ya.out Yb.out).mono ?_)
 rintro e w71 ⟨lg, sg, Ag, cg, Eg, rfl, Cg, Og, hb⟩
 refine ⟨_, rfl, ?_⟩
 replace HC1 := zH HM1 HC1 hb
 replace BD := zB BD hb
 replace Og := hide Og.out.rd
 replace hU := zU hU hU.size hb
 clear hb
 have Gg := zGd Eg ((gdu_cmp _ _ _))
 have Lg := zLe Gg
 have Yg := hide Gg.by_
 clear Gg
 refine zm (A := Ag) (m := lg.length) (c := cg) (s := sg) rfl rfl rfl ?_
 intro w72 Ng Bg hNg hb
 replace Bg := hide Bg
 replace HC1 := zH HM1 HC1 hb
 replace Og := zQ Og hb
 replace BD := zB BD hb
 have hzg : w.heap.size ≤ Ng := Nat.le_trans hU.size hNg
 clear hNg
 replace hU := zU hU hU.size hb
 clear hb
 refine sx_n (z2 [(79, z_t), (78, z_t)] (zv Bg.out rfl rfl ?_))
 refine zc rfl ((vWithSign_any false Ag lg cg sg _ Lg.out Cg Og.out Yg.out).mono ?_)
 rintro e w73 ⟨lu, su, Au, cu, Eu, rfl, Cu, Ou, hb⟩
 refine ⟨_, rfl, ?_⟩
 replace HC1 := zH HM1 HC1 hb
 replace Og := zQ Og hb
 replace Bg := zX Bg hb
 replace BD := zB BD hb
 replace Ou := hide Ou.out.rd
 replace hU := zU hU hU.size hb
 clear hb
 have Gu := zGd Eu ((cnt_gd (v := ⟨lg, sg⟩) Yg.out))
 have Lu := zLe Gu
 have Yu := hide Gu.by_
 clear Gu
 refine z1 [(82, .int .i64 1)] ?_
 refine zc rfl ((rfill_any 2 (1) false _ (by decide)).mono ?_)
 rintro e w74 ⟨lv, sv, Av, cv, Ev, rfl, Cv, Ov, hb⟩
 refine ⟨_, rfl, ?_⟩
 replace HC1 := zH HM1 HC1 hb
 replace Og := zQ Og hb
 replace Ou := zQ Ou hb
 replace Bg := zX Bg hb
 replace BD := zB BD hb
 replace Ov := hide Ov.out.rd
 replace hU := zU hU hU.size hb
 clear hb
 have Gv := zGd Ev ((gd_xs (n := 1) (s := false) (by decide) (by decide)))
 have Lv := zLe Gv
 have Yv := hide Gv.by_
 clear Gv
 refine zc rfl ((rsame_yes Au Av lu lv cu cv su sv _ Lu.out Lv.out Ou.out Ov.out (by rw [Eu.out, Ev.out, Eg.out]; exact unk_cmp Ya.out Yb.out (Or.inl HKa.out))).mono ?_)
 rintro e w75 ⟨rfl, hb⟩
 refine ⟨_, rfl, ?_⟩
 replace HC1 := zH HM1 HC1 hb
 replace Og := zQ Og hb
 replace Ou := zQ Ou hb
 replace Ov := zQ Ov hb
 replace Bg := zX Bg hb
 replace BD := zB BD hb
 replace hU := zU hU hU.size hb
 clear hb Ou Cu Lu Yu
 clear Ov Cv Lv Yv
 refine z2 [(86, z_f), (85, z_f)] (ze (zif (wp_skip (block_normal (then_normal (reg_lit ?_))))))
 refine z2 [(29, .int .i64 15), (87, .int .i64 15)] (ze ?_)
 clear Bg Og Cg Lg Yg
 clear BD
 refine zk (z_R Na Nb Nx Nz NV z_f 15) (fun X => ?_)
 refine round_s (zs (z1 [(30, z_t)] (ze (wp_seq (zit ?_)))))
 refine wp_skip (then_normal (wp_seq (wp_block (zs (z1 [(31, pt NV 30)] (zw (r1_TV _ HC1.out) 15 (by decide) rfl rfl ?_))))))
 refine zm2 34 77 rfl rfl rfl ?_
 intro w76 ND BD hb
 replace BD := hide BD
 replace HC1 := zH HM1 HC1 hb
 replace hU := zU hU hU.size hb
 clear hb
 refine sx_n (z1 [(33, pt Nx 0)] (zl (q1_x _ HC1.out) rfl rfl (z2 [(9, .int .i64 ((lx.length : Nat))), (35, .int .i64 ((lx.length : Nat)))] (sx_n (zv (q1_a _ HC1.out) rfl rfl ?_)))))
 refine zc rfl ((vKnown_w false Aa la ca sa _ La.out Ca (p1_a w76 HC1.out) Ya.out HKa.out).mono ?_)
 rintro e w77 ⟨rfl, hb⟩
 refine ⟨_, rfl, ?_⟩
 replace HC1 := zH HM1 HC1 hb
 replace BD := zB BD hb
 replace hU := zU hU hU.size hb
 clear hb
 refine z7 [(10, z_t), (43, z_t), (42, undef), (41, undef), (40, undef), (39, z_t), (38, z_t)] (ze (wp_seq (zs (z1 [(44, pt ND 0)] (zop BD.out rfl rfl ?_)))))
 refine ze (wp_block (wp_seq (zg 46 47 (zg 46 48 (zg 46 49 (zg 46 50 ?_))))))
 refine reg_lit (z2 [(46, z_f), (51, z_f)] (ze (zif (wp_seq (zg 52 53 (zg 52 54 ?_))))))
 refine zg 52 55 (reg_lit (z2 [(52, z_t), (56, z_t)] (ze (zit (reg_lit (z1 [(9, .int .i64 1)] ?_))))))
 refine wpl_end (block_normal (then_normal (zs (z1 [(73, pt ND 1)] (zfn BD.out rfl rfl (zv (q1_a _ HC1.out) rfl rfl ?_))))))
 refine zv (q1_b _ HC1.out) rfl rfl ?_
 refine zc rfl ((vGe_any Aa Ab la lb ca cb sa sb _ La.out Lb.out Ca Cb (p1_a w77 HC1.out) (p1_b w77 HC1.out) Ya.out Yb.out).mono ?_)
 rintro e w78 ⟨lg, sg, Ag, cg, Eg, rfl, Cg, Og, hb⟩
 refine ⟨_, rfl, ?_⟩
 replace HC1 := zH HM1 HC1 hb
 replace BD := zB BD hb
 replace Og := hide Og.out.rd
 replace hU := zU hU hU.size hb
 clear hb
 have Gg := zGd Eg ((gdu_cmp _ _ _))
 have Lg := zLe Gg
 have Yg := hide Gg.by_
 clear Gg
 refine zm (A := Ag) (m := lg.length) (c := cg) (s := sg) rfl rfl rfl ?_
 intro w79 Ng Bg hNg hb
 replace Bg := hide Bg
 replace HC1 := zH HM1 HC1 hb
 replace Og := zQ Og hb
 replace BD := zB BD hb
 have hzg : w.heap.size ≤ Ng := Nat.le_trans hU.size hNg
 clear hNg
 replace hU := zU hU hU.size hb
 clear hb
 refine sx_n (z2 [(79, z_t), (78, z_t)] (zv Bg.out rfl rfl ?_))
 refine zc rfl ((vWithSign_any false Ag lg cg sg _ Lg.out Cg Og.out Yg.out).mono ?_)
 rintro e w80 ⟨lu, su, Au, cu, Eu, rfl, Cu, Ou, hb⟩
 refine ⟨_, rfl, ?_⟩
 replace HC1 := zH HM1 HC1 hb
 replace Og := zQ Og hb
 replace Bg := zX Bg hb
 replace BD := zB BD hb
 replace Ou := hide Ou.out.rd
 replace hU := zU hU hU.size hb
 clear hb
 have Gu := zGd Eu ((cnt_gd (v := ⟨lg, sg⟩) Yg.out))
 have Lu := zLe Gu
 have Yu := hide Gu.by_
 clear Gu
 refine z1 [(82, .int .i64 1)] ?_
 refine zc rfl ((rfill_any 2 (1) false _ (by decide)).mono ?_)
 rintro e w81 ⟨lv, sv, Av, cv, Ev, rfl, Cv, Ov, hb⟩
 refine ⟨_, rfl, ?_⟩
 replace HC1 := zH HM1 HC1 hb
 replace Og := zQ Og hb
 replace Ou := zQ Ou hb
 replace Bg := zX Bg hb
 replace BD := zB BD hb
 replace Ov := hide Ov.out.rd
 replace hU := zU hU hU.size hb
 clear hb
 have Gv := zGd Ev ((gd_xs (n := 1) (s := false) (by decide) (by decide)))
 have Lv := zLe Gv
 have Yv := hide Gv.by_
 clear Gv
 refine zc rfl ((rsame_yes Au Av lu lv cu cv su sv _ Lu.out Lv.out Ou.out Ov.out (by rw [Eu.out, Ev.out, Eg.out]; exact unk_cmp Ya.out Yb.out (Or.inl HKa.out))).mono ?_)
 rintro e w82 ⟨rfl, hb⟩
 refine ⟨_, rfl, ?_⟩
 replace HC1 := zH HM1 HC1 hb
 replace Og := zQ Og hb
 replace Ou := zQ Ou hb
 replace Ov := zQ Ov hb
 replace Bg := zX Bg hb
 replace BD := zB BD hb
 replace hU := zU hU hU.size hb
 clear hb Ou Cu Lu Yu
 clear Ov Cv Lv Yv
 refine z2 [(86, z_f), (85, z_f)] (ze (zif (wp_skip (block_normal (then_normal (reg_lit ?_))))))
 refine z2 [(29, .int .i64 16), (87, .int .i64 16)] (ze ?_)
 clear Bg Og Cg Lg Yg
 clear BD
 refine zk (z_R Na Nb Nx Nz NV z_f 16) (fun X => ?_)
 refine round_s (zs (z1 [(30, z_t)] (ze (wp_seq (zit ?_)))))
 refine wp_skip (then_normal (wp_seq (wp_block (zs (z1 [(31, pt NV 32)] (zw (r1_TV _ HC1.out) 16 (by decide) rfl rfl ?_))))))
 refine zm2 35 73 rfl rfl rfl ?_
 intro w83 ND BD hb
 replace BD := hide BD
 replace HC1 := zH HM1 HC1 hb
 replace hU := zU hU hU.size hb
 clear hb
 refine sx_n (z1 [(33, pt Nx 0)] (zl (q1_x _ HC1.out) rfl rfl (z2 [(9, .int .i64 ((lx.length : Nat))), (35, .int .i64 ((lx.length : Nat)))] (sx_n (zv (q1_a _ HC1.out) rfl rfl ?_)))))
 refine zc rfl ((vKnown_w false Aa la ca sa _ La.out Ca (p1_a w83 HC1.out) Ya.out HKa.out).mono ?_)
 rintro e w84 ⟨rfl, hb⟩
 refine ⟨_, rfl, ?_⟩
 replace HC1 := zH HM1 HC1 hb
 replace BD := zB BD hb
 replace hU := zU hU hU.size hb
 clear hb
 refine z7 [(10, z_t), (43, z_t), (42, undef), (41, undef), (40, undef), (39, z_t), (38, z_t)] (ze (wp_seq (zs (z1 [(44, pt ND 0)] (zop BD.out rfl rfl ?_)))))
 refine ze (wp_block (wp_seq (zg 46 47 (zg 46 48 (zg 46 49 (zg 46 50 ?_))))))
 refine reg_lit (z2 [(46, z_f), (51, z_f)] (ze (zif (wp_seq (zg 52 53 (zg 52 54 ?_))))))
 refine zg 52 55 (reg_lit (z2 [(52, z_f), (56, z_f)] (ze (zif (zg 57 58 (wp_seq ?_))))))
 refine zg 62 63 (zg 62 64 (zg 62 65 (reg_lit (z2 [(62, z_f), (66, z_f)] (ze (zif ?_))))))
 refine wp_exit (exit_pass rfl (then_exit (exit_here (then_normal (reg_lit (z2 [(29, .int .i64 17), (87, .int .i64 17)] (wpl_end ?_)))))))
 refine then_normal ?_
 clear BD
 refine zk (z_R Na Nb Nx Nz NV z_f 17) (fun X => ?_)
 refine round_s (zs (z1 [(30, z_t)] (ze (wp_seq (zit ?_)))))
 refine wp_skip (then_normal (wp_seq (wp_block (zs (z1 [(31, pt NV 34)] (zw (r1_TV _ HC1.out) 17 (by decide) rfl rfl ?_))))))
 refine zm2 36 74 rfl rfl rfl ?_
 intro w85 ND BD hb
 replace BD := hide BD
 replace HC1 := zH HM1 HC1 hb
 replace hU := zU hU hU.size hb
 clear hb
 refine sx_n (z1 [(33, pt Nx 0)] (zl (q1_x _ HC1.out) rfl rfl (z2 [(9, .int .i64 ((lx.length : Nat))), (35, .int .i64 ((lx.length : Nat)))] (sx_n (zv (q1_a _ HC1.out) rfl rfl ?_)))))
 refine zc rfl ((vKnown_w false Aa la ca sa _ La.out Ca (p1_a w85 HC1.out) Ya.out HKa.out).mono ?_)
 rintro e w86 ⟨rfl, hb⟩
 refine ⟨_, rfl, ?_⟩
 replace HC1 := zH HM1 HC1 hb
 replace BD := zB BD hb
 replace hU := zU hU hU.size hb
 clear hb
 refine z7 [(10, z_t), (43, z_t), (42, undef), (41, undef), (40, undef), (39, z_t), (38, z_t)] (ze (wp_seq (zs (z1 [(44, pt ND 0)] (zop BD.out rfl rfl ?_)))))
 refine ze (wp_block (wp_seq (zg 46 47 (zg 46 48 (zg 46 49 (zg 46 50 ?_))))))
 refine reg_lit (z2 [(46, z_f), (51, z_f)] (ze (zif (wp_seq (zg 52 53 (zg 52 54 ?_))))))
 refine zg 52 55 (reg_lit (z2 [(52, z_f), (56, z_f)] (ze (zif (zg 57 58 (wp_seq ?_))))))
 refine zg 62 63 (zg 62 64 (zg 62 65 (reg_lit (z2 [(62, z_f), (66, z_f)] (ze (zif ?_))))))
 refine wp_exit (exit_pass rfl (then_exit (exit_here (then_normal (reg_lit (z2 [(29, .int .i64 18), (87, .int .i64 18)] (wpl_end ?_)))))))
 refine then_normal ?_
 clear BD
 refine zk (z_R Na Nb Nx Nz NV z_f 18) (fun X => ?_)
 refine round_s (zs (z1 [(30, z_t)] (ze (wp_seq (zit ?_)))))
 refine wp_skip (then_normal (wp_seq (wp_block (zs (z1 [(31, pt NV 36)] (zw (r1_TV _ HC1.out) 18 (by decide) rfl rfl ?_))))))
 refine zm2 41 62 rfl rfl rfl ?_
 intro w87 ND BD hb
 replace BD := hide BD
 replace HC1 := zH HM1 HC1 hb
 replace hU := zU hU hU.size hb
 clear hb
 refine sx_n (z1 [(33, pt Nx 0)] (zl (q1_x _ HC1.out) rfl rfl (z2 [(9, .int .i64 ((lx.length : Nat))), (35, .int .i64 ((lx.length : Nat)))] (sx_n (zv (q1_a _ HC1.out) rfl rfl ?_)))))
 refine zc rfl ((vKnown_w false Aa la ca sa _ La.out Ca (p1_a w87 HC1.out) Ya.out HKa.out).mono ?_)
 rintro e w88 ⟨rfl, hb⟩
 refine ⟨_, rfl, ?_⟩
 replace HC1 := zH HM1 HC1 hb
 replace BD := zB BD hb
 replace hU := zU hU hU.size hb
 clear hb
 refine z7 [(10, z_t), (43, z_t), (42, undef), (41, undef), (40, undef), (39, z_t), (38, z_t)] (ze (wp_seq (zs (z1 [(44, pt ND 0)] (zop BD.out rfl rfl ?_)))))
 refine ze (wp_block (wp_seq (zg 46 47 (zg 46 48 (zg 46 49 (zg 46 50 ?_))))))
 refine reg_lit (z2 [(46, z_f), (51, z_f)] (ze (zif (wp_seq (zg 52 53 (zg 52 54 ?_))))))
 refine zg 52 55 (reg_lit (z2 [(52, z_f), (56, z_f)] (ze (zif (zg 57 58 (wp_seq ?_))))))
 refine zt [(62, z_t), (63, z_t)] (wp_skip (then_normal (zit (region_R (n := 7) (N := 8) (by kernel_rfl) (by kernel_rfl) (by kernel_rfl) (by kernel_rfl) (by kernel_rfl) (by kernel_rfl) (fun _ _ _ _ _ h => hP _ _ _ _ _ h) ?_))))
 intro F hQ
 have HC0 := HC1
 refine zav (i := 0) (m' := 1) (v := .pointer (some ⟨Nz, 0, none⟩)) F hQ rfl rfl (anyR_ldsl (i := 1) (m' := 3) (q1_z _ HC0.out) F hQ rfl rfl (by kernel_rfl) (by kernel_rfl) (by kernel_rfl) (by kernel_rfl) (by kernel_rfl) rfl (by kernel_rfl) (zav (i := 2) (m' := 7) (v := .int .i64 ((ly.length : Nat))) F hQ rfl rfl (anyR_ldvec (i := 3) (m' := 15) (q1_b _ HC0.out) F hQ rfl rfl (by kernel_rfl) (by kernel_rfl) (by kernel_rfl) (by kernel_rfl) (by kernel_rfl) rfl (by kernel_rfl) ?_)))
 refine zac (i := 4) (m' := 31) rfl rfl ((vKnown_w false Ab lb cb sb _ Lb.out Cb (by exact (p1_b w88 HC1.out)) Yb.out HKb.out).mono ?_)
 rintro e w89 ⟨rfl, hb⟩
 refine ⟨_, rfl, hb, ?_⟩
 replace hb : Below w88.heap.size w88 w89 := Below.trans ((Below.refl _ _).drew) hb
 replace HC1 := zH HM1 HC1 hb
 replace BD := zB BD hb
 replace hU := zU hU hU.size hb
 clear hb
 refine zav (i := 5) (m' := 63) (v := .bool true) F hQ rfl rfl (zav (i := 6) (m' := 127) (v := .int .i64 ((ly.length : Nat))) F hQ rfl rfl (anyR_e (anyR_last (i := 7) (m' := 255) (v := .bool true) rfl rfl (by kernel_rfl) (by kernel_rfl) (by kernel_rfl) (by kernel_rfl) (by kernel_rfl) (anyE_done (by kernel_rfl) ?_))))
 clear F hQ HC0
 refine block_normal (then_normal (zs (z1 [(73, pt ND 1)] (zfn BD.out rfl rfl (zv (q1_a _ HC1.out) rfl rfl (zv (q1_b _ HC1.out) rfl rfl ?_))))))
 refine zc rfl ((vShl_any Aa Ab la lb ca cb sa sb _ La.out Lb.out Ca Cb (p1_a w89 HC1.out) (p1_b w89 HC1.out) Ya.out Yb.out).mono ?_)
 rintro e w90 ⟨lg, sg, Ag, cg, Eg, rfl, Cg, Og, hb⟩
 refine ⟨_, rfl, ?_⟩
 replace HC1 := zH HM1 HC1 hb
 replace BD := zB BD hb
 replace Og := hide Og.out.rd
 replace hU := zU hU hU.size hb
 clear hb
 have Gg := zGd Eg ((gdu_shf Ya.out gdm_shl))
 have Lg := zLe Gg
 have Yg := hide Gg.by_
 clear Gg
 refine zm (A := Ag) (m := lg.length) (c := cg) (s := sg) rfl rfl rfl ?_
 intro w91 Ng Bg hNg hb
 replace Bg := hide Bg
 replace HC1 := zH HM1 HC1 hb
 replace Og := zQ Og hb
 replace BD := zB BD hb
 have hzg : w.heap.size ≤ Ng := Nat.le_trans hU.size hNg
 clear hNg
 replace hU := zU hU hU.size hb
 clear hb
 refine sx_n (z2 [(79, z_t), (78, z_t)] (zv Bg.out rfl rfl ?_))
 refine zc rfl ((vWithSign_any false Ag lg cg sg _ Lg.out Cg Og.out Yg.out).mono ?_)
 rintro e w92 ⟨lu, su, Au, cu, Eu, rfl, Cu, Ou, hb⟩
 refine ⟨_, rfl, ?_⟩
 replace HC1 := zH HM1 HC1 hb
 replace Og := zQ Og hb
 replace Bg := zX Bg hb
 replace BD := zB BD hb
 replace Ou := hide Ou.out.rd
 replace hU := zU hU hU.size hb
 clear hb
 have Gu := zGd Eu ((cnt_gd (v := ⟨lg, sg⟩) Yg.out))
 have Lu := zLe Gu
 have Yu := hide Gu.by_
 clear Gu
 refine z1 [(82, .int .i64 ((ly.length : Nat)))] ?_
 refine zc rfl ((rfill_any 2 (ly.length) false _ Ly.out).mono ?_)
 rintro e w93 ⟨lv, sv, Av, cv, Ev, rfl, Cv, Ov, hb⟩
 refine ⟨_, rfl, ?_⟩
 replace HC1 := zH HM1 HC1 hb
 replace Og := zQ Og hb
 replace Ou := zQ Ou hb
 replace Bg := zX Bg hb
 replace BD := zB BD hb
 replace Ov := hide Ov.out.rd
 replace hU := zU hU hU.size hb
 clear hb
 have Gv := zGd Ev ((gd_xs (s := false) Gyy.out.pos Gyy.out.le))
 have Lv := zLe Gv
 have Yv := hide Gv.by_
 clear Gv
 refine zc rfl ((rsame_yes Au Av lu lv cu cv su sv _ Lu.out Lv.out Ou.out Ov.out (by rw [Eu.out, Ev.out, Eg.out, Lyy.out]; exact unk_shf Ya.out Yb.out HKb.out)).mono ?_)
 rintro e w94 ⟨rfl, hb⟩
 refine ⟨_, rfl, ?_⟩
 replace HC1 := zH HM1 HC1 hb
 replace Og := zQ Og hb
 replace Ou := zQ Ou hb
 replace Ov := zQ Ov hb
 replace Bg := zX Bg hb
 replace BD := zB BD hb
 replace hU := zU hU hU.size hb
 clear hb Ou Cu Lu Yu
 clear Ov Cv Lv Yv
 refine z2 [(86, z_f), (85, z_f)] (ze (zif (wp_skip (block_normal (then_normal (reg_lit ?_))))))
 refine z2 [(29, .int .i64 19), (87, .int .i64 19)] (ze ?_)
 clear Bg Og Cg Lg Yg
 clear BD
 refine zk (z_R Na Nb Nx Nz NV z_f 19) (fun X => ?_)
 refine round_s (zs (z1 [(30, z_t)] (ze (wp_seq (zit ?_)))))
 refine wp_skip (then_normal (wp_seq (wp_block (zs (z1 [(31, pt NV 38)] (zw (r1_TV _ HC1.out) 19 (by decide) rfl rfl ?_))))))
 refine zm2 42 63 rfl rfl rfl ?_
 intro w95 ND BD hb
 replace BD := hide BD
 replace HC1 := zH HM1 HC1 hb
 replace hU := zU hU hU.size hb
 clear hb
 refine sx_n (z1 [(33, pt Nx 0)] (zl (q1_x _ HC1.out) rfl rfl (z2 [(9, .int .i64 ((lx.length : Nat))), (35, .int .i64 ((lx.length : Nat)))] (sx_n (zv (q1_a _ HC1.out) rfl rfl ?_)))))
 refine zc rfl ((vKnown_w false Aa la ca sa _ La.out Ca (p1_a w95 HC1.out) Ya.out HKa.out).mono ?_)
 rintro e w96 ⟨rfl, hb⟩
 refine ⟨_, rfl, ?_⟩
 replace HC1 := zH HM1 HC1 hb
 replace BD := zB BD hb
 replace hU := zU hU hU.size hb
 clear hb
 refine z7 [(10, z_t), (43, z_t), (42, undef), (41, undef), (40, undef), (39, z_t), (38, z_t)] (ze (wp_seq (zs (z1 [(44, pt ND 0)] (zop BD.out rfl rfl ?_)))))
 refine ze (wp_block (wp_seq (zg 46 47 (zg 46 48 (zg 46 49 (zg 46 50 ?_))))))
 refine reg_lit (z2 [(46, z_f), (51, z_f)] (ze (zif (wp_seq (zg 52 53 (zg 52 54 ?_))))))
 refine zg 52 55 (reg_lit (z2 [(52, z_f), (56, z_f)] (ze (zif (zg 57 58 (wp_seq ?_))))))
 refine zg 62 63 (zt [(62, z_t), (64, z_t)] (wp_skip (then_normal (zit (region_R (n := 7) (N := 8) (by kernel_rfl) (by kernel_rfl) (by kernel_rfl) (by kernel_rfl) (by kernel_rfl) (by kernel_rfl) (fun _ _ _ _ _ h => hP _ _ _ _ _ h) ?_)))))
 intro F hQ
 have HC0 := HC1
 refine zav (i := 0) (m' := 1) (v := .pointer (some ⟨Nz, 0, none⟩)) F hQ rfl rfl (anyR_ldsl (i := 1) (m' := 3) (q1_z _ HC0.out) F hQ rfl rfl (by kernel_rfl) (by kernel_rfl) (by kernel_rfl) (by kernel_rfl) (by kernel_rfl) rfl (by kernel_rfl) (zav (i := 2) (m' := 7) (v := .int .i64 ((ly.length : Nat))) F hQ rfl rfl (anyR_ldvec (i := 3) (m' := 15) (q1_b _ HC0.out) F hQ rfl rfl (by kernel_rfl) (by kernel_rfl) (by kernel_rfl) (by kernel_rfl) (by kernel_rfl) rfl (by kernel_rfl) ?_)))
 refine zac (i := 4) (m' := 31) rfl rfl ((vKnown_w false Ab lb cb sb _ Lb.out Cb (by exact (p1_b w96 HC1.out)) Yb.out HKb.out).mono ?_)
 rintro e w97 ⟨rfl, hb⟩
 refine ⟨_, rfl, hb, ?_⟩
 replace hb : Below w96.heap.size w96 w97 := Below.trans ((Below.refl _ _).drew) hb
 replace HC1 := zH HM1 HC1 hb
 replace BD := zB BD hb
 replace hU := zU hU hU.size hb
 clear hb
 refine zav (i := 5) (m' := 63) (v := .bool true) F hQ rfl rfl (zav (i := 6) (m' := 127) (v := .int .i64 ((ly.length : Nat))) F hQ rfl rfl (anyR_e (anyR_last (i := 7) (m' := 255) (v := .bool true) rfl rfl (by kernel_rfl) (by kernel_rfl) (by kernel_rfl) (by kernel_rfl) (by kernel_rfl) (anyE_done (by kernel_rfl) ?_))))
 clear F hQ HC0
 refine block_normal (then_normal (zs (z1 [(73, pt ND 1)] (zfn BD.out rfl rfl (zv (q1_a _ HC1.out) rfl rfl (zv (q1_b _ HC1.out) rfl rfl ?_))))))
 refine zc rfl ((vShr_any Aa Ab la lb ca cb sa sb _ La.out Lb.out Ca Cb (p1_a w97 HC1.out) (p1_b w97 HC1.out) Ya.out Yb.out).mono ?_)
 rintro e w98 ⟨lg, sg, Ag, cg, Eg, rfl, Cg, Og, hb⟩
 refine ⟨_, rfl, ?_⟩
 replace HC1 := zH HM1 HC1 hb
 replace BD := zB BD hb
 replace Og := hide Og.out.rd
 replace hU := zU hU hU.size hb
 clear hb
 have Gg := zGd Eg ((gdu_shf Ya.out gdm_shr))
 have Lg := zLe Gg
 have Yg := hide Gg.by_
 clear Gg
 refine zm (A := Ag) (m := lg.length) (c := cg) (s := sg) rfl rfl rfl ?_
 intro w99 Ng Bg hNg hb
 replace Bg := hide Bg
 replace HC1 := zH HM1 HC1 hb
 replace Og := zQ Og hb
 replace BD := zB BD hb
 have hzg : w.heap.size ≤ Ng := Nat.le_trans hU.size hNg
 clear hNg
 replace hU := zU hU hU.size hb
 clear hb
 refine sx_n (z2 [(79, z_t), (78, z_t)] (zv Bg.out rfl rfl ?_))
 refine zc rfl ((vWithSign_any false Ag lg cg sg _ Lg.out Cg Og.out Yg.out).mono ?_)
 rintro e w100 ⟨lu, su, Au, cu, Eu, rfl, Cu, Ou, hb⟩
 refine ⟨_, rfl, ?_⟩
 replace HC1 := zH HM1 HC1 hb
 replace Og := zQ Og hb
 replace Bg := zX Bg hb
 replace BD := zB BD hb
 replace Ou := hide Ou.out.rd
 replace hU := zU hU hU.size hb
 clear hb
 have Gu := zGd Eu ((cnt_gd (v := ⟨lg, sg⟩) Yg.out))
 have Lu := zLe Gu
 have Yu := hide Gu.by_
 clear Gu
 refine z1 [(82, .int .i64 ((ly.length : Nat)))] ?_
 refine zc rfl ((rfill_any 2 (ly.length) false _ Ly.out).mono ?_)
 rintro e w101 ⟨lv, sv, Av, cv, Ev, rfl, Cv, Ov, hb⟩
 refine ⟨_, rfl, ?_⟩
 replace HC1 := zH HM1 HC1 hb
 replace Og := zQ Og hb
 replace Ou := zQ Ou hb
 replace Bg := zX Bg hb
 replace BD := zB BD hb
 replace Ov := hide Ov.out.rd
 replace hU := zU hU hU.size hb
 clear hb
 have Gv := zGd Ev ((gd_xs (s := false) Gyy.out.pos Gyy.out.le))
 have Lv := zLe Gv
 have Yv := hide Gv.by_
 clear Gv
 refine zc rfl ((rsame_yes Au Av lu lv cu cv su sv _ Lu.out Lv.out Ou.out Ov.out (by rw [Eu.out, Ev.out, Eg.out, Lyy.out]; exact unk_shf Ya.out Yb.out HKb.out)).mono ?_)
 rintro e w102 ⟨rfl, hb⟩
 refine ⟨_, rfl, ?_⟩
 replace HC1 := zH HM1 HC1 hb
 replace Og := zQ Og hb
 replace Ou := zQ Ou hb
 replace Ov := zQ Ov hb
 replace Bg := zX Bg hb
 replace BD := zB BD hb
 replace hU := zU hU hU.size hb
 clear hb Ou Cu Lu Yu
 clear Ov Cv Lv Yv
 refine z2 [(86, z_f), (85, z_f)] (ze (zif (wp_skip (block_normal (then_normal (reg_lit ?_))))))
 refine z2 [(29, .int .i64 20), (87, .int .i64 20)] (ze ?_)
 clear Bg Og Cg Lg Yg
 clear BD
 refine zk (z_R Na Nb Nx Nz NV z_f 20) (fun X => ?_)
 refine round_s (zs (z1 [(30, z_t)] (ze (wp_seq (zit ?_)))))
 refine wp_skip (then_normal (wp_seq (wp_block (zs (z1 [(31, pt NV 40)] (zw (r1_TV _ HC1.out) 20 (by decide) rfl rfl ?_))))))
 refine zm2 43 65 rfl rfl rfl ?_
 intro w103 ND BD hb
 replace BD := hide BD
 replace HC1 := zH HM1 HC1 hb
 replace hU := zU hU hU.size hb
 clear hb
 refine sx_n (z1 [(33, pt Nx 0)] (zl (q1_x _ HC1.out) rfl rfl (z2 [(9, .int .i64 ((lx.length : Nat))), (35, .int .i64 ((lx.length : Nat)))] (sx_n (zv (q1_a _ HC1.out) rfl rfl ?_)))))
 refine zc rfl ((vKnown_w false Aa la ca sa _ La.out Ca (p1_a w103 HC1.out) Ya.out HKa.out).mono ?_)
 rintro e w104 ⟨rfl, hb⟩
 refine ⟨_, rfl, ?_⟩
 replace HC1 := zH HM1 HC1 hb
 replace BD := zB BD hb
 replace hU := zU hU hU.size hb
 clear hb
 refine z7 [(10, z_t), (43, z_t), (42, undef), (41, undef), (40, undef), (39, z_t), (38, z_t)] (ze (wp_seq (zs (z1 [(44, pt ND 0)] (zop BD.out rfl rfl ?_)))))
 refine ze (wp_block (wp_seq (zg 46 47 (zg 46 48 (zg 46 49 (zg 46 50 ?_))))))
 refine reg_lit (z2 [(46, z_f), (51, z_f)] (ze (zif (wp_seq (zg 52 53 (zg 52 54 ?_))))))
 refine zg 52 55 (reg_lit (z2 [(52, z_f), (56, z_f)] (ze (zif (zg 57 58 (wp_seq ?_))))))
 refine zg 62 63 (zg 62 64 (zt [(62, z_t), (65, z_t)] (wp_skip (then_normal (zit (region_R (n := 7) (N := 8) (by kernel_rfl) (by kernel_rfl) (by kernel_rfl) (by kernel_rfl) (by kernel_rfl) (by kernel_rfl) (fun _ _ _ _ _ h => hP _ _ _ _ _ h) ?_))))))
 intro F hQ
 have HC0 := HC1
 refine zav (i := 0) (m' := 1) (v := .pointer (some ⟨Nz, 0, none⟩)) F hQ rfl rfl (anyR_ldsl (i := 1) (m' := 3) (q1_z _ HC0.out) F hQ rfl rfl (by kernel_rfl) (by kernel_rfl) (by kernel_rfl) (by kernel_rfl) (by kernel_rfl) rfl (by kernel_rfl) (zav (i := 2) (m' := 7) (v := .int .i64 ((ly.length : Nat))) F hQ rfl rfl (anyR_ldvec (i := 3) (m' := 15) (q1_b _ HC0.out) F hQ rfl rfl (by kernel_rfl) (by kernel_rfl) (by kernel_rfl) (by kernel_rfl) (by kernel_rfl) rfl (by kernel_rfl) ?_)))
 refine zac (i := 4) (m' := 31) rfl rfl ((vKnown_w false Ab lb cb sb _ Lb.out Cb (by exact (p1_b w104 HC1.out)) Yb.out HKb.out).mono ?_)
 rintro e w105 ⟨rfl, hb⟩
 refine ⟨_, rfl, hb, ?_⟩
 replace hb : Below w104.heap.size w104 w105 := Below.trans ((Below.refl _ _).drew) hb
 replace HC1 := zH HM1 HC1 hb
 replace BD := zB BD hb
 replace hU := zU hU hU.size hb
 clear hb
 refine zav (i := 5) (m' := 63) (v := .bool true) F hQ rfl rfl (zav (i := 6) (m' := 127) (v := .int .i64 ((ly.length : Nat))) F hQ rfl rfl (anyR_e (anyR_last (i := 7) (m' := 255) (v := .bool true) rfl rfl (by kernel_rfl) (by kernel_rfl) (by kernel_rfl) (by kernel_rfl) (by kernel_rfl) (anyE_done (by kernel_rfl) ?_))))
 clear F hQ HC0
 refine block_normal (then_normal (zs (z1 [(73, pt ND 1)] (zfn BD.out rfl rfl (zv (q1_a _ HC1.out) rfl rfl (zv (q1_b _ HC1.out) rfl rfl ?_))))))
 refine zc rfl ((vAShl_any Aa Ab la lb ca cb sa sb _ La.out Lb.out Ca Cb (p1_a w105 HC1.out) (p1_b w105 HC1.out) Ya.out Yb.out).mono ?_)
 rintro e w106 ⟨lg, sg, Ag, cg, Eg, rfl, Cg, Og, hb⟩
 refine ⟨_, rfl, ?_⟩
 replace HC1 := zH HM1 HC1 hb
 replace BD := zB BD hb
 replace Og := hide Og.out.rd
 replace hU := zU hU hU.size hb
 clear hb
 have Gg := zGd Eg ((gdu_shf Ya.out gdm_shl))
 have Lg := zLe Gg
 have Yg := hide Gg.by_
 clear Gg
 refine zm (A := Ag) (m := lg.length) (c := cg) (s := sg) rfl rfl rfl ?_
 intro w107 Ng Bg hNg hb
 replace Bg := hide Bg
 replace HC1 := zH HM1 HC1 hb
 replace Og := zQ Og hb
 replace BD := zB BD hb
 have hzg : w.heap.size ≤ Ng := Nat.le_trans hU.size hNg
 clear hNg
 replace hU := zU hU hU.size hb
 clear hb
 refine sx_n (z2 [(79, z_t), (78, z_t)] (zv Bg.out rfl rfl ?_))
 refine zc rfl ((vWithSign_any false Ag lg cg sg _ Lg.out Cg Og.out Yg.out).mono ?_)
 rintro e w108 ⟨lu, su, Au, cu, Eu, rfl, Cu, Ou, hb⟩
 refine ⟨_, rfl, ?_⟩
 replace HC1 := zH HM1 HC1 hb
 replace Og := zQ Og hb
 replace Bg := zX Bg hb
 replace BD := zB BD hb
 replace Ou := hide Ou.out.rd
 replace hU := zU hU hU.size hb
 clear hb
 have Gu := zGd Eu ((cnt_gd (v := ⟨lg, sg⟩) Yg.out))
 have Lu := zLe Gu
 have Yu := hide Gu.by_
 clear Gu
 refine z1 [(82, .int .i64 ((ly.length : Nat)))] ?_
 refine zc rfl ((rfill_any 2 (ly.length) false _ Ly.out).mono ?_)
 rintro e w109 ⟨lv, sv, Av, cv, Ev, rfl, Cv, Ov, hb⟩
 refine ⟨_, rfl, ?_⟩
 replace HC1 := zH HM1 HC1 hb
 replace Og := zQ Og hb
 replace Ou := zQ Ou hb
 replace Bg := zX Bg hb
 replace BD := zB BD hb
 replace Ov := hide Ov.out.rd
 replace hU := zU hU hU.size hb
 clear hb
 have Gv := zGd Ev ((gd_xs (s := false) Gyy.out.pos Gyy.out.le))
 have Lv := zLe Gv
 have Yv := hide Gv.by_
 clear Gv
 refine zc rfl ((rsame_yes Au Av lu lv cu cv su sv _ Lu.out Lv.out Ou.out Ov.out (by rw [Eu.out, Ev.out, Eg.out, Lyy.out]; exact unk_shf Ya.out Yb.out HKb.out)).mono ?_)
 rintro e w110 ⟨rfl, hb⟩
 refine ⟨_, rfl, ?_⟩
 replace HC1 := zH HM1 HC1 hb
 replace Og := zQ Og hb
 replace Ou := zQ Ou hb
 replace Ov := zQ Ov hb
 replace Bg := zX Bg hb
 replace BD := zB BD hb
 replace hU := zU hU hU.size hb
 clear hb Ou Cu Lu Yu
 clear Ov Cv Lv Yv
 refine z2 [(86, z_f), (85, z_f)] (ze (zif (wp_skip (block_normal (then_normal (reg_lit ?_))))))
 refine z2 [(29, .int .i64 21), (87, .int .i64 21)] (ze ?_)
 clear Bg Og Cg Lg Yg
 clear BD
 refine zk (z_R Na Nb Nx Nz NV z_f 21) (fun X => ?_)
 refine round_s (zs (z1 [(30, z_t)] (ze (wp_seq (zit ?_)))))
 refine wp_skip (then_normal (wp_seq (wp_block (zs (z1 [(31, pt NV 42)] (zw (r1_TV _ HC1.out) 21 (by decide) rfl rfl ?_))))))
 refine zm2 44 64 rfl rfl rfl ?_
 intro w111 ND BD hb
 replace BD := hide BD
 replace HC1 := zH HM1 HC1 hb
 replace hU := zU hU hU.size hb
 clear hb
 refine sx_n (z1 [(33, pt Nx 0)] (zl (q1_x _ HC1.out) rfl rfl (z2 [(9, .int .i64 ((lx.length : Nat))), (35, .int .i64 ((lx.length : Nat)))] (sx_n (zv (q1_a _ HC1.out) rfl rfl ?_)))))
 refine zc rfl ((vKnown_w false Aa la ca sa _ La.out Ca (p1_a w111 HC1.out) Ya.out HKa.out).mono ?_)
 rintro e w112 ⟨rfl, hb⟩
 refine ⟨_, rfl, ?_⟩
 replace HC1 := zH HM1 HC1 hb
 replace BD := zB BD hb
 replace hU := zU hU hU.size hb
 clear hb
 refine z7 [(10, z_t), (43, z_t), (42, undef), (41, undef), (40, undef), (39, z_t), (38, z_t)] (ze (wp_seq (zs (z1 [(44, pt ND 0)] (zop BD.out rfl rfl ?_)))))
 refine ze (wp_block (wp_seq (zg 46 47 (zg 46 48 (zg 46 49 (zg 46 50 ?_))))))
 refine reg_lit (z2 [(46, z_f), (51, z_f)] (ze (zif (wp_seq (zg 52 53 (zg 52 54 ?_))))))
 refine zg 52 55 (reg_lit (z2 [(52, z_f), (56, z_f)] (ze (zif (zg 57 58 (wp_seq ?_))))))
 refine zg 62 63 (zg 62 64 (zg 62 65 (reg_lit (z2 [(62, z_t), (66, z_t)] (ze (zit ?_))))))
 refine region_R (n := 7) (N := 8) (by kernel_rfl) (by kernel_rfl) (by kernel_rfl) (by kernel_rfl) (by kernel_rfl) (by kernel_rfl) (fun _ _ _ _ _ h => hP _ _ _ _ _ h) ?_
 intro F hQ
 have HC0 := HC1
 refine zav (i := 0) (m' := 1) (v := .pointer (some ⟨Nz, 0, none⟩)) F hQ rfl rfl (anyR_ldsl (i := 1) (m' := 3) (q1_z _ HC0.out) F hQ rfl rfl (by kernel_rfl) (by kernel_rfl) (by kernel_rfl) (by kernel_rfl) (by kernel_rfl) rfl (by kernel_rfl) (zav (i := 2) (m' := 7) (v := .int .i64 ((ly.length : Nat))) F hQ rfl rfl (anyR_ldvec (i := 3) (m' := 15) (q1_b _ HC0.out) F hQ rfl rfl (by kernel_rfl) (by kernel_rfl) (by kernel_rfl) (by kernel_rfl) (by kernel_rfl) rfl (by kernel_rfl) ?_)))
 refine zac (i := 4) (m' := 31) rfl rfl ((vKnown_w false Ab lb cb sb _ Lb.out Cb (by exact (p1_b w112 HC1.out)) Yb.out HKb.out).mono ?_)
 rintro e w113 ⟨rfl, hb⟩
 refine ⟨_, rfl, hb, ?_⟩
 replace hb : Below w112.heap.size w112 w113 := Below.trans ((Below.refl _ _).drew) hb
 replace HC1 := zH HM1 HC1 hb
 replace BD := zB BD hb
 replace hU := zU hU hU.size hb
 clear hb
 refine zav (i := 5) (m' := 63) (v := .bool true) F hQ rfl rfl (zav (i := 6) (m' := 127) (v := .int .i64 ((ly.length : Nat))) F hQ rfl rfl (anyR_e (anyR_last (i := 7) (m' := 255) (v := .bool true) rfl rfl (by kernel_rfl) (by kernel_rfl) (by kernel_rfl) (by kernel_rfl) (by kernel_rfl) (anyE_done (by kernel_rfl) ?_))))
 clear F hQ HC0
 refine block_normal (then_normal (zs (z1 [(73, pt ND 1)] (zfn BD.out rfl rfl (zv (q1_a _ HC1.out) rfl rfl (zv (q1_b _ HC1.out) rfl rfl ?_))))))
 refine zc rfl ((vAShr_any Aa Ab la lb ca cb sa sb _ La.out Lb.out Ca Cb (p1_a w113 HC1.out) (p1_b w113 HC1.out) Ya.out Yb.out).mono ?_)
 rintro e w114 ⟨lg, sg, Ag, cg, Eg, rfl, Cg, Og, hb⟩
 refine ⟨_, rfl, ?_⟩
 replace HC1 := zH HM1 HC1 hb
 replace BD := zB BD hb
 replace Og := hide Og.out.rd
 replace hU := zU hU hU.size hb
 clear hb
 have Gg := zGd Eg ((gdu_shf Ya.out gdm_ashr))
 have Lg := zLe Gg
 have Yg := hide Gg.by_
 clear Gg
 refine zm (A := Ag) (m := lg.length) (c := cg) (s := sg) rfl rfl rfl ?_
 intro w115 Ng Bg hNg hb
 replace Bg := hide Bg
 replace HC1 := zH HM1 HC1 hb
 replace Og := zQ Og hb
 replace BD := zB BD hb
 have hzg : w.heap.size ≤ Ng := Nat.le_trans hU.size hNg
 clear hNg
 replace hU := zU hU hU.size hb
 clear hb
 refine sx_n (z2 [(79, z_t), (78, z_t)] (zv Bg.out rfl rfl ?_))
 refine zc rfl ((vWithSign_any false Ag lg cg sg _ Lg.out Cg Og.out Yg.out).mono ?_)
 rintro e w116 ⟨lu, su, Au, cu, Eu, rfl, Cu, Ou, hb⟩
 refine ⟨_, rfl, ?_⟩
 replace HC1 := zH HM1 HC1 hb
 replace Og := zQ Og hb
 replace Bg := zX Bg hb
 replace BD := zB BD hb
 replace Ou := hide Ou.out.rd
 replace hU := zU hU hU.size hb
 clear hb
 have Gu := zGd Eu ((cnt_gd (v := ⟨lg, sg⟩) Yg.out))
 have Lu := zLe Gu
 have Yu := hide Gu.by_
 clear Gu
 refine z1 [(82, .int .i64 ((ly.length : Nat)))] ?_
 refine zc rfl ((rfill_any 2 (ly.length) false _ Ly.out).mono ?_)
 rintro e w117 ⟨lv, sv, Av, cv, Ev, rfl, Cv, Ov, hb⟩
 refine ⟨_, rfl, ?_⟩
 replace HC1 := zH HM1 HC1 hb
 replace Og := zQ Og hb
 replace Ou := zQ Ou hb
 replace Bg := zX Bg hb
 replace BD := zB BD hb
 replace Ov := hide Ov.out.rd
 replace hU := zU hU hU.size hb
 clear hb
 have Gv := zGd Ev ((gd_xs (s := false) Gyy.out.pos Gyy.out.le))
 have Lv := zLe Gv
 have Yv := hide Gv.by_
 clear Gv
 refine zc rfl ((rsame_yes Au Av lu lv cu cv su sv _ Lu.out Lv.out Ou.out Ov.out (by rw [Eu.out, Ev.out, Eg.out, Lyy.out]; exact unk_shf Ya.out Yb.out HKb.out)).mono ?_)
 rintro e w118 ⟨rfl, hb⟩
 refine ⟨_, rfl, ?_⟩
 replace HC1 := zH HM1 HC1 hb
 replace Og := zQ Og hb
 replace Ou := zQ Ou hb
 replace Ov := zQ Ov hb
 replace Bg := zX Bg hb
 replace BD := zB BD hb
 replace hU := zU hU hU.size hb
 clear hb Ou Cu Lu Yu
 clear Ov Cv Lv Yv
 refine z2 [(86, z_f), (85, z_f)] (ze (zif (wp_skip (block_normal (then_normal (reg_lit ?_))))))
 refine z2 [(29, .int .i64 22), (87, .int .i64 22)] (ze ?_)
 clear Bg Og Cg Lg Yg
 clear BD
 refine zk (z_R Na Nb Nx Nz NV z_f 22) (fun X => ?_)
 refine round_s (zs (z1 [(30, z_t)] (ze (wp_seq (zit ?_)))))
 refine wp_skip (then_normal (wp_seq (wp_block (zs (z1 [(31, pt NV 44)] (zw (r1_TV _ HC1.out) 22 (by decide) rfl rfl ?_))))))
 refine zm2 29 81 rfl rfl rfl ?_
 intro w119 ND BD hb
 replace BD := hide BD
 replace HC1 := zH HM1 HC1 hb
 replace hU := zU hU hU.size hb
 clear hb
 refine sx_n (z1 [(33, pt Nx 0)] (zl (q1_x _ HC1.out) rfl rfl (z2 [(9, .int .i64 ((lx.length : Nat))), (35, .int .i64 ((lx.length : Nat)))] (sx_n (zv (q1_a _ HC1.out) rfl rfl ?_)))))
 refine zc rfl ((vKnown_w false Aa la ca sa _ La.out Ca (p1_a w119 HC1.out) Ya.out HKa.out).mono ?_)
 rintro e w120 ⟨rfl, hb⟩
 refine ⟨_, rfl, ?_⟩
 replace HC1 := zH HM1 HC1 hb
 replace BD := zB BD hb
 replace hU := zU hU hU.size hb
 clear hb
 refine z7 [(10, z_t), (43, z_t), (42, undef), (41, undef), (40, undef), (39, z_t), (38, z_t)] (ze (wp_seq (zs (z1 [(44, pt ND 0)] (zop BD.out rfl rfl ?_)))))
 refine ze (wp_block (wp_seq (zg 46 47 (zg 46 48 (zg 46 49 (zg 46 50 ?_))))))
 refine reg_lit (z2 [(46, z_f), (51, z_f)] (ze (zif (wp_seq (zg 52 53 (zg 52 54 ?_))))))
 refine zg 52 55 (reg_lit (z2 [(52, z_f), (56, z_f)] (ze (zif (zg 57 58 (wp_seq ?_))))))
 refine zg 62 63 (zg 62 64 (zg 62 65 (reg_lit (z2 [(62, z_f), (66, z_f)] (ze (zif ?_))))))
 refine wp_exit (exit_pass rfl (then_exit (exit_here (then_normal (reg_lit (z2 [(29, .int .i64 23), (87, .int .i64 23)] (wpl_end ?_)))))))
 refine then_normal ?_
 clear BD
 refine zk (z_R Na Nb Nx Nz NV z_f 23) (fun X => ?_)
 refine round_s (zs (z1 [(30, z_t)] (ze (wp_seq (zit ?_)))))
 refine wp_skip (then_normal (wp_seq (wp_block (zs (z1 [(31, pt NV 46)] (zw (r1_TV _ HC1.out) 23 (by decide) rfl rfl ?_))))))
 refine zm2 30 82 rfl rfl rfl ?_
 intro w121 ND BD hb
 replace BD := hide BD
 replace HC1 := zH HM1 HC1 hb
 replace hU := zU hU hU.size hb
 clear hb
 refine sx_n (z1 [(33, pt Nx 0)] (zl (q1_x _ HC1.out) rfl rfl (z2 [(9, .int .i64 ((lx.length : Nat))), (35, .int .i64 ((lx.length : Nat)))] (sx_n (zv (q1_a _ HC1.out) rfl rfl ?_)))))
 refine zc rfl ((vKnown_w false Aa la ca sa _ La.out Ca (p1_a w121 HC1.out) Ya.out HKa.out).mono ?_)
 rintro e w122 ⟨rfl, hb⟩
 refine ⟨_, rfl, ?_⟩
 replace HC1 := zH HM1 HC1 hb
 replace BD := zB BD hb
 replace hU := zU hU hU.size hb
 clear hb
 refine z7 [(10, z_t), (43, z_t), (42, undef), (41, undef), (40, undef), (39, z_t), (38, z_t)] (ze (wp_seq (zs (z1 [(44, pt ND 0)] (zop BD.out rfl rfl ?_)))))
 refine ze (wp_block (wp_seq (zg 46 47 (zg 46 48 (zg 46 49 (zg 46 50 ?_))))))
 refine reg_lit (z2 [(46, z_f), (51, z_f)] (ze (zif (wp_seq (zg 52 53 (zg 52 54 ?_))))))
 refine zg 52 55 (reg_lit (z2 [(52, z_f), (56, z_f)] (ze (zif (zg 57 58 (wp_seq ?_))))))
 refine zg 62 63 (zg 62 64 (zg 62 65 (reg_lit (z2 [(62, z_f), (66, z_f)] (ze (zif ?_))))))
 refine wp_exit (exit_pass rfl (then_exit (exit_here (then_normal (reg_lit (z2 [(29, .int .i64 24), (87, .int .i64 24)] (wpl_end ?_)))))))
 refine then_normal ?_
 clear BD
 refine zk (z_R Na Nb Nx Nz NV z_f 24) (fun X => ?_)
 refine round_s (zs (z1 [(30, z_f)] (ze (wp_seq (zif ?_)))))
 refine wp_exit (then_exit (then_exit ?_))
 exact hX _ _ hU
set_option maxHeartbeats 16000000 in
theorem VecUnknown_rft (Aa : Option Addr) (la : List Int) (ca : Nat) (sa : Bool) (Ab : Option Addr) (lb : List Int) (cb : Nat) (sb : Bool) (lx : List Int) (sx : Bool) (Ax : Option Addr) (cx : Nat) (ly : List Int) (sy : Bool) (Ay : Option Addr) (cy : Nat) (Na Nb Nx Nz NV : Nat) (w w0 : World) (La : Hid (la.length ≤ 4096)) (Lb : Hid (lb.length ≤ 4096)) (Ya : Hid (By la)) (Yb : Hid (By lb)) (Ca : Hid (la.length ≤ ca ∧ ca ≤ maxLen)) (Cb : Hid (lb.length ≤ cb ∧ cb ≤ maxLen)) (HT : Hid (Tabs w)) (Lx : Hid (lx.length ≤ 4096)) (Ly : Hid (ly.length ≤ 4096)) (Gxx : Hid (Gd lx)) (Gyy : Hid (Gd ly)) (Lxx : Hid (lx.length = wd ⟨la, sa⟩ ⟨lb, sb⟩)) (Lyy : Hid (ly.length = (cnt ⟨la, sa⟩).b.length)) (hU : Below w.heap.size w w0) (Oa : Hid (RQ w0 Aa la)) (Ob : Hid (RQ w0 Ab lb)) (Ba : Hid (Box Na Aa la.length ca sa w0)) (Bb : Hid (Box Nb Ab lb.length cb sb w0)) (Bx : Hid (Box Nx Ax lx.length cx sx w0)) (Bz : Hid (Box Nz Ay ly.length cy sy w0)) (TV : Hid (Two NV w0)) (hA : kn (cnt ⟨la, sa⟩).b = false) (hB : kn (cnt ⟨lb, sb⟩).b = true) (Q : Exit → Act → World → Prop) (hP : ∀ c a d v w, Q (.panic c) (Act.put a (some d) v) w → Q (.panic c) a w) (hX : ∀ (E : Env) (w9 : World), Below w.heap.size w w9 → Q (.exit 0) (sl 88 E) w9) (X : Env) : Code.rounds Tryz.prog lpU Q 25 (sl 88 ([(2, pt Na 0), (3, pt Nb 0), (4, z_f), (5, pt Nx 0), (6, pt Nz 0), (27, .slice (some ⟨NV, 0, none⟩) 24 24), (28, .int .i64 24), (29, .int .i64 0)] ++ X)) w0 := by
 have HKa := hide hA
 have HKb := hide hB
 clear hA hB
 obtain ⟨Pr1, HM1, HC1, p1_a, p1_b, q1_a, q1_b, q1_x, q1_z, r1_TV⟩ : ∃ Pr : World → Prop, (∀ w w', Pr w → Below w.heap.size w w' → Pr w') ∧ Hid (Pr w0) ∧ (∀ W, Pr W → RQ W Aa la) ∧ (∀ W, Pr W → RQ W Ab lb) ∧ (∀ W, Pr W → Box Na Aa la.length ca sa W) ∧ (∀ W, Pr W → Box Nb Ab lb.length cb sb W) ∧ (∀ W, Pr W → Box Nx Ax lx.length cx sx W) ∧ (∀ W, Pr W → Box Nz Ay ly.length cy sy W) ∧ (∀ W, Pr W → Two NV W) := ⟨fun W => RQ W Aa la ∧ RQ W Ab lb ∧ Box Na Aa la.length ca sa W ∧ Box Nb Ab lb.length cb sb W ∧ Box Nx Ax lx.length cx sx W ∧ Box Nz Ay ly.length cy sy W ∧ Two NV W, fun _ _ h hb => ⟨RQ.below h.1 hb, RQ.below h.2.1 hb, Box.kept h.2.2.1 hb, Box.kept h.2.2.2.1 hb, Box.kept h.2.2.2.2.1 hb, Box.kept h.2.2.2.2.2.1 hb, Two.kept h.2.2.2.2.2.2 hb⟩, hide ⟨Oa.out, Ob.out, Ba.out, Bb.out, Bx.out, Bz.out, TV.out⟩, fun _ h => h.1, fun _ h => h.2.1, fun _ h => h.2.2.1, fun _ h => h.2.2.2.1, fun _ h => h.2.2.2.2.1, fun _ h => h.2.2.2.2.2.1, fun _ h => h.2.2.2.2.2.2⟩
 clear Oa Ob Ba Bb Bx Bz TV
 refine round_s (zs (z1 [(30, z_t)] (ze (wp_seq (zit ?_)))))
 refine wp_skip (then_normal (wp_seq (wp_block (zs (z1 [(31, pt NV 0)] (zw (r1_TV _ HC1.out) 0 (by decide) rfl rfl ?_))))))
 refine zm2 37 88 rfl rfl rfl ?_
 intro w1 ND BD hb
 replace BD := hide BD
 replace HC1 := zH HM1 HC1 hb
 replace hU := zU hU hU.size hb
 clear hb
 refine sx_n (z1 [(33, pt Nx 0)] (zl (q1_x _ HC1.out) rfl rfl (z2 [(9, .int .i64 ((lx.length : Nat))), (35, .int .i64 ((lx.length : Nat)))] (sx_n (zv (q1_a _ HC1.out) rfl rfl ?_)))))
 refine zc rfl ((vKnown_w false Aa la ca sa _ La.out Ca (p1_a w1 HC1.out) Ya.out HKa.out).mono ?_)
 rintro e w2 ⟨rfl, hb⟩
 refine ⟨_, rfl, ?_⟩
 replace HC1 := zH HM1 HC1 hb
 replace BD := zB BD hb
 replace hU := zU hU hU.size hb
 clear hb
 refine z7 [(10, z_t), (43, z_t), (42, undef), (41, undef), (40, undef), (39, z_t), (38, z_t)] (ze (wp_seq (zs (z1 [(44, pt ND 0)] (zop BD.out rfl rfl ?_)))))
 refine ze (wp_block (wp_seq (zg 46 47 (zg 46 48 (zg 46 49 (zg 46 50 ?_))))))
 refine reg_lit (z2 [(46, z_f), (51, z_f)] (ze (zif (wp_seq (zg 52 53 (zg 52 54 ?_))))))
 refine zg 52 55 (reg_lit (z2 [(52, z_f), (56, z_f)] (ze (zif (zg 57 58 (wp_seq ?_))))))
 refine zg 62 63 (zg 62 64 (zg 62 65 (reg_lit (z2 [(62, z_f), (66, z_f)] (ze (zif ?_))))))
 refine wp_exit (exit_pass rfl (then_exit (exit_here (then_normal (reg_lit (z2 [(29, .int .i64 1), (87, .int .i64 1)] (wpl_end ?_)))))))
 refine then_normal ?_
 clear BD
 refine zk (z_R Na Nb Nx Nz NV z_f 1) (fun X => ?_)
 refine round_s (zs (z1 [(30, z_t)] (ze (wp_seq (zit ?_)))))
 refine wp_skip (then_normal (wp_seq (wp_block (zs (z1 [(31, pt NV 2)] (zw (r1_TV _ HC1.out) 1 (by decide) rfl rfl ?_))))))
 refine zm2 38 57 rfl rfl rfl ?_
 intro w3 ND BD hb
 replace BD := hide BD
 replace HC1 := zH HM1 HC1 hb
 replace hU := zU hU hU.size hb
 clear hb
 refine sx_n (z1 [(33, pt Nx 0)] (zl (q1_x _ HC1.out) rfl rfl (z2 [(9, .int .i64 ((lx.length : Nat))), (35, .int .i64 ((lx.length : Nat)))] (sx_n (zv (q1_a _ HC1.out) rfl rfl ?_)))))
 refine zc rfl ((vKnown_w false Aa la ca sa _ La.out Ca (p1_a w3 HC1.out) Ya.out HKa.out).mono ?_)
 rintro e w4 ⟨rfl, hb⟩
 refine ⟨_, rfl, ?_⟩
 replace HC1 := zH HM1 HC1 hb
 replace BD := zB BD hb
 replace hU := zU hU hU.size hb
 clear hb
 refine z7 [(10, z_t), (43, z_t), (42, undef), (41, undef), (40, undef), (39, z_t), (38, z_t)] (ze (wp_seq (zs (z1 [(44, pt ND 0)] (zop BD.out rfl rfl ?_)))))
 refine ze (wp_block (wp_seq (zg 46 47 (zg 46 48 (zg 46 49 (zg 46 50 ?_))))))
 refine reg_lit (z2 [(46, z_f), (51, z_f)] (ze (zif (wp_seq (zg 52 53 (zg 52 54 ?_))))))
 refine zg 52 55 (reg_lit (z2 [(52, z_f), (56, z_f)] (ze (zif (zg 57 58 (wp_seq ?_))))))
 refine zg 62 63 (zg 62 64 (zg 62 65 (reg_lit (z2 [(62, z_f), (66, z_f)] (ze (zif ?_))))))
 refine wp_exit (exit_pass rfl (then_exit (exit_here (then_normal (reg_lit (z2 [(29, .int .i64 2), (87, .int .i64 2)] (wpl_end ?_)))))))
 refine then_normal ?_
 clear BD
 refine zk (z_R Na Nb Nx Nz NV z_f 2) (fun X => ?_)
 refine round_s (zs (z1 [(30, z_t)] (ze (wp_seq (zit ?_)))))
 refine wp_skip (then_normal (wp_seq (wp_block (zs (z1 [(31, pt NV 4)] (zw (r1_TV _ HC1.out) 2 (by decide) rfl rfl ?_))))))
 refine zm2 39 89 rfl rfl rfl ?_
 intro w5 ND BD hb
 replace BD := hide BD
 replace HC1 := zH HM1 HC1 hb
 replace hU := zU hU hU.size hb
 clear hb
 refine sx_n (z1 [(33, pt Nx 0)] (zl (q1_x _ HC1.out) rfl rfl (z2 [(9, .int .i64 ((lx.length : Nat))), (35, .int .i64 ((lx.length : Nat)))] (sx_n (zv (q1_a _ HC1.out) rfl rfl ?_)))))
 refine zc rfl ((vKnown_w false Aa la ca sa _ La.out Ca (p1_a w5 HC1.out) Ya.out HKa.out).mono ?_)
 rintro e w6 ⟨rfl, hb⟩
 refine ⟨_, rfl, ?_⟩
 replace HC1 := zH HM1 HC1 hb
 replace BD := zB BD hb
 replace hU := zU hU hU.size hb
 clear hb
 refine z7 [(10, z_t), (43, z_t), (42, undef), (41, undef), (40, undef), (39, z_t), (38, z_t)] (ze (wp_seq (zs (z1 [(44, pt ND 0)] (zop BD.out rfl rfl ?_)))))
 refine ze (wp_block (wp_seq (zg 46 47 (zg 46 48 (zg 46 49 (zg 46 50 ?_))))))
 refine reg_lit (z2 [(46, z_f), (51, z_f)] (ze (zif (wp_seq (zg 52 53 (zg 52 54 ?_))))))
 refine zg 52 55 (reg_lit (z2 [(52, z_f), (56, z_f)] (ze (zif (zg 57 58 (wp_seq ?_))))))
 refine zg 62 63 (zg 62 64 (zg 62 65 (reg_lit (z2 [(62, z_f), (66, z_f)] (ze (zif ?_))))))
 refine wp_exit (exit_pass rfl (then_exit (exit_here (then_normal (reg_lit (z2 [(29, .int .i64 3), (87, .int .i64 3)] (wpl_end ?_)))))))
 refine then_normal ?_
 clear BD
 refine zk (z_R Na Nb Nx Nz NV z_f 3) (fun X => ?_)
 refine round_s (zs (z1 [(30, z_t)] (ze (wp_seq (zit ?_)))))
 refine wp_skip (then_normal (wp_seq (wp_block (zs (z1 [(31, pt NV 6)] (zw (r1_TV _ HC1.out) 3 (by decide) rfl rfl ?_))))))
 refine zm2 40 90 rfl rfl rfl ?_
 intro w7 ND BD hb
 replace BD := hide BD
 replace HC1 := zH HM1 HC1 hb
 replace hU := zU hU hU.size hb
 clear hb
 refine sx_n (z1 [(33, pt Nx 0)] (zl (q1_x _ HC1.out) rfl rfl (z2 [(9, .int .i64 ((lx.length : Nat))), (35, .int .i64 ((lx.length : Nat)))] (sx_n (zv (q1_a _ HC1.out) rfl rfl ?_)))))
 refine zc rfl ((vKnown_w false Aa la ca sa _ La.out Ca (p1_a w7 HC1.out) Ya.out HKa.out).mono ?_)
 rintro e w8 ⟨rfl, hb⟩
 refine ⟨_, rfl, ?_⟩
 replace HC1 := zH HM1 HC1 hb
 replace BD := zB BD hb
 replace hU := zU hU hU.size hb
 clear hb
 refine z7 [(10, z_t), (43, z_t), (42, undef), (41, undef), (40, undef), (39, z_t), (38, z_t)] (ze (wp_seq (zs (z1 [(44, pt ND 0)] (zop BD.out rfl rfl ?_)))))
 refine ze (wp_block (wp_seq (zg 46 47 (zg 46 48 (zg 46 49 (zg 46 50 ?_))))))
 refine reg_lit (z2 [(46, z_f), (51, z_f)] (ze (zif (wp_seq (zg 52 53 (zg 52 54 ?_))))))
 refine zg 52 55 (reg_lit (z2 [(52, z_f), (56, z_f)] (ze (zif (zg 57 58 (wp_seq ?_))))))
 refine zg 62 63 (zg 62 64 (zg 62 65 (reg_lit (z2 [(62, z_f), (66, z_f)] (ze (zif ?_))))))
 refine wp_exit (exit_pass rfl (then_exit (exit_here (then_normal (reg_lit (z2 [(29, .int .i64 4), (87, .int .i64 4)] (wpl_end ?_)))))))
 refine then_normal ?_
 clear BD
 refine zk (z_R Na Nb Nx Nz NV z_f 4) (fun X => ?_)
 refine round_s (zs (z1 [(30, z_t)] (ze (wp_seq (zit ?_)))))
 refine wp_skip (then_normal (wp_seq (wp_block (zs (z1 [(31, pt NV 8)] (zw (r1_TV _ HC1.out) 4 (by decide) rfl rfl ?_))))))
 refine zm2 21 56 rfl rfl rfl ?_
 intro w9 ND BD hb
 replace BD := hide BD
 replace HC1 := zH HM1 HC1 hb
 replace hU := zU hU hU.size hb
 clear hb
 refine sx_n (z1 [(33, pt Nx 0)] (zl (q1_x _ HC1.out) rfl rfl (z2 [(9, .int .i64 ((lx.length : Nat))), (35, .int .i64 ((lx.length : Nat)))] (sx_n (zv (q1_a _ HC1.out) rfl rfl ?_)))))
 refine zc rfl ((vKnown_w false Aa la ca sa _ La.out Ca (p1_a w9 HC1.out) Ya.out HKa.out).mono ?_)
 rintro e w10 ⟨rfl, hb⟩
 refine ⟨_, rfl, ?_⟩
 replace HC1 := zH HM1 HC1 hb
 replace BD := zB BD hb
 replace hU := zU hU hU.size hb
 clear hb
 refine z7 [(10, z_t), (43, z_t), (42, undef), (41, undef), (40, undef), (39, z_t), (38, z_t)] (ze (wp_seq (zs (z1 [(44, pt ND 0)] (zop BD.out rfl rfl ?_)))))
 refine ze (wp_block (wp_seq (zt [(46, z_t), (47, z_t)] (wp_skip (then_normal (zit ?_))))))
 refine wp_skip (block_normal (then_normal (zs (z1 [(73, pt ND 1)] (zfn BD.out rfl rfl (zv (q1_a _ HC1.out) rfl rfl ?_))))))
 refine zv (q1_b _ HC1.out) rfl rfl ?_
 refine zc rfl ((vAdd_any Aa Ab la lb ca cb sa sb _ La.out Lb.out Ca Cb (p1_a w10 HC1.out) (p1_b w10 HC1.out) Ya.out Yb.out).mono ?_)
 rintro e w11 ⟨lg, sg, Ag, cg, Eg, rfl, Cg, Og, hb⟩
 refine ⟨_, rfl, ?_⟩
 replace HC1 := zH HM1 HC1 hb
 replace BD := zB BD hb
 replace Og := hide Og.out.rd
 replace hU := zU hU hU.size hb
 clear hb
 have Gg := zGd Eg ((gdu_ar Ya.out Yb.out hlen_add))
 have Lg := zLe Gg
 have Yg := hide Gg.by_
 clear Gg
 refine zm (A := Ag) (m := lg.length) (c := cg) (s := sg) rfl rfl rfl ?_
 intro w12 Ng Bg hNg hb
 replace Bg := hide Bg
 replace HC1 := zH HM1 HC1 hb
 replace Og := zQ Og hb
 replace BD := zB BD hb
 have hzg : w.heap.size ≤ Ng := Nat.le_trans hU.size hNg
 clear hNg
 replace hU := zU hU hU.size hb
 clear hb
 refine sx_n (z2 [(79, z_t), (78, z_t)] (zv Bg.out rfl rfl ?_))
 refine zc rfl ((vWithSign_any false Ag lg cg sg _ Lg.out Cg Og.out Yg.out).mono ?_)
 rintro e w13 ⟨lu, su, Au, cu, Eu, rfl, Cu, Ou, hb⟩
 refine ⟨_, rfl, ?_⟩
 replace HC1 := zH HM1 HC1 hb
 replace Og := zQ Og hb
 replace Bg := zX Bg hb
 replace BD := zB BD hb
 replace Ou := hide Ou.out.rd
 replace hU := zU hU hU.size hb
 clear hb
 have Gu := zGd Eu ((cnt_gd (v := ⟨lg, sg⟩) Yg.out))
 have Lu := zLe Gu
 have Yu := hide Gu.by_
 clear Gu
 refine z1 [(82, .int .i64 ((lx.length : Nat)))] ?_
 refine zc rfl ((rfill_any 2 (lx.length) false _ Lx.out).mono ?_)
 rintro e w14 ⟨lv, sv, Av, cv, Ev, rfl, Cv, Ov, hb⟩
 refine ⟨_, rfl, ?_⟩
 replace HC1 := zH HM1 HC1 hb
 replace Og := zQ Og hb
 replace Ou := zQ Ou hb
 replace Bg := zX Bg hb
 replace BD := zB BD hb
 replace Ov := hide Ov.out.rd
 replace hU := zU hU hU.size hb
 clear hb
 have Gv := zGd Ev ((gd_xs (s := false) Gxx.out.pos Gxx.out.le))
 have Lv := zLe Gv
 have Yv := hide Gv.by_
 clear Gv
 refine zc rfl ((rsame_yes Au Av lu lv cu cv su sv _ Lu.out Lv.out Ou.out Ov.out (by rw [Eu.out, Ev.out, Eg.out, Lxx.out]; exact unk_ar Ya.out Yb.out (Or.inl HKa.out))).mono ?_)
 rintro e w15 ⟨rfl, hb⟩
 refine ⟨_, rfl, ?_⟩
 replace HC1 := zH HM1 HC1 hb
 replace Og := zQ Og hb
 replace Ou := zQ Ou hb
 replace Ov := zQ Ov hb
 replace Bg := zX Bg hb
 replace BD := zB BD hb
 replace hU := zU hU hU.size hb
 clear hb Ou Cu Lu Yu
 clear Ov Cv Lv Yv
 refine z2 [(86, z_f), (85, z_f)] (ze (zif (wp_skip (block_normal (then_normal (reg_lit ?_))))))
 refine z2 [(29, .int .i64 5), (87, .int .i64 5)] (ze ?_)
 clear Bg Og Cg Lg Yg
 clear BD
 refine zk (z_R Na Nb Nx Nz NV z_f 5) (fun X => ?_)
 refine round_s (zs (z1 [(30, z_t)] (ze (wp_seq (zit ?_)))))
 refine wp_skip (then_normal (wp_seq (wp_block (zs (z1 [(31, pt NV 10)] (zw (r1_TV _ HC1.out) 5 (by decide) rfl rfl ?_))))))
 refine zm2 22 86 rfl rfl rfl ?_
 intro w16 ND BD hb
 replace BD := hide BD
 replace HC1 := zH HM1 HC1 hb
 replace hU := zU hU hU.size hb
 clear hb
 refine sx_n (z1 [(33, pt Nx 0)] (zl (q1_x _ HC1.out) rfl rfl (z2 [(9, .int .i64 ((lx.length : Nat))), (35, .int .i64 ((lx.length : Nat)))] (sx_n (zv (q1_a _ HC1.out) rfl rfl ?_)))))
 refine zc rfl ((vKnown_w false Aa la ca sa _ La.out Ca (p1_a w16 HC1.out) Ya.out HKa.out).mono ?_)
 rintro e w17 ⟨rfl, hb⟩
 refine ⟨_, rfl, ?_⟩
 replace HC1 := zH HM1 HC1 hb
 replace BD := zB BD hb
 replace hU := zU hU hU.size hb
 clear hb
 refine z7 [(10, z_t), (43, z_t), (42, undef), (41, undef), (40, undef), (39, z_t), (38, z_t)] (ze (wp_seq (zs (z1 [(44, pt ND 0)] (zop BD.out rfl rfl ?_)))))
 refine ze (wp_block (wp_seq (zg 46 47 (zt [(46, z_t), (48, z_t)] (wp_skip (then_normal ?_))))))
 refine zit (wp_skip (block_normal (then_normal (zs (z1 [(73, pt ND 1)] (zfn BD.out rfl rfl ?_))))))
 refine zv (q1_a _ HC1.out) rfl rfl (zv (q1_b _ HC1.out) rfl rfl ?_)
 refine zc rfl ((vSub_any Aa Ab la lb ca cb sa sb _ La.out Lb.out Ca Cb (p1_a w17 HC1.out) (p1_b w17 HC1.out) Ya.out Yb.out).mono ?_)
 rintro e w18 ⟨lg, sg, Ag, cg, Eg, rfl, Cg, Og, hb⟩
 refine ⟨_, rfl, ?_⟩
 replace HC1 := zH HM1 HC1 hb
 replace BD := zB BD hb
 replace Og := hide Og.out.rd
 replace hU := zU hU hU.size hb
 clear hb
 have Gg := zGd Eg ((gdu_ar Ya.out Yb.out hlen_sub))
 have Lg := zLe Gg
 have Yg := hide Gg.by_
 clear Gg
 refine zm (A := Ag) (m := lg.length) (c := cg) (s := sg) rfl rfl rfl ?_
 intro w19 Ng Bg hNg hb
 replace Bg := hide Bg
 replace HC1 := zH HM1 HC1 hb
 replace Og := zQ Og hb
 replace BD := zB BD hb
 have hzg : w.heap.size ≤ Ng := Nat.le_trans hU.size hNg
 clear hNg
 replace hU := zU hU hU.size hb
 clear hb
 refine sx_n (z2 [(79, z_t), (78, z_t)] (zv Bg.out rfl rfl ?_))
 refine zc rfl ((vWithSign_any false Ag lg cg sg _ Lg.out Cg Og.out Yg.out).mono ?_)
 rintro e w20 ⟨lu, su, Au, cu, Eu, rfl, Cu, Ou, hb⟩
 refine ⟨_, rfl, ?_⟩
 replace HC1 := zH HM1 HC1 hb
 replace Og := zQ Og hb
 replace Bg := zX Bg hb
 replace BD := zB BD hb
 replace Ou := hide Ou.out.rd
 replace hU := zU hU hU.size hb
 clear hb
 have Gu := zGd Eu ((cnt_gd (v := ⟨lg, sg⟩) Yg.out))
 have Lu := zLe Gu
 have Yu := hide Gu.by_
 clear Gu
 refine z1 [(82, .int .i64 ((lx.length : Nat)))] ?_
 refine zc rfl ((rfill_any 2 (lx.length) false _ Lx.out).mono ?_)
 rintro e w21 ⟨lv, sv, Av, cv, Ev, rfl, Cv, Ov, hb⟩
 refine ⟨_, rfl, ?_⟩
 replace HC1 := zH HM1 HC1 hb
 replace Og := zQ Og hb
 replace Ou := zQ Ou hb
 replace Bg := zX Bg hb
 replace BD := zB BD hb
 replace Ov := hide Ov.out.rd
 replace hU := zU hU hU.size hb
 clear hb
 have Gv := zGd Ev ((gd_xs (s := false) Gxx.out.pos Gxx.out.le))
 have Lv := zLe Gv
 have Yv := hide Gv.by_
 clear Gv
 refine zc rfl ((rsame_yes Au Av lu lv cu cv su sv _ Lu.out Lv.out Ou.out Ov.out (by rw [Eu.out, Ev.out, Eg.out, Lxx.out]; exact unk_ar Ya.out Yb.out (Or.inl HKa.out))).mono ?_)
 rintro e w22 ⟨rfl, hb⟩
 refine ⟨_, rfl, ?_⟩
 replace HC1 := zH HM1 HC1 hb
 replace Og := zQ Og hb
 replace Ou := zQ Ou hb
 replace Ov := zQ Ov hb
 replace Bg := zX Bg hb
 replace BD := zB BD hb
 replace hU := zU hU hU.size hb
 clear hb Ou Cu Lu Yu
 clear Ov Cv Lv Yv
 refine z2 [(86, z_f), (85, z_f)] (ze (zif (wp_skip (block_normal (then_normal (reg_lit ?_))))))
 refine z2 [(29, .int .i64 6), (87, .int .i64 6)] (ze ?_)
 clear Bg Og Cg Lg Yg
 clear BD
 refine zk (z_R Na Nb Nx Nz NV z_f 6) (fun X => ?_)
 refine round_s (zs (z1 [(30, z_t)] (ze (wp_seq (zit ?_)))))
 refine wp_skip (then_normal (wp_seq (wp_block (zs (z1 [(31, pt NV 12)] (zw (r1_TV _ HC1.out) 6 (by decide) rfl rfl ?_))))))
 refine zm2 23 87 rfl rfl rfl ?_
 intro w23 ND BD hb
 replace BD := hide BD
 replace HC1 := zH HM1 HC1 hb
 replace hU := zU hU hU.size hb
 clear hb
 refine sx_n (z1 [(33, pt Nx 0)] (zl (q1_x _ HC1.out) rfl rfl (z2 [(9, .int .i64 ((lx.length : Nat))), (35, .int .i64 ((lx.length : Nat)))] (sx_n (zv (q1_a _ HC1.out) rfl rfl ?_)))))
 refine zc rfl ((vKnown_w false Aa la ca sa _ La.out Ca (p1_a w23 HC1.out) Ya.out HKa.out).mono ?_)
 rintro e w24 ⟨rfl, hb⟩
 refine ⟨_, rfl, ?_⟩
 replace HC1 := zH HM1 HC1 hb
 replace BD := zB BD hb
 replace hU := zU hU hU.size hb
 clear hb
 refine z7 [(10, z_t), (43, z_t), (42, undef), (41, undef), (40, undef), (39, z_t), (38, z_t)] (ze (wp_seq (zs (z1 [(44, pt ND 0)] (zop BD.out rfl rfl ?_)))))
 refine ze (wp_block (wp_seq (zg 46 47 (zg 46 48 (zt [(46, z_t), (49, z_t)] (wp_skip ?_))))))
 refine then_normal (zit (wp_skip (block_normal (then_normal (zs (z1 [(73, pt ND 1)] ?_))))))
 refine zfn BD.out rfl rfl (zv (q1_a _ HC1.out) rfl rfl (zv (q1_b _ HC1.out) rfl rfl ?_))
 refine zc rfl ((vMul_any Aa Ab la lb ca cb sa sb _ La.out Lb.out Ca Cb (p1_a w24 HC1.out) (p1_b w24 HC1.out) Ya.out Yb.out).mono ?_)
 rintro e w25 ⟨lg, sg, Ag, cg, Eg, rfl, Cg, Og, hb⟩
 refine ⟨_, rfl, ?_⟩
 replace HC1 := zH HM1 HC1 hb
 replace BD := zB BD hb
 replace Og := hide Og.out.rd
 replace hU := zU hU hU.size hb
 clear hb
 have Gg := zGd Eg ((gdu_ar Ya.out Yb.out hlen_mul))
 have Lg := zLe Gg
 have Yg := hide Gg.by_
 clear Gg
 refine zm (A := Ag) (m := lg.length) (c := cg) (s := sg) rfl rfl rfl ?_
 intro w26 Ng Bg hNg hb
 replace Bg := hide Bg
 replace HC1 := zH HM1 HC1 hb
 replace Og := zQ Og hb
 replace BD := zB BD hb
 have hzg : w.heap.size ≤ Ng := Nat.le_trans hU.size hNg
 clear hNg
 replace hU := zU hU hU.size hb
 clear hb
 refine sx_n (z2 [(79, z_t), (78, z_t)] (zv Bg.out rfl rfl ?_))
 refine zc rfl ((vWithSign_any false Ag lg cg sg _ Lg.out Cg Og.out Yg.out).mono ?_)
 rintro e w27 ⟨lu, su, Au, cu, Eu, rfl, Cu, Ou, hb⟩
 refine ⟨_, rfl, ?_⟩
 replace HC1 := zH HM1 HC1 hb
 replace Og := zQ Og hb
 replace Bg := zX Bg hb
 replace BD := zB BD hb
 replace Ou := hide Ou.out.rd
 replace hU := zU hU hU.size hb
 clear hb
 have Gu := zGd Eu ((cnt_gd (v := ⟨lg, sg⟩) Yg.out))
 have Lu := zLe Gu
 have Yu := hide Gu.by_
 clear Gu
 refine z1 [(82, .int .i64 ((lx.length : Nat)))] ?_
 refine zc rfl ((rfill_any 2 (lx.length) false _ Lx.out).mono ?_)
 rintro e w28 ⟨lv, sv, Av, cv, Ev, rfl, Cv, Ov, hb⟩
 refine ⟨_, rfl, ?_⟩
 replace HC1 := zH HM1 HC1 hb
 replace Og := zQ Og hb
 replace Ou := zQ Ou hb
 replace Bg := zX Bg hb
 replace BD := zB BD hb
 replace Ov := hide Ov.out.rd
 replace hU := zU hU hU.size hb
 clear hb
 have Gv := zGd Ev ((gd_xs (s := false) Gxx.out.pos Gxx.out.le))
 have Lv := zLe Gv
 have Yv := hide Gv.by_
 clear Gv
 refine zc rfl ((rsame_yes Au Av lu lv cu cv su sv _ Lu.out Lv.out Ou.out Ov.out (by rw [Eu.out, Ev.out, Eg.out, Lxx.out]; exact unk_ar Ya.out Yb.out (Or.inl HKa.out))).mono ?_)
 rintro e w29 ⟨rfl, hb⟩
 refine ⟨_, rfl, ?_⟩
 replace HC1 := zH HM1 HC1 hb
 replace Og := zQ Og hb
 replace Ou := zQ Ou hb
 replace Ov := zQ Ov hb
 replace Bg := zX Bg hb
 replace BD := zB BD hb
 replace hU := zU hU hU.size hb
 clear hb Ou Cu Lu Yu
 clear Ov Cv Lv Yv
 refine z2 [(86, z_f), (85, z_f)] (ze (zif (wp_skip (block_normal (then_normal (reg_lit ?_))))))
 refine z2 [(29, .int .i64 7), (87, .int .i64 7)] (ze ?_)
 clear Bg Og Cg Lg Yg
 clear BD
 refine zk (z_R Na Nb Nx Nz NV z_f 7) (fun X => ?_)
 refine round_s (zs (z1 [(30, z_t)] (ze (wp_seq (zit ?_)))))
 refine wp_skip (then_normal (wp_seq (wp_block (zs (z1 [(31, pt NV 14)] (zw (r1_TV _ HC1.out) 7 (by decide) rfl rfl ?_))))))
 refine zm2 24 58 rfl rfl rfl ?_
 intro w30 ND BD hb
 replace BD := hide BD
 replace HC1 := zH HM1 HC1 hb
 replace hU := zU hU hU.size hb
 clear hb
 refine sx_n (z1 [(33, pt Nx 0)] (zl (q1_x _ HC1.out) rfl rfl (z2 [(9, .int .i64 ((lx.length : Nat))), (35, .int .i64 ((lx.length : Nat)))] (sx_n (zv (q1_a _ HC1.out) rfl rfl ?_)))))
 refine zc rfl ((vKnown_w false Aa la ca sa _ La.out Ca (p1_a w30 HC1.out) Ya.out HKa.out).mono ?_)
 rintro e w31 ⟨rfl, hb⟩
 refine ⟨_, rfl, ?_⟩
 replace HC1 := zH HM1 HC1 hb
 replace BD := zB BD hb
 replace hU := zU hU hU.size hb
 clear hb
 refine z7 [(10, z_t), (43, z_t), (42, undef), (41, undef), (40, undef), (39, z_t), (38, z_t)] (ze (wp_seq (zs (z1 [(44, pt ND 0)] (zop BD.out rfl rfl ?_)))))
 refine ze (wp_block (wp_seq (zg 46 47 (zg 46 48 (zg 46 49 (zt [(46, z_t), (50, z_t)] ?_))))))
 refine wp_skip (then_normal (zit (wp_skip (block_normal (then_normal (zs ?_))))))
 refine z1 [(73, pt ND 1)] (zfn BD.out rfl rfl (zv (q1_a _ HC1.out) rfl rfl (zv (q1_b _ HC1.out) rfl rfl ?_)))
 refine zc rfl ((vDiv_any Aa Ab la lb ca cb sa sb _ La.out Lb.out Ca Cb (p1_a w31 HC1.out) (p1_b w31 HC1.out) Ya.out Yb.out).mono ?_)
 rintro e w32 ⟨lg, sg, Ag, cg, Eg, rfl, Cg, Og, hb⟩
 refine ⟨_, rfl, ?_⟩
 replace HC1 := zH HM1 HC1 hb
 replace BD := zB BD hb
 replace Og := hide Og.out.rd
 replace hU := zU hU hU.size hb
 clear hb
 have Gg := zGd Eg ((gdu_ar Ya.out Yb.out hlen_div))
 have Lg := zLe Gg
 have Yg := hide Gg.by_
 clear Gg
 refine zm (A := Ag) (m := lg.length) (c := cg) (s := sg) rfl rfl rfl ?_
 intro w33 Ng Bg hNg hb
 replace Bg := hide Bg
 replace HC1 := zH HM1 HC1 hb
 replace Og := zQ Og hb
 replace BD := zB BD hb
 have hzg : w.heap.size ≤ Ng := Nat.le_trans hU.size hNg
 clear hNg
 replace hU := zU hU hU.size hb
 clear hb
 refine sx_n (z2 [(79, z_t), (78, z_t)] (zv Bg.out rfl rfl ?_))
 refine zc rfl ((vWithSign_any false Ag lg cg sg _ Lg.out Cg Og.out Yg.out).mono ?_)
 rintro e w34 ⟨lu, su, Au, cu, Eu, rfl, Cu, Ou, hb⟩
 refine ⟨_, rfl, ?_⟩
 replace HC1 := zH HM1 HC1 hb
 replace Og := zQ Og hb
 replace Bg := zX Bg hb
 replace BD := zB BD hb
 replace Ou := hide Ou.out.rd
 replace hU := zU hU hU.size hb
 clear hb
 have Gu := zGd Eu ((cnt_gd (v := ⟨lg, sg⟩) Yg.out))
 have Lu := zLe Gu
 have Yu := hide Gu.by_
 clear Gu
 refine z1 [(82, .int .i64 ((lx.length : Nat)))] ?_
 refine zc rfl ((rfill_any 2 (lx.length) false _ Lx.out).mono ?_)
 rintro e w35 ⟨lv, sv, Av, cv, Ev, rfl, Cv, Ov, hb⟩
 refine ⟨_, rfl, ?_⟩
 replace HC1 := zH HM1 HC1 hb
 replace Og := zQ Og hb
 replace Ou := zQ Ou hb
 replace Bg := zX Bg hb
 replace BD := zB BD hb
 replace Ov := hide Ov.out.rd
 replace hU := zU hU hU.size hb
 clear hb
 have Gv := zGd Ev ((gd_xs (s := false) Gxx.out.pos Gxx.out.le))
 have Lv := zLe Gv
 have Yv := hide Gv.by_
 clear Gv
 refine zc rfl ((rsame_yes Au Av lu lv cu cv su sv _ Lu.out Lv.out Ou.out Ov.out (by rw [Eu.out, Ev.out, Eg.out, Lxx.out]; exact unk_ar Ya.out Yb.out (Or.inl HKa.out))).mono ?_)
 rintro e w36 ⟨rfl, hb⟩
 refine ⟨_, rfl, ?_⟩
 replace HC1 := zH HM1 HC1 hb
 replace Og := zQ Og hb
 replace Ou := zQ Ou hb
 replace Ov := zQ Ov hb
 replace Bg := zX Bg hb
 replace BD := zB BD hb
 replace hU := zU hU hU.size hb
 clear hb Ou Cu Lu Yu
 clear Ov Cv Lv Yv
 refine z2 [(86, z_f), (85, z_f)] (ze (zif (wp_skip (block_normal (then_normal (reg_lit ?_))))))
 refine z2 [(29, .int .i64 8), (87, .int .i64 8)] (ze ?_)
 clear Bg Og Cg Lg Yg
 clear BD
 refine zk (z_R Na Nb Nx Nz NV z_f 8) (fun X => ?_)
 refine round_s (zs (z1 [(30, z_t)] (ze (wp_seq (zit ?_)))))
 refine wp_skip (then_normal (wp_seq (wp_block (zs (z1 [(31, pt NV 16)] (zw (r1_TV _ HC1.out) 8 (by decide) rfl rfl ?_))))))
 refine zm2 25 60 rfl rfl rfl ?_
 intro w37 ND BD hb
 replace BD := hide BD
 replace HC1 := zH HM1 HC1 hb
 replace hU := zU hU hU.size hb
 clear hb
 refine sx_n (z1 [(33, pt Nx 0)] (zl (q1_x _ HC1.out) rfl rfl (z2 [(9, .int .i64 ((lx.length : Nat))), (35, .int .i64 ((lx.length : Nat)))] (sx_n (zv (q1_a _ HC1.out) rfl rfl ?_)))))
 refine zc rfl ((vKnown_w false Aa la ca sa _ La.out Ca (p1_a w37 HC1.out) Ya.out HKa.out).mono ?_)
 rintro e w38 ⟨rfl, hb⟩
 refine ⟨_, rfl, ?_⟩
 replace HC1 := zH HM1 HC1 hb
 replace BD := zB BD hb
 replace hU := zU hU hU.size hb
 clear hb
 refine z7 [(10, z_t), (43, z_t), (42, undef), (41, undef), (40, undef), (39, z_t), (38, z_t)] (ze (wp_seq (zs (z1 [(44, pt ND 0)] (zop BD.out rfl rfl ?_)))))
 refine ze (wp_block (wp_seq (zg 46 47 (zg 46 48 (zg 46 49 (zg 46 50 ?_))))))
 refine reg_lit (z2 [(46, z_t), (51, z_t)] (ze (zit (wp_skip (block_normal (then_normal ?_))))))
 refine zs (z1 [(73, pt ND 1)] (zfn BD.out rfl rfl (zv (q1_a _ HC1.out) rfl rfl (zv (q1_b _ HC1.out) rfl rfl ?_))))
 refine zc rfl ((vMod_any Aa Ab la lb ca cb sa sb _ La.out Lb.out Ca Cb (p1_a w38 HC1.out) (p1_b w38 HC1.out) Ya.out Yb.out).mono ?_)
 rintro e w39 ⟨lg, sg, Ag, cg, Eg, rfl, Cg, Og, hb⟩
 refine ⟨_, rfl, ?_⟩
 replace HC1 := zH HM1 HC1 hb
 replace BD := zB BD hb
 replace Og := hide Og.out.rd
 replace hU := zU hU hU.size hb
 clear hb
 have Gg := zGd Eg ((gdu_ar Ya.out Yb.out hlen_mod))
 have Lg := zLe Gg
 have Yg := hide Gg.by_
 clear Gg
 refine zm (A := Ag) (m := lg.length) (c := cg) (s := sg) rfl rfl rfl ?_
 intro w40 Ng Bg hNg hb
 replace Bg := hide Bg
 replace HC1 := zH HM1 HC1 hb
 replace Og := zQ Og hb
 replace BD := zB BD hb
 have hzg : w.heap.size ≤ Ng := Nat.le_trans hU.size hNg
 clear hNg
 replace hU := zU hU hU.size hb
 clear hb
 refine sx_n (z2 [(79, z_t), (78, z_t)] (zv Bg.out rfl rfl ?_))
 refine zc rfl ((vWithSign_any false Ag lg cg sg _ Lg.out Cg Og.out Yg.out).mono ?_)
 rintro e w41 ⟨lu, su, Au, cu, Eu, rfl, Cu, Ou, hb⟩
 refine ⟨_, rfl, ?_⟩
 replace HC1 := zH HM1 HC1 hb
 replace Og := zQ Og hb
 replace Bg := zX Bg hb
 replace BD := zB BD hb
 replace Ou := hide Ou.out.rd
 replace hU := zU hU hU.size hb
 clear hb
 have Gu := zGd Eu ((cnt_gd (v := ⟨lg, sg⟩) Yg.out))
 have Lu := zLe Gu
 have Yu := hide Gu.by_
 clear Gu
 refine z1 [(82, .int .i64 ((lx.length : Nat)))] ?_
 refine zc rfl ((rfill_any 2 (lx.length) false _ Lx.out).mono ?_)
 rintro e w42 ⟨lv, sv, Av, cv, Ev, rfl, Cv, Ov, hb⟩
 refine ⟨_, rfl, ?_⟩
 replace HC1 := zH HM1 HC1 hb
 replace Og := zQ Og hb
 replace Ou := zQ Ou hb
 replace Bg := zX Bg hb
 replace BD := zB BD hb
 replace Ov := hide Ov.out.rd
 replace hU := zU hU hU.size hb
 clear hb
 have Gv := zGd Ev ((gd_xs (s := false) Gxx.out.pos Gxx.out.le))
 have Lv := zLe Gv
 have Yv := hide Gv.by_
 clear Gv
 refine zc rfl ((rsame_yes Au Av lu lv cu cv su sv _ Lu.out Lv.out Ou.out Ov.out (by rw [Eu.out, Ev.out, Eg.out, Lxx.out]; exact unk_ar Ya.out Yb.out (Or.inl HKa.out))).mono ?_)
 rintro e w43 ⟨rfl, hb⟩
 refine ⟨_, rfl, ?_⟩
 replace HC1 := zH HM1 HC1 hb
 replace Og := zQ Og hb
 replace Ou := zQ Ou hb
 replace Ov := zQ Ov hb
 replace Bg := zX Bg hb
 replace BD := zB BD hb
 replace hU := zU hU hU.size hb
 clear hb Ou Cu Lu Yu
 clear Ov Cv Lv Yv
 refine z2 [(86, z_f), (85, z_f)] (ze (zif (wp_skip (block_normal (then_normal (reg_lit ?_))))))
 refine z2 [(29, .int .i64 9), (87, .int .i64 9)] (ze ?_)
 clear Bg Og Cg Lg Yg
 clear BD
 refine zk (z_R Na Nb Nx Nz NV z_f 9) (fun X => ?_)
 refine round_s (zs (z1 [(30, z_t)] (ze (wp_seq (zit ?_)))))
 refine wp_skip (then_normal (wp_seq (wp_block (zs (z1 [(31, pt NV 18)] (zw (r1_TV _ HC1.out) 9 (by decide) rfl rfl ?_))))))
 refine zm2 26 61 rfl rfl rfl ?_
 intro w44 ND BD hb
 replace BD := hide BD
 replace HC1 := zH HM1 HC1 hb
 replace hU := zU hU hU.size hb
 clear hb
 refine sx_n (z1 [(33, pt Nx 0)] (zl (q1_x _ HC1.out) rfl rfl (z2 [(9, .int .i64 ((lx.length : Nat))), (35, .int .i64 ((lx.length : Nat)))] (sx_n (zv (q1_a _ HC1.out) rfl rfl ?_)))))
 refine zc rfl ((vKnown_w false Aa la ca sa _ La.out Ca (p1_a w44 HC1.out) Ya.out HKa.out).mono ?_)
 rintro e w45 ⟨rfl, hb⟩
 refine ⟨_, rfl, ?_⟩
 replace HC1 := zH HM1 HC1 hb
 replace BD := zB BD hb
 replace hU := zU hU hU.size hb
 clear hb
 refine z7 [(10, z_t), (43, z_t), (42, undef), (41, undef), (40, undef), (39, z_t), (38, z_t)] (ze (wp_seq (zs (z1 [(44, pt ND 0)] (zop BD.out rfl rfl ?_)))))
 refine ze (wp_block (wp_seq (zg 46 47 (zg 46 48 (zg 46 49 (zg 46 50 ?_))))))
 refine reg_lit (z2 [(46, z_f), (51, z_f)] (ze (zif (wp_seq (zg 52 53 (zg 52 54 ?_))))))
 refine zg 52 55 (reg_lit (z2 [(52, z_f), (56, z_f)] (ze (zif (zt [(57, z_t), (58, z_t)] (reg_lit ?_))))))
 refine z1 [(59, pt Nz 0)] (zl (q1_z _ HC1.out) rfl rfl (z2 [(9, .int .i64 ((ly.length : Nat))), (61, .int .i64 ((ly.length : Nat)))] (wpl_end (block_normal (then_normal (zs ?_))))))
 refine z1 [(73, pt ND 1)] (zfn BD.out rfl rfl (zv (q1_a _ HC1.out) rfl rfl (zv (q1_b _ HC1.out) rfl rfl ?_)))
 refine zc rfl ((vPow_any Aa Ab la lb ca cb sa sb _ La.out Lb.out Ca Cb (p1_a w45 HC1.out) (p1_b w45 HC1.out) Ya.out Yb.out (HT.out.kept hU)).mono ?_)
 rintro e w46 ⟨lg, sg, Ag, cg, Eg, rfl, Cg, Og, hb⟩
 refine ⟨_, rfl, ?_⟩
 replace HC1 := zH HM1 HC1 hb
 replace BD := zB BD hb
 replace Og := hide Og.out.rd
 replace hU := zU hU hU.size hb
 clear hb
 have Gg := zGd Eg ((gdu_pow Ya.out))
 have Lg := zLe Gg
 have Yg := hide Gg.by_
 clear Gg
 refine zm (A := Ag) (m := lg.length) (c := cg) (s := sg) rfl rfl rfl ?_
 intro w47 Ng Bg hNg hb
 replace Bg := hide Bg
 replace HC1 := zH HM1 HC1 hb
 replace Og := zQ Og hb
 replace BD := zB BD hb
 have hzg : w.heap.size ≤ Ng := Nat.le_trans hU.size hNg
 clear hNg
 replace hU := zU hU hU.size hb
 clear hb
 refine sx_n (z2 [(79, z_t), (78, z_t)] (zv Bg.out rfl rfl ?_))
 refine zc rfl ((vWithSign_any false Ag lg cg sg _ Lg.out Cg Og.out Yg.out).mono ?_)
 rintro e w48 ⟨lu, su, Au, cu, Eu, rfl, Cu, Ou, hb⟩
 refine ⟨_, rfl, ?_⟩
 replace HC1 := zH HM1 HC1 hb
 replace Og := zQ Og hb
 replace Bg := zX Bg hb
 replace BD := zB BD hb
 replace Ou := hide Ou.out.rd
 replace hU := zU hU hU.size hb
 clear hb
 have Gu := zGd Eu ((cnt_gd (v := ⟨lg, sg⟩) Yg.out))
 have Lu := zLe Gu
 have Yu := hide Gu.by_
 clear Gu
 refine z1 [(82, .int .i64 ((ly.length : Nat)))] ?_
 refine zc rfl ((rfill_any 2 (ly.length) false _ Ly.out).mono ?_)
 rintro e w49 ⟨lv, sv, Av, cv, Ev, rfl, Cv, Ov, hb⟩
 refine ⟨_, rfl, ?_⟩
 replace HC1 := zH HM1 HC1 hb
 replace Og := zQ Og hb
 replace Ou := zQ Ou hb
 replace Bg := zX Bg hb
 replace BD := zB BD hb
 replace Ov := hide Ov.out.rd
 replace hU := zU hU hU.size hb
 clear hb
 have Gv := zGd Ev ((gd_xs (s := false) Gyy.out.pos Gyy.out.le))
 have Lv := zLe Gv
 have Yv := hide Gv.by_
 clear Gv
 refine zc rfl ((rsame_yes Au Av lu lv cu cv su sv _ Lu.out Lv.out Ou.out Ov.out (by rw [Eu.out, Ev.out, Eg.out, Lyy.out]; exact unk_pow Ya.out Yb.out (Or.inl HKa.out))).mono ?_)
 rintro e w50 ⟨rfl, hb⟩
 refine ⟨_, rfl, ?_⟩
 replace HC1 := zH HM1 HC1 hb
 replace Og := zQ Og hb
 replace Ou := zQ Ou hb
 replace Ov := zQ Ov hb
 replace Bg := zX Bg hb
 replace BD := zB BD hb
 replace hU := zU hU hU.size hb
 clear hb Ou Cu Lu Yu
 clear Ov Cv Lv Yv
 refine z2 [(86, z_f), (85, z_f)] (ze (zif (wp_skip (block_normal (then_normal (reg_lit ?_))))))
 refine z2 [(29, .int .i64 10), (87, .int .i64 10)] (ze ?_)
 clear Bg Og Cg Lg Yg
 clear BD
 refine zk (z_R Na Nb Nx Nz NV z_f 10) (fun X => ?_)
 refine round_s (zs (z1 [(30, z_t)] (ze (wp_seq (zit ?_)))))
 refine wp_skip (then_normal (wp_seq (wp_block (zs (z1 [(31, pt NV 20)] (zw (r1_TV _ HC1.out) 10 (by decide) rfl rfl ?_))))))
 refine zm2 27 91 rfl rfl rfl ?_
 intro w51 ND BD hb
 replace BD := hide BD
 replace HC1 := zH HM1 HC1 hb
 replace hU := zU hU hU.size hb
 clear hb
 refine sx_n (z1 [(33, pt Nx 0)] (zl (q1_x _ HC1.out) rfl rfl (z2 [(9, .int .i64 ((lx.length : Nat))), (35, .int .i64 ((lx.length : Nat)))] (sx_n (zv (q1_a _ HC1.out) rfl rfl ?_)))))
 refine zc rfl ((vKnown_w false Aa la ca sa _ La.out Ca (p1_a w51 HC1.out) Ya.out HKa.out).mono ?_)
 rintro e w52 ⟨rfl, hb⟩
 refine ⟨_, rfl, ?_⟩
 replace HC1 := zH HM1 HC1 hb
 replace BD := zB BD hb
 replace hU := zU hU hU.size hb
 clear hb
 refine z7 [(10, z_t), (43, z_t), (42, undef), (41, undef), (40, undef), (39, z_t), (38, z_t)] (ze (wp_seq (zs (z1 [(44, pt ND 0)] (zop BD.out rfl rfl ?_)))))
 refine ze (wp_block (wp_seq (zg 46 47 (zg 46 48 (zg 46 49 (zg 46 50 ?_))))))
 refine reg_lit (z2 [(46, z_f), (51, z_f)] (ze (zif (wp_seq (zg 52 53 (zg 52 54 ?_))))))
 refine zg 52 55 (reg_lit (z2 [(52, z_f), (56, z_f)] (ze (zif (zg 57 58 (wp_seq ?_))))))
 refine zg 62 63 (zg 62 64 (zg 62 65 (reg_lit (z2 [(62, z_f), (66, z_f)] (ze (zif ?_))))))
 refine wp_exit (exit_pass rfl (then_exit (exit_here (then_normal (reg_lit (z2 [(29, .int .i64 11), (87, .int .i64 11)] (wpl_end ?_)))))))
 refine then_normal ?_
 clear BD
 refine zk (z_R Na Nb Nx Nz NV z_f 11) (fun X => ?_)
 refine round_s (zs (z1 [(30, z_t)] (ze (wp_seq (zit ?_)))))
 refine wp_skip (then_normal (wp_seq (wp_block (zs (z1 [(31, pt NV 22)] (zw (r1_TV _ HC1.out) 11 (by decide) rfl rfl ?_))))))
 refine zm2 28 80 rfl rfl rfl ?_
 intro w53 ND BD hb
 replace BD := hide BD
 replace HC1 := zH HM1 HC1 hb
 replace hU := zU hU hU.size hb
 clear hb
 refine sx_n (z1 [(33, pt Nx 0)] (zl (q1_x _ HC1.out) rfl rfl (z2 [(9, .int .i64 ((lx.length : Nat))), (35, .int .i64 ((lx.length : Nat)))] (sx_n (zv (q1_a _ HC1.out) rfl rfl ?_)))))
 refine zc rfl ((vKnown_w false Aa la ca sa _ La.out Ca (p1_a w53 HC1.out) Ya.out HKa.out).mono ?_)
 rintro e w54 ⟨rfl, hb⟩
 refine ⟨_, rfl, ?_⟩
 replace HC1 := zH HM1 HC1 hb
 replace BD := zB BD hb
 replace hU := zU hU hU.size hb
 clear hb
 refine z7 [(10, z_t), (43, z_t), (42, undef), (41, undef), (40, undef), (39, z_t), (38, z_t)] (ze (wp_seq (zs (z1 [(44, pt ND 0)] (zop BD.out rfl rfl ?_)))))
 refine ze (wp_block (wp_seq (zg 46 47 (zg 46 48 (zg 46 49 (zg 46 50 ?_))))))
 refine reg_lit (z2 [(46, z_f), (51, z_f)] (ze (zif (wp_seq (zg 52 53 (zg 52 54 ?_))))))
 refine zg 52 55 (reg_lit (z2 [(52, z_f), (56, z_f)] (ze (zif (zg 57 58 (wp_seq ?_))))))
 refine zg 62 63 (zg 62 64 (zg 62 65 (reg_lit (z2 [(62, z_f), (66, z_f)] (ze (zif ?_))))))
 refine wp_exit (exit_pass rfl (then_exit (exit_here (then_normal (reg_lit (z2 [(29, .int .i64 12), (87, .int .i64 12)] (wpl_end ?_)))))))
 refine then_normal ?_
 clear BD
 refine zk (z_R Na Nb Nx Nz NV z_f 12) (fun X => ?_)
 refine round_s (zs (z1 [(30, z_t)] (ze (wp_seq (zit ?_)))))
 refine wp_skip (then_normal (wp_seq (wp_block (zs (z1 [(31, pt NV 24)] (zw (r1_TV _ HC1.out) 12 (by decide) rfl rfl ?_))))))
 refine zm2 31 76 rfl rfl rfl ?_
 intro w55 ND BD hb
 replace BD := hide BD
 replace HC1 := zH HM1 HC1 hb
 replace hU := zU hU hU.size hb
 clear hb
 refine sx_n (z1 [(33, pt Nx 0)] (zl (q1_x _ HC1.out) rfl rfl (z2 [(9, .int .i64 ((lx.length : Nat))), (35, .int .i64 ((lx.length : Nat)))] (sx_n (zv (q1_a _ HC1.out) rfl rfl ?_)))))
 refine zc rfl ((vKnown_w false Aa la ca sa _ La.out Ca (p1_a w55 HC1.out) Ya.out HKa.out).mono ?_)
 rintro e w56 ⟨rfl, hb⟩
 refine ⟨_, rfl, ?_⟩
 replace HC1 := zH HM1 HC1 hb
 replace BD := zB BD hb
 replace hU := zU hU hU.size hb
 clear hb
 refine z7 [(10, z_t), (43, z_t), (42, undef), (41, undef), (40, undef), (39, z_t), (38, z_t)] (ze (wp_seq (zs (z1 [(44, pt ND 0)] (zop BD.out rfl rfl ?_)))))
 refine ze (wp_block (wp_seq (zg 46 47 (zg 46 48 (zg 46 49 (zg 46 50 ?_))))))
 refine reg_lit (z2 [(46, z_f), (51, z_f)] (ze (zif (wp_seq (zt [(52, z_t), (53, z_t)] (wp_skip ?_))))))
 refine then_normal (zit (reg_lit (z1 [(9, .int .i64 1)] (wpl_end (block_normal (then_normal (wp_seq ?_)))))))
 refine reg_lit (z1 [(73, pt ND 1)] (zfn BD.out rfl rfl (zv (q1_a _ HC1.out) rfl rfl (zv (q1_b _ HC1.out) rfl rfl ?_))))
 refine zc rfl ((vLt_any Aa Ab la lb ca cb sa sb _ La.out Lb.out Ca Cb (p1_a w56 HC1.out) (p1_b w56 HC1.out) Ya.out Yb.out).mono ?_)
 rintro e w57 ⟨lg, sg, Ag, cg, Eg, rfl, Cg, Og, hb⟩
 refine ⟨_, rfl, ?_⟩
 replace HC1 := zH HM1 HC1 hb
 replace BD := zB BD hb
 replace Og := hide Og.out.rd
 replace hU := zU hU hU.size hb
 clear hb
 have Gg := zGd Eg ((gdu_cmp _ _ _))
 have Lg := zLe Gg
 have Yg := hide Gg.by_
 clear Gg
 refine zm (A := Ag) (m := lg.length) (c := cg) (s := sg) rfl rfl rfl ?_
 intro w58 Ng Bg hNg hb
 replace Bg := hide Bg
 replace HC1 := zH HM1 HC1 hb
 replace Og := zQ Og hb
 replace BD := zB BD hb
 have hzg : w.heap.size ≤ Ng := Nat.le_trans hU.size hNg
 clear hNg
 replace hU := zU hU hU.size hb
 clear hb
 refine sx_n (z2 [(79, z_t), (78, z_t)] (zv Bg.out rfl rfl ?_))
 refine zc rfl ((vWithSign_any false Ag lg cg sg _ Lg.out Cg Og.out Yg.out).mono ?_)
 rintro e w59 ⟨lu, su, Au, cu, Eu, rfl, Cu, Ou, hb⟩
 refine ⟨_, rfl, ?_⟩
 replace HC1 := zH HM1 HC1 hb
 replace Og := zQ Og hb
 replace Bg := zX Bg hb
 replace BD := zB BD hb
 replace Ou := hide Ou.out.rd
 replace hU := zU hU hU.size hb
 clear hb
 have Gu := zGd Eu ((cnt_gd (v := ⟨lg, sg⟩) Yg.out))
 have Lu := zLe Gu
 have Yu := hide Gu.by_
 clear Gu
 refine z1 [(82, .int .i64 1)] ?_
 refine zc rfl ((rfill_any 2 (1) false _ (by decide)).mono ?_)
 rintro e w60 ⟨lv, sv, Av, cv, Ev, rfl, Cv, Ov, hb⟩
 refine ⟨_, rfl, ?_⟩
 replace HC1 := zH HM1 HC1 hb
 replace Og := zQ Og hb
 replace Ou := zQ Ou hb
 replace Bg := zX Bg hb
 replace BD := zB BD hb
 replace Ov := hide Ov.out.rd
 replace hU := zU hU hU.size hb
 clear hb
 have Gv := zGd Ev ((gd_xs (n := 1) (s := false) (by decide) (by decide)))
 have Lv := zLe Gv
 have Yv := hide Gv.by_
 clear Gv
 refine zc rfl ((rsame_yes Au Av lu lv cu cv su sv _ Lu.out Lv.out Ou.out Ov.out (by rw [Eu.out, Ev.out, Eg.out]; exact unk_cmp Ya.out Yb.out (Or.inl HKa.out))).mono ?_)
 rintro e w61 ⟨rfl, hb⟩
 refine ⟨_, rfl, ?_⟩
 replace HC1 := zH HM1 HC1 hb
 replace Og := zQ Og hb
 replace Ou := zQ Ou hb
 replace Ov := zQ Ov hb
 replace Bg := zX Bg hb
 replace BD := zB BD hb
 replace hU := zU hU hU.size hb
 clear hb Ou Cu Lu Yu
 clear Ov Cv Lv Yv
 refine z2 [(86, z_f), (85, z_f)] (ze (zif (wp_skip (block_normal (then_normal (reg_lit ?_))))))
 refine z2 [(29, .int .i64 13), (87, .int .i64 13)] (ze ?_)
 clear Bg Og Cg Lg Yg
 clear BD
 refine zk (z_R Na Nb Nx Nz NV z_f 13) (fun X => ?_)
 refine round_s (zs (z1 [(30, z_t)] (ze (wp_seq (zit ?_)))))
 refine wp_skip (then_normal (wp_seq (wp_block (zs (z1 [(31, pt NV 26)] (zw (r1_TV _ HC1.out) 13 (by decide) rfl rfl ?_))))))
 refine zm2 32 78 rfl rfl rfl ?_
 intro w62 ND BD hb
 replace BD := hide BD
 replace HC1 := zH HM1 HC1 hb
 replace hU := zU hU hU.size hb
 clear hb
 refine sx_n (z1 [(33, pt Nx 0)] (zl (q1_x _ HC1.out) rfl rfl (z2 [(9, .int .i64 ((lx.length : Nat))), (35, .int .i64 ((lx.length : Nat)))] (sx_n (zv (q1_a _ HC1.out) rfl rfl ?_)))))
 refine zc rfl ((vKnown_w false Aa la ca sa _ La.out Ca (p1_a w62 HC1.out) Ya.out HKa.out).mono ?_)
 rintro e w63 ⟨rfl, hb⟩
 refine ⟨_, rfl, ?_⟩
 replace HC1 := zH HM1 HC1 hb
 replace BD := zB BD hb
 replace hU := zU hU hU.size hb
 clear hb
 refine z7 [(10, z_t), (43, z_t), (42, undef), (41, undef), (40, undef), (39, z_t), (38, z_t)] (ze (wp_seq (zs (z1 [(44, pt ND 0)] (zop BD.out rfl rfl ?_)))))
 refine ze (wp_block (wp_seq (zg 46 47 (zg 46 48 (zg 46 49 (zg 46 50 ?_))))))
 refine reg_lit (z2 [(46, z_f), (51, z_f)] (ze (zif (wp_seq (zg 52 53 (zt [(52, z_t), (54, z_t)] ?_))))))
 refine wp_skip (then_normal (zit (reg_lit (z1 [(9, .int .i64 1)] (wpl_end (block_normal (then_normal ?_)))))))
 refine zs (z1 [(73, pt ND 1)] (zfn BD.out rfl rfl (zv (q1_a _ HC1.out) rfl rfl (zv (q1_b _ HC1.out) rfl rfl ?_))))
 refine zc rfl ((vLe_any Aa Ab la lb ca cb sa sb _ La.out Lb.out Ca Cb (p1_a w63 HC1.out) (p1_b w63 HC1.out) Ya.out Yb.out).mono ?_)
 rintro e w64 ⟨lg, sg, Ag, cg, Eg, rfl, Cg, Og, hb⟩
 refine ⟨_, rfl, ?_⟩
 replace HC1 := zH HM1 HC1 hb
 replace BD := zB BD hb
 replace Og := hide Og.out.rd
 replace hU := zU hU hU.size hb
 clear hb
 have Gg := zGd Eg ((gdu_cmp _ _ _))
 have Lg := zLe Gg
 have Yg := hide Gg.by_
 clear Gg
 refine zm (A := Ag) (m := lg.length) (c := cg) (s := sg) rfl rfl rfl ?_
 intro w65 Ng Bg hNg hb
 replace Bg := hide Bg
 replace HC1 := zH HM1 HC1 hb
 replace Og := zQ Og hb
 replace BD := zB BD hb
 have hzg : w.heap.size ≤ Ng := Nat.le_trans hU.size hNg
 clear hNg
 replace hU := zU hU hU.size hb
 clear hb
 refine sx_n (z2 [(79, z_t), (78, z_t)] (zv Bg.out rfl rfl ?_))
 refine zc rfl ((vWithSign_any false Ag lg cg sg _ Lg.out Cg Og.out Yg.out).mono ?_)
 rintro e w66 ⟨lu, su, Au, cu, Eu, rfl, Cu, Ou, hb⟩
 refine ⟨_, rfl, ?_⟩
 replace HC1 := zH HM1 HC1 hb
 replace Og := zQ Og hb
 replace Bg := zX Bg hb
 replace BD := zB BD hb
 replace Ou := hide Ou.out.rd
 replace hU := zU hU hU.size hb
 clear hb
 have Gu := zGd Eu ((cnt_gd (v := ⟨lg, sg⟩) Yg.out))
 have Lu := zLe Gu
 have Yu := hide Gu.by_
 clear Gu
 refine z1 [(82, .int .i64 1)] ?_
 refine zc rfl ((rfill_any 2 (1) false _ (by decide)).mono ?_)
 rintro e w67 ⟨lv, sv, Av, cv, Ev, rfl, Cv, Ov, hb⟩
 refine ⟨_, rfl, ?_⟩
 replace HC1 := zH HM1 HC1 hb
 replace Og := zQ Og hb
 replace Ou := zQ Ou hb
 replace Bg := zX Bg hb
 replace BD := zB BD hb
 replace Ov := hide Ov.out.rd
 replace hU := zU hU hU.size hb
 clear hb
 have Gv := zGd Ev ((gd_xs (n := 1) (s := false) (by decide) (by decide)))
 have Lv := zLe Gv
 have Yv := hide Gv.by_
 clear Gv
 refine zc rfl ((rsame_yes Au Av lu lv cu cv su sv _ Lu.out Lv.out Ou.out Ov.out (by rw [Eu.out, Ev.out, Eg.out]; exact unk_cmp Ya.out Yb.out (Or.inl HKa.out))).mono ?_)
 rintro e w68 ⟨rfl, hb⟩
 refine ⟨_, rfl, ?_⟩
 replace HC1 := zH HM1 HC1 hb
 replace Og := zQ Og hb
 replace Ou := zQ Ou hb
 replace Ov := zQ Ov hb
 replace Bg := zX Bg hb
 replace BD := zB BD hb
 replace hU := zU hU hU.size hb
 clear hb Ou Cu Lu Yu
 clear Ov Cv Lv Yv
 refine z2 [(86, z_f), (85, z_f)] (ze (zif (wp_skip (block_normal (then_normal (reg_lit ?_))))))
 refine z2 [(29, .int .i64 14), (87, .int .i64 14)] (ze ?_)
 clear Bg Og Cg Lg Yg
 clear BD
 refine zk (z_R Na Nb Nx Nz NV z_f 14) (fun X => ?_)
 refine round_s (zs (z1 [(30, z_t)] (ze (wp_seq (zit ?_)))))
 refine wp_skip (then_normal (wp_seq (wp_block (zs (z1 [(31, pt NV 28)] (zw (r1_TV _ HC1.out) 14 (by decide) rfl rfl ?_))))))
 refine zm2 33 79 rfl rfl rfl ?_
 intro w69 ND BD hb
 replace BD := hide BD
 replace HC1 := zH HM1 HC1 hb
 replace hU := zU hU hU.size hb
 clear hb
 refine sx_n (z1 [(33, pt Nx 0)] (zl (q1_x _ HC1.out) rfl rfl (z2 [(9, .int .i64 ((lx.length : Nat))), (35, .int .i64 ((lx.length : Nat)))] (sx_n (zv (q1_a _ HC1.out) rfl rfl ?_)))))
 refine zc rfl ((vKnown_w false Aa la ca sa _ La.out Ca (p1_a w69 HC1.out) Ya.out HKa.out).mono ?_)
 rintro e w70 ⟨rfl, hb⟩
 refine ⟨_, rfl, ?_⟩
 replace HC1 := zH HM1 HC1 hb
 replace BD := zB BD hb
 replace hU := zU hU hU.size hb
 clear hb
 refine z7 [(10, z_t), (43, z_t), (42, undef), (41, undef), (40, undef), (39, z_t), (38, z_t)] (ze (wp_seq (zs (z1 [(44, pt ND 0)] (zop BD.out rfl rfl ?_)))))
 refine ze (wp_block (wp_seq (zg 46 47 (zg 46 48 (zg 46 49 (zg 46 50 ?_))))))
 refine reg_lit (z2 [(46, z_f), (51, z_f)] (ze (zif (wp_seq (zg 52 53 (zg 52 54 ?_))))))
 refine zt [(52, z_t), (55, z_t)] (wp_skip (then_normal (zit (reg_lit (z1 [(9, .int .i64 1)] (wpl_end (block_normal ?_)))))))
 refine then_normal (zs (z1 [(73, pt ND 1)] (zfn BD.out rfl rfl (zv (q1_a _ HC1.out) rfl rfl (zv (q1_b _ HC1.out) rfl rfl ?_)))))
 refine zc rfl ((vGt_any Aa Ab la lb ca cb sa sb _ La.out Lb.out Ca Cb (p1_a w70 HC1.out) (p1_b w70 HC1.out) Ya.out Yb.out).mono ?_)
 rintro e w71 ⟨lg, sg, Ag, cg, Eg, rfl, Cg, Og, hb⟩
 refine ⟨_, rfl, ?_⟩
 replace HC1 := zH HM1 HC1 hb
 replace BD := zB BD hb
 replace Og := hide Og.out.rd
 replace hU := zU hU hU.size hb
 clear hb
 have Gg := zGd Eg ((gdu_cmp _ _ _))
 have Lg := zLe Gg
 have Yg := hide Gg.by_
 clear Gg
 refine zm (A := Ag) (m := lg.length) (c := cg) (s := sg) rfl rfl rfl ?_
 intro w72 Ng Bg hNg hb
 replace Bg := hide Bg
 replace HC1 := zH HM1 HC1 hb
 replace Og := zQ Og hb
 replace BD := zB BD hb
 have hzg : w.heap.size ≤ Ng := Nat.le_trans hU.size hNg
 clear hNg
 replace hU := zU hU hU.size hb
 clear hb
 refine sx_n (z2 [(79, z_t), (78, z_t)] (zv Bg.out rfl rfl ?_))
 refine zc rfl ((vWithSign_any false Ag lg cg sg _ Lg.out Cg Og.out Yg.out).mono ?_)
 rintro e w73 ⟨lu, su, Au, cu, Eu, rfl, Cu, Ou, hb⟩
 refine ⟨_, rfl, ?_⟩
 replace HC1 := zH HM1 HC1 hb
 replace Og := zQ Og hb
 replace Bg := zX Bg hb
 replace BD := zB BD hb
 replace Ou := hide Ou.out.rd
 replace hU := zU hU hU.size hb
 clear hb
 have Gu := zGd Eu ((cnt_gd (v := ⟨lg, sg⟩) Yg.out))
 have Lu := zLe Gu
 have Yu := hide Gu.by_
 clear Gu
 refine z1 [(82, .int .i64 1)] ?_
 refine zc rfl ((rfill_any 2 (1) false _ (by decide)).mono ?_)
 rintro e w74 ⟨lv, sv, Av, cv, Ev, rfl, Cv, Ov, hb⟩
 refine ⟨_, rfl, ?_⟩
 replace HC1 := zH HM1 HC1 hb
 replace Og := zQ Og hb
 replace Ou := zQ Ou hb
 replace Bg := zX Bg hb
 replace BD := zB BD hb
 replace Ov := hide Ov.out.rd
 replace hU := zU hU hU.size hb
 clear hb
 have Gv := zGd Ev ((gd_xs (n := 1) (s := false) (by decide) (by decide)))
 have Lv := zLe Gv
 have Yv := hide Gv.by_
 clear Gv
 refine zc rfl ((rsame_yes Au Av lu lv cu cv su sv _ Lu.out Lv.out Ou.out Ov.out (by rw [Eu.out, Ev.out, Eg.out]; exact unk_cmp Ya.out Yb.out (Or.inl HKa.out))).mono ?_)
 rintro e w75 ⟨rfl, hb⟩
 refine ⟨_, rfl, ?_⟩
 replace HC1 := zH HM1 HC1 hb
 replace Og := zQ Og hb
 replace Ou := zQ Ou hb
 replace Ov := zQ Ov hb
 replace Bg := zX Bg hb
 replace BD := zB BD hb
 replace hU := zU hU hU.size hb
 clear hb Ou Cu Lu Yu
 clear Ov Cv Lv Yv
 refine z2 [(86, z_f), (85, z_f)] (ze (zif (wp_skip (block_normal (then_normal (reg_lit ?_))))))
 refine z2 [(29, .int .i64 15), (87, .int .i64 15)] (ze ?_)
 clear Bg Og Cg Lg Yg
 clear BD
 refine zk (z_R Na Nb Nx Nz NV z_f 15) (fun X => ?_)
 refine round_s (zs (z1 [(30, z_t)] (ze (wp_seq (zit ?_)))))
 refine wp_skip (then_normal (wp_seq (wp_block (zs (z1 [(31, pt NV 30)] (zw (r1_TV _ HC1.out) 15 (by decide) rfl rfl ?_))))))
 refine zm2 34 77 rfl rfl rfl ?_
 intro w76 ND BD hb
 replace BD := hide BD
 replace HC1 := zH HM1 HC1 hb
 replace hU := zU hU hU.size hb
 clear hb
 refine sx_n (z1 [(33, pt Nx 0)] (zl (q1_x _ HC1.out) rfl rfl (z2 [(9, .int .i64 ((lx.length : Nat))), (35, .int .i64 ((lx.length : Nat)))] (sx_n (zv (q1_a _ HC1.out) rfl rfl ?_)))))
 refine zc rfl ((vKnown_w false Aa la ca sa _ La.out Ca (p1_a w76 HC1.out) Ya.out HKa.out).mono ?_)
 rintro e w77 ⟨rfl, hb⟩
 refine ⟨_, rfl, ?_⟩
 replace HC1 := zH HM1 HC1 hb
 replace BD := zB BD hb
 replace hU := zU hU hU.size hb
 clear hb
 refine z7 [(10, z_t), (43, z_t), (42, undef), (41, undef), (40, undef), (39, z_t), (38, z_t)] (ze (wp_seq (zs (z1 [(44, pt ND 0)] (zop BD.out rfl rfl ?_)))))
 refine ze (wp_block (wp_seq (zg 46 47 (zg 46 48 (zg 46 49 (zg 46 50 ?_))))))
 refine reg_lit (z2 [(46, z_f), (51, z_f)] (ze (zif (wp_seq (zg 52 53 (zg 52 54 ?_))))))
 refine zg 52 55 (reg_lit (z2 [(52, z_t), (56, z_t)] (ze (zit (reg_lit (z1 [(9, .int .i64 1)] ?_))))))
 refine wpl_end (block_normal (then_normal (zs (z1 [(73, pt ND 1)] (zfn BD.out rfl rfl (zv (q1_a _ HC1.out) rfl rfl ?_))))))
 refine zv (q1_b _ HC1.out) rfl rfl ?_
 refine zc rfl ((vGe_any Aa Ab la lb ca cb sa sb _ La.out Lb.out Ca Cb (p1_a w77 HC1.out) (p1_b w77 HC1.out) Ya.out Yb.out).mono ?_)
 rintro e w78 ⟨lg, sg, Ag, cg, Eg, rfl, Cg, Og, hb⟩
 refine ⟨_, rfl, ?_⟩
 replace HC1 := zH HM1 HC1 hb
 replace BD := zB BD hb
 replace Og := hide Og.out.rd
 replace hU := zU hU hU.size hb
 clear hb
 have Gg := zGd Eg ((gdu_cmp _ _ _))
 have Lg := zLe Gg
 have Yg := hide Gg.by_
 clear Gg
 refine zm (A := Ag) (m := lg.length) (c := cg) (s := sg) rfl rfl rfl ?_
 intro w79 Ng Bg hNg hb
 replace Bg := hide Bg
 replace HC1 := zH HM1 HC1 hb
 replace Og := zQ Og hb
 replace BD := zB BD hb
 have hzg : w.heap.size ≤ Ng := Nat.le_trans hU.size hNg
 clear hNg
 replace hU := zU hU hU.size hb
 clear hb
 refine sx_n (z2 [(79, z_t), (78, z_t)] (zv Bg.out rfl rfl ?_))
 refine zc rfl ((vWithSign_any false Ag lg cg sg _ Lg.out Cg Og.out Yg.out).mono ?_)
 rintro e w80 ⟨lu, su, Au, cu, Eu, rfl, Cu, Ou, hb⟩
 refine ⟨_, rfl, ?_⟩
 replace HC1 := zH HM1 HC1 hb
 replace Og := zQ Og hb
 replace Bg := zX Bg hb
 replace BD := zB BD hb
 replace Ou := hide Ou.out.rd
 replace hU := zU hU hU.size hb
 clear hb
 have Gu := zGd Eu ((cnt_gd (v := ⟨lg, sg⟩) Yg.out))
 have Lu := zLe Gu
 have Yu := hide Gu.by_
 clear Gu
 refine z1 [(82, .int .i64 1)] ?_
 refine zc rfl ((rfill_any 2 (1) false _ (by decide)).mono ?_)
 rintro e w81 ⟨lv, sv, Av, cv, Ev, rfl, Cv, Ov, hb⟩
 refine ⟨_, rfl, ?_⟩
 replace HC1 := zH HM1 HC1 hb
 replace Og := zQ Og hb
 replace Ou := zQ Ou hb
 replace Bg := zX Bg hb
 replace BD := zB BD hb
 replace Ov := hide Ov.out.rd
 replace hU := zU hU hU.size hb
 clear hb
 have Gv := zGd Ev ((gd_xs (n := 1) (s := false) (by decide) (by decide)))
 have Lv := zLe Gv
 have Yv := hide Gv.by_
 clear Gv
 refine zc rfl ((rsame_yes Au Av lu lv cu cv su sv _ Lu.out Lv.out Ou.out Ov.out (by rw [Eu.out, Ev.out, Eg.out]; exact unk_cmp Ya.out Yb.out (Or.inl HKa.out))).mono ?_)
 rintro e w82 ⟨rfl, hb⟩
 refine ⟨_, rfl, ?_⟩
 replace HC1 := zH HM1 HC1 hb
 replace Og := zQ Og hb
 replace Ou := zQ Ou hb
 replace Ov := zQ Ov hb
 replace Bg := zX Bg hb
 replace BD := zB BD hb
 replace hU := zU hU hU.size hb
 clear hb Ou Cu Lu Yu
 clear Ov Cv Lv Yv
 refine z2 [(86, z_f), (85, z_f)] (ze (zif (wp_skip (block_normal (then_normal (reg_lit ?_))))))
 refine z2 [(29, .int .i64 16), (87, .int .i64 16)] (ze ?_)
 clear Bg Og Cg Lg Yg
 clear BD
 refine zk (z_R Na Nb Nx Nz NV z_f 16) (fun X => ?_)
 refine round_s (zs (z1 [(30, z_t)] (ze (wp_seq (zit ?_)))))
 refine wp_skip (then_normal (wp_seq (wp_block (zs (z1 [(31, pt NV 32)] (zw (r1_TV _ HC1.out) 16 (by decide) rfl rfl ?_))))))
 refine zm2 35 73 rfl rfl rfl ?_
 intro w83 ND BD hb
 replace BD := hide BD
 replace HC1 := zH HM1 HC1 hb
 replace hU := zU hU hU.size hb
 clear hb
 refine sx_n (z1 [(33, pt Nx 0)] (zl (q1_x _ HC1.out) rfl rfl (z2 [(9, .int .i64 ((lx.length : Nat))), (35, .int .i64 ((lx.length : Nat)))] (sx_n (zv (q1_a _ HC1.out) rfl rfl ?_)))))
 refine zc rfl ((vKnown_w false Aa la ca sa _ La.out Ca (p1_a w83 HC1.out) Ya.out HKa.out).mono ?_)
 rintro e w84 ⟨rfl, hb⟩
 refine ⟨_, rfl, ?_⟩
 replace HC1 := zH HM1 HC1 hb
 replace BD := zB BD hb
 replace hU := zU hU hU.size hb
 clear hb
 refine z7 [(10, z_t), (43, z_t), (42, undef), (41, undef), (40, undef), (39, z_t), (38, z_t)] (ze (wp_seq (zs (z1 [(44, pt ND 0)] (zop BD.out rfl rfl ?_)))))
 refine ze (wp_block (wp_seq (zg 46 47 (zg 46 48 (zg 46 49 (zg 46 50 ?_))))))
 refine reg_lit (z2 [(46, z_f), (51, z_f)] (ze (zif (wp_seq (zg 52 53 (zg 52 54 ?_))))))
 refine zg 52 55 (reg_lit (z2 [(52, z_f), (56, z_f)] (ze (zif (zg 57 58 (wp_seq ?_))))))
 refine zg 62 63 (zg 62 64 (zg 62 65 (reg_lit (z2 [(62, z_f), (66, z_f)] (ze (zif ?_))))))
 refine wp_exit (exit_pass rfl (then_exit (exit_here (then_normal (reg_lit (z2 [(29, .int .i64 17), (87, .int .i64 17)] (wpl_end ?_)))))))
 refine then_normal ?_
 clear BD
 refine zk (z_R Na Nb Nx Nz NV z_f 17) (fun X => ?_)
 refine round_s (zs (z1 [(30, z_t)] (ze (wp_seq (zit ?_)))))
 refine wp_skip (then_normal (wp_seq (wp_block (zs (z1 [(31, pt NV 34)] (zw (r1_TV _ HC1.out) 17 (by decide) rfl rfl ?_))))))
 refine zm2 36 74 rfl rfl rfl ?_
 intro w85 ND BD hb
 replace BD := hide BD
 replace HC1 := zH HM1 HC1 hb
 replace hU := zU hU hU.size hb
 clear hb
 refine sx_n (z1 [(33, pt Nx 0)] (zl (q1_x _ HC1.out) rfl rfl (z2 [(9, .int .i64 ((lx.length : Nat))), (35, .int .i64 ((lx.length : Nat)))] (sx_n (zv (q1_a _ HC1.out) rfl rfl ?_)))))
 refine zc rfl ((vKnown_w false Aa la ca sa _ La.out Ca (p1_a w85 HC1.out) Ya.out HKa.out).mono ?_)
 rintro e w86 ⟨rfl, hb⟩
 refine ⟨_, rfl, ?_⟩
 replace HC1 := zH HM1 HC1 hb
 replace BD := zB BD hb
 replace hU := zU hU hU.size hb
 clear hb
 refine z7 [(10, z_t), (43, z_t), (42, undef), (41, undef), (40, undef), (39, z_t), (38, z_t)] (ze (wp_seq (zs (z1 [(44, pt ND 0)] (zop BD.out rfl rfl ?_)))))
 refine ze (wp_block (wp_seq (zg 46 47 (zg 46 48 (zg 46 49 (zg 46 50 ?_))))))
 refine reg_lit (z2 [(46, z_f), (51, z_f)] (ze (zif (wp_seq (zg 52 53 (zg 52 54 ?_))))))
 refine zg 52 55 (reg_lit (z2 [(52, z_f), (56, z_f)] (ze (zif (zg 57 58 (wp_seq ?_))))))
 refine zg 62 63 (zg 62 64 (zg 62 65 (reg_lit (z2 [(62, z_f), (66, z_f)] (ze (zif ?_))))))
 refine wp_exit (exit_pass rfl (then_exit (exit_here (then_normal (reg_lit (z2 [(29, .int .i64 18), (87, .int .i64 18)] (wpl_end ?_)))))))
 refine then_normal ?_
 clear BD
 refine zk (z_R Na Nb Nx Nz NV z_f 18) (fun X => ?_)
 refine round_s (zs (z1 [(30, z_t)] (ze (wp_seq (zit ?_)))))
 refine wp_skip (then_normal (wp_seq (wp_block (zs (z1 [(31, pt NV 36)] (zw (r1_TV _ HC1.out) 18 (by decide) rfl rfl ?_))))))
 refine zm2 41 62 rfl rfl rfl ?_
 intro w87 ND BD hb
 replace BD := hide BD
 replace HC1 := zH HM1 HC1 hb
 replace hU := zU hU hU.size hb
 clear hb
 refine sx_n (z1 [(33, pt Nx 0)] (zl (q1_x _ HC1.out) rfl rfl (z2 [(9, .int .i64 ((lx.length : Nat))), (35, .int .i64 ((lx.length : Nat)))] (sx_n (zv (q1_a _ HC1.out) rfl rfl ?_)))))
 refine zc rfl ((vKnown_w false Aa la ca sa _ La.out Ca (p1_a w87 HC1.out) Ya.out HKa.out).mono ?_)
 rintro e w88 ⟨rfl, hb⟩
 refine ⟨_, rfl, ?_⟩
 replace HC1 := zH HM1 HC1 hb
 replace BD := zB BD hb
 replace hU := zU hU hU.size hb
 clear hb
 refine z7 [(10, z_t), (43, z_t), (42, undef), (41, undef), (40, undef), (39, z_t), (38, z_t)] (ze (wp_seq (zs (z1 [(44, pt ND 0)] (zop BD.out rfl rfl ?_)))))
 refine ze (wp_block (wp_seq (zg 46 47 (zg 46 48 (zg 46 49 (zg 46 50 ?_))))))
 refine reg_lit (z2 [(46, z_f), (51, z_f)] (ze (zif (wp_seq (zg 52 53 (zg 52 54 ?_))))))
 refine zg 52 55 (reg_lit (z2 [(52, z_f), (56, z_f)] (ze (zif (zg 57 58 (wp_seq ?_))))))
 refine zt [(62, z_t), (63, z_t)] (wp_skip (then_normal (zit (region_R (n := 7) (N := 8) (by kernel_rfl) (by kernel_rfl) (by kernel_rfl) (by kernel_rfl) (by kernel_rfl) (by kernel_rfl) (fun _ _ _ _ _ h => hP _ _ _ _ _ h) ?_))))
 intro F hQ
 have HC0 := HC1
 refine zav (i := 0) (m' := 1) (v := .pointer (some ⟨Nz, 0, none⟩)) F hQ rfl rfl (anyR_ldsl (i := 1) (m' := 3) (q1_z _ HC0.out) F hQ rfl rfl (by kernel_rfl) (by kernel_rfl) (by kernel_rfl) (by kernel_rfl) (by kernel_rfl) rfl (by kernel_rfl) (zav (i := 2) (m' := 7) (v := .int .i64 ((ly.length : Nat))) F hQ rfl rfl (anyR_ldvec (i := 3) (m' := 15) (q1_b _ HC0.out) F hQ rfl rfl (by kernel_rfl) (by kernel_rfl) (by kernel_rfl) (by kernel_rfl) (by kernel_rfl) rfl (by kernel_rfl) ?_)))
 refine zac (i := 4) (m' := 31) rfl rfl ((vKnown_w true Ab lb cb sb _ Lb.out Cb (by exact (p1_b w88 HC1.out)) Yb.out HKb.out).mono ?_)
 rintro e w89 ⟨rfl, hb⟩
 refine ⟨_, rfl, hb, ?_⟩
 replace hb : Below w88.heap.size w88 w89 := Below.trans ((Below.refl _ _).drew) hb
 replace HC1 := zH HM1 HC1 hb
 replace BD := zB BD hb
 replace hU := zU hU hU.size hb
 clear hb
 refine zav (i := 5) (m' := 63) (v := .bool false) F hQ rfl rfl (zav (i := 6) (m' := 127) (v := .int .i64 ((ly.length : Nat))) F hQ rfl rfl (anyR_e (anyR_last (i := 7) (m' := 255) (v := .bool false) rfl rfl (by kernel_rfl) (by kernel_rfl) (by kernel_rfl) (by kernel_rfl) (by kernel_rfl) (anyE_done (by kernel_rfl) ?_))))
 clear F hQ HC0
 refine block_normal (then_normal (zs (z1 [(73, pt ND 1)] (zfn BD.out rfl rfl (zv (q1_a _ HC1.out) rfl rfl (zv (q1_b _ HC1.out) rfl rfl ?_))))))
 refine zc rfl ((vShl_any Aa Ab la lb ca cb sa sb _ La.out Lb.out Ca Cb (p1_a w89 HC1.out) (p1_b w89 HC1.out) Ya.out Yb.out).mono ?_)
 rintro e w90 ⟨lg, sg, Ag, cg, Eg, rfl, Cg, Og, hb⟩
 refine ⟨_, rfl, ?_⟩
 replace HC1 := zH HM1 HC1 hb
 replace BD := zB BD hb
 replace Og := hide Og.out.rd
 replace hU := zU hU hU.size hb
 clear hb
 have Gg := zGd Eg ((gdu_shf Ya.out gdm_shl))
 have Lg := zLe Gg
 have Yg := hide Gg.by_
 clear Gg
 refine zm (A := Ag) (m := lg.length) (c := cg) (s := sg) rfl rfl rfl ?_
 intro w91 Ng Bg hNg hb
 replace Bg := hide Bg
 replace HC1 := zH HM1 HC1 hb
 replace Og := zQ Og hb
 replace BD := zB BD hb
 have hzg : w.heap.size ≤ Ng := Nat.le_trans hU.size hNg
 clear hNg
 replace hU := zU hU hU.size hb
 clear hb
 refine sx_n (z9 [(86, z_f), (85, undef), (84, undef), (83, undef), (82, undef), (81, undef), (80, undef), (79, z_f), (78, z_f)] (ze (zif (wp_skip (block_normal (then_normal ?_))))))
 refine reg_lit (z2 [(29, .int .i64 19), (87, .int .i64 19)] (ze ?_))
 clear Bg Og Cg Lg Yg
 clear BD
 refine zk (z_R Na Nb Nx Nz NV z_f 19) (fun X => ?_)
 refine round_s (zs (z1 [(30, z_t)] (ze (wp_seq (zit ?_)))))
 refine wp_skip (then_normal (wp_seq (wp_block (zs (z1 [(31, pt NV 38)] (zw (r1_TV _ HC1.out) 19 (by decide) rfl rfl ?_))))))
 refine zm2 42 63 rfl rfl rfl ?_
 intro w92 ND BD hb
 replace BD := hide BD
 replace HC1 := zH HM1 HC1 hb
 replace hU := zU hU hU.size hb
 clear hb
 refine sx_n (z1 [(33, pt Nx 0)] (zl (q1_x _ HC1.out) rfl rfl (z2 [(9, .int .i64 ((lx.length : Nat))), (35, .int .i64 ((lx.length : Nat)))] (sx_n (zv (q1_a _ HC1.out) rfl rfl ?_)))))
 refine zc rfl ((vKnown_w false Aa la ca sa _ La.out Ca (p1_a w92 HC1.out) Ya.out HKa.out).mono ?_)
 rintro e w93 ⟨rfl, hb⟩
 refine ⟨_, rfl, ?_⟩
 replace HC1 := zH HM1 HC1 hb
 replace BD := zB BD hb
 replace hU := zU hU hU.size hb
 clear hb
 refine z7 [(10, z_t), (43, z_t), (42, undef), (41, undef), (40, undef), (39, z_t), (38, z_t)] (ze (wp_seq (zs (z1 [(44, pt ND 0)] (zop BD.out rfl rfl ?_)))))
 refine ze (wp_block (wp_seq (zg 46 47 (zg 46 48 (zg 46 49 (zg 46 50 ?_))))))
 refine reg_lit (z2 [(46, z_f), (51, z_f)] (ze (zif (wp_seq (zg 52 53 (zg 52 54 ?_))))))
 refine zg 52 55 (reg_lit (z2 [(52, z_f), (56, z_f)] (ze (zif (zg 57 58 (wp_seq ?_))))))
 refine zg 62 63 (zt [(62, z_t), (64, z_t)] (wp_skip (then_normal (zit (region_R (n := 7) (N := 8) (by kernel_rfl) (by kernel_rfl) (by kernel_rfl) (by kernel_rfl) (by kernel_rfl) (by kernel_rfl) (fun _ _ _ _ _ h => hP _ _ _ _ _ h) ?_)))))
 intro F hQ
 have HC0 := HC1
 refine zav (i := 0) (m' := 1) (v := .pointer (some ⟨Nz, 0, none⟩)) F hQ rfl rfl (anyR_ldsl (i := 1) (m' := 3) (q1_z _ HC0.out) F hQ rfl rfl (by kernel_rfl) (by kernel_rfl) (by kernel_rfl) (by kernel_rfl) (by kernel_rfl) rfl (by kernel_rfl) (zav (i := 2) (m' := 7) (v := .int .i64 ((ly.length : Nat))) F hQ rfl rfl (anyR_ldvec (i := 3) (m' := 15) (q1_b _ HC0.out) F hQ rfl rfl (by kernel_rfl) (by kernel_rfl) (by kernel_rfl) (by kernel_rfl) (by kernel_rfl) rfl (by kernel_rfl) ?_)))
 refine zac (i := 4) (m' := 31) rfl rfl ((vKnown_w true Ab lb cb sb _ Lb.out Cb (by exact (p1_b w93 HC1.out)) Yb.out HKb.out).mono ?_)
 rintro e w94 ⟨rfl, hb⟩
 refine ⟨_, rfl, hb, ?_⟩
 replace hb : Below w93.heap.size w93 w94 := Below.trans ((Below.refl _ _).drew) hb
 replace HC1 := zH HM1 HC1 hb
 replace BD := zB BD hb
 replace hU := zU hU hU.size hb
 clear hb
 refine zav (i := 5) (m' := 63) (v := .bool false) F hQ rfl rfl (zav (i := 6) (m' := 127) (v := .int .i64 ((ly.length : Nat))) F hQ rfl rfl (anyR_e (anyR_last (i := 7) (m' := 255) (v := .bool false) rfl rfl (by kernel_rfl) (by kernel_rfl) (by kernel_rfl) (by kernel_rfl) (by kernel_rfl) (anyE_done (by kernel_rfl) ?_))))
 clear F hQ HC0
 refine block_normal (then_normal (zs (z1 [(73, pt ND 1)] (zfn BD.out rfl rfl (zv (q1_a _ HC1.out) rfl rfl (zv (q1_b _ HC1.out) rfl rfl ?_))))))
 refine zc rfl ((vShr_any Aa Ab la lb ca cb sa sb _ La.out Lb.out Ca Cb (p1_a w94 HC1.out) (p1_b w94 HC1.out) Ya.out Yb.out).mono ?_)
 rintro e w95 ⟨lg, sg, Ag, cg, Eg, rfl, Cg, Og, hb⟩
 refine ⟨_, rfl, ?_⟩
 replace HC1 := zH HM1 HC1 hb
 replace BD := zB BD hb
 replace Og := hide Og.out.rd
 replace hU := zU hU hU.size hb
 clear hb
 have Gg := zGd Eg ((gdu_shf Ya.out gdm_shr))
 have Lg := zLe Gg
 have Yg := hide Gg.by_
 clear Gg
 refine zm (A := Ag) (m := lg.length) (c := cg) (s := sg) rfl rfl rfl ?_
 intro w96 Ng Bg hNg hb
 replace Bg := hide Bg
 replace HC1 := zH HM1 HC1 hb
 replace Og := zQ Og hb
 replace BD := zB BD hb
 have hzg : w.heap.size ≤ Ng := Nat.le_trans hU.size hNg
 clear hNg
 replace hU := zU hU hU.size hb
 clear hb
 refine sx_n (z9 [(86, z_f), (85, undef), (84, undef), (83, undef), (82, undef), (81, undef), (80, undef), (79, z_f), (78, z_f)] (ze (zif (wp_skip (block_normal (then_normal ?_))))))
 refine reg_lit (z2 [(29, .int .i64 20), (87, .int .i64 20)] (ze ?_))
 clear Bg Og Cg Lg Yg
 clear BD
 refine zk (z_R Na Nb Nx Nz NV z_f 20) (fun X => ?_)
 refine round_s (zs (z1 [(30, z_t)] (ze (wp_seq (zit ?_)))))
 refine wp_skip (then_normal (wp_seq (wp_block (zs (z1 [(31, pt NV 40)] (zw (r1_TV _ HC1.out) 20 (by decide) rfl rfl ?_))))))
 refine zm2 43 65 rfl rfl rfl ?_
 intro w97 ND BD hb
 replace BD := hide BD
 replace HC1 := zH HM1 HC1 hb
 replace hU := zU hU hU.size hb
 clear hb
 refine sx_n (z1 [(33, pt Nx 0)] (zl (q1_x _ HC1.out) rfl rfl (z2 [(9, .int .i64 ((lx.length : Nat))), (35, .int .i64 ((lx.length : Nat)))] (sx_n (zv (q1_a _ HC1.out) rfl rfl ?_)))))
 refine zc rfl ((vKnown_w false Aa la ca sa _ La.out Ca (p1_a w97 HC1.out) Ya.out HKa.out).mono ?_)
 rintro e w98 ⟨rfl, hb⟩
 refine ⟨_, rfl, ?_⟩
 replace HC1 := zH HM1 HC1 hb
 replace BD := zB BD hb
 replace hU := zU hU hU.size hb
 clear hb
 refine z7 [(10, z_t), (43, z_t), (42, undef), (41, undef), (40, undef), (39, z_t), (38, z_t)] (ze (wp_seq (zs (z1 [(44, pt ND 0)] (zop BD.out rfl rfl ?_)))))
 refine ze (wp_block (wp_seq (zg 46 47 (zg 46 48 (zg 46 49 (zg 46 50 ?_))))))
 refine reg_lit (z2 [(46, z_f), (51, z_f)] (ze (zif (wp_seq (zg 52 53 (zg 52 54 ?_))))))
 refine zg 52 55 (reg_lit (z2 [(52, z_f), (56, z_f)] (ze (zif (zg 57 58 (wp_seq ?_))))))
 refine zg 62 63 (zg 62 64 (zt [(62, z_t), (65, z_t)] (wp_skip (then_normal (zit (region_R (n := 7) (N := 8) (by kernel_rfl) (by kernel_rfl) (by kernel_rfl) (by kernel_rfl) (by kernel_rfl) (by kernel_rfl) (fun _ _ _ _ _ h => hP _ _ _ _ _ h) ?_))))))
 intro F hQ
 have HC0 := HC1
 refine zav (i := 0) (m' := 1) (v := .pointer (some ⟨Nz, 0, none⟩)) F hQ rfl rfl (anyR_ldsl (i := 1) (m' := 3) (q1_z _ HC0.out) F hQ rfl rfl (by kernel_rfl) (by kernel_rfl) (by kernel_rfl) (by kernel_rfl) (by kernel_rfl) rfl (by kernel_rfl) (zav (i := 2) (m' := 7) (v := .int .i64 ((ly.length : Nat))) F hQ rfl rfl (anyR_ldvec (i := 3) (m' := 15) (q1_b _ HC0.out) F hQ rfl rfl (by kernel_rfl) (by kernel_rfl) (by kernel_rfl) (by kernel_rfl) (by kernel_rfl) rfl (by kernel_rfl) ?_)))
 refine zac (i := 4) (m' := 31) rfl rfl ((vKnown_w true Ab lb cb sb _ Lb.out Cb (by exact (p1_b w98 HC1.out)) Yb.out HKb.out).mono ?_)
 rintro e w99 ⟨rfl, hb⟩
 refine ⟨_, rfl, hb, ?_⟩
 replace hb : Below w98.heap.size w98 w99 := Below.trans ((Below.refl _ _).drew) hb
 replace HC1 := zH HM1 HC1 hb
 replace BD := zB BD hb
 replace hU := zU hU hU.size hb
 clear hb
 refine zav (i := 5) (m' := 63) (v := .bool false) F hQ rfl rfl (zav (i := 6) (m' := 127) (v := .int .i64 ((ly.length : Nat))) F hQ rfl rfl (anyR_e (anyR_last (i := 7) (m' := 255) (v := .bool false) rfl rfl (by kernel_rfl) (by kernel_rfl) (by kernel_rfl) (by kernel_rfl) (by kernel_rfl) (anyE_done (by kernel_rfl) ?_))))
 clear F hQ HC0
 refine block_normal (then_normal (zs (z1 [(73, pt ND 1)] (zfn BD.out rfl rfl (zv (q1_a _ HC1.out) rfl rfl (zv (q1_b _ HC1.out) rfl rfl ?_))))))
 refine zc rfl ((vAShl_any Aa Ab la lb ca cb sa sb _ La.out Lb.out Ca Cb (p1_a w99 HC1.out) (p1_b w99 HC1.out) Ya.out Yb.out).mono ?_)
 rintro e w100 ⟨lg, sg, Ag, cg, Eg, rfl, Cg, Og, hb⟩
 refine ⟨_, rfl, ?_⟩
 replace HC1 := zH HM1 HC1 hb
 replace BD := zB BD hb
 replace Og := hide Og.out.rd
 replace hU := zU hU hU.size hb
 clear hb
 have Gg := zGd Eg ((gdu_shf Ya.out gdm_shl))
 have Lg := zLe Gg
 have Yg := hide Gg.by_
 clear Gg
 refine zm (A := Ag) (m := lg.length) (c := cg) (s := sg) rfl rfl rfl ?_
 intro w101 Ng Bg hNg hb
 replace Bg := hide Bg
 replace HC1 := zH HM1 HC1 hb
 replace Og := zQ Og hb
 replace BD := zB BD hb
 have hzg : w.heap.size ≤ Ng := Nat.le_trans hU.size hNg
 clear hNg
 replace hU := zU hU hU.size hb
 clear hb
 refine sx_n (z9 [(86, z_f), (85, undef), (84, undef), (83, undef), (82, undef), (81, undef), (80, undef), (79, z_f), (78, z_f)] (ze (zif (wp_skip (block_normal (then_normal ?_))))))
 refine reg_lit (z2 [(29, .int .i64 21), (87, .int .i64 21)] (ze ?_))
 clear Bg Og Cg Lg Yg
 clear BD
 refine zk (z_R Na Nb Nx Nz NV z_f 21) (fun X => ?_)
 refine round_s (zs (z1 [(30, z_t)] (ze (wp_seq (zit ?_)))))
 refine wp_skip (then_normal (wp_seq (wp_block (zs (z1 [(31, pt NV 42)] (zw (r1_TV _ HC1.out) 21 (by decide) rfl rfl ?_))))))
 refine zm2 44 64 rfl rfl rfl ?_
 intro w102 ND BD hb
 replace BD := hide BD
 replace HC1 := zH HM1 HC1 hb
 replace hU := zU hU hU.size hb
 clear hb
 refine sx_n (z1 [(33, pt Nx 0)] (zl (q1_x _ HC1.out) rfl rfl (z2 [(9, .int .i64 ((lx.length : Nat))), (35, .int .i64 ((lx.length : Nat)))] (sx_n (zv (q1_a _ HC1.out) rfl rfl ?_)))))
 refine zc rfl ((vKnown_w false Aa la ca sa _ La.out Ca (p1_a w102 HC1.out) Ya.out HKa.out).mono ?_)
 rintro e w103 ⟨rfl, hb⟩
 refine ⟨_, rfl, ?_⟩
 replace HC1 := zH HM1 HC1 hb
 replace BD := zB BD hb
 replace hU := zU hU hU.size hb
 clear hb
 refine z7 [(10, z_t), (43, z_t), (42, undef), (41, undef), (40, undef), (39, z_t), (38, z_t)] (ze (wp_seq (zs (z1 [(44, pt ND 0)] (zop BD.out rfl rfl ?_)))))
 refine ze (wp_block (wp_seq (zg 46 47 (zg 46 48 (zg 46 49 (zg 46 50 ?_))))))
 refine reg_lit (z2 [(46, z_f), (51, z_f)] (ze (zif (wp_seq (zg 52 53 (zg 52 54 ?_))))))
 refine zg 52 55 (reg_lit (z2 [(52, z_f), (56, z_f)] (ze (zif (zg 57 58 (wp_seq ?_))))))
 refine zg 62 63 (zg 62 64 (zg 62 65 (reg_lit (z2 [(62, z_t), (66, z_t)] (ze (zit ?_))))))
 refine region_R (n := 7) (N := 8) (by kernel_rfl) (by kernel_rfl) (by kernel_rfl) (by kernel_rfl) (by kernel_rfl) (by kernel_rfl) (fun _ _ _ _ _ h => hP _ _ _ _ _ h) ?_
 intro F hQ
 have HC0 := HC1
 refine zav (i := 0) (m' := 1) (v := .pointer (some ⟨Nz, 0, none⟩)) F hQ rfl rfl (anyR_ldsl (i := 1) (m' := 3) (q1_z _ HC0.out) F hQ rfl rfl (by kernel_rfl) (by kernel_rfl) (by kernel_rfl) (by kernel_rfl) (by kernel_rfl) rfl (by kernel_rfl) (zav (i := 2) (m' := 7) (v := .int .i64 ((ly.length : Nat))) F hQ rfl rfl (anyR_ldvec (i := 3) (m' := 15) (q1_b _ HC0.out) F hQ rfl rfl (by kernel_rfl) (by kernel_rfl) (by kernel_rfl) (by kernel_rfl) (by kernel_rfl) rfl (by kernel_rfl) ?_)))
 refine zac (i := 4) (m' := 31) rfl rfl ((vKnown_w true Ab lb cb sb _ Lb.out Cb (by exact (p1_b w103 HC1.out)) Yb.out HKb.out).mono ?_)
 rintro e w104 ⟨rfl, hb⟩
 refine ⟨_, rfl, hb, ?_⟩
 replace hb : Below w103.heap.size w103 w104 := Below.trans ((Below.refl _ _).drew) hb
 replace HC1 := zH HM1 HC1 hb
 replace BD := zB BD hb
 replace hU := zU hU hU.size hb
 clear hb
 refine zav (i := 5) (m' := 63) (v := .bool false) F hQ rfl rfl (zav (i := 6) (m' := 127) (v := .int .i64 ((ly.length : Nat))) F hQ rfl rfl (anyR_e (anyR_last (i := 7) (m' := 255) (v := .bool false) rfl rfl (by kernel_rfl) (by kernel_rfl) (by kernel_rfl) (by kernel_rfl) (by kernel_rfl) (anyE_done (by kernel_rfl) ?_))))
 clear F hQ HC0
 refine block_normal (then_normal (zs (z1 [(73, pt ND 1)] (zfn BD.out rfl rfl (zv (q1_a _ HC1.out) rfl rfl (zv (q1_b _ HC1.out) rfl rfl ?_))))))
 refine zc rfl ((vAShr_any Aa Ab la lb ca cb sa sb _ La.out Lb.out Ca Cb (p1_a w104 HC1.out) (p1_b w104 HC1.out) Ya.out Yb.out).mono ?_)
 rintro e w105 ⟨lg, sg, Ag, cg, Eg, rfl, Cg, Og, hb⟩
 refine ⟨_, rfl, ?_⟩
 replace HC1 := zH HM1 HC1 hb
 replace BD := zB BD hb
 replace Og := hide Og.out.rd
 replace hU := zU hU hU.size hb
 clear hb
 have Gg := zGd Eg ((gdu_shf Ya.out gdm_ashr))
 have Lg := zLe Gg
 have Yg := hide Gg.by_
 clear Gg
 refine zm (A := Ag) (m := lg.length) (c := cg) (s := sg) rfl rfl rfl ?_
 intro w106 Ng Bg hNg hb
 replace Bg := hide Bg
 replace HC1 := zH HM1 HC1 hb
 replace Og := zQ Og hb
 replace BD := zB BD hb
 have hzg : w.heap.size ≤ Ng := Nat.le_trans hU.size hNg
 clear hNg
 replace hU := zU hU hU.size hb
 clear hb
 refine sx_n (z9 [(86, z_f), (85, undef), (84, undef), (83, undef), (82, undef), (81, undef), (80, undef), (79, z_f), (78, z_f)] (ze (zif (wp_skip (block_normal (then_normal ?_))))))
 refine reg_lit (z2 [(29, .int .i64 22), (87, .int .i64 22)] (ze ?_))
 clear Bg Og Cg Lg Yg
 clear BD
 refine zk (z_R Na Nb Nx Nz NV z_f 22) (fun X => ?_)
 refine round_s (zs (z1 [(30, z_t)] (ze (wp_seq (zit ?_)))))
 refine wp_skip (then_normal (wp_seq (wp_block (zs (z1 [(31, pt NV 44)] (zw (r1_TV _ HC1.out) 22 (by decide) rfl rfl ?_))))))
 refine zm2 29 81 rfl rfl rfl ?_
 intro w107 ND BD hb
 replace BD := hide BD
 replace HC1 := zH HM1 HC1 hb
 replace hU := zU hU hU.size hb
 clear hb
 refine sx_n (z1 [(33, pt Nx 0)] (zl (q1_x _ HC1.out) rfl rfl (z2 [(9, .int .i64 ((lx.length : Nat))), (35, .int .i64 ((lx.length : Nat)))] (sx_n (zv (q1_a _ HC1.out) rfl rfl ?_)))))
 refine zc rfl ((vKnown_w false Aa la ca sa _ La.out Ca (p1_a w107 HC1.out) Ya.out HKa.out).mono ?_)
 rintro e w108 ⟨rfl, hb⟩
 refine ⟨_, rfl, ?_⟩
 replace HC1 := zH HM1 HC1 hb
 replace BD := zB BD hb
 replace hU := zU hU hU.size hb
 clear hb
 refine z7 [(10, z_t), (43, z_t), (42, undef), (41, undef), (40, undef), (39, z_t), (38, z_t)] (ze (wp_seq (zs (z1 [(44, pt ND 0)] (zop BD.out rfl rfl ?_)))))
 refine ze (wp_block (wp_seq (zg 46 47 (zg 46 48 (zg 46 49 (zg 46 50 ?_))))))
 refine reg_lit (z2 [(46, z_f), (51, z_f)] (ze (zif (wp_seq (zg 52 53 (zg 52 54 ?_))))))
 refine zg 52 55 (reg_lit (z2 [(52, z_f), (56, z_f)] (ze (zif (zg 57 58 (wp_seq ?_))))))
 refine zg 62 63 (zg 62 64 (zg 62 65 (reg_lit (z2 [(62, z_f), (66, z_f)] (ze (zif ?_))))))
 refine wp_exit (exit_pass rfl (then_exit (exit_here (then_normal (reg_lit (z2 [(29, .int .i64 23), (87, .int .i64 23)] (wpl_end ?_)))))))
 refine then_normal ?_
 clear BD
 refine zk (z_R Na Nb Nx Nz NV z_f 23) (fun X => ?_)
 refine round_s (zs (z1 [(30, z_t)] (ze (wp_seq (zit ?_)))))
 refine wp_skip (then_normal (wp_seq (wp_block (zs (z1 [(31, pt NV 46)] (zw (r1_TV _ HC1.out) 23 (by decide) rfl rfl ?_))))))
 refine zm2 30 82 rfl rfl rfl ?_
 intro w109 ND BD hb
 replace BD := hide BD
 replace HC1 := zH HM1 HC1 hb
 replace hU := zU hU hU.size hb
 clear hb
 refine sx_n (z1 [(33, pt Nx 0)] (zl (q1_x _ HC1.out) rfl rfl (z2 [(9, .int .i64 ((lx.length : Nat))), (35, .int .i64 ((lx.length : Nat)))] (sx_n (zv (q1_a _ HC1.out) rfl rfl ?_)))))
 refine zc rfl ((vKnown_w false Aa la ca sa _ La.out Ca (p1_a w109 HC1.out) Ya.out HKa.out).mono ?_)
 rintro e w110 ⟨rfl, hb⟩
 refine ⟨_, rfl, ?_⟩
 replace HC1 := zH HM1 HC1 hb
 replace BD := zB BD hb
 replace hU := zU hU hU.size hb
 clear hb
 refine z7 [(10, z_t), (43, z_t), (42, undef), (41, undef), (40, undef), (39, z_t), (38, z_t)] (ze (wp_seq (zs (z1 [(44, pt ND 0)] (zop BD.out rfl rfl ?_)))))
 refine ze (wp_block (wp_seq (zg 46 47 (zg 46 48 (zg 46 49 (zg 46 50 ?_))))))
 refine reg_lit (z2 [(46, z_f), (51, z_f)] (ze (zif (wp_seq (zg 52 53 (zg 52 54 ?_))))))
 refine zg 52 55 (reg_lit (z2 [(52, z_f), (56, z_f)] (ze (zif (zg 57 58 (wp_seq ?_))))))
 refine zg 62 63 (zg 62 64 (zg 62 65 (reg_lit (z2 [(62, z_f), (66, z_f)] (ze (zif ?_))))))
 refine wp_exit (exit_pass rfl (then_exit (exit_here (then_normal (reg_lit (z2 [(29, .int .i64 24), (87, .int .i64 24)] (wpl_end ?_)))))))
 refine then_normal ?_
 clear BD
 refine zk (z_R Na Nb Nx Nz NV z_f 24) (fun X => ?_)
 refine round_s (zs (z1 [(30, z_f)] (ze (wp_seq (zif ?_)))))
 refine wp_exit (then_exit (then_exit ?_))
 exact hX _ _ hU
end
end Go.Proofs.YtpiakebbndoecaaGreatDoor
