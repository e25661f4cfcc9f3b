/-
  Texts of MU joined (VecLZ2).
-/
import Derived.Test.YtpiakebbndoecaaGreatDoorMU6
set_option linter.unusedVariables false
set_option linter.unusedSimpArgs false
set_option linter.unusedSectionVars false
namespace Go.Proofs.YtpiakebbndoecaaGreatDoor
section
open Go.RowKit
set_option maxRecDepth 100000
set_option linter.unusedSimpArgs false
set_option linter.unusedVariables false
set_option maxHeartbeats 16000000 in
theorem VecUnknown_rtf (Aa : Option Addr) (la : List Int) (ca : Nat) (sa : Bool) (Ab : Option Addr) (lb : List Int) (cb : Nat) (sb : Bool) (lx : List Int) (sx : Bool) (Ax : Option Addr) (cx : Nat) (ly : List Int) (sy : Bool) (Ay : Option Addr) (cy : Nat) (Na Nb Nx Nz NV : Nat) (w w0 : World) (La : Hid (la.length ≤ 4096)) (Lb : Hid (lb.length ≤ 4096)) (Ya : Hid (By la)) (Yb : Hid (By lb)) (Ca : Hid (la.length ≤ ca ∧ ca ≤ maxLen)) (Cb : Hid (lb.length ≤ cb ∧ cb ≤ maxLen)) (HT : Hid (Tabs w)) (Lx : Hid (lx.length ≤ 4096)) (Ly : Hid (ly.length ≤ 4096)) (Gxx : Hid (Gd lx)) (Gyy : Hid (Gd ly)) (Lxx : Hid (lx.length = wd ⟨la, sa⟩ ⟨lb, sb⟩)) (Lyy : Hid (ly.length = (cnt ⟨la, sa⟩).b.length)) (hU : Below w.heap.size w w0) (Oa : Hid (RQ w0 Aa la)) (Ob : Hid (RQ w0 Ab lb)) (Ba : Hid (Box Na Aa la.length ca sa w0)) (Bb : Hid (Box Nb Ab lb.length cb sb w0)) (Bx : Hid (Box Nx Ax lx.length cx sx w0)) (Bz : Hid (Box Nz Ay ly.length cy sy w0)) (TV : Hid (Two NV w0)) (hA : kn (cnt ⟨la, sa⟩).b = true) (hB : kn (cnt ⟨lb, sb⟩).b = false) (Q : Exit → Act → World → Prop) (hP : ∀ c a d v w, Q (.panic c) (Act.put a (some d) v) w → Q (.panic c) a w) (hX : ∀ (E : Env) (w9 : World), Below w.heap.size w w9 → Q (.exit 0) (sl 88 E) w9) (X : Env) : Code.rounds Tryz.prog lpU Q 25 (sl 88 ([(2, pt Na 0), (3, pt Nb 0), (4, z_f), (5, pt Nx 0), (6, pt Nz 0), (27, .slice (some ⟨NV, 0, none⟩) 24 24), (28, .int .i64 24), (29, .int .i64 0)] ++ X)) w0 := by
 have HKa := hide hA
 have HKb := hide hB
 clear hA hB
 obtain ⟨Pr1, HM1, HC1, p1_a, p1_b, q1_a, q1_b, q1_x, q1_z, r1_TV⟩ : ∃ Pr : World → Prop, (∀ w w', Pr w → Below w.heap.size w w' → Pr w') ∧ Hid (Pr w0) ∧ (∀ W, Pr W → RQ W Aa la) ∧ (∀ W, Pr W → RQ W Ab lb) ∧ (∀ W, Pr W → Box Na Aa la.length ca sa W) ∧ (∀ W, Pr W → Box Nb Ab lb.length cb sb W) ∧ (∀ W, Pr W → Box Nx Ax lx.length cx sx W) ∧ (∀ W, Pr W → Box Nz Ay ly.length cy sy W) ∧ (∀ W, Pr W → Two NV W) := ⟨fun W => RQ W Aa la ∧ RQ W Ab lb ∧ Box Na Aa la.length ca sa W ∧ Box Nb Ab lb.length cb sb W ∧ Box Nx Ax lx.length cx sx W ∧ Box Nz Ay ly.length cy sy W ∧ Two NV W, fun _ _ h hb => ⟨RQ.below h.1 hb, RQ.below h.2.1 hb, Box.kept h.2.2.1 hb, Box.kept h.2.2.2.1 hb, Box.kept h.2.2.2.2.1 hb, Box.kept h.2.2.2.2.2.1 hb, Two.kept h.2.2.2.2.2.2 hb⟩, hide ⟨Oa.out, Ob.out, Ba.out, Bb.out, Bx.out, Bz.out, TV.out⟩, fun _ h => h.1, fun _ h => h.2.1, fun _ h => h.2.2.1, fun _ h => h.2.2.2.1, fun _ h => h.2.2.2.2.1, fun _ h => h.2.2.2.2.2.1, fun _ h => h.2.2.2.2.2.2⟩
 clear Oa Ob Ba Bb Bx Bz TV
 refine round_s (zs (z1 [(30, z_t)] (ze (wp_seq (zit ?_)))))
 refine wp_skip (then_normal (wp_seq (wp_block (zs (z1 [(31, pt NV 0)] (zw (r1_TV _ HC1.out) 0 (by decide) rfl rfl ?_))))))
 refine zm2 37 88 rfl rfl rfl ?_
 intro w1 ND BD hb
 replace BD := hide BD
 replace HC1 := zH HM1 HC1 hb
 replace hU := zU hU hU.size hb
 clear hb
 refine sx_n (z1 [(33, pt Nx 0)] (zl (q1_x _ HC1.out) rfl rfl (z2 [(9, .int .i64 ((lx.length : Nat))), (35, .int .i64 ((lx.length : Nat)))] (sx_n (zv (q1_a _ HC1.out) rfl rfl ?_)))))
 refine zc rfl ((vKnown_w true Aa la ca sa _ La.out Ca (p1_a w1 HC1.out) Ya.out HKa.out).mono ?_)
 rintro e w2 ⟨rfl, hb⟩
 refine ⟨_, rfl, ?_⟩
 replace HC1 := zH HM1 HC1 hb
 replace BD := zB BD hb
 replace hU := zU hU hU.size hb
 clear hb
 refine z2 [(39, z_f), (38, z_f)] (zv (q1_b _ HC1.out) rfl rfl ?_)
 refine zc rfl ((vKnown_w false Ab lb cb sb _ Lb.out Cb (p1_b w2 HC1.out) Yb.out HKb.out).mono ?_)
 rintro e w3 ⟨rfl, hb⟩
 refine ⟨_, rfl, ?_⟩
 replace HC1 := zH HM1 HC1 hb
 replace BD := zB BD hb
 replace hU := zU hU hU.size hb
 clear hb
 refine z3 [(10, z_t), (43, z_t), (42, z_t)] (ze (wp_seq (zs (z1 [(44, pt ND 0)] (zop BD.out rfl rfl ?_)))))
 refine ze (wp_block (wp_seq (zg 46 47 (zg 46 48 (zg 46 49 (zg 46 50 ?_))))))
 refine reg_lit (z2 [(46, z_f), (51, z_f)] (ze (zif (wp_seq (zg 52 53 (zg 52 54 ?_))))))
 refine zg 52 55 (reg_lit (z2 [(52, z_f), (56, z_f)] (ze (zif (zg 57 58 (wp_seq ?_))))))
 refine zg 62 63 (zg 62 64 (zg 62 65 (reg_lit (z2 [(62, z_f), (66, z_f)] (ze (zif ?_))))))
 refine wp_exit (exit_pass rfl (then_exit (exit_here (then_normal (reg_lit (z2 [(29, .int .i64 1), (87, .int .i64 1)] (wpl_end ?_)))))))
 refine then_normal ?_
 clear BD
 refine zk (z_R Na Nb Nx Nz NV z_f 1) (fun X => ?_)
 refine round_s (zs (z1 [(30, z_t)] (ze (wp_seq (zit ?_)))))
 refine wp_skip (then_normal (wp_seq (wp_block (zs (z1 [(31, pt NV 2)] (zw (r1_TV _ HC1.out) 1 (by decide) rfl rfl ?_))))))
 refine zm2 38 57 rfl rfl rfl ?_
 intro w4 ND BD hb
 replace BD := hide BD
 replace HC1 := zH HM1 HC1 hb
 replace hU := zU hU hU.size hb
 clear hb
 refine sx_n (z1 [(33, pt Nx 0)] (zl (q1_x _ HC1.out) rfl rfl (z2 [(9, .int .i64 ((lx.length : Nat))), (35, .int .i64 ((lx.length : Nat)))] (sx_n (zv (q1_a _ HC1.out) rfl rfl ?_)))))
 refine zc rfl ((vKnown_w true Aa la ca sa _ La.out Ca (p1_a w4 HC1.out) Ya.out HKa.out).mono ?_)
 rintro e w5 ⟨rfl, hb⟩
 refine ⟨_, rfl, ?_⟩
 replace HC1 := zH HM1 HC1 hb
 replace BD := zB BD hb
 replace hU := zU hU hU.size hb
 clear hb
 refine z2 [(39, z_f), (38, z_f)] (zv (q1_b _ HC1.out) rfl rfl ?_)
 refine zc rfl ((vKnown_w false Ab lb cb sb _ Lb.out Cb (p1_b w5 HC1.out) Yb.out HKb.out).mono ?_)
 rintro e w6 ⟨rfl, hb⟩
 refine ⟨_, rfl, ?_⟩
 replace HC1 := zH HM1 HC1 hb
 replace BD := zB BD hb
 replace hU := zU hU hU.size hb
 clear hb
 refine z3 [(10, z_t), (43, z_t), (42, z_t)] (ze (wp_seq (zs (z1 [(44, pt ND 0)] (zop BD.out rfl rfl ?_)))))
 refine ze (wp_block (wp_seq (zg 46 47 (zg 46 48 (zg 46 49 (zg 46 50 ?_))))))
 refine reg_lit (z2 [(46, z_f), (51, z_f)] (ze (zif (wp_seq (zg 52 53 (zg 52 54 ?_))))))
 refine zg 52 55 (reg_lit (z2 [(52, z_f), (56, z_f)] (ze (zif (zg 57 58 (wp_seq ?_))))))
 refine zg 62 63 (zg 62 64 (zg 62 65 (reg_lit (z2 [(62, z_f), (66, z_f)] (ze (zif ?_))))))
 refine wp_exit (exit_pass rfl (then_exit (exit_here (then_normal (reg_lit (z2 [(29, .int .i64 2), (87, .int .i64 2)] (wpl_end ?_)))))))
 refine then_normal ?_
 clear BD
 refine zk (z_R Na Nb Nx Nz NV z_f 2) (fun X => ?_)
 refine round_s (zs (z1 [(30, z_t)] (ze (wp_seq (zit ?_)))))
 refine wp_skip (then_normal (wp_seq (wp_block (zs (z1 [(31, pt NV 4)] (zw (r1_TV _ HC1.out) 2 (by decide) rfl rfl ?_))))))
 refine zm2 39 89 rfl rfl rfl ?_
 intro w7 ND BD hb
 replace BD := hide BD
 replace HC1 := zH HM1 HC1 hb
 replace hU := zU hU hU.size hb
 clear hb
 refine sx_n (z1 [(33, pt Nx 0)] (zl (q1_x _ HC1.out) rfl rfl (z2 [(9, .int .i64 ((lx.length : Nat))), (35, .int .i64 ((lx.length : Nat)))] (sx_n (zv (q1_a _ HC1.out) rfl rfl ?_)))))
 refine zc rfl ((vKnown_w true Aa la ca sa _ La.out Ca (p1_a w7 HC1.out) Ya.out HKa.out).mono ?_)
 rintro e w8 ⟨rfl, hb⟩
 refine ⟨_, rfl, ?_⟩
 replace HC1 := zH HM1 HC1 hb
 replace BD := zB BD hb
 replace hU := zU hU hU.size hb
 clear hb
 refine z2 [(39, z_f), (38, z_f)] (zv (q1_b _ HC1.out) rfl rfl ?_)
 refine zc rfl ((vKnown_w false Ab lb cb sb _ Lb.out Cb (p1_b w8 HC1.out) Yb.out HKb.out).mono ?_)
 rintro e w9 ⟨rfl, hb⟩
 refine ⟨_, rfl, ?_⟩
 replace HC1 := zH HM1 HC1 hb
 replace BD := zB BD hb
 replace hU := zU hU hU.size hb
 clear hb
 refine z3 [(10, z_t), (43, z_t), (42, z_t)] (ze (wp_seq (zs (z1 [(44, pt ND 0)] (zop BD.out rfl rfl ?_)))))
 refine ze (wp_block (wp_seq (zg 46 47 (zg 46 48 (zg 46 49 (zg 46 50 ?_))))))
 refine reg_lit (z2 [(46, z_f), (51, z_f)] (ze (zif (wp_seq (zg 52 53 (zg 52 54 ?_))))))
 refine zg 52 55 (reg_lit (z2 [(52, z_f), (56, z_f)] (ze (zif (zg 57 58 (wp_seq ?_))))))
 refine zg 62 63 (zg 62 64 (zg 62 65 (reg_lit (z2 [(62, z_f), (66, z_f)] (ze (zif ?_))))))
 refine wp_exit (exit_pass rfl (then_exit (exit_here (then_normal (reg_lit (z2 [(29, .int .i64 3), (87, .int .i64 3)] (wpl_end ?_)))))))
 refine then_normal ?_
 clear BD
 refine zk (z_R Na Nb Nx Nz NV z_f 3) (fun X => ?_)
 refine round_s (zs (z1 [(30, z_t)] (ze (wp_seq (zit ?_)))))
 refine wp_skip (then_normal (wp_seq (wp_block (zs (z1 [(31, pt NV 6)] (zw (r1_TV _ HC1.out) 3 (by decide) rfl rfl ?_))))))
 refine zm2 40 90 rfl rfl rfl ?_
 intro w10 ND BD hb
 replace BD := hide BD
 replace HC1 := zH HM1 HC1 hb
 replace hU := zU hU hU.size hb
 clear hb
 refine sx_n (z1 [(33, pt Nx 0)] (zl (q1_x _ HC1.out) rfl rfl (z2 [(9, .int .i64 ((lx.length : Nat))), (35, .int .i64 ((lx.length : Nat)))] (sx_n (zv (q1_a _ HC1.out) rfl rfl ?_)))))
 refine zc rfl ((vKnown_w true Aa la ca sa _ La.out Ca (p1_a w10 HC1.out) Ya.out HKa.out).mono ?_)
 rintro e w11 ⟨rfl, hb⟩
 refine ⟨_, rfl, ?_⟩
 replace HC1 := zH HM1 HC1 hb
 replace BD := zB BD hb
 replace hU := zU hU hU.size hb
 clear hb
 refine z2 [(39, z_f), (38, z_f)] (zv (q1_b _ HC1.out) rfl rfl ?_)
 refine zc rfl ((vKnown_w false Ab lb cb sb _ Lb.out Cb (p1_b w11 HC1.out) Yb.out HKb.out).mono ?_)
 rintro e w12 ⟨rfl, hb⟩
 refine ⟨_, rfl, ?_⟩
 replace HC1 := zH HM1 HC1 hb
 replace BD := zB BD hb
 replace hU := zU hU hU.size hb
 clear hb
 refine z3 [(10, z_t), (43, z_t), (42, z_t)] (ze (wp_seq (zs (z1 [(44, pt ND 0)] (zop BD.out rfl rfl ?_)))))
 refine ze (wp_block (wp_seq (zg 46 47 (zg 46 48 (zg 46 49 (zg 46 50 ?_))))))
 refine reg_lit (z2 [(46, z_f), (51, z_f)] (ze (zif (wp_seq (zg 52 53 (zg 52 54 ?_))))))
 refine zg 52 55 (reg_lit (z2 [(52, z_f), (56, z_f)] (ze (zif (zg 57 58 (wp_seq ?_))))))
 refine zg 62 63 (zg 62 64 (zg 62 65 (reg_lit (z2 [(62, z_f), (66, z_f)] (ze (zif ?_))))))
 refine wp_exit (exit_pass rfl (then_exit (exit_here (then_normal (reg_lit (z2 [(29, .int .i64 4), (87, .int .i64 4)] (wpl_end ?_)))))))
 refine then_normal ?_
 clear BD
 refine zk (z_R Na Nb Nx Nz NV z_f 4) (fun X => ?_)
 refine round_s (zs (z1 [(30, z_t)] (ze (wp_seq (zit ?_)))))
 refine wp_skip (then_normal (wp_seq (wp_block (zs (z1 [(31, pt NV 8)] (zw (r1_TV _ HC1.out) 4 (by decide) rfl rfl ?_))))))
 refine zm2 21 56 rfl rfl rfl ?_
 intro w13 ND BD hb
 replace BD := hide BD
 replace HC1 := zH HM1 HC1 hb
 replace hU := zU hU hU.size hb
 clear hb
 refine sx_n (z1 [(33, pt Nx 0)] (zl (q1_x _ HC1.out) rfl rfl (z2 [(9, .int .i64 ((lx.length : Nat))), (35, .int .i64 ((lx.length : Nat)))] (sx_n (zv (q1_a _ HC1.out) rfl rfl ?_)))))
 refine zc rfl ((vKnown_w true Aa la ca sa _ La.out Ca (p1_a w13 HC1.out) Ya.out HKa.out).mono ?_)
 rintro e w14 ⟨rfl, hb⟩
 refine ⟨_, rfl, ?_⟩
 replace HC1 := zH HM1 HC1 hb
 replace BD := zB BD hb
 replace hU := zU hU hU.size hb
 clear hb
 refine z2 [(39, z_f), (38, z_f)] (zv (q1_b _ HC1.out) rfl rfl ?_)
 refine zc rfl ((vKnown_w false Ab lb cb sb _ Lb.out Cb (p1_b w14 HC1.out) Yb.out HKb.out).mono ?_)
 rintro e w15 ⟨rfl, hb⟩
 refine ⟨_, rfl, ?_⟩
 replace HC1 := zH HM1 HC1 hb
 replace BD := zB BD hb
 replace hU := zU hU hU.size hb
 clear hb
 refine z3 [(10, z_t), (43, z_t), (42, z_t)] (ze (wp_seq (zs (z1 [(44, pt ND 0)] (zop BD.out rfl rfl ?_)))))
 refine ze (wp_block (wp_seq (zt [(46, z_t), (47, z_t)] (wp_skip (then_normal (zit ?_))))))
 refine wp_skip (block_normal (then_normal (zs (z1 [(73, pt ND 1)] (zfn BD.out rfl rfl (zv (q1_a _ HC1.out) rfl rfl ?_))))))
 refine zv (q1_b _ HC1.out) rfl rfl ?_
 refine zc rfl ((vAdd_any Aa Ab la lb ca cb sa sb _ La.out Lb.out Ca Cb (p1_a w15 HC1.out) (p1_b w15 HC1.out) Ya.out Yb.out).mono ?_)
 rintro e w16 ⟨lg, sg, Ag, cg, Eg, rfl, Cg, Og, hb⟩
 refine ⟨_, rfl, ?_⟩
 replace HC1 := zH HM1 HC1 hb
 replace BD := zB BD hb
 replace Og := hide Og.out.rd
 replace hU := zU hU hU.size hb
 clear hb
 have Gg := zGd Eg ((gdu_ar Ya.out Yb.out hlen_add))
 have Lg := zLe Gg
 have Yg := hide Gg.by_
 clear Gg
 refine zm (A := Ag) (m := lg.length) (c := cg) (s := sg) rfl rfl rfl ?_
 intro w17 Ng Bg hNg hb
 replace Bg := hide Bg
 replace HC1 := zH HM1 HC1 hb
 replace Og := zQ Og hb
 replace BD := zB BD hb
 have hzg : w.heap.size ≤ Ng := Nat.le_trans hU.size hNg
 clear hNg
 replace hU := zU hU hU.size hb
 clear hb
 refine sx_n (z2 [(79, z_t), (78, z_t)] (zv Bg.out rfl rfl ?_))
 refine zc rfl ((vWithSign_any false Ag lg cg sg _ Lg.out Cg Og.out Yg.out).mono ?_)
 rintro e w18 ⟨lu, su, Au, cu, Eu, rfl, Cu, Ou, hb⟩
 refine ⟨_, rfl, ?_⟩
 replace HC1 := zH HM1 HC1 hb
 replace Og := zQ Og hb
 replace Bg := zX Bg hb
 replace BD := zB BD hb
 replace Ou := hide Ou.out.rd
 replace hU := zU hU hU.size hb
 clear hb
 have Gu := zGd Eu ((cnt_gd (v := ⟨lg, sg⟩) Yg.out))
 have Lu := zLe Gu
 have Yu := hide Gu.by_
 clear Gu
 refine z1 [(82, .int .i64 ((lx.length : Nat)))] ?_
 refine zc rfl ((rfill_any 2 (lx.length) false _ Lx.out).mono ?_)
 rintro e w19 ⟨lv, sv, Av, cv, Ev, rfl, Cv, Ov, hb⟩
 refine ⟨_, rfl, ?_⟩
 replace HC1 := zH HM1 HC1 hb
 replace Og := zQ Og hb
 replace Ou := zQ Ou hb
 replace Bg := zX Bg hb
 replace BD := zB BD hb
 replace Ov := hide Ov.out.rd
 replace hU := zU hU hU.size hb
 clear hb
 have Gv := zGd Ev ((gd_xs (s := false) Gxx.out.pos Gxx.out.le))
 have Lv := zLe Gv
 have Yv := hide Gv.by_
 clear Gv
 refine zc rfl ((rsame_yes Au Av lu lv cu cv su sv _ Lu.out Lv.out Ou.out Ov.out (by rw [Eu.out, Ev.out, Eg.out, Lxx.out]; exact unk_ar Ya.out Yb.out (Or.inr HKb.out))).mono ?_)
 rintro e w20 ⟨rfl, hb⟩
 refine ⟨_, rfl, ?_⟩
 replace HC1 := zH HM1 HC1 hb
 replace Og := zQ Og hb
 replace Ou := zQ Ou hb
 replace Ov := zQ Ov hb
 replace Bg := zX Bg hb
 replace BD := zB BD hb
 replace hU := zU hU hU.size hb
 clear hb Ou Cu Lu Yu
 clear Ov Cv Lv Yv
 refine z2 [(86, z_f), (85, z_f)] (ze (zif (wp_skip (block_normal (then_normal (reg_lit ?_))))))
 refine z2 [(29, .int .i64 5), (87, .int .i64 5)] (ze ?_)
 clear Bg Og Cg Lg Yg
 clear BD
 refine zk (z_R Na Nb Nx Nz NV z_f 5) (fun X => ?_)
 refine round_s (zs (z1 [(30, z_t)] (ze (wp_seq (zit ?_)))))
 refine wp_skip (then_normal (wp_seq (wp_block (zs (z1 [(31, pt NV 10)] (zw (r1_TV _ HC1.out) 5 (by decide) rfl rfl ?_))))))
 refine zm2 22 86 rfl rfl rfl ?_
 intro w21 ND BD hb
 replace BD := hide BD
 replace HC1 := zH HM1 HC1 hb
 replace hU := zU hU hU.size hb
 clear hb
 refine sx_n (z1 [(33, pt Nx 0)] (zl (q1_x _ HC1.out) rfl rfl (z2 [(9, .int .i64 ((lx.length : Nat))), (35, .int .i64 ((lx.length : Nat)))] (sx_n (zv (q1_a _ HC1.out) rfl rfl ?_)))))
 refine zc rfl ((vKnown_w true Aa la ca sa _ La.out Ca (p1_a w21 HC1.out) Ya.out HKa.out).mono ?_)
 rintro e w22 ⟨rfl, hb⟩
 refine ⟨_, rfl, ?_⟩
 replace HC1 := zH HM1 HC1 hb
 replace BD := zB BD hb
 replace hU := zU hU hU.size hb
 clear hb
 refine z2 [(39, z_f), (38, z_f)] (zv (q1_b _ HC1.out) rfl rfl ?_)
 refine zc rfl ((vKnown_w false Ab lb cb sb _ Lb.out Cb (p1_b w22 HC1.out) Yb.out HKb.out).mono ?_)
 rintro e w23 ⟨rfl, hb⟩
 refine ⟨_, rfl, ?_⟩
 replace HC1 := zH HM1 HC1 hb
 replace BD := zB BD hb
 replace hU := zU hU hU.size hb
 clear hb
 refine z3 [(10, z_t), (43, z_t), (42, z_t)] (ze (wp_seq (zs (z1 [(44, pt ND 0)] (zop BD.out rfl rfl ?_)))))
 refine ze (wp_block (wp_seq (zg 46 47 (zt [(46, z_t), (48, z_t)] (wp_skip (then_normal ?_))))))
 refine zit (wp_skip (block_normal (then_normal (zs (z1 [(73, pt ND 1)] (zfn BD.out rfl rfl ?_))))))
 refine zv (q1_a _ HC1.out) rfl rfl (zv (q1_b _ HC1.out) rfl rfl ?_)
 refine zc rfl ((vSub_any Aa Ab la lb ca cb sa sb _ La.out Lb.out Ca Cb (p1_a w23 HC1.out) (p1_b w23 HC1.out) Ya.out Yb.out).mono ?_)
 rintro e w24 ⟨lg, sg, Ag, cg, Eg, rfl, Cg, Og, hb⟩
 refine ⟨_, rfl, ?_⟩
 replace HC1 := zH HM1 HC1 hb
 replace BD := zB BD hb
 replace Og := hide Og.out.rd
 replace hU := zU hU hU.size hb
 clear hb
 have Gg := zGd Eg ((gdu_ar Ya.out Yb.out hlen_sub))
 have Lg := zLe Gg
 have Yg := hide Gg.by_
 clear Gg
 refine zm (A := Ag) (m := lg.length) (c := cg) (s := sg) rfl rfl rfl ?_
 intro w25 Ng Bg hNg hb
 replace Bg := hide Bg
 replace HC1 := zH HM1 HC1 hb
 replace Og := zQ Og hb
 replace BD := zB BD hb
 have hzg : w.heap.size ≤ Ng := Nat.le_trans hU.size hNg
 clear hNg
 replace hU := zU hU hU.size hb
 clear hb
 refine sx_n (z2 [(79, z_t), (78, z_t)] (zv Bg.out rfl rfl ?_))
 refine zc rfl ((vWithSign_any false Ag lg cg sg _ Lg.out Cg Og.out Yg.out).mono ?_)
 rintro e w26 ⟨lu, su, Au, cu, Eu, rfl, Cu, Ou, hb⟩
 refine ⟨_, rfl, ?_⟩
 replace HC1 := zH HM1 HC1 hb
 replace Og := zQ Og hb
 replace Bg := zX Bg hb
 replace BD := zB BD hb
 replace Ou := hide Ou.out.rd
 replace hU := zU hU hU.size hb
 clear hb
 have Gu := zGd Eu ((cnt_gd (v := ⟨lg, sg⟩) Yg.out))
 have Lu := zLe Gu
 have Yu := hide Gu.by_
 clear Gu
 refine z1 [(82, .int .i64 ((lx.length : Nat)))] ?_
 refine zc rfl ((rfill_any 2 (lx.length) false _ Lx.out).mono ?_)
 rintro e w27 ⟨lv, sv, Av, cv, Ev, rfl, Cv, Ov, hb⟩
 refine ⟨_, rfl, ?_⟩
 replace HC1 := zH HM1 HC1 hb
 replace Og := zQ Og hb
 replace Ou := zQ Ou hb
 replace Bg := zX Bg hb
 replace BD := zB BD hb
 replace Ov := hide Ov.out.rd
 replace hU := zU hU hU.size hb
 clear hb
 have Gv := zGd Ev ((gd_xs (s := false) Gxx.out.pos Gxx.out.le))
 have Lv := zLe Gv
 have Yv := hide Gv.by_
 clear Gv
 refine zc rfl ((rsame_yes Au Av lu lv cu cv su sv _ Lu.out Lv.out Ou.out Ov.out (by rw [Eu.out, Ev.out, Eg.out, Lxx.out]; exact unk_ar Ya.out Yb.out (Or.inr HKb.out))).mono ?_)
 rintro e w28 ⟨rfl, hb⟩
 refine ⟨_, rfl, ?_⟩
 replace HC1 := zH HM1 HC1 hb
 replace Og := zQ Og hb
 replace Ou := zQ Ou hb
 replace Ov := zQ Ov hb
 replace Bg := zX Bg hb
 replace BD := zB BD hb
 replace hU := zU hU hU.size hb
 clear hb Ou Cu Lu Yu
 clear Ov Cv Lv Yv
 refine z2 [(86, z_f), (85, z_f)] (ze (zif (wp_skip (block_normal (then_normal (reg_lit ?_))))))
 refine z2 [(29, .int .i64 6), (87, .int .i64 6)] (ze ?_)
 clear Bg Og Cg Lg Yg
 clear BD
 refine zk (z_R Na Nb Nx Nz NV z_f 6) (fun X => ?_)
 refine round_s (zs (z1 [(30, z_t)] (ze (wp_seq (zit ?_)))))
 refine wp_skip (then_normal (wp_seq (wp_block (zs (z1 [(31, pt NV 12)] (zw (r1_TV _ HC1.out) 6 (by decide) rfl rfl ?_))))))
 refine zm2 23 87 rfl rfl rfl ?_
 intro w29 ND BD hb
 replace BD := hide BD
 replace HC1 := zH HM1 HC1 hb
 replace hU := zU hU hU.size hb
 clear hb
 refine sx_n (z1 [(33, pt Nx 0)] (zl (q1_x _ HC1.out) rfl rfl (z2 [(9, .int .i64 ((lx.length : Nat))), (35, .int .i64 ((lx.length : Nat)))] (sx_n (zv (q1_a _ HC1.out) rfl rfl ?_)))))
 refine zc rfl ((vKnown_w true Aa la ca sa _ La.out Ca (p1_a w29 HC1.out) Ya.out HKa.out).mono ?_)
 rintro e w30 ⟨rfl, hb⟩
 refine ⟨_, rfl, ?_⟩
 replace HC1 := zH HM1 HC1 hb
 replace BD := zB BD hb
 replace hU := zU hU hU.size hb
 clear hb
 refine z2 [(39, z_f), (38, z_f)] (zv (q1_b _ HC1.out) rfl rfl ?_)
 refine zc rfl ((vKnown_w false Ab lb cb sb _ Lb.out Cb (p1_b w30 HC1.out) Yb.out HKb.out).mono ?_)
 rintro e w31 ⟨rfl, hb⟩
 refine ⟨_, rfl, ?_⟩
 replace HC1 := zH HM1 HC1 hb
 replace BD := zB BD hb
 replace hU := zU hU hU.size hb
 clear hb
 refine z3 [(10, z_t), (43, z_t), (42, z_t)] (ze (wp_seq (zs (z1 [(44, pt ND 0)] (zop BD.out rfl rfl ?_)))))
 refine ze (wp_block (wp_seq (zg 46 47 (zg 46 48 (zt [(46, z_t), (49, z_t)] (wp_skip ?_))))))
 refine then_normal (zit (wp_skip (block_normal (then_normal (zs (z1 [(73, pt ND 1)] ?_))))))
 refine zfn BD.out rfl rfl (zv (q1_a _ HC1.out) rfl rfl (zv (q1_b _ HC1.out) rfl rfl ?_))
 refine zc rfl ((vMul_any Aa Ab la lb ca cb sa sb _ La.out Lb.out Ca Cb (p1_a w31 HC1.out) (p1_b w31 HC1.out) Ya.out Yb.out).mono ?_)
 rintro e w32 ⟨lg, sg, Ag, cg, Eg, rfl, Cg, Og, hb⟩
 refine ⟨_, rfl, ?_⟩
 replace HC1 := zH HM1 HC1 hb
 replace BD := zB BD hb
 replace Og := hide Og.out.rd
 replace hU := zU hU hU.size hb
 clear hb
 have Gg := zGd Eg ((gdu_ar Ya.out Yb.out hlen_mul))
 have Lg := zLe Gg
 have Yg := hide Gg.by_
 clear Gg
 refine zm (A := Ag) (m := lg.length) (c := cg) (s := sg) rfl rfl rfl ?_
 intro w33 Ng Bg hNg hb
 replace Bg := hide Bg
 replace HC1 := zH HM1 HC1 hb
 replace Og := zQ Og hb
 replace BD := zB BD hb
 have hzg : w.heap.size ≤ Ng := Nat.le_trans hU.size hNg
 clear hNg
 replace hU := zU hU hU.size hb
 clear hb
 refine sx_n (z2 [(79, z_t), (78, z_t)] (zv Bg.out rfl rfl ?_))
 refine zc rfl ((vWithSign_any false Ag lg cg sg _ Lg.out Cg Og.out Yg.out).mono ?_)
 rintro e w34 ⟨lu, su, Au, cu, Eu, rfl, Cu, Ou, hb⟩
 refine ⟨_, rfl, ?_⟩
 replace HC1 := zH HM1 HC1 hb
 replace Og := zQ Og hb
 replace Bg := zX Bg hb
 replace BD := zB BD hb
 replace Ou := hide Ou.out.rd
 replace hU := zU hU hU.size hb
 clear hb
 have Gu := zGd Eu ((cnt_gd (v := ⟨lg, sg⟩) Yg.out))
 have Lu := zLe Gu
 have Yu := hide Gu.by_
 clear Gu
 refine z1 [(82, .int .i64 ((lx.length : Nat)))] ?_
 refine zc rfl ((rfill_any 2 (lx.length) false _ Lx.out).mono ?_)
 rintro e w35 ⟨lv, sv, Av, cv, Ev, rfl, Cv, Ov, hb⟩
 refine ⟨_, rfl, ?_⟩
 replace HC1 := zH HM1 HC1 hb
 replace Og := zQ Og hb
 replace Ou := zQ Ou hb
 replace Bg := zX Bg hb
 replace BD := zB BD hb
 replace Ov := hide Ov.out.rd
 replace hU := zU hU hU.size hb
 clear hb
 have Gv := zGd Ev ((gd_xs (s := false) Gxx.out.pos Gxx.out.le))
 have Lv := zLe Gv
 have Yv := hide Gv.by_
 clear Gv
 refine zc rfl ((rsame_yes Au Av lu lv cu cv su sv _ Lu.out Lv.out Ou.out Ov.out (by rw [Eu.out, Ev.out, Eg.out, Lxx.out]; exact unk_ar Ya.out Yb.out (Or.inr HKb.out))).mono ?_)
 rintro e w36 ⟨rfl, hb⟩
 refine ⟨_, rfl, ?_⟩
 replace HC1 := zH HM1 HC1 hb
 replace Og := zQ Og hb
 replace Ou := zQ Ou hb
 replace Ov := zQ Ov hb
 replace Bg := zX Bg hb
 replace BD := zB BD hb
 replace hU := zU hU hU.size hb
 clear hb Ou Cu Lu Yu
 clear Ov Cv Lv Yv
 refine z2 [(86, z_f), (85, z_f)] (ze (zif (wp_skip (block_normal (then_normal (reg_lit ?_))))))
 refine z2 [(29, .int .i64 7), (87, .int .i64 7)] (ze ?_)
 clear Bg Og Cg Lg Yg
 clear BD
 refine zk (z_R Na Nb Nx Nz NV z_f 7) (fun X => ?_)
 refine round_s (zs (z1 [(30, z_t)] (ze (wp_seq (zit ?_)))))
 refine wp_skip (then_normal (wp_seq (wp_block (zs (z1 [(31, pt NV 14)] (zw (r1_TV _ HC1.out) 7 (by decide) rfl rfl ?_))))))
 refine zm2 24 58 rfl rfl rfl ?_
 intro w37 ND BD hb
 replace BD := hide BD
 replace HC1 := zH HM1 HC1 hb
 replace hU := zU hU hU.size hb
 clear hb
 refine sx_n (z1 [(33, pt Nx 0)] (zl (q1_x _ HC1.out) rfl rfl (z2 [(9, .int .i64 ((lx.length : Nat))), (35, .int .i64 ((lx.length : Nat)))] (sx_n (zv (q1_a _ HC1.out) rfl rfl ?_)))))
 refine zc rfl ((vKnown_w true Aa la ca sa _ La.out Ca (p1_a w37 HC1.out) Ya.out HKa.out).mono ?_)
 rintro e w38 ⟨rfl, hb⟩
 refine ⟨_, rfl, ?_⟩
 replace HC1 := zH HM1 HC1 hb
 replace BD := zB BD hb
 replace hU := zU hU hU.size hb
 clear hb
 refine z2 [(39, z_f), (38, z_f)] (zv (q1_b _ HC1.out) rfl rfl ?_)
 refine zc rfl ((vKnown_w false Ab lb cb sb _ Lb.out Cb (p1_b w38 HC1.out) Yb.out HKb.out).mono ?_)
 rintro e w39 ⟨rfl, hb⟩
 refine ⟨_, rfl, ?_⟩
 replace HC1 := zH HM1 HC1 hb
 replace BD := zB BD hb
 replace hU := zU hU hU.size hb
 clear hb
 refine z3 [(10, z_t), (43, z_t), (42, z_t)] (ze (wp_seq (zs (z1 [(44, pt ND 0)] (zop BD.out rfl rfl ?_)))))
 refine ze (wp_block (wp_seq (zg 46 47 (zg 46 48 (zg 46 49 (zt [(46, z_t), (50, z_t)] ?_))))))
 refine wp_skip (then_normal (zit (wp_skip (block_normal (then_normal (zs ?_))))))
 refine z1 [(73, pt ND 1)] (zfn BD.out rfl rfl (zv (q1_a _ HC1.out) rfl rfl (zv (q1_b _ HC1.out) rfl rfl ?_)))
 refine zc rfl ((vDiv_any Aa Ab la lb ca cb sa sb _ La.out Lb.out Ca Cb (p1_a w39 HC1.out) (p1_b w39 HC1.out) Ya.out Yb.out).mono ?_)
 rintro e w40 ⟨lg, sg, Ag, cg, Eg, rfl, Cg, Og, hb⟩
 refine ⟨_, rfl, ?_⟩
 replace HC1 := zH HM1 HC1 hb
 replace BD := zB BD hb
 replace Og := hide Og.out.rd
 replace hU := zU hU hU.size hb
 clear hb
 have Gg := zGd Eg ((gdu_ar Ya.out Yb.out hlen_div))
 have Lg := zLe Gg
 have Yg := hide Gg.by_
 clear Gg
 refine zm (A := Ag) (m := lg.length) (c := cg) (s := sg) rfl rfl rfl ?_
 intro w41 Ng Bg hNg hb
 replace Bg := hide Bg
 replace HC1 := zH HM1 HC1 hb
 replace Og := zQ Og hb
 replace BD := zB BD hb
 have hzg : w.heap.size ≤ Ng := Nat.le_trans hU.size hNg
 clear hNg
 replace hU := zU hU hU.size hb
 clear hb
 refine sx_n (z2 [(79, z_t), (78, z_t)] (zv Bg.out rfl rfl ?_))
 refine zc rfl ((vWithSign_any false Ag lg cg sg _ Lg.out Cg Og.out Yg.out).mono ?_)
 rintro e w42 ⟨lu, su, Au, cu, Eu, rfl, Cu, Ou, hb⟩
 refine ⟨_, rfl, ?_⟩
 replace HC1 := zH HM1 HC1 hb
 replace Og := zQ Og hb
 replace Bg := zX Bg hb
 replace BD := zB BD hb
 replace Ou := hide Ou.out.rd
 replace hU := zU hU hU.size hb
 clear hb
 have Gu := zGd Eu ((cnt_gd (v := ⟨lg, sg⟩) Yg.out))
 have Lu := zLe Gu
 have Yu := hide Gu.by_
 clear Gu
 refine z1 [(82, .int .i64 ((lx.length : Nat)))] ?_
 refine zc rfl ((rfill_any 2 (lx.length) false _ Lx.out).mono ?_)
 rintro e w43 ⟨lv, sv, Av, cv, Ev, rfl, Cv, Ov, hb⟩
 refine ⟨_, rfl, ?_⟩
 replace HC1 := zH HM1 HC1 hb
 replace Og := zQ Og hb
 replace Ou := zQ Ou hb
 replace Bg := zX Bg hb
 replace BD := zB BD hb
 replace Ov := hide Ov.out.rd
 replace hU := zU hU hU.size hb
 clear hb
 have Gv := zGd Ev ((gd_xs (s := false) Gxx.out.pos Gxx.out.le))
 have Lv := zLe Gv
 have Yv := hide Gv.by_
 clear Gv
 refine zc rfl ((rsame_yes Au Av lu lv cu cv su sv _ Lu.out Lv.out Ou.out Ov.out (by rw [Eu.out, Ev.out, Eg.out, Lxx.out]; exact unk_ar Ya.out Yb.out (Or.inr HKb.out))).mono ?_)
 rintro e w44 ⟨rfl, hb⟩
 refine ⟨_, rfl, ?_⟩
 replace HC1 := zH HM1 HC1 hb
 replace Og := zQ Og hb
 replace Ou := zQ Ou hb
 replace Ov := zQ Ov hb
 replace Bg := zX Bg hb
 replace BD := zB BD hb
 replace hU := zU hU hU.size hb
 clear hb Ou Cu Lu Yu
 clear Ov Cv Lv Yv
 refine z2 [(86, z_f), (85, z_f)] (ze (zif (wp_skip (block_normal (then_normal (reg_lit ?_))))))
 refine z2 [(29, .int .i64 8), (87, .int .i64 8)] (ze ?_)
 clear Bg Og Cg Lg Yg
 clear BD
 refine zk (z_R Na Nb Nx Nz NV z_f 8) (fun X => ?_)
 refine round_s (zs (z1 [(30, z_t)] (ze (wp_seq (zit ?_)))))
 refine wp_skip (then_normal (wp_seq (wp_block (zs (z1 [(31, pt NV 16)] (zw (r1_TV _ HC1.out) 8 (by decide) rfl rfl ?_))))))
 refine zm2 25 60 rfl rfl rfl ?_
 intro w45 ND BD hb
 replace BD := hide BD
 replace HC1 := zH HM1 HC1 hb
 replace hU := zU hU hU.size hb
 clear hb
 refine sx_n (z1 [(33, pt Nx 0)] (zl (q1_x _ HC1.out) rfl rfl (z2 [(9, .int .i64 ((lx.length : Nat))), (35, .int .i64 ((lx.length : Nat)))] (sx_n (zv (q1_a _ HC1.out) rfl rfl ?_)))))
 refine zc rfl ((vKnown_w true Aa la ca sa _ La.out Ca (p1_a w45 HC1.out) Ya.out HKa.out).mono ?_)
 rintro e w46 ⟨rfl, hb⟩
 refine ⟨_, rfl, ?_⟩
 replace HC1 := zH HM1 HC1 hb
 replace BD := zB BD hb
 replace hU := zU hU hU.size hb
 clear hb
 refine z2 [(39, z_f), (38, z_f)] (zv (q1_b _ HC1.out) rfl rfl ?_)
 refine zc rfl ((vKnown_w false Ab lb cb sb _ Lb.out Cb (p1_b w46 HC1.out) Yb.out HKb.out).mono ?_)
 rintro e w47 ⟨rfl, hb⟩
 refine ⟨_, rfl, ?_⟩
 replace HC1 := zH HM1 HC1 hb
 replace BD := zB BD hb
 replace hU := zU hU hU.size hb
 clear hb
 refine z3 [(10, z_t), (43, z_t), (42, z_t)] (ze (wp_seq (zs (z1 [(44, pt ND 0)] (zop BD.out rfl rfl ?_)))))
 refine ze (wp_block (wp_seq (zg 46 47 (zg 46 48 (zg 46 49 (zg 46 50 ?_))))))
 refine reg_lit (z2 [(46, z_t), (51, z_t)] (ze (zit (wp_skip (block_normal (then_normal ?_))))))
 refine zs (z1 [(73, pt ND 1)] (zfn BD.out rfl rfl (zv (q1_a _ HC1.out) rfl rfl (zv (q1_b _ HC1.out) rfl rfl ?_))))
 refine zc rfl ((vMod_any Aa Ab la lb ca cb sa sb _ La.out Lb.out Ca Cb (p1_a w47 HC1.out) (p1_b w47 HC1.out) Ya.out Yb.out).mono ?_)
 rintro e w48 ⟨lg, sg, Ag, cg, Eg, rfl, Cg, Og, hb⟩
 refine ⟨_, rfl, ?_⟩
 replace HC1 := zH HM1 HC1 hb
 replace BD := zB BD hb
 replace Og := hide Og.out.rd
 replace hU := zU hU hU.size hb
 clear hb
 have Gg := zGd Eg ((gdu_ar Ya.out Yb.out hlen_mod))
 have Lg := zLe Gg
 have Yg := hide Gg.by_
 clear Gg
 refine zm (A := Ag) (m := lg.length) (c := cg) (s := sg) rfl rfl rfl ?_
 intro w49 Ng Bg hNg hb
 replace Bg := hide Bg
 replace HC1 := zH HM1 HC1 hb
 replace Og := zQ Og hb
 replace BD := zB BD hb
 have hzg : w.heap.size ≤ Ng := Nat.le_trans hU.size hNg
 clear hNg
 replace hU := zU hU hU.size hb
 clear hb
 refine sx_n (z2 [(79, z_t), (78, z_t)] (zv Bg.out rfl rfl ?_))
 refine zc rfl ((vWithSign_any false Ag lg cg sg _ Lg.out Cg Og.out Yg.out).mono ?_)
 rintro e w50 ⟨lu, su, Au, cu, Eu, rfl, Cu, Ou, hb⟩
 refine ⟨_, rfl, ?_⟩
 replace HC1 := zH HM1 HC1 hb
 replace Og := zQ Og hb
 replace Bg := zX Bg hb
 replace BD := zB BD hb
 replace Ou := hide Ou.out.rd
 replace hU := zU hU hU.size hb
 clear hb
 have Gu := zGd Eu ((cnt_gd (v := ⟨lg, sg⟩) Yg.out))
 have Lu := zLe Gu
 have Yu := hide Gu.by_
 clear Gu
 refine z1 [(82, .int .i64 ((lx.length : Nat)))] ?_
 refine zc rfl ((rfill_any 2 (lx.length) false _ Lx.out).mono ?_)
 rintro e w51 ⟨lv, sv, Av, cv, Ev, rfl, Cv, Ov, hb⟩
 refine ⟨_, rfl, ?_⟩
 replace HC1 := zH HM1 HC1 hb
 replace Og := zQ Og hb
 replace Ou := zQ Ou hb
 replace Bg := zX Bg hb
 replace BD := zB BD hb
 replace Ov := hide Ov.out.rd
 replace hU := zU hU hU.size hb
 clear hb
 have Gv := zGd Ev ((gd_xs (s := false) Gxx.out.pos Gxx.out.le))
 have Lv := zLe Gv
 have Yv := hide Gv.by_
 clear Gv
 refine zc rfl ((rsame_yes Au Av lu lv cu cv su sv _ Lu.out Lv.out Ou.out Ov.out (by rw [Eu.out, Ev.out, Eg.out, Lxx.out]; exact unk_ar Ya.out Yb.out (Or.inr HKb.out))).mono ?_)
 rintro e w52 ⟨rfl, hb⟩
 refine ⟨_, rfl, ?_⟩
 replace HC1 := zH HM1 HC1 hb
 replace Og := zQ Og hb
 replace Ou := zQ Ou hb
 replace Ov := zQ Ov hb
 replace Bg := zX Bg hb
 replace BD := zB BD hb
 replace hU := zU hU hU.size hb
 clear hb Ou Cu Lu Yu
 clear Ov Cv Lv Yv
 refine z2 [(86, z_f), (85, z_f)] (ze (zif (wp_skip (block_normal (then_normal (reg_lit ?_))))))
 refine z2 [(29, .int .i64 9), (87, .int .i64 9)] (ze ?_)
 clear Bg Og Cg Lg Yg
 clear BD
 refine zk (z_R Na Nb Nx Nz NV z_f 9) (fun X => ?_)
 refine round_s (zs (z1 [(30, z_t)] (ze (wp_seq (zit ?_)))))
 refine wp_skip (then_normal (wp_seq (wp_block (zs (z1 [(31, pt NV 18)] (zw (r1_TV _ HC1.out) 9 (by decide) rfl rfl ?_))))))
 refine zm2 26 61 rfl rfl rfl ?_
 intro w53 ND BD hb
 replace BD := hide BD
 replace HC1 := zH HM1 HC1 hb
 replace hU := zU hU hU.size hb
 clear hb
 refine sx_n (z1 [(33, pt Nx 0)] (zl (q1_x _ HC1.out) rfl rfl (z2 [(9, .int .i64 ((lx.length : Nat))), (35, .int .i64 ((lx.length : Nat)))] (sx_n (zv (q1_a _ HC1.out) rfl rfl ?_)))))
 refine zc rfl ((vKnown_w true Aa la ca sa _ La.out Ca (p1_a w53 HC1.out) Ya.out HKa.out).mono ?_)
 rintro e w54 ⟨rfl, hb⟩
 refine ⟨_, rfl, ?_⟩
 replace HC1 := zH HM1 HC1 hb
 replace BD := zB BD hb
 replace hU := zU hU hU.size hb
 clear hb
 refine z2 [(39, z_f), (38, z_f)] (zv (q1_b _ HC1.out) rfl rfl ?_)
 refine zc rfl ((vKnown_w false Ab lb cb sb _ Lb.out Cb (p1_b w54 HC1.out) Yb.out HKb.out).mono ?_)
 rintro e w55 ⟨rfl, hb⟩
 refine ⟨_, rfl, ?_⟩
 replace HC1 := zH HM1 HC1 hb
 replace BD := zB BD hb
 replace hU := zU hU hU.size hb
 clear hb
 refine z3 [(10, z_t), (43, z_t), (42, z_t)] (ze (wp_seq (zs (z1 [(44, pt ND 0)] (zop BD.out rfl rfl ?_)))))
 refine ze (wp_block (wp_seq (zg 46 47 (zg 46 48 (zg 46 49 (zg 46 50 ?_))))))
 refine reg_lit (z2 [(46, z_f), (51, z_f)] (ze (zif (wp_seq (zg 52 53 (zg 52 54 ?_))))))
 refine zg 52 55 (reg_lit (z2 [(52, z_f), (56, z_f)] (ze (zif (zt [(57, z_t), (58, z_t)] (reg_lit ?_))))))
 refine z1 [(59, pt Nz 0)] (zl (q1_z _ HC1.out) rfl rfl (z2 [(9, .int .i64 ((ly.length : Nat))), (61, .int .i64 ((ly.length : Nat)))] (wpl_end (block_normal (then_normal (zs ?_))))))
 refine z1 [(73, pt ND 1)] (zfn BD.out rfl rfl (zv (q1_a _ HC1.out) rfl rfl (zv (q1_b _ HC1.out) rfl rfl ?_)))
 refine zc rfl ((vPow_any Aa Ab la lb ca cb sa sb _ La.out Lb.out Ca Cb (p1_a w55 HC1.out) (p1_b w55 HC1.out) Ya.out Yb.out (HT.out.kept hU)).mono ?_)
 rintro e w56 ⟨lg, sg, Ag, cg, Eg, rfl, Cg, Og, hb⟩
 refine ⟨_, rfl, ?_⟩
 replace HC1 := zH HM1 HC1 hb
 replace BD := zB BD hb
 replace Og := hide Og.out.rd
 replace hU := zU hU hU.size hb
 clear hb
 have Gg := zGd Eg ((gdu_pow Ya.out))
 have Lg := zLe Gg
 have Yg := hide Gg.by_
 clear Gg
 refine zm (A := Ag) (m := lg.length) (c := cg) (s := sg) rfl rfl rfl ?_
 intro w57 Ng Bg hNg hb
 replace Bg := hide Bg
 replace HC1 := zH HM1 HC1 hb
 replace Og := zQ Og hb
 replace BD := zB BD hb
 have hzg : w.heap.size ≤ Ng := Nat.le_trans hU.size hNg
 clear hNg
 replace hU := zU hU hU.size hb
 clear hb
 refine sx_n (z2 [(79, z_t), (78, z_t)] (zv Bg.out rfl rfl ?_))
 refine zc rfl ((vWithSign_any false Ag lg cg sg _ Lg.out Cg Og.out Yg.out).mono ?_)
 rintro e w58 ⟨lu, su, Au, cu, Eu, rfl, Cu, Ou, hb⟩
 refine ⟨_, rfl, ?_⟩
 replace HC1 := zH HM1 HC1 hb
 replace Og := zQ Og hb
 replace Bg := zX Bg hb
 replace BD := zB BD hb
 replace Ou := hide Ou.out.rd
 replace hU := zU hU hU.size hb
 clear hb
 have Gu := zGd Eu ((cnt_gd (v := ⟨lg, sg⟩) Yg.out))
 have Lu := zLe Gu
 have Yu := hide Gu.by_
 clear Gu
 refine z1 [(82, .int .i64 ((ly.length : Nat)))] ?_
 refine zc rfl ((rfill_any 2 (ly.length) false _ Ly.out).mono ?_)
 rintro e w59 ⟨lv, sv, Av, cv, Ev, rfl, Cv, Ov, hb⟩
 refine ⟨_, rfl, ?_⟩
 replace HC1 := zH HM1 HC1 hb
 replace Og := zQ Og hb
 replace Ou := zQ Ou hb
 replace Bg := zX Bg hb
 replace BD := zB BD hb
 replace Ov := hide Ov.out.rd
 replace hU := zU hU hU.size hb
 clear hb
 have Gv := zGd Ev ((gd_xs (s := false) Gyy.out.pos Gyy.out.le))
 have Lv := zLe Gv
 have Yv := hide Gv.by_
 clear Gv
 refine zc rfl ((rsame_yes Au Av lu lv cu cv su sv _ Lu.out Lv.out Ou.out Ov.out (by rw [Eu.out, Ev.out, Eg.out, Lyy.out]; exact unk_pow Ya.out Yb.out (Or.inr HKb.out))).mono ?_)
 rintro e w60 ⟨rfl, hb⟩
 refine ⟨_, rfl, ?_⟩
 replace HC1 := zH HM1 HC1 hb
 replace Og := zQ Og hb
 replace Ou := zQ Ou hb
 replace Ov := zQ Ov hb
 replace Bg := zX Bg hb
 replace BD := zB BD hb
 replace hU := zU hU hU.size hb
 clear hb Ou Cu Lu Yu
 clear Ov Cv Lv Yv
 refine z2 [(86, z_f), (85, z_f)] (ze (zif (wp_skip (block_normal (then_normal (reg_lit ?_))))))
 refine z2 [(29, .int .i64 10), (87, .int .i64 10)] (ze ?_)
 clear Bg Og Cg Lg Yg
 clear BD
 refine zk (z_R Na Nb Nx Nz NV z_f 10) (fun X => ?_)
 refine round_s (zs (z1 [(30, z_t)] (ze (wp_seq (zit ?_)))))
 refine wp_skip (then_normal (wp_seq (wp_block (zs (z1 [(31, pt NV 20)] (zw (r1_TV _ HC1.out) 10 (by decide) rfl rfl ?_))))))
 refine zm2 27 91 rfl rfl rfl ?_
 intro w61 ND BD hb
 replace BD := hide BD
 replace HC1 := zH HM1 HC1 hb
 replace hU := zU hU hU.size hb
 clear hb
 refine sx_n (z1 [(33, pt Nx 0)] (zl (q1_x _ HC1.out) rfl rfl (z2 [(9, .int .i64 ((lx.length : Nat))), (35, .int .i64 ((lx.length : Nat)))] (sx_n (zv (q1_a _ HC1.out) rfl rfl ?_)))))
 refine zc rfl ((vKnown_w true Aa la ca sa _ La.out Ca (p1_a w61 HC1.out) Ya.out HKa.out).mono ?_)
 rintro e w62 ⟨rfl, hb⟩
 refine ⟨_, rfl, ?_⟩
 replace HC1 := zH HM1 HC1 hb
 replace BD := zB BD hb
 replace hU := zU hU hU.size hb
 clear hb
 refine z2 [(39, z_f), (38, z_f)] (zv (q1_b _ HC1.out) rfl rfl ?_)
 refine zc rfl ((vKnown_w false Ab lb cb sb _ Lb.out Cb (p1_b w62 HC1.out) Yb.out HKb.out).mono ?_)
 rintro e w63 ⟨rfl, hb⟩
 refine ⟨_, rfl, ?_⟩
 replace HC1 := zH HM1 HC1 hb
 replace BD := zB BD hb
 replace hU := zU hU hU.size hb
 clear hb
 refine z3 [(10, z_t), (43, z_t), (42, z_t)] (ze (wp_seq (zs (z1 [(44, pt ND 0)] (zop BD.out rfl rfl ?_)))))
 refine ze (wp_block (wp_seq (zg 46 47 (zg 46 48 (zg 46 49 (zg 46 50 ?_))))))
 refine reg_lit (z2 [(46, z_f), (51, z_f)] (ze (zif (wp_seq (zg 52 53 (zg 52 54 ?_))))))
 refine zg 52 55 (reg_lit (z2 [(52, z_f), (56, z_f)] (ze (zif (zg 57 58 (wp_seq ?_))))))
 refine zg 62 63 (zg 62 64 (zg 62 65 (reg_lit (z2 [(62, z_f), (66, z_f)] (ze (zif ?_))))))
 refine wp_exit (exit_pass rfl (then_exit (exit_here (then_normal (reg_lit (z2 [(29, .int .i64 11), (87, .int .i64 11)] (wpl_end ?_)))))))
 refine then_normal ?_
 clear BD
 refine zk (z_R Na Nb Nx Nz NV z_f 11) (fun X => ?_)
 refine round_s (zs (z1 [(30, z_t)] (ze (wp_seq (zit ?_)))))
 refine wp_skip (then_normal (wp_seq (wp_block (zs (z1 [(31, pt NV 22)] (zw (r1_TV _ HC1.out) 11 (by decide) rfl rfl ?_))))))
 refine zm2 28 80 rfl rfl rfl ?_
 intro w64 ND BD hb
 replace BD := hide BD
 replace HC1 := zH HM1 HC1 hb
 replace hU := zU hU hU.size hb
 clear hb
 refine sx_n (z1 [(33, pt Nx 0)] (zl (q1_x _ HC1.out) rfl rfl (z2 [(9, .int .i64 ((lx.length : Nat))), (35, .int .i64 ((lx.length : Nat)))] (sx_n (zv (q1_a _ HC1.out) rfl rfl ?_)))))
 refine zc rfl ((vKnown_w true Aa la ca sa _ La.out Ca (p1_a w64 HC1.out) Ya.out HKa.out).mono ?_)
 rintro e w65 ⟨rfl, hb⟩
 refine ⟨_, rfl, ?_⟩
 replace HC1 := zH HM1 HC1 hb
 replace BD := zB BD hb
 replace hU := zU hU hU.size hb
 clear hb
 refine z2 [(39, z_f), (38, z_f)] (zv (q1_b _ HC1.out) rfl rfl ?_)
 refine zc rfl ((vKnown_w false Ab lb cb sb _ Lb.out Cb (p1_b w65 HC1.out) Yb.out HKb.out).mono ?_)
 rintro e w66 ⟨rfl, hb⟩
 refine ⟨_, rfl, ?_⟩
 replace HC1 := zH HM1 HC1 hb
 replace BD := zB BD hb
 replace hU := zU hU hU.size hb
 clear hb
 refine z3 [(10, z_t), (43, z_t), (42, z_t)] (ze (wp_seq (zs (z1 [(44, pt ND 0)] (zop BD.out rfl rfl ?_)))))
 refine ze (wp_block (wp_seq (zg 46 47 (zg 46 48 (zg 46 49 (zg 46 50 ?_))))))
 refine reg_lit (z2 [(46, z_f), (51, z_f)] (ze (zif (wp_seq (zg 52 53 (zg 52 54 ?_))))))
 refine zg 52 55 (reg_lit (z2 [(52, z_f), (56, z_f)] (ze (zif (zg 57 58 (wp_seq ?_))))))
 refine zg 62 63 (zg 62 64 (zg 62 65 (reg_lit (z2 [(62, z_f), (66, z_f)] (ze (zif ?_))))))
 refine wp_exit (exit_pass rfl (then_exit (exit_here (then_normal (reg_lit (z2 [(29, .int .i64 12), (87, .int .i64 12)] (wpl_end ?_)))))))
 refine then_normal ?_
 clear BD
 refine zk (z_R Na Nb Nx Nz NV z_f 12) (fun X => ?_)
 refine round_s (zs (z1 [(30, z_t)] (ze (wp_seq (zit ?_)))))
 refine wp_skip (then_normal (wp_seq (wp_block (zs (z1 [(31, pt NV 24)] (zw (r1_TV _ HC1.out) 12 (by decide) rfl rfl ?_))))))
 refine zm2 31 76 rfl rfl rfl ?_
 intro w67 ND BD hb
 replace BD := hide BD
 replace HC1 := zH HM1 HC1 hb
 replace hU := zU hU hU.size hb
 clear hb
 refine sx_n (z1 [(33, pt Nx 0)] (zl (q1_x _ HC1.out) rfl rfl (z2 [(9, .int .i64 ((lx.length : Nat))), (35, .int .i64 ((lx.length : Nat)))] (sx_n (zv (q1_a _ HC1.out) rfl rfl ?_)))))
 refine zc rfl ((vKnown_w true Aa la ca sa _ La.out Ca (p1_a w67 HC1.out) Ya.out HKa.out).mono ?_)
 rintro e w68 ⟨rfl, hb⟩
 refine ⟨_, rfl, ?_⟩
 replace HC1 := zH HM1 HC1 hb
 replace BD := zB BD hb
 replace hU := zU hU hU.size hb
 clear hb
 refine z2 [(39, z_f), (38, z_f)] (zv (q1_b _ HC1.out) rfl rfl ?_)
 refine zc rfl ((vKnown_w false Ab lb cb sb _ Lb.out Cb (p1_b w68 HC1.out) Yb.out HKb.out).mono ?_)
 rintro e w69 ⟨rfl, hb⟩
 refine ⟨_, rfl, ?_⟩
 replace HC1 := zH HM1 HC1 hb
 replace BD := zB BD hb
 replace hU := zU hU hU.size hb
 clear hb
 refine z3 [(10, z_t), (43, z_t), (42, z_t)] (ze (wp_seq (zs (z1 [(44, pt ND 0)] (zop BD.out rfl rfl ?_)))))
 refine ze (wp_block (wp_seq (zg 46 47 (zg 46 48 (zg 46 49 (zg 46 50 ?_))))))
 refine reg_lit (z2 [(46, z_f), (51, z_f)] (ze (zif (wp_seq (zt [(52, z_t), (53, z_t)] (wp_skip ?_))))))
 refine then_normal (zit (reg_lit (z1 [(9, .int .i64 1)] (wpl_end (block_normal (then_normal (wp_seq ?_)))))))
 refine reg_lit (z1 [(73, pt ND 1)] (zfn BD.out rfl rfl (zv (q1_a _ HC1.out) rfl rfl (zv (q1_b _ HC1.out) rfl rfl ?_))))
 refine zc rfl ((vLt_any Aa Ab la lb ca cb sa sb _ La.out Lb.out Ca Cb (p1_a w69 HC1.out) (p1_b w69 HC1.out) Ya.out Yb.out).mono ?_)
 rintro e w70 ⟨lg, sg, Ag, cg, Eg, rfl, Cg, Og, hb⟩
 refine ⟨_, rfl, ?_⟩
 replace HC1 := zH HM1 HC1 hb
 replace BD := zB BD hb
 replace Og := hide Og.out.rd
 replace hU := zU hU hU.size hb
 clear hb
 have Gg := zGd Eg ((gdu_cmp _ _ _))
 have Lg := zLe Gg
 have Yg := hide Gg.by_
 clear Gg
 refine zm (A := Ag) (m := lg.length) (c := cg) (s := sg) rfl rfl rfl ?_
 intro w71 Ng Bg hNg hb
 replace Bg := hide Bg
 replace HC1 := zH HM1 HC1 hb
 replace Og := zQ Og hb
 replace BD := zB BD hb
 have hzg : w.heap.size ≤ Ng := Nat.le_trans hU.size hNg
 clear hNg
 replace hU := zU hU hU.size hb
 clear hb
 refine sx_n (z2 [(79, z_t), (78, z_t)] (zv Bg.out rfl rfl ?_))
 refine zc rfl ((vWithSign_any false Ag lg cg sg _ Lg.out Cg Og.out Yg.out).mono ?_)
 rintro e w72 ⟨lu, su, Au, cu, Eu, rfl, Cu, Ou, hb⟩
 refine ⟨_, rfl, ?_⟩
 replace HC1 := zH HM1 HC1 hb
 replace Og := zQ Og hb
 replace Bg := zX Bg hb
 replace BD := zB BD hb
 replace Ou := hide Ou.out.rd
 replace hU := zU hU hU.size hb
 clear hb
 have Gu := zGd Eu ((cnt_gd (v := ⟨lg, sg⟩) Yg.out))
 have Lu := zLe Gu
 have Yu := hide Gu.by_
 clear Gu
 refine z1 [(82, .int .i64 1)] ?_
 refine zc rfl ((rfill_any 2 (1) false _ (by decide)).mono ?_)
 rintro e w73 ⟨lv, sv, Av, cv, Ev, rfl, Cv, Ov, hb⟩
 refine ⟨_, rfl, ?_⟩
 replace HC1 := zH HM1 HC1 hb
 replace Og := zQ Og hb
 replace Ou := zQ Ou hb
 replace Bg := zX Bg hb
 replace BD := zB BD hb
 replace Ov := hide Ov.out.rd
 replace hU := zU hU hU.size hb
 clear hb
 have Gv := zGd Ev ((gd_xs (n := 1) (s := false) (by decide) (by decide)))
 have Lv := zLe Gv
 have Yv := hide Gv.by_
 clear Gv
 refine zc rfl ((rsame_yes Au Av lu lv cu cv su sv _ Lu.out Lv.out Ou.out Ov.out (by rw [Eu.out, Ev.out, Eg.out]; exact unk_cmp Ya.out Yb.out (Or.inr HKb.out))).mono ?_)
 rintro e w74 ⟨rfl, hb⟩
 refine ⟨_, rfl, ?_⟩
 replace HC1 := zH HM1 HC1 hb
 replace Og := zQ Og hb
 replace Ou := zQ Ou hb
 replace Ov := zQ Ov hb
 replace Bg := zX Bg hb
 replace BD := zB BD hb
 replace hU := zU hU hU.size hb
 clear hb Ou Cu Lu Yu
 clear Ov Cv Lv Yv
 refine z2 [(86, z_f), (85, z_f)] (ze (zif (wp_skip (block_normal (then_normal (reg_lit ?_))))))
 refine z2 [(29, .int .i64 13), (87, .int .i64 13)] (ze ?_)
 clear Bg Og Cg Lg Yg
 clear BD
 refine zk (z_R Na Nb Nx Nz NV z_f 13) (fun X => ?_)
 refine round_s (zs (z1 [(30, z_t)] (ze (wp_seq (zit ?_)))))
 refine wp_skip (then_normal (wp_seq (wp_block (zs (z1 [(31, pt NV 26)] (zw (r1_TV _ HC1.out) 13 (by decide) rfl rfl ?_))))))
 refine zm2 32 78 rfl rfl rfl ?_
 intro w75 ND BD hb
 replace BD := hide BD
 replace HC1 := zH HM1 HC1 hb
 replace hU := zU hU hU.size hb
 clear hb
 refine sx_n (z1 [(33, pt Nx 0)] (zl (q1_x _ HC1.out) rfl rfl (z2 [(9, .int .i64 ((lx.length : Nat))), (35, .int .i64 ((lx.length : Nat)))] (sx_n (zv (q1_a _ HC1.out) rfl rfl ?_)))))
 refine zc rfl ((vKnown_w true Aa la ca sa _ La.out Ca (p1_a w75 HC1.out) Ya.out HKa.out).mono ?_)
 rintro e w76 ⟨rfl, hb⟩
 refine ⟨_, rfl, ?_⟩
 replace HC1 := zH HM1 HC1 hb
 replace BD := zB BD hb
 replace hU := zU hU hU.size hb
 clear hb
 refine z2 [(39, z_f), (38, z_f)] (zv (q1_b _ HC1.out) rfl rfl ?_)
 refine zc rfl ((vKnown_w false Ab lb cb sb _ Lb.out Cb (p1_b w76 HC1.out) Yb.out HKb.out).mono ?_)
 rintro e w77 ⟨rfl, hb⟩
 refine ⟨_, rfl, ?_⟩
 replace HC1 := zH HM1 HC1 hb
 replace BD := zB BD hb
 replace hU := zU hU hU.size hb
 clear hb
 refine z3 [(10, z_t), (43, z_t), (42, z_t)] (ze (wp_seq (zs (z1 [(44, pt ND 0)] (zop BD.out rfl rfl ?_)))))
 refine ze (wp_block (wp_seq (zg 46 47 (zg 46 48 (zg 46 49 (zg 46 50 ?_))))))
 refine reg_lit (z2 [(46, z_f), (51, z_f)] (ze (zif (wp_seq (zg 52 53 (zt [(52, z_t), (54, z_t)] ?_))))))
 refine wp_skip (then_normal (zit (reg_lit (z1 [(9, .int .i64 1)] (wpl_end (block_normal (then_normal ?_)))))))
 refine zs (z1 [(73, pt ND 1)] (zfn BD.out rfl rfl (zv (q1_a _ HC1.out) rfl rfl (zv (q1_b _ HC1.out) rfl rfl ?_))))
 refine zc rfl ((vLe_any Aa Ab la lb ca cb sa sb _ La.out Lb.out Ca Cb (p1_a w77 HC1.out) (p1_b w77 HC1.out) Ya.out Yb.out).mono ?_)
 rintro e w78 ⟨lg, sg, Ag, cg, Eg, rfl, Cg, Og, hb⟩
 refine ⟨_, rfl, ?_⟩
 replace HC1 := zH HM1 HC1 hb
 replace BD := zB BD hb
 replace Og := hide Og.out.rd
 replace hU := zU hU hU.size hb
 clear hb
 have Gg := zGd Eg ((gdu_cmp _ _ _))
 have Lg := zLe Gg
 have Yg := hide Gg.by_
 clear Gg
 refine zm (A := Ag) (m := lg.length) (c := cg) (s := sg) rfl rfl rfl ?_
 intro w79 Ng Bg hNg hb
 replace Bg := hide Bg
 replace HC1 := zH HM1 HC1 hb
 replace Og := zQ Og hb
 replace BD := zB BD hb
 have hzg : w.heap.size ≤ Ng := Nat.le_trans hU.size hNg
 clear hNg
 replace hU := zU hU hU.size hb
 clear hb
 refine sx_n (z2 [(79, z_t), (78, z_t)] (zv Bg.out rfl rfl ?_))
 refine zc rfl ((vWithSign_any false Ag lg cg sg _ Lg.out Cg Og.out Yg.out).mono ?_)
 rintro e w80 ⟨lu, su, Au, cu, Eu, rfl, Cu, Ou, hb⟩
 refine ⟨_, rfl, ?_⟩
 replace HC1 := zH HM1 HC1 hb
 replace Og := zQ Og hb
 replace Bg := zX Bg hb
 replace BD := zB BD hb
 replace Ou := hide Ou.out.rd
 replace hU := zU hU hU.size hb
 clear hb
 have Gu := zGd Eu ((cnt_gd (v := ⟨lg, sg⟩) Yg.out))
 have Lu := zLe Gu
 have Yu := hide Gu.by_
 clear Gu
 refine z1 [(82, .int .i64 1)] ?_
 refine zc rfl ((rfill_any 2 (1) false _ (by decide)).mono ?_)
 rintro e w81 ⟨lv, sv, Av, cv, Ev, rfl, Cv, Ov, hb⟩
 refine ⟨_, rfl, ?_⟩
 replace HC1 := zH HM1 HC1 hb
 replace Og := zQ Og hb
 replace Ou := zQ Ou hb
 replace Bg := zX Bg hb
 replace BD := zB BD hb
 replace Ov := hide Ov.out.rd
 replace hU := zU hU hU.size hb
 clear hb
 have Gv := zGd Ev ((gd_xs (n := 1) (s := false) (by decide) (by decide)))
 have Lv := zLe Gv
 have Yv := hide Gv.by_
 clear Gv
 refine zc rfl ((rsame_yes Au Av lu lv cu cv su sv _ Lu.out Lv.out Ou.out Ov.out (by rw [Eu.out, Ev.out, Eg.out]; exact unk_cmp Ya.out Yb.out (Or.inr HKb.out))).mono ?_)
 rintro e w82 ⟨rfl, hb⟩
 refine ⟨_, rfl, ?_⟩
 replace HC1 := zH HM1 HC1 hb
 replace Og := zQ Og hb
 replace Ou := zQ Ou hb
 replace Ov := zQ Ov hb
 replace Bg := zX Bg hb
 replace BD := zB BD hb
 replace hU := zU hU hU.size hb
 clear hb Ou Cu Lu Yu
 clear Ov Cv Lv Yv
 refine z2 [(86, z_f), (85, z_f)] (ze (zif (wp_skip (block_normal (then_normal (reg_lit ?_))))))
 refine z2 [(29, .int .i64 14), (87, .int .i64 14)] (ze ?_)
 clear Bg Og Cg Lg Yg
 clear BD
 refine zk (z_R Na Nb Nx Nz NV z_f 14) (fun X => ?_)
 refine round_s (zs (z1 [(30, z_t)] (ze (wp_seq (zit ?_)))))
 refine wp_skip (then_normal (wp_seq (wp_block (zs (z1 [(31, pt NV 28)] (zw (r1_TV _ HC1.out) 14 (by decide) rfl rfl ?_))))))
 refine zm2 33 79 rfl rfl rfl ?_
 intro w83 ND BD hb
 replace BD := hide BD
 replace HC1 := zH HM1 HC1 hb
 replace hU := zU hU hU.size hb
 clear hb
 refine sx_n (z1 [(33, pt Nx 0)] (zl (q1_x _ HC1.out) rfl rfl (z2 [(9, .int .i64 ((lx.length : Nat))), (35, .int .i64 ((lx.length : Nat)))] (sx_n (zv (q1_a _ HC1.out) rfl rfl ?_)))))
 refine zc rfl ((vKnown_w true Aa la ca sa _ La.out Ca (p1_a w83 HC1.out) Ya.out HKa.out).mono ?_)
 rintro e w84 ⟨rfl, hb⟩
 refine ⟨_, rfl, ?_⟩
 replace HC1 := zH HM1 HC1 hb
 replace BD := zB BD hb
 replace hU := zU hU hU.size hb
 clear hb
 refine z2 [(39, z_f), (38, z_f)] (zv (q1_b _ HC1.out) rfl rfl ?_)
 refine zc rfl ((vKnown_w false Ab lb cb sb _ Lb.out Cb (p1_b w84 HC1.out) Yb.out HKb.out).mono ?_)
 rintro e w85 ⟨rfl, hb⟩
 refine ⟨_, rfl, ?_⟩
 replace HC1 := zH HM1 HC1 hb
 replace BD := zB BD hb
 replace hU := zU hU hU.size hb
 clear hb
 refine z3 [(10, z_t), (43, z_t), (42, z_t)] (ze (wp_seq (zs (z1 [(44, pt ND 0)] (zop BD.out rfl rfl ?_)))))
 refine ze (wp_block (wp_seq (zg 46 47 (zg 46 48 (zg 46 49 (zg 46 50 ?_))))))
 refine reg_lit (z2 [(46, z_f), (51, z_f)] (ze (zif (wp_seq (zg 52 53 (zg 52 54 ?_))))))
 refine zt [(52, z_t), (55, z_t)] (wp_skip (then_normal (zit (reg_lit (z1 [(9, .int .i64 1)] (wpl_end (block_normal ?_)))))))
 refine then_normal (zs (z1 [(73, pt ND 1)] (zfn BD.out rfl rfl (zv (q1_a _ HC1.out) rfl rfl (zv (q1_b _ HC1.out) rfl rfl ?_)))))
 refine zc rfl ((vGt_any Aa Ab la lb ca cb sa sb _ La.out Lb.out Ca Cb (p1_a w85 HC1.out) (p1_b w85 HC1.out) Ya.out Yb.out).mono ?_)
 rintro e w86 ⟨lg, sg, Ag, cg, Eg, rfl, Cg, Og, hb⟩
 refine ⟨_, rfl, ?_⟩
 replace HC1 := zH HM1 HC1 hb
 replace BD := zB BD hb
 replace Og := hide Og.out.rd
 replace hU := zU hU hU.size hb
 clear hb
 have Gg := zGd Eg ((gdu_cmp _ _ _))
 have Lg := zLe Gg
 have Yg := hide Gg.by_
 clear Gg
 refine zm (A := Ag) (m := lg.length) (c := cg) (s := sg) rfl rfl rfl ?_
 intro w87 Ng Bg hNg hb
 replace Bg := hide Bg
 replace HC1 := zH HM1 HC1 hb
 replace Og := zQ Og hb
 replace BD := zB BD hb
 have hzg : w.heap.size ≤ Ng := Nat.le_trans hU.size hNg
 clear hNg
 replace hU := zU hU hU.size hb
 clear hb
 refine sx_n (z2 [(79, z_t), (78, z_t)] (zv Bg.out rfl rfl ?_))
 refine zc rfl ((vWithSign_any false Ag lg cg sg _ Lg.out Cg Og.out Yg.out).mono ?_)
 rintro e w88 ⟨lu, su, Au, cu, Eu, rfl, Cu, Ou, hb⟩
 refine ⟨_, rfl, ?_⟩
 replace HC1 := zH HM1 HC1 hb
 replace Og := zQ Og hb
 replace Bg := zX Bg hb
 replace BD := zB BD hb
 replace Ou := hide Ou.out.rd
 replace hU := zU hU hU.size hb
 clear hb
 have Gu := zGd Eu ((cnt_gd (v := ⟨lg, sg⟩) Yg.out))
 have Lu := zLe Gu
 have Yu := hide Gu.by_
 clear Gu
 refine z1 [(82, .int .i64 1)] ?_
 refine zc rfl ((rfill_any 2 (1) false _ (by decide)).mono ?_)
 rintro e w89 ⟨lv, sv, Av, cv, Ev, rfl, Cv, Ov, hb⟩
 refine ⟨_, rfl, ?_⟩
 replace HC1 := zH HM1 HC1 hb
 replace Og := zQ Og hb
 replace Ou := zQ Ou hb
 replace Bg := zX Bg hb
 replace BD := zB BD hb
 replace Ov := hide Ov.out.rd
 replace hU := zU hU hU.size hb
 clear hb
 have Gv := zGd Ev ((gd_xs (n := 1) (s := false) (by decide) (by decide)))
 have Lv := zLe Gv
 have Yv := hide Gv.by_
 clear Gv
 refine zc rfl ((rsame_yes Au Av lu lv cu cv su sv _ Lu.out Lv.out Ou.out Ov.out (by rw [Eu.out, Ev.out, Eg.out]; exact unk_cmp Ya.out Yb.out (Or.inr HKb.out))).mono ?_)
 rintro e w90 ⟨rfl, hb⟩
 refine ⟨_, rfl, ?_⟩
 replace HC1 := zH HM1 HC1 hb
 replace Og := zQ Og hb
 replace Ou := zQ Ou hb
 replace Ov := zQ Ov hb
 replace Bg := zX Bg hb
 replace BD := zB BD hb
 replace hU := zU hU hU.size hb
 clear hb Ou Cu Lu Yu
 clear Ov Cv Lv Yv
 refine z2 [(86, z_f), (85, z_f)] (ze (zif (wp_skip (block_normal (then_normal (reg_lit ?_))))))
 refine z2 [(29, .int .i64 15), (87, .int .i64 15)] (ze ?_)
 clear Bg Og Cg Lg Yg
 clear BD
 refine zk (z_R Na Nb Nx Nz NV z_f 15) (fun X => ?_)
 refine round_s (zs (z1 [(30, z_t)] (ze (wp_seq (zit ?_)))))
 refine wp_skip (then_normal (wp_seq (wp_block (zs (z1 [(31, pt NV 30)] (zw (r1_TV _ HC1.out) 15 (by decide) rfl rfl ?_))))))
 refine zm2 34 77 rfl rfl rfl ?_
 intro w91 ND BD hb
 replace BD := hide BD
 replace HC1 := zH HM1 HC1 hb
 replace hU := zU hU hU.size hb
 clear hb
 refine sx_n (z1 [(33, pt Nx 0)] (zl (q1_x _ HC1.out) rfl rfl (z2 [(9, .int .i64 ((lx.length : Nat))), (35, .int .i64 ((lx.length : Nat)))] (sx_n (zv (q1_a _ HC1.out) rfl rfl ?_)))))
 refine zc rfl ((vKnown_w true Aa la ca sa _ La.out Ca (p1_a w91 HC1.out) Ya.out HKa.out).mono ?_)
 rintro e w92 ⟨rfl, hb⟩
 refine ⟨_, rfl, ?_⟩
 replace HC1 := zH HM1 HC1 hb
 replace BD := zB BD hb
 replace hU := zU hU hU.size hb
 clear hb
 refine z2 [(39, z_f), (38, z_f)] (zv (q1_b _ HC1.out) rfl rfl ?_)
 refine zc rfl ((vKnown_w false Ab lb cb sb _ Lb.out Cb (p1_b w92 HC1.out) Yb.out HKb.out).mono ?_)
 rintro e w93 ⟨rfl, hb⟩
 refine ⟨_, rfl, ?_⟩
 replace HC1 := zH HM1 HC1 hb
 replace BD := zB BD hb
 replace hU := zU hU hU.size hb
 clear hb
 refine z3 [(10, z_t), (43, z_t), (42, z_t)] (ze (wp_seq (zs (z1 [(44, pt ND 0)] (zop BD.out rfl rfl ?_)))))
 refine ze (wp_block (wp_seq (zg 46 47 (zg 46 48 (zg 46 49 (zg 46 50 ?_))))))
 refine reg_lit (z2 [(46, z_f), (51, z_f)] (ze (zif (wp_seq (zg 52 53 (zg 52 54 ?_))))))
 refine zg 52 55 (reg_lit (z2 [(52, z_t), (56, z_t)] (ze (zit (reg_lit (z1 [(9, .int .i64 1)] ?_))))))
 refine wpl_end (block_normal (then_normal (zs (z1 [(73, pt ND 1)] (zfn BD.out rfl rfl (zv (q1_a _ HC1.out) rfl rfl ?_))))))
 refine zv (q1_b _ HC1.out) rfl rfl ?_
 refine zc rfl ((vGe_any Aa Ab la lb ca cb sa sb _ La.out Lb.out Ca Cb (p1_a w93 HC1.out) (p1_b w93 HC1.out) Ya.out Yb.out).mono ?_)
 rintro e w94 ⟨lg, sg, Ag, cg, Eg, rfl, Cg, Og, hb⟩
 refine ⟨_, rfl, ?_⟩
 replace HC1 := zH HM1 HC1 hb
 replace BD := zB BD hb
 replace Og := hide Og.out.rd
 replace hU := zU hU hU.size hb
 clear hb
 have Gg := zGd Eg ((gdu_cmp _ _ _))
 have Lg := zLe Gg
 have Yg := hide Gg.by_
 clear Gg
 refine zm (A := Ag) (m := lg.length) (c := cg) (s := sg) rfl rfl rfl ?_
 intro w95 Ng Bg hNg hb
 replace Bg := hide Bg
 replace HC1 := zH HM1 HC1 hb
 replace Og := zQ Og hb
 replace BD := zB BD hb
 have hzg : w.heap.size ≤ Ng := Nat.le_trans hU.size hNg
 clear hNg
 replace hU := zU hU hU.size hb
 clear hb
 refine sx_n (z2 [(79, z_t), (78, z_t)] (zv Bg.out rfl rfl ?_))
 refine zc rfl ((vWithSign_any false Ag lg cg sg _ Lg.out Cg Og.out Yg.out).mono ?_)
 rintro e w96 ⟨lu, su, Au, cu, Eu, rfl, Cu, Ou, hb⟩
 refine ⟨_, rfl, ?_⟩
 replace HC1 := zH HM1 HC1 hb
 replace Og := zQ Og hb
 replace Bg := zX Bg hb
 replace BD := zB BD hb
 replace Ou := hide Ou.out.rd
 replace hU := zU hU hU.size hb
 clear hb
 have Gu := zGd Eu ((cnt_gd (v := ⟨lg, sg⟩) Yg.out))
 have Lu := zLe Gu
 have Yu := hide Gu.by_
 clear Gu
 refine z1 [(82, .int .i64 1)] ?_
 refine zc rfl ((rfill_any 2 (1) false _ (by decide)).mono ?_)
 rintro e w97 ⟨lv, sv, Av, cv, Ev, rfl, Cv, Ov, hb⟩
 refine ⟨_, rfl, ?_⟩
 replace HC1 := zH HM1 HC1 hb
 replace Og := zQ Og hb
 replace Ou := zQ Ou hb
 replace Bg := zX Bg hb
 replace BD := zB BD hb
 replace Ov := hide Ov.out.rd
 replace hU := zU hU hU.size hb
 clear hb
 have Gv := zGd Ev ((gd_xs (n := 1) (s := false) (by decide) (by decide)))
 have Lv := zLe Gv
 have Yv := hide Gv.by_
 clear Gv
 refine zc rfl ((rsame_yes Au Av lu lv cu cv su sv _ Lu.out Lv.out Ou.out Ov.out (by rw [Eu.out, Ev.out, Eg.out]; exact unk_cmp Ya.out Yb.out (Or.inr HKb.out))).mono ?_)
 rintro e w98 ⟨rfl, hb⟩
 refine ⟨_, rfl, ?_⟩
 replace HC1 := zH HM1 HC1 hb
 replace Og := zQ Og hb
 replace Ou := zQ Ou hb
 replace Ov := zQ Ov hb
 replace Bg := zX Bg hb
 replace BD := zB BD hb
 replace hU := zU hU hU.size hb
 clear hb Ou Cu Lu Yu
 clear Ov Cv Lv Yv
 refine z2 [(86, z_f), (85, z_f)] (ze (zif (wp_skip (block_normal (then_normal (reg_lit ?_))))))
 refine z2 [(29, .int .i64 16), (87, .int .i64 16)] (ze ?_)
 clear Bg Og Cg Lg Yg
 clear BD
 refine zk (z_R Na Nb Nx Nz NV z_f 16) (fun X => ?_)
 refine round_s (zs (z1 [(30, z_t)] (ze (wp_seq (zit ?_)))))
 refine wp_skip (then_normal (wp_seq (wp_block (zs (z1 [(31, pt NV 32)] (zw (r1_TV _ HC1.out) 16 (by decide) rfl rfl ?_))))))
 refine zm2 35 73 rfl rfl rfl ?_
 intro w99 ND BD hb
 replace BD := hide BD
 replace HC1 := zH HM1 HC1 hb
 replace hU := zU hU hU.size hb
 clear hb
 refine sx_n (z1 [(33, pt Nx 0)] (zl (q1_x _ HC1.out) rfl rfl (z2 [(9, .int .i64 ((lx.length : Nat))), (35, .int .i64 ((lx.length : Nat)))] (sx_n (zv (q1_a _ HC1.out) rfl rfl ?_)))))
 refine zc rfl ((vKnown_w true Aa la ca sa _ La.out Ca (p1_a w99 HC1.out) Ya.out HKa.out).mono ?_)
 rintro e w100 ⟨rfl, hb⟩
 refine ⟨_, rfl, ?_⟩
 replace HC1 := zH HM1 HC1 hb
 replace BD := zB BD hb
 replace hU := zU hU hU.size hb
 clear hb
 refine z2 [(39, z_f), (38, z_f)] (zv (q1_b _ HC1.out) rfl rfl ?_)
 refine zc rfl ((vKnown_w false Ab lb cb sb _ Lb.out Cb (p1_b w100 HC1.out) Yb.out HKb.out).mono ?_)
 rintro e w101 ⟨rfl, hb⟩
 refine ⟨_, rfl, ?_⟩
 replace HC1 := zH HM1 HC1 hb
 replace BD := zB BD hb
 replace hU := zU hU hU.size hb
 clear hb
 refine z3 [(10, z_t), (43, z_t), (42, z_t)] (ze (wp_seq (zs (z1 [(44, pt ND 0)] (zop BD.out rfl rfl ?_)))))
 refine ze (wp_block (wp_seq (zg 46 47 (zg 46 48 (zg 46 49 (zg 46 50 ?_))))))
 refine reg_lit (z2 [(46, z_f), (51, z_f)] (ze (zif (wp_seq (zg 52 53 (zg 52 54 ?_))))))
 refine zg 52 55 (reg_lit (z2 [(52, z_f), (56, z_f)] (ze (zif (zg 57 58 (wp_seq ?_))))))
 refine zg 62 63 (zg 62 64 (zg 62 65 (reg_lit (z2 [(62, z_f), (66, z_f)] (ze (zif ?_))))))
 refine wp_exit (exit_pass rfl (then_exit (exit_here (then_normal (reg_lit (z2 [(29, .int .i64 17), (87, .int .i64 17)] (wpl_end ?_)))))))
 refine then_normal ?_
 clear BD
 refine zk (z_R Na Nb Nx Nz NV z_f 17) (fun X => ?_)
 refine round_s (zs (z1 [(30, z_t)] (ze (wp_seq (zit ?_)))))
 refine wp_skip (then_normal (wp_seq (wp_block (zs (z1 [(31, pt NV 34)] (zw (r1_TV _ HC1.out) 17 (by decide) rfl rfl ?_))))))
 refine zm2 36 74 rfl rfl rfl ?_
 intro w102 ND BD hb
 replace BD := hide BD
 replace HC1 := zH HM1 HC1 hb
 replace hU := zU hU hU.size hb
 clear hb
 refine sx_n (z1 [(33, pt Nx 0)] (zl (q1_x _ HC1.out) rfl rfl (z2 [(9, .int .i64 ((lx.length : Nat))), (35, .int .i64 ((lx.length : Nat)))] (sx_n (zv (q1_a _ HC1.out) rfl rfl ?_)))))
 refine zc rfl ((vKnown_w true Aa la ca sa _ La.out Ca (p1_a w102 HC1.out) Ya.out HKa.out).mono ?_)
 rintro e w103 ⟨rfl, hb⟩
 refine ⟨_, rfl, ?_⟩
 replace HC1 := zH HM1 HC1 hb
 replace BD := zB BD hb
 replace hU := zU hU hU.size hb
 clear hb
 refine z2 [(39, z_f), (38, z_f)] (zv (q1_b _ HC1.out) rfl rfl ?_)
 refine zc rfl ((vKnown_w false Ab lb cb sb _ Lb.out Cb (p1_b w103 HC1.out) Yb.out HKb.out).mono ?_)
 rintro e w104 ⟨rfl, hb⟩
 refine ⟨_, rfl, ?_⟩
 replace HC1 := zH HM1 HC1 hb
 replace BD := zB BD hb
 replace hU := zU hU hU.size hb
 clear hb
 refine z3 [(10, z_t), (43, z_t), (42, z_t)] (ze (wp_seq (zs (z1 [(44, pt ND 0)] (zop BD.out rfl rfl ?_)))))
 refine ze (wp_block (wp_seq (zg 46 47 (zg 46 48 (zg 46 49 (zg 46 50 ?_))))))
 refine reg_lit (z2 [(46, z_f), (51, z_f)] (ze (zif (wp_seq (zg 52 53 (zg 52 54 ?_))))))
 refine zg 52 55 (reg_lit (z2 [(52, z_f), (56, z_f)] (ze (zif (zg 57 58 (wp_seq ?_))))))
 refine zg 62 63 (zg 62 64 (zg 62 65 (reg_lit (z2 [(62, z_f), (66, z_f)] (ze (zif ?_))))))
 refine wp_exit (exit_pass rfl (then_exit (exit_here (then_normal (reg_lit (z2 [(29, .int .i64 18), (87, .int .i64 18)] (wpl_end ?_)))))))
 refine then_normal ?_
 clear BD
 refine zk (z_R Na Nb Nx Nz NV z_f 18) (fun X => ?_)
 refine round_s (zs (z1 [(30, z_t)] (ze (wp_seq (zit ?_)))))
 refine wp_skip (then_normal (wp_seq (wp_block (zs (z1 [(31, pt NV 36)] (zw (r1_TV _ HC1.out) 18 (by decide) rfl rfl ?_))))))
 refine zm2 41 62 rfl rfl rfl ?_
 intro w105 ND BD hb
 replace BD := hide BD
 replace HC1 := zH HM1 HC1 hb
 replace hU := zU hU hU.size hb
 clear hb
 refine sx_n (z1 [(33, pt Nx 0)] (zl (q1_x _ HC1.out) rfl rfl (z2 [(9, .int .i64 ((lx.length : Nat))), (35, .int .i64 ((lx.length : Nat)))] (sx_n (zv (q1_a _ HC1.out) rfl rfl ?_)))))
 refine zc rfl ((vKnown_w true Aa la ca sa _ La.out Ca (p1_a w105 HC1.out) Ya.out HKa.out).mono ?_)
 rintro e w106 ⟨rfl, hb⟩
 refine ⟨_, rfl, ?_⟩
 replace HC1 := zH HM1 HC1 hb
 replace BD := zB BD hb
 replace hU := zU hU hU.size hb
 clear hb
 refine z2 [(39, z_f), (38, z_f)] (zv (q1_b _ HC1.out) rfl rfl ?_)
 refine zc rfl ((vKnown_w false Ab lb cb sb _ Lb.out Cb (p1_b w106 HC1.out) Yb.out HKb.out).mono ?_)
 rintro e w107 ⟨rfl, hb⟩
 refine ⟨_, rfl, ?_⟩
 replace HC1 := zH HM1 HC1 hb
 replace BD := zB BD hb
 replace hU := zU hU hU.size hb
 clear hb
 refine z3 [(10, z_t), (43, z_t), (42, z_t)] (ze (wp_seq (zs (z1 [(44, pt ND 0)] (zop BD.out rfl rfl ?_)))))
 refine ze (wp_block (wp_seq (zg 46 47 (zg 46 48 (zg 46 49 (zg 46 50 ?_))))))
 refine reg_lit (z2 [(46, z_f), (51, z_f)] (ze (zif (wp_seq (zg 52 53 (zg 52 54 ?_))))))
 refine zg 52 55 (reg_lit (z2 [(52, z_f), (56, z_f)] (ze (zif (zg 57 58 (wp_seq ?_))))))
 refine zt [(62, z_t), (63, z_t)] (wp_skip (then_normal (zit (region_R (n := 7) (N := 8) (by kernel_rfl) (by kernel_rfl) (by kernel_rfl) (by kernel_rfl) (by kernel_rfl) (by kernel_rfl) (fun _ _ _ _ _ h => hP _ _ _ _ _ h) ?_))))
 intro F hQ
 have HC0 := HC1
 refine zav (i := 0) (m' := 1) (v := .pointer (some ⟨Nz, 0, none⟩)) F hQ rfl rfl (anyR_ldsl (i := 1) (m' := 3) (q1_z _ HC0.out) F hQ rfl rfl (by kernel_rfl) (by kernel_rfl) (by kernel_rfl) (by kernel_rfl) (by kernel_rfl) rfl (by kernel_rfl) (zav (i := 2) (m' := 7) (v := .int .i64 ((ly.length : Nat))) F hQ rfl rfl (anyR_ldvec (i := 3) (m' := 15) (q1_b _ HC0.out) F hQ rfl rfl (by kernel_rfl) (by kernel_rfl) (by kernel_rfl) (by kernel_rfl) (by kernel_rfl) rfl (by kernel_rfl) ?_)))
 refine zac (i := 4) (m' := 31) rfl rfl ((vKnown_w false Ab lb cb sb _ Lb.out Cb (by exact (p1_b w107 HC1.out)) Yb.out HKb.out).mono ?_)
 rintro e w108 ⟨rfl, hb⟩
 refine ⟨_, rfl, hb, ?_⟩
 replace hb : Below w107.heap.size w107 w108 := Below.trans ((Below.refl _ _).drew) hb
 replace HC1 := zH HM1 HC1 hb
 replace BD := zB BD hb
 replace hU := zU hU hU.size hb
 clear hb
 refine zav (i := 5) (m' := 63) (v := .bool true) F hQ rfl rfl (zav (i := 6) (m' := 127) (v := .int .i64 ((ly.length : Nat))) F hQ rfl rfl (anyR_e (anyR_last (i := 7) (m' := 255) (v := .bool true) rfl rfl (by kernel_rfl) (by kernel_rfl) (by kernel_rfl) (by kernel_rfl) (by kernel_rfl) (anyE_done (by kernel_rfl) ?_))))
 clear F hQ HC0
 refine block_normal (then_normal (zs (z1 [(73, pt ND 1)] (zfn BD.out rfl rfl (zv (q1_a _ HC1.out) rfl rfl (zv (q1_b _ HC1.out) rfl rfl ?_))))))
 refine zc rfl ((vShl_any Aa Ab la lb ca cb sa sb _ La.out Lb.out Ca Cb (p1_a w108 HC1.out) (p1_b w108 HC1.out) Ya.out Yb.out).mono ?_)
 rintro e w109 ⟨lg, sg, Ag, cg, Eg, rfl, Cg, Og, hb⟩
 refine ⟨_, rfl, ?_⟩
 replace HC1 := zH HM1 HC1 hb
 replace BD := zB BD hb
 replace Og := hide Og.out.rd
 replace hU := zU hU hU.size hb
 clear hb
 have Gg := zGd Eg ((gdu_shf Ya.out gdm_shl))
 have Lg := zLe Gg
 have Yg := hide Gg.by_
 clear Gg
 refine zm (A := Ag) (m := lg.length) (c := cg) (s := sg) rfl rfl rfl ?_
 intro w110 Ng Bg hNg hb
 replace Bg := hide Bg
 replace HC1 := zH HM1 HC1 hb
 replace Og := zQ Og hb
 replace BD := zB BD hb
 have hzg : w.heap.size ≤ Ng := Nat.le_trans hU.size hNg
 clear hNg
 replace hU := zU hU hU.size hb
 clear hb
 refine sx_n (z2 [(79, z_t), (78, z_t)] (zv Bg.out rfl rfl ?_))
 refine zc rfl ((vWithSign_any false Ag lg cg sg _ Lg.out Cg Og.out Yg.out).mono ?_)
 rintro e w111 ⟨lu, su, Au, cu, Eu, rfl, Cu, Ou, hb⟩
 refine ⟨_, rfl, ?_⟩
 replace HC1 := zH HM1 HC1 hb
 replace Og := zQ Og hb
 replace Bg := zX Bg hb
 replace BD := zB BD hb
 replace Ou := hide Ou.out.rd
 replace hU := zU hU hU.size hb
 clear hb
 have Gu := zGd Eu ((cnt_gd (v := ⟨lg, sg⟩) Yg.out))
 have Lu := zLe Gu
 have Yu := hide Gu.by_
 clear Gu
 refine z1 [(82, .int .i64 ((ly.length : Nat)))] ?_
 refine zc rfl ((rfill_any 2 (ly.length) false _ Ly.out).mono ?_)
 rintro e w112 ⟨lv, sv, Av, cv, Ev, rfl, Cv, Ov, hb⟩
 refine ⟨_, rfl, ?_⟩
 replace HC1 := zH HM1 HC1 hb
 replace Og := zQ Og hb
 replace Ou := zQ Ou hb
 replace Bg := zX Bg hb
 replace BD := zB BD hb
 replace Ov := hide Ov.out.rd
 replace hU := zU hU hU.size hb
 clear hb
 have Gv := zGd Ev ((gd_xs (s := false) Gyy.out.pos Gyy.out.le))
 have Lv := zLe Gv
 have Yv := hide Gv.by_
 clear Gv
 refine zc rfl ((rsame_yes Au Av lu lv cu cv su sv _ Lu.out Lv.out Ou.out Ov.out (by rw [Eu.out, Ev.out, Eg.out, Lyy.out]; exact unk_shf Ya.out Yb.out HKb.out)).mono ?_)
 rintro e w113 ⟨rfl, hb⟩
 refine ⟨_, rfl, ?_⟩
 replace HC1 := zH HM1 HC1 hb
 replace Og := zQ Og hb
 replace Ou := zQ Ou hb
 replace Ov := zQ Ov hb
 replace Bg := zX Bg hb
 replace BD := zB BD hb
 replace hU := zU hU hU.size hb
 clear hb Ou Cu Lu Yu
 clear Ov Cv Lv Yv
 refine z2 [(86, z_f), (85, z_f)] (ze (zif (wp_skip (block_normal (then_normal (reg_lit ?_))))))
 refine z2 [(29, .int .i64 19), (87, .int .i64 19)] (ze ?_)
 clear Bg Og Cg Lg Yg
 clear BD
 refine zk (z_R Na Nb Nx Nz NV z_f 19) (fun X => ?_)
 refine round_s (zs (z1 [(30, z_t)] (ze (wp_seq (zit ?_)))))
 refine wp_skip (then_normal (wp_seq (wp_block (zs (z1 [(31, pt NV 38)] (zw (r1_TV _ HC1.out) 19 (by decide) rfl rfl ?_))))))
 refine zm2 42 63 rfl rfl rfl ?_
 intro w114 ND BD hb
 replace BD := hide BD
 replace HC1 := zH HM1 HC1 hb
 replace hU := zU hU hU.size hb
 clear hb
 refine sx_n (z1 [(33, pt Nx 0)] (zl (q1_x _ HC1.out) rfl rfl (z2 [(9, .int .i64 ((lx.length : Nat))), (35, .int .i64 ((lx.length : Nat)))] (sx_n (zv (q1_a _ HC1.out) rfl rfl ?_)))))
 refine zc rfl ((vKnown_w true Aa la ca sa _ La.out Ca (p1_a w114 HC1.out) Ya.out HKa.out).mono ?_)
 rintro e w115 ⟨rfl, hb⟩
 refine ⟨_, rfl, ?_⟩
 replace HC1 := zH HM1 HC1 hb
 replace BD := zB BD hb
 replace hU := zU hU hU.size hb
 clear hb
 refine z2 [(39, z_f), (38, z_f)] (zv (q1_b _ HC1.out) rfl rfl ?_)
 refine zc rfl ((vKnown_w false Ab lb cb sb _ Lb.out Cb (p1_b w115 HC1.out) Yb.out HKb.out).mono ?_)
 rintro e w116 ⟨rfl, hb⟩
 refine ⟨_, rfl, ?_⟩
 replace HC1 := zH HM1 HC1 hb
 replace BD := zB BD hb
 replace hU := zU hU hU.size hb
 clear hb
 refine z3 [(10, z_t), (43, z_t), (42, z_t)] (ze (wp_seq (zs (z1 [(44, pt ND 0)] (zop BD.out rfl rfl ?_)))))
 refine ze (wp_block (wp_seq (zg 46 47 (zg 46 48 (zg 46 49 (zg 46 50 ?_))))))
 refine reg_lit (z2 [(46, z_f), (51, z_f)] (ze (zif (wp_seq (zg 52 53 (zg 52 54 ?_))))))
 refine zg 52 55 (reg_lit (z2 [(52, z_f), (56, z_f)] (ze (zif (zg 57 58 (wp_seq ?_))))))
 refine zg 62 63 (zt [(62, z_t), (64, z_t)] (wp_skip (then_normal (zit (region_R (n := 7) (N := 8) (by kernel_rfl) (by kernel_rfl) (by kernel_rfl) (by kernel_rfl) (by kernel_rfl) (by kernel_rfl) (fun _ _ _ _ _ h => hP _ _ _ _ _ h) ?_)))))
 intro F hQ
 have HC0 := HC1
 refine zav (i := 0) (m' := 1) (v := .pointer (some ⟨Nz, 0, none⟩)) F hQ rfl rfl (anyR_ldsl (i := 1) (m' := 3) (q1_z _ HC0.out) F hQ rfl rfl (by kernel_rfl) (by kernel_rfl) (by kernel_rfl) (by kernel_rfl) (by kernel_rfl) rfl (by kernel_rfl) (zav (i := 2) (m' := 7) (v := .int .i64 ((ly.length : Nat))) F hQ rfl rfl (anyR_ldvec (i := 3) (m' := 15) (q1_b _ HC0.out) F hQ rfl rfl (by kernel_rfl) (by kernel_rfl) (by kernel_rfl) (by kernel_rfl) (by kernel_rfl) rfl (by kernel_rfl) ?_)))
 refine zac (i := 4) (m' := 31) rfl rfl ((vKnown_w false Ab lb cb sb _ Lb.out Cb (by exact (p1_b w116 HC1.out)) Yb.out HKb.out).mono ?_)
 rintro e w117 ⟨rfl, hb⟩
 refine ⟨_, rfl, hb, ?_⟩
 replace hb : Below w116.heap.size w116 w117 := Below.trans ((Below.refl _ _).drew) hb
 replace HC1 := zH HM1 HC1 hb
 replace BD := zB BD hb
 replace hU := zU hU hU.size hb
 clear hb
 refine zav (i := 5) (m' := 63) (v := .bool true) F hQ rfl rfl (zav (i := 6) (m' := 127) (v := .int .i64 ((ly.length : Nat))) F hQ rfl rfl (anyR_e (anyR_last (i := 7) (m' := 255) (v := .bool true) rfl rfl (by kernel_rfl) (by kernel_rfl) (by kernel_rfl) (by kernel_rfl) (by kernel_rfl) (anyE_done (by kernel_rfl) ?_))))
 clear F hQ HC0
 refine block_normal (then_normal (zs (z1 [(73, pt ND 1)] (zfn BD.out rfl rfl (zv (q1_a _ HC1.out) rfl rfl (zv (q1_b _ HC1.out) rfl rfl ?_))))))
 refine zc rfl ((vShr_any Aa Ab la lb ca cb sa sb _ La.out Lb.out Ca Cb (p1_a w117 HC1.out) (p1_b w117 HC1.out) Ya.out Yb.out).mono ?_)
 rintro e w118 ⟨lg, sg, Ag, cg, Eg, rfl, Cg, Og, hb⟩
 refine ⟨_, rfl, ?_⟩
 replace HC1 := zH HM1 HC1 hb
 replace BD := zB BD hb
 replace Og := hide Og.out.rd
 replace hU := zU hU hU.size hb
 clear hb
 have Gg := zGd Eg ((gdu_shf Ya.out gdm_shr))
 have Lg := zLe Gg
 have Yg := hide Gg.by_
 clear Gg
 refine zm (A := Ag) (m := lg.length) (c := cg) (s := sg) rfl rfl rfl ?_
 intro w119 Ng Bg hNg hb
 replace Bg := hide Bg
 replace HC1 := zH HM1 HC1 hb
 replace Og := zQ Og hb
 replace BD := zB BD hb
 have hzg : w.heap.size ≤ Ng := Nat.le_trans hU.size hNg
 clear hNg
 replace hU := zU hU hU.size hb
 clear hb
 refine sx_n (z2 [(79, z_t), (78, z_t)] (zv Bg.out rfl rfl ?_))
 refine zc rfl ((vWithSign_any false Ag lg cg sg _ Lg.out Cg Og.out Yg.out).mono ?_)
 rintro e w120 ⟨lu, su, Au, cu, Eu, rfl, Cu, Ou, hb⟩
 refine ⟨_, rfl, ?_⟩
 replace HC1 := zH HM1 HC1 hb
 replace Og := zQ Og hb
 replace Bg := zX Bg hb
 replace BD := zB BD hb
 replace Ou := hide Ou.out.rd
 replace hU := zU hU hU.size hb
 clear hb
 have Gu := zGd Eu ((cnt_gd (v := ⟨lg, sg⟩) Yg.out))
 have Lu := zLe Gu
 have Yu := hide Gu.by_
 clear Gu
 refine z1 [(82, .int .i64 ((ly.length : Nat)))] ?_
 refine zc rfl ((rfill_any 2 (ly.length) false _ Ly.out).mono ?_)
 rintro e w121 ⟨lv, sv, Av, cv, Ev, rfl, Cv, Ov, hb⟩
 refine ⟨_, rfl, ?_⟩
 replace HC1 := zH HM1 HC1 hb
 replace Og := zQ Og hb
 replace Ou := zQ Ou hb
 replace Bg := zX Bg hb
 replace BD := zB BD hb
 replace Ov := hide Ov.out.rd
 replace hU := zU hU hU.size hb
 clear hb
 have Gv := zGd Ev ((gd_xs (s := false) Gyy.out.pos Gyy.out.le))
 have Lv := zLe Gv
 have Yv := hide Gv.by_
 clear Gv
 refine zc rfl ((rsame_yes Au Av lu lv cu cv su sv _ Lu.out Lv.out Ou.out Ov.out (by rw [Eu.out, Ev.out, Eg.out, Lyy.out]; exact unk_shf Ya.out Yb.out HKb.out)).mono ?_)
 rintro e w122 ⟨rfl, hb⟩
 refine ⟨_, rfl, ?_⟩
 replace HC1 := zH HM1 HC1 hb
 replace Og := zQ Og hb
 replace Ou := zQ Ou hb
 replace Ov := zQ Ov hb
 replace Bg := zX Bg hb
 replace BD := zB BD hb
 replace hU := zU hU hU.size hb
 clear hb Ou Cu Lu Yu
 clear Ov Cv Lv Yv
 refine z2 [(86, z_f), (85, z_f)] (ze (zif (wp_skip (block_normal (then_normal (reg_lit ?_))))))
 refine z2 [(29, .int .i64 20), (87, .int .i64 20)] (ze ?_)
 clear Bg Og Cg Lg Yg
 clear BD
 refine zk (z_R Na Nb Nx Nz NV z_f 20) (fun X => ?_)
 refine round_s (zs (z1 [(30, z_t)] (ze (wp_seq (zit ?_)))))
 refine wp_skip (then_normal (wp_seq (wp_block (zs (z1 [(31, pt NV 40)] (zw (r1_TV _ HC1.out) 20 (by decide) rfl rfl ?_))))))
 refine zm2 43 65 rfl rfl rfl ?_
 intro w123 ND BD hb
 replace BD := hide BD
 replace HC1 := zH HM1 HC1 hb
 replace hU := zU hU hU.size hb
 clear hb
 refine sx_n (z1 [(33, pt Nx 0)] (zl (q1_x _ HC1.out) rfl rfl (z2 [(9, .int .i64 ((lx.length : Nat))), (35, .int .i64 ((lx.length : Nat)))] (sx_n (zv (q1_a _ HC1.out) rfl rfl ?_)))))
 refine zc rfl ((vKnown_w true Aa la ca sa _ La.out Ca (p1_a w123 HC1.out) Ya.out HKa.out).mono ?_)
 rintro e w124 ⟨rfl, hb⟩
 refine ⟨_, rfl, ?_⟩
 replace HC1 := zH HM1 HC1 hb
 replace BD := zB BD hb
 replace hU := zU hU hU.size hb
 clear hb
 refine z2 [(39, z_f), (38, z_f)] (zv (q1_b _ HC1.out) rfl rfl ?_)
 refine zc rfl ((vKnown_w false Ab lb cb sb _ Lb.out Cb (p1_b w124 HC1.out) Yb.out HKb.out).mono ?_)
 rintro e w125 ⟨rfl, hb⟩
 refine ⟨_, rfl, ?_⟩
 replace HC1 := zH HM1 HC1 hb
 replace BD := zB BD hb
 replace hU := zU hU hU.size hb
 clear hb
 refine z3 [(10, z_t), (43, z_t), (42, z_t)] (ze (wp_seq (zs (z1 [(44, pt ND 0)] (zop BD.out rfl rfl ?_)))))
 refine ze (wp_block (wp_seq (zg 46 47 (zg 46 48 (zg 46 49 (zg 46 50 ?_))))))
 refine reg_lit (z2 [(46, z_f), (51, z_f)] (ze (zif (wp_seq (zg 52 53 (zg 52 54 ?_))))))
 refine zg 52 55 (reg_lit (z2 [(52, z_f), (56, z_f)] (ze (zif (zg 57 58 (wp_seq ?_))))))
 refine zg 62 63 (zg 62 64 (zt [(62, z_t), (65, z_t)] (wp_skip (then_normal (zit (region_R (n := 7) (N := 8) (by kernel_rfl) (by kernel_rfl) (by kernel_rfl) (by kernel_rfl) (by kernel_rfl) (by kernel_rfl) (fun _ _ _ _ _ h => hP _ _ _ _ _ h) ?_))))))
 intro F hQ
 have HC0 := HC1
 refine zav (i := 0) (m' := 1) (v := .pointer (some ⟨Nz, 0, none⟩)) F hQ rfl rfl (anyR_ldsl (i := 1) (m' := 3) (q1_z _ HC0.out) F hQ rfl rfl (by kernel_rfl) (by kernel_rfl) (by kernel_rfl) (by kernel_rfl) (by kernel_rfl) rfl (by kernel_rfl) (zav (i := 2) (m' := 7) (v := .int .i64 ((ly.length : Nat))) F hQ rfl rfl (anyR_ldvec (i := 3) (m' := 15) (q1_b _ HC0.out) F hQ rfl rfl (by kernel_rfl) (by kernel_rfl) (by kernel_rfl) (by kernel_rfl) (by kernel_rfl) rfl (by kernel_rfl) ?_)))
 refine zac (i := 4) (m' := 31) rfl rfl ((vKnown_w false Ab lb cb sb _ Lb.out Cb (by exact (p1_b w125 HC1.out)) Yb.out HKb.out).mono ?_)
 rintro e w126 ⟨rfl, hb⟩
 refine ⟨_, rfl, hb, ?_⟩
 replace hb : Below w125.heap.size w125 w126 := Below.trans ((Below.refl _ _).drew) hb
 replace HC1 := zH HM1 HC1 hb
 replace BD := zB BD hb
 replace hU := zU hU hU.size hb
 clear hb
 refine zav (i := 5) (m' := 63) (v := .bool true) F hQ rfl rfl (zav (i := 6) (m' := 127) (v := .int .i64 ((ly.length : Nat))) F hQ rfl rfl (anyR_e (anyR_last (i := 7) (m' := 255) (v := .bool true) rfl rfl (by kernel_rfl) (by kernel_rfl) (by kernel_rfl) (by kernel_rfl) (by kernel_rfl) (anyE_done (by kernel_rfl) ?_))))
 clear F hQ HC0
 refine block_normal (then_normal (zs (z1 [(73, pt ND 1)] (zfn BD.out rfl rfl (zv (q1_a _ HC1.out) rfl rfl (zv (q1_b _ HC1.out) rfl rfl ?_))))))
 refine zc rfl ((vAShl_any Aa Ab la lb ca cb sa sb _ La.out Lb.out Ca Cb (p1_a w126 HC1.out) (p1_b w126 HC1.out) Ya.out Yb.out).mono ?_)
 rintro e w127 ⟨lg, sg, Ag, cg, Eg, rfl, Cg, Og, hb⟩
 refine ⟨_, rfl, ?_⟩
 replace HC1 := zH HM1 HC1 hb
 replace BD := zB BD hb
 replace Og := hide Og.out.rd
 replace hU := zU hU hU.size hb
 clear hb
 have Gg := zGd Eg ((gdu_shf Ya.out gdm_shl))
 have Lg := zLe Gg
 have Yg := hide Gg.by_
 clear Gg
 refine zm (A := Ag) (m := lg.length) (c := cg) (s := sg) rfl rfl rfl ?_
 intro w128 Ng Bg hNg hb
 replace Bg := hide Bg
 replace HC1 := zH HM1 HC1 hb
 replace Og := zQ Og hb
 replace BD := zB BD hb
 have hzg : w.heap.size ≤ Ng := Nat.le_trans hU.size hNg
 clear hNg
 replace hU := zU hU hU.size hb
 clear hb
 refine sx_n (z2 [(79, z_t), (78, z_t)] (zv Bg.out rfl rfl ?_))
 refine zc rfl ((vWithSign_any false Ag lg cg sg _ Lg.out Cg Og.out Yg.out).mono ?_)
 rintro e w129 ⟨lu, su, Au, cu, Eu, rfl, Cu, Ou, hb⟩
 refine ⟨_, rfl, ?_⟩
 replace HC1 := zH HM1 HC1 hb
 replace Og := zQ Og hb
 replace Bg := zX Bg hb
 replace BD := zB BD hb
 replace Ou := hide Ou.out.rd
 replace hU := zU hU hU.size hb
 clear hb
 have Gu := zGd Eu ((cnt_gd (v := ⟨lg, sg⟩) Yg.out))
 have Lu := zLe Gu
 have Yu := hide Gu.by_
 clear Gu
 refine z1 [(82, .int .i64 ((ly.length : Nat)))] ?_
 refine zc rfl ((rfill_any 2 (ly.length) false _ Ly.out).mono ?_)
 rintro e w130 ⟨lv, sv, Av, cv, Ev, rfl, Cv, Ov, hb⟩
 refine ⟨_, rfl, ?_⟩
 replace HC1 := zH HM1 HC1 hb
 replace Og := zQ Og hb
 replace Ou := zQ Ou hb
 replace Bg := zX Bg hb
 replace BD := zB BD hb
 replace Ov := hide Ov.out.rd
 replace hU := zU hU hU.size hb
 clear hb
 have Gv := zGd Ev ((gd_xs (s := false) Gyy.out.pos Gyy.out.le))
 have Lv := zLe Gv
 have Yv := hide Gv.by_
 clear Gv
 refine zc rfl ((rsame_yes Au Av lu lv cu cv su sv _ Lu.out Lv.out Ou.out Ov.out (by rw [Eu.out, Ev.out, Eg.out, Lyy.out]; exact unk_shf Ya.out Yb.out HKb.out)).mono ?_)
 rintro e w131 ⟨rfl, hb⟩
 refine ⟨_, rfl, ?_⟩
 replace HC1 := zH HM1 HC1 hb
 replace Og := zQ Og hb
 replace Ou := zQ Ou hb
 replace Ov := zQ Ov hb
 replace Bg := zX Bg hb
 replace BD := zB BD hb
 replace hU := zU hU hU.size hb
 clear hb Ou Cu Lu Yu
 clear Ov Cv Lv Yv
 refine z2 [(86, z_f), (85, z_f)] (ze (zif (wp_skip (block_normal (then_normal (reg_lit ?_))))))
 refine z2 [(29, .int .i64 21), (87, .int .i64 21)] (ze ?_)
 clear Bg Og Cg Lg Yg
 clear BD
 refine zk (z_R Na Nb Nx Nz NV z_f 21) (fun X => ?_)
 refine round_s (zs (z1 [(30, z_t)] (ze (wp_seq (zit ?_)))))
 refine wp_skip (then_normal (wp_seq (wp_block (zs (z1 [(31, pt NV 42)] (zw (r1_TV _ HC1.out) 21 (by decide) rfl rfl ?_))))))
 refine zm2 44 64 rfl rfl rfl ?_
 intro w132 ND BD hb
 replace BD := hide BD
 replace HC1 := zH HM1 HC1 hb
 replace hU := zU hU hU.size hb
 clear hb
 refine sx_n (z1 [(33, pt Nx 0)] (zl (q1_x _ HC1.out) rfl rfl (z2 [(9, .int .i64 ((lx.length : Nat))), (35, .int .i64 ((lx.length : Nat)))] (sx_n (zv (q1_a _ HC1.out) rfl rfl ?_)))))
 refine zc rfl ((vKnown_w true Aa la ca sa _ La.out Ca (p1_a w132 HC1.out) Ya.out HKa.out).mono ?_)
 rintro e w133 ⟨rfl, hb⟩
 refine ⟨_, rfl, ?_⟩
 replace HC1 := zH HM1 HC1 hb
 replace BD := zB BD hb
 replace hU := zU hU hU.size hb
 clear hb
 refine z2 [(39, z_f), (38, z_f)] (zv (q1_b _ HC1.out) rfl rfl ?_)
 refine zc rfl ((vKnown_w false Ab lb cb sb _ Lb.out Cb (p1_b w133 HC1.out) Yb.out HKb.out).mono ?_)
 rintro e w134 ⟨rfl, hb⟩
 refine ⟨_, rfl, ?_⟩
 replace HC1 := zH HM1 HC1 hb
 replace BD := zB BD hb
 replace hU := zU hU hU.size hb
 clear hb
 refine z3 [(10, z_t), (43, z_t), (42, z_t)] (ze (wp_seq (zs (z1 [(44, pt ND 0)] (zop BD.out rfl rfl ?_)))))
 refine ze (wp_block (wp_seq (zg 46 47 (zg 46 48 (zg 46 49 (zg 46 50 ?_))))))
 refine reg_lit (z2 [(46, z_f), (51, z_f)] (ze (zif (wp_seq (zg 52 53 (zg 52 54 ?_))))))
 refine zg 52 55 (reg_lit (z2 [(52, z_f), (56, z_f)] (ze (zif (zg 57 58 (wp_seq ?_))))))
 refine zg 62 63 (zg 62 64 (zg 62 65 (reg_lit (z2 [(62, z_t), (66, z_t)] (ze (zit ?_))))))
 refine region_R (n := 7) (N := 8) (by kernel_rfl) (by kernel_rfl) (by kernel_rfl) (by kernel_rfl) (by kernel_rfl) (by kernel_rfl) (fun _ _ _ _ _ h => hP _ _ _ _ _ h) ?_
 intro F hQ
 have HC0 := HC1
 refine zav (i := 0) (m' := 1) (v := .pointer (some ⟨Nz, 0, none⟩)) F hQ rfl rfl (anyR_ldsl (i := 1) (m' := 3) (q1_z _ HC0.out) F hQ rfl rfl (by kernel_rfl) (by kernel_rfl) (by kernel_rfl) (by kernel_rfl) (by kernel_rfl) rfl (by kernel_rfl) (zav (i := 2) (m' := 7) (v := .int .i64 ((ly.length : Nat))) F hQ rfl rfl (anyR_ldvec (i := 3) (m' := 15) (q1_b _ HC0.out) F hQ rfl rfl (by kernel_rfl) (by kernel_rfl) (by kernel_rfl) (by kernel_rfl) (by kernel_rfl) rfl (by kernel_rfl) ?_)))
 refine zac (i := 4) (m' := 31) rfl rfl ((vKnown_w false Ab lb cb sb _ Lb.out Cb (by exact (p1_b w134 HC1.out)) Yb.out HKb.out).mono ?_)
 rintro e w135 ⟨rfl, hb⟩
 refine ⟨_, rfl, hb, ?_⟩
 replace hb : Below w134.heap.size w134 w135 := Below.trans ((Below.refl _ _).drew) hb
 replace HC1 := zH HM1 HC1 hb
 replace BD := zB BD hb
 replace hU := zU hU hU.size hb
 clear hb
 refine zav (i := 5) (m' := 63) (v := .bool true) F hQ rfl rfl (zav (i := 6) (m' := 127) (v := .int .i64 ((ly.length : Nat))) F hQ rfl rfl (anyR_e (anyR_last (i := 7) (m' := 255) (v := .bool true) rfl rfl (by kernel_rfl) (by kernel_rfl) (by kernel_rfl) (by kernel_rfl) (by kernel_rfl) (anyE_done (by kernel_rfl) ?_))))
 clear F hQ HC0
 refine block_normal (then_normal (zs (z1 [(73, pt ND 1)] (zfn BD.out rfl rfl (zv (q1_a _ HC1.out) rfl rfl (zv (q1_b _ HC1.out) rfl rfl ?_))))))
 refine zc rfl ((vAShr_any Aa Ab la lb ca cb sa sb _ La.out Lb.out Ca Cb (p1_a w135 HC1.out) (p1_b w135 HC1.out) Ya.out Yb.out).mono ?_)
 rintro e w136 ⟨lg, sg, Ag, cg, Eg, rfl, Cg, Og, hb⟩
 refine ⟨_, rfl, ?_⟩
 replace HC1 := zH HM1 HC1 hb
 replace BD := zB BD hb
 replace Og := hide Og.out.rd
 replace hU := zU hU hU.size hb
 clear hb
 have Gg := zGd Eg ((gdu_shf Ya.out gdm_ashr))
 have Lg := zLe Gg
 have Yg := hide Gg.by_
 clear Gg
 refine zm (A := Ag) (m := lg.length) (c := cg) (s := sg) rfl rfl rfl ?_
 intro w137 Ng Bg hNg hb
 replace Bg := hide Bg
 replace HC1 := zH HM1 HC1 hb
 replace Og := zQ Og hb
 replace BD := zB BD hb
 have hzg : w.heap.size ≤ Ng := Nat.le_trans hU.size hNg
 clear hNg
 replace hU := zU hU hU.size hb
 clear hb
 refine sx_n (z2 [(79, z_t), (78, z_t)] (zv Bg.out rfl rfl ?_))
 refine zc rfl ((vWithSign_any false Ag lg cg sg _ Lg.out Cg Og.out Yg.out).mono ?_)
 rintro e w138 ⟨lu, su, Au, cu, Eu, rfl, Cu, Ou, hb⟩
 refine ⟨_, rfl, ?_⟩
 replace HC1 := zH HM1 HC1 hb
 replace Og := zQ Og hb
 replace Bg := zX Bg hb
 replace BD := zB BD hb
 replace Ou := hide Ou.out.rd
 replace hU := zU hU hU.size hb
 clear hb
 have Gu := zGd Eu ((cnt_gd (v := ⟨lg, sg⟩) Yg.out))
 have Lu := zLe Gu
 have Yu := hide Gu.by_
 clear Gu
 refine z1 [(82, .int .i64 ((ly.length : Nat)))] ?_
 refine zc rfl ((rfill_any 2 (ly.length) false _ Ly.out).mono ?_)
 rintro e w139 ⟨lv, sv, Av, cv, Ev, rfl, Cv, Ov, hb⟩
 refine ⟨_, rfl, ?_⟩
 replace HC1 := zH HM1 HC1 hb
 replace Og := zQ Og hb
 replace Ou := zQ Ou hb
 replace Bg := zX Bg hb
 replace BD := zB BD hb
 replace Ov := hide Ov.out.rd
 replace hU := zU hU hU.size hb
 clear hb
 have Gv := zGd Ev ((gd_xs (s := false) Gyy.out.pos Gyy.out.le))
 have Lv := zLe Gv
 have Yv := hide Gv.by_
 clear Gv
 refine zc rfl ((rsame_yes Au Av lu lv cu cv su sv _ Lu.out Lv.out Ou.out Ov.out (by rw [Eu.out, Ev.out, Eg.out, Lyy.out]; exact unk_shf Ya.out Yb.out HKb.out)).mono ?_)
 rintro e w140 ⟨rfl, hb⟩
 refine ⟨_, rfl, ?_⟩
 replace HC1 := zH HM1 HC1 hb
 replace Og := zQ Og hb
 replace Ou := zQ Ou hb
 replace Ov := zQ Ov hb
 replace Bg := zX Bg hb
 replace BD := zB BD hb
 replace hU := zU hU hU.size hb
 clear hb Ou Cu Lu Yu
 clear Ov Cv Lv Yv
 refine z2 [(86, z_f), (85, z_f)] (ze (zif (wp_skip (block_normal (then_normal (reg_lit ?_))))))
 refine z2 [(29, .int .i64 22), (87, .int .i64 22)] (ze ?_)
 clear Bg Og Cg Lg Yg
 clear BD
 refine zk (z_R Na Nb Nx Nz NV z_f 22) (fun X => ?_)
 refine round_s (zs (z1 [(30, z_t)] (ze (wp_seq (zit ?_)))))
 refine wp_skip (then_normal (wp_seq (wp_block (zs (z1 [(31, pt NV 44)] (zw (r1_TV _ HC1.out) 22 (by decide) rfl rfl ?_))))))
 refine zm2 29 81 rfl rfl rfl ?_
 intro w141 ND BD hb
 replace BD := hide BD
 replace HC1 := zH HM1 HC1 hb
 replace hU := zU hU hU.size hb
 clear hb
 refine sx_n (z1 [(33, pt Nx 0)] (zl (q1_x _ HC1.out) rfl rfl (z2 [(9, .int .i64 ((lx.length : Nat))), (35, .int .i64 ((lx.length : Nat)))] (sx_n (zv (q1_a _ HC1.out) rfl rfl ?_)))))
 refine zc rfl ((vKnown_w true Aa la ca sa _ La.out Ca (p1_a w141 HC1.out) Ya.out HKa.out).mono ?_)
 rintro e w142 ⟨rfl, hb⟩
 refine ⟨_, rfl, ?_⟩
 replace HC1 := zH HM1 HC1 hb
 replace BD := zB BD hb
 replace hU := zU hU hU.size hb
 clear hb
 refine z2 [(39, z_f), (38, z_f)] (zv (q1_b _ HC1.out) rfl rfl ?_)
 refine zc rfl ((vKnown_w false Ab lb cb sb _ Lb.out Cb (p1_b w142 HC1.out) Yb.out HKb.out).mono ?_)
 rintro e w143 ⟨rfl, hb⟩
 refine ⟨_, rfl, ?_⟩
 replace HC1 := zH HM1 HC1 hb
 replace BD := zB BD hb
 replace hU := zU hU hU.size hb
 clear hb
 refine z3 [(10, z_t), (43, z_t), (42, z_t)] (ze (wp_seq (zs (z1 [(44, pt ND 0)] (zop BD.out rfl rfl ?_)))))
 refine ze (wp_block (wp_seq (zg 46 47 (zg 46 48 (zg 46 49 (zg 46 50 ?_))))))
 refine reg_lit (z2 [(46, z_f), (51, z_f)] (ze (zif (wp_seq (zg 52 53 (zg 52 54 ?_))))))
 refine zg 52 55 (reg_lit (z2 [(52, z_f), (56, z_f)] (ze (zif (zg 57 58 (wp_seq ?_))))))
 refine zg 62 63 (zg 62 64 (zg 62 65 (reg_lit (z2 [(62, z_f), (66, z_f)] (ze (zif ?_))))))
 refine wp_exit (exit_pass rfl (then_exit (exit_here (then_normal (reg_lit (z2 [(29, .int .i64 23), (87, .int .i64 23)] (wpl_end ?_)))))))
 refine then_normal ?_
 clear BD
 refine zk (z_R Na Nb Nx Nz NV z_f 23) (fun X => ?_)
 refine round_s (zs (z1 [(30, z_t)] (ze (wp_seq (zit ?_)))))
 refine wp_skip (then_normal (wp_seq (wp_block (zs (z1 [(31, pt NV 46)] (zw (r1_TV _ HC1.out) 23 (by decide) rfl rfl ?_))))))
 refine zm2 30 82 rfl rfl rfl ?_
 intro w144 ND BD hb
 replace BD := hide BD
 replace HC1 := zH HM1 HC1 hb
 replace hU := zU hU hU.size hb
 clear hb
 refine sx_n (z1 [(33, pt Nx 0)] (zl (q1_x _ HC1.out) rfl rfl (z2 [(9, .int .i64 ((lx.length : Nat))), (35, .int .i64 ((lx.length : Nat)))] (sx_n (zv (q1_a _ HC1.out) rfl rfl ?_)))))
 refine zc rfl ((vKnown_w true Aa la ca sa _ La.out Ca (p1_a w144 HC1.out) Ya.out HKa.out).mono ?_)
 rintro e w145 ⟨rfl, hb⟩
 refine ⟨_, rfl, ?_⟩
 replace HC1 := zH HM1 HC1 hb
 replace BD := zB BD hb
 replace hU := zU hU hU.size hb
 clear hb
 refine z2 [(39, z_f), (38, z_f)] (zv (q1_b _ HC1.out) rfl rfl ?_)
 refine zc rfl ((vKnown_w false Ab lb cb sb _ Lb.out Cb (p1_b w145 HC1.out) Yb.out HKb.out).mono ?_)
 rintro e w146 ⟨rfl, hb⟩
 refine ⟨_, rfl, ?_⟩
 replace HC1 := zH HM1 HC1 hb
 replace BD := zB BD hb
 replace hU := zU hU hU.size hb
 clear hb
 refine z3 [(10, z_t), (43, z_t), (42, z_t)] (ze (wp_seq (zs (z1 [(44, pt ND 0)] (zop BD.out rfl rfl ?_)))))
 refine ze (wp_block (wp_seq (zg 46 47 (zg 46 48 (zg 46 49 (zg 46 50 ?_))))))
 refine reg_lit (z2 [(46, z_f), (51, z_f)] (ze (zif (wp_seq (zg 52 53 (zg 52 54 ?_))))))
 refine zg 52 55 (reg_lit (z2 [(52, z_f), (56, z_f)] (ze (zif (zg 57 58 (wp_seq ?_))))))
 refine zg 62 63 (zg 62 64 (zg 62 65 (reg_lit (z2 [(62, z_f), (66, z_f)] (ze (zif ?_))))))
 refine wp_exit (exit_pass rfl (then_exit (exit_here (then_normal (reg_lit (z2 [(29, .int .i64 24), (87, .int .i64 24)] (wpl_end ?_)))))))
 refine then_normal ?_
 clear BD
 refine zk (z_R Na Nb Nx Nz NV z_f 24) (fun X => ?_)
 refine round_s (zs (z1 [(30, z_f)] (ze (wp_seq (zif ?_)))))
 refine wp_exit (then_exit (then_exit ?_))
 exact hX _ _ hU
set_option maxHeartbeats 16000000 in
theorem VecUnknown_rtt (Aa : Option Addr) (la : List Int) (ca : Nat) (sa : Bool) (Ab : Option Addr) (lb : List Int) (cb : Nat) (sb : Bool) (lx : List Int) (sx : Bool) (Ax : Option Addr) (cx : Nat) (ly : List Int) (sy : Bool) (Ay : Option Addr) (cy : Nat) (Na Nb Nx Nz NV : Nat) (w w0 : World) (La : Hid (la.length ≤ 4096)) (Lb : Hid (lb.length ≤ 4096)) (Ya : Hid (By la)) (Yb : Hid (By lb)) (Ca : Hid (la.length ≤ ca ∧ ca ≤ maxLen)) (Cb : Hid (lb.length ≤ cb ∧ cb ≤ maxLen)) (HT : Hid (Tabs w)) (Lx : Hid (lx.length ≤ 4096)) (Ly : Hid (ly.length ≤ 4096)) (Gxx : Hid (Gd lx)) (Gyy : Hid (Gd ly)) (Lxx : Hid (lx.length = wd ⟨la, sa⟩ ⟨lb, sb⟩)) (Lyy : Hid (ly.length = (cnt ⟨la, sa⟩).b.length)) (hU : Below w.heap.size w w0) (Oa : Hid (RQ w0 Aa la)) (Ob : Hid (RQ w0 Ab lb)) (Ba : Hid (Box Na Aa la.length ca sa w0)) (Bb : Hid (Box Nb Ab lb.length cb sb w0)) (Bx : Hid (Box Nx Ax lx.length cx sx w0)) (Bz : Hid (Box Nz Ay ly.length cy sy w0)) (TV : Hid (Two NV w0)) (hA : kn (cnt ⟨la, sa⟩).b = true) (hB : kn (cnt ⟨lb, sb⟩).b = true) (Q : Exit → Act → World → Prop) (hP : ∀ c a d v w, Q (.panic c) (Act.put a (some d) v) w → Q (.panic c) a w) (hX : ∀ (E : Env) (w9 : World), Below w.heap.size w w9 → Q (.exit 0) (sl 88 E) w9) (X : Env) : Code.rounds Tryz.prog lpU Q 25 (sl 88 ([(2, pt Na 0), (3, pt Nb 0), (4, z_f), (5, pt Nx 0), (6, pt Nz 0), (27, .slice (some ⟨NV, 0, none⟩) 24 24), (28, .int .i64 24), (29, .int .i64 0)] ++ X)) w0 := by
 have HKa := hide hA
 have HKb := hide hB
 clear hA hB
 obtain ⟨Pr1, HM1, HC1, p1_a, p1_b, q1_a, q1_b, q1_x, q1_z, r1_TV⟩ : ∃ Pr : World → Prop, (∀ w w', Pr w → Below w.heap.size w w' → Pr w') ∧ Hid (Pr w0) ∧ (∀ W, Pr W → RQ W Aa la) ∧ (∀ W, Pr W → RQ W Ab lb) ∧ (∀ W, Pr W → Box Na Aa la.length ca sa W) ∧ (∀ W, Pr W → Box Nb Ab lb.length cb sb W) ∧ (∀ W, Pr W → Box Nx Ax lx.length cx sx W) ∧ (∀ W, Pr W → Box Nz Ay ly.length cy sy W) ∧ (∀ W, Pr W → Two NV W) := ⟨fun W => RQ W Aa la ∧ RQ W Ab lb ∧ Box Na Aa la.length ca sa W ∧ Box Nb Ab lb.length cb sb W ∧ Box Nx Ax lx.length cx sx W ∧ Box Nz Ay ly.length cy sy W ∧ Two NV W, fun _ _ h hb => ⟨RQ.below h.1 hb, RQ.below h.2.1 hb, Box.kept h.2.2.1 hb, Box.kept h.2.2.2.1 hb, Box.kept h.2.2.2.2.1 hb, Box.kept h.2.2.2.2.2.1 hb, Two.kept h.2.2.2.2.2.2 hb⟩, hide ⟨Oa.out, Ob.out, Ba.out, Bb.out, Bx.out, Bz.out, TV.out⟩, fun _ h => h.1, fun _ h => h.2.1, fun _ h => h.2.2.1, fun _ h => h.2.2.2.1, fun _ h => h.2.2.2.2.1, fun _ h => h.2.2.2.2.2.1, fun _ h => h.2.2.2.2.2.2⟩
 clear Oa Ob Ba Bb Bx Bz TV
 refine round_s (zs (z1 [(30, z_t)] (ze (wp_seq (zit ?_)))))
 refine wp_skip (then_normal (wp_seq (wp_block (zs (z1 [(31, pt NV 0)] (zw (r1_TV _ HC1.out) 0 (by decide) rfl rfl ?_))))))
 refine zm2 37 88 rfl rfl rfl ?_
 intro w1 ND BD hb
 replace BD := hide BD
 replace HC1 := zH HM1 HC1 hb
 replace hU := zU hU hU.size hb
 clear hb
 refine sx_n (z1 [(33, pt Nx 0)] (zl (q1_x _ HC1.out) rfl rfl (z2 [(9, .int .i64 ((lx.length : Nat))), (35, .int .i64 ((lx.length : Nat)))] (sx_n (zv (q1_a _ HC1.out) rfl rfl ?_)))))
 refine zc rfl ((vKnown_w true Aa la ca sa _ La.out Ca (p1_a w1 HC1.out) Ya.out HKa.out).mono ?_)
 rintro e w2 ⟨rfl, hb⟩
 refine ⟨_, rfl, ?_⟩
 replace HC1 := zH HM1 HC1 hb
 replace BD := zB BD hb
 replace hU := zU hU hU.size hb
 clear hb
 refine z2 [(39, z_f), (38, z_f)] (zv (q1_b _ HC1.out) rfl rfl ?_)
 refine zc rfl ((vKnown_w true Ab lb cb sb _ Lb.out Cb (p1_b w2 HC1.out) Yb.out HKb.out).mono ?_)
 rintro e w3 ⟨rfl, hb⟩
 refine ⟨_, rfl, ?_⟩
 replace HC1 := zH HM1 HC1 hb
 replace BD := zB BD hb
 replace hU := zU hU hU.size hb
 clear hb
 refine z3 [(10, z_f), (43, z_f), (42, z_f)] (ze (wp_seq (zs (z1 [(44, pt ND 0)] (zop BD.out rfl rfl ?_)))))
 refine ze (wp_block (wp_seq (zg 46 47 (zg 46 48 (zg 46 49 (zg 46 50 ?_))))))
 refine reg_lit (z2 [(46, z_f), (51, z_f)] (ze (zif (wp_seq (zg 52 53 (zg 52 54 ?_))))))
 refine zg 52 55 (reg_lit (z2 [(52, z_f), (56, z_f)] (ze (zif (zg 57 58 (wp_seq ?_))))))
 refine zg 62 63 (zg 62 64 (zg 62 65 (reg_lit (z2 [(62, z_f), (66, z_f)] (ze (zif ?_))))))
 refine wp_exit (exit_pass rfl (then_exit (exit_here (then_normal (reg_lit (z2 [(29, .int .i64 1), (87, .int .i64 1)] (wpl_end ?_)))))))
 refine then_normal ?_
 clear BD
 refine zk (z_R Na Nb Nx Nz NV z_f 1) (fun X => ?_)
 refine round_s (zs (z1 [(30, z_t)] (ze (wp_seq (zit ?_)))))
 refine wp_skip (then_normal (wp_seq (wp_block (zs (z1 [(31, pt NV 2)] (zw (r1_TV _ HC1.out) 1 (by decide) rfl rfl ?_))))))
 refine zm2 38 57 rfl rfl rfl ?_
 intro w4 ND BD hb
 replace BD := hide BD
 replace HC1 := zH HM1 HC1 hb
 replace hU := zU hU hU.size hb
 clear hb
 refine sx_n (z1 [(33, pt Nx 0)] (zl (q1_x _ HC1.out) rfl rfl (z2 [(9, .int .i64 ((lx.length : Nat))), (35, .int .i64 ((lx.length : Nat)))] (sx_n (zv (q1_a _ HC1.out) rfl rfl ?_)))))
 refine zc rfl ((vKnown_w true Aa la ca sa _ La.out Ca (p1_a w4 HC1.out) Ya.out HKa.out).mono ?_)
 rintro e w5 ⟨rfl, hb⟩
 refine ⟨_, rfl, ?_⟩
 replace HC1 := zH HM1 HC1 hb
 replace BD := zB BD hb
 replace hU := zU hU hU.size hb
 clear hb
 refine z2 [(39, z_f), (38, z_f)] (zv (q1_b _ HC1.out) rfl rfl ?_)
 refine zc rfl ((vKnown_w true Ab lb cb sb _ Lb.out Cb (p1_b w5 HC1.out) Yb.out HKb.out).mono ?_)
 rintro e w6 ⟨rfl, hb⟩
 refine ⟨_, rfl, ?_⟩
 replace HC1 := zH HM1 HC1 hb
 replace BD := zB BD hb
 replace hU := zU hU hU.size hb
 clear hb
 refine z3 [(10, z_f), (43, z_f), (42, z_f)] (ze (wp_seq (zs (z1 [(44, pt ND 0)] (zop BD.out rfl rfl ?_)))))
 refine ze (wp_block (wp_seq (zg 46 47 (zg 46 48 (zg 46 49 (zg 46 50 ?_))))))
 refine reg_lit (z2 [(46, z_f), (51, z_f)] (ze (zif (wp_seq (zg 52 53 (zg 52 54 ?_))))))
 refine zg 52 55 (reg_lit (z2 [(52, z_f), (56, z_f)] (ze (zif (zg 57 58 (wp_seq ?_))))))
 refine zg 62 63 (zg 62 64 (zg 62 65 (reg_lit (z2 [(62, z_f), (66, z_f)] (ze (zif ?_))))))
 refine wp_exit (exit_pass rfl (then_exit (exit_here (then_normal (reg_lit (z2 [(29, .int .i64 2), (87, .int .i64 2)] (wpl_end ?_)))))))
 refine then_normal ?_
 clear BD
 refine zk (z_R Na Nb Nx Nz NV z_f 2) (fun X => ?_)
 refine round_s (zs (z1 [(30, z_t)] (ze (wp_seq (zit ?_)))))
 refine wp_skip (then_normal (wp_seq (wp_block (zs (z1 [(31, pt NV 4)] (zw (r1_TV _ HC1.out) 2 (by decide) rfl rfl ?_))))))
 refine zm2 39 89 rfl rfl rfl ?_
 intro w7 ND BD hb
 replace BD := hide BD
 replace HC1 := zH HM1 HC1 hb
 replace hU := zU hU hU.size hb
 clear hb
 refine sx_n (z1 [(33, pt Nx 0)] (zl (q1_x _ HC1.out) rfl rfl (z2 [(9, .int .i64 ((lx.length : Nat))), (35, .int .i64 ((lx.length : Nat)))] (sx_n (zv (q1_a _ HC1.out) rfl rfl ?_)))))
 refine zc rfl ((vKnown_w true Aa la ca sa _ La.out Ca (p1_a w7 HC1.out) Ya.out HKa.out).mono ?_)
 rintro e w8 ⟨rfl, hb⟩
 refine ⟨_, rfl, ?_⟩
 replace HC1 := zH HM1 HC1 hb
 replace BD := zB BD hb
 replace hU := zU hU hU.size hb
 clear hb
 refine z2 [(39, z_f), (38, z_f)] (zv (q1_b _ HC1.out) rfl rfl ?_)
 refine zc rfl ((vKnown_w true Ab lb cb sb _ Lb.out Cb (p1_b w8 HC1.out) Yb.out HKb.out).mono ?_)
 rintro e w9 ⟨rfl, hb⟩
 refine ⟨_, rfl, ?_⟩
 replace HC1 := zH HM1 HC1 hb
 replace BD := zB BD hb
 replace hU := zU hU hU.size hb
 clear hb
 refine z3 [(10, z_f), (43, z_f), (42, z_f)] (ze (wp_seq (zs (z1 [(44, pt ND 0)] (zop BD.out rfl rfl ?_)))))
 refine ze (wp_block (wp_seq (zg 46 47 (zg 46 48 (zg 46 49 (zg 46 50 ?_))))))
 refine reg_lit (z2 [(46, z_f), (51, z_f)] (ze (zif (wp_seq (zg 52 53 (zg 52 54 ?_))))))
 refine zg 52 55 (reg_lit (z2 [(52, z_f), (56, z_f)] (ze (zif (zg 57 58 (wp_seq ?_))))))
 refine zg 62 63 (zg 62 64 (zg 62 65 (reg_lit (z2 [(62, z_f), (66, z_f)] (ze (zif ?_))))))
 refine wp_exit (exit_pass rfl (then_exit (exit_here (then_normal (reg_lit (z2 [(29, .int .i64 3), (87, .int .i64 3)] (wpl_end ?_)))))))
 refine then_normal ?_
 clear BD
 refine zk (z_R Na Nb Nx Nz NV z_f 3) (fun X => ?_)
 refine round_s (zs (z1 [(30, z_t)] (ze (wp_seq (zit ?_)))))
 refine wp_skip (then_normal (wp_seq (wp_block (zs (z1 [(31, pt NV 6)] (zw (r1_TV _ HC1.out) 3 (by decide) rfl rfl ?_))))))
 refine zm2 40 90 rfl rfl rfl ?_
 intro w10 ND BD hb
 replace BD := hide BD
 replace HC1 := zH HM1 HC1 hb
 replace hU := zU hU hU.size hb
 clear hb
 refine sx_n (z1 [(33, pt Nx 0)] (zl (q1_x _ HC1.out) rfl rfl (z2 [(9, .int .i64 ((lx.length : Nat))), (35, .int .i64 ((lx.length : Nat)))] (sx_n (zv (q1_a _ HC1.out) rfl rfl ?_)))))
 refine zc rfl ((vKnown_w true Aa la ca sa _ La.out Ca (p1_a w10 HC1.out) Ya.out HKa.out).mono ?_)
 rintro e w11 ⟨rfl, hb⟩
 refine ⟨_, rfl, ?_⟩
 replace HC1 := zH HM1 HC1 hb
 replace BD := zB BD hb
 replace hU := zU hU hU.size hb
 clear hb
 refine z2 [(39, z_f), (38, z_f)] (zv (q1_b _ HC1.out) rfl rfl ?_)
 refine zc rfl ((vKnown_w true Ab lb cb sb _ Lb.out Cb (p1_b w11 HC1.out) Yb.out HKb.out).mono ?_)
 rintro e w12 ⟨rfl, hb⟩
 refine ⟨_, rfl, ?_⟩
 replace HC1 := zH HM1 HC1 hb
 replace BD := zB BD hb
 replace hU := zU hU hU.size hb
 clear hb
 refine z3 [(10, z_f), (43, z_f), (42, z_f)] (ze (wp_seq (zs (z1 [(44, pt ND 0)] (zop BD.out rfl rfl ?_)))))
 refine ze (wp_block (wp_seq (zg 46 47 (zg 46 48 (zg 46 49 (zg 46 50 ?_))))))
 refine reg_lit (z2 [(46, z_f), (51, z_f)] (ze (zif (wp_seq (zg 52 53 (zg 52 54 ?_))))))
 refine zg 52 55 (reg_lit (z2 [(52, z_f), (56, z_f)] (ze (zif (zg 57 58 (wp_seq ?_))))))
 refine zg 62 63 (zg 62 64 (zg 62 65 (reg_lit (z2 [(62, z_f), (66, z_f)] (ze (zif ?_))))))
 refine wp_exit (exit_pass rfl (then_exit (exit_here (then_normal (reg_lit (z2 [(29, .int .i64 4), (87, .int .i64 4)] (wpl_end ?_)))))))
 refine then_normal ?_
 clear BD
 refine zk (z_R Na Nb Nx Nz NV z_f 4) (fun X => ?_)
 refine round_s (zs (z1 [(30, z_t)] (ze (wp_seq (zit ?_)))))
 refine wp_skip (then_normal (wp_seq (wp_block (zs (z1 [(31, pt NV 8)] (zw (r1_TV _ HC1.out) 4 (by decide) rfl rfl ?_))))))
 refine zm2 21 56 rfl rfl rfl ?_
 intro w13 ND BD hb
 replace BD := hide BD
 replace HC1 := zH HM1 HC1 hb
 replace hU := zU hU hU.size hb
 clear hb
 refine sx_n (z1 [(33, pt Nx 0)] (zl (q1_x _ HC1.out) rfl rfl (z2 [(9, .int .i64 ((lx.length : Nat))), (35, .int .i64 ((lx.length : Nat)))] (sx_n (zv (q1_a _ HC1.out) rfl rfl ?_)))))
 refine zc rfl ((vKnown_w true Aa la ca sa _ La.out Ca (p1_a w13 HC1.out) Ya.out HKa.out).mono ?_)
 rintro e w14 ⟨rfl, hb⟩
 refine ⟨_, rfl, ?_⟩
 replace HC1 := zH HM1 HC1 hb
 replace BD := zB BD hb
 replace hU := zU hU hU.size hb
 clear hb
 refine z2 [(39, z_f), (38, z_f)] (zv (q1_b _ HC1.out) rfl rfl ?_)
 refine zc rfl ((vKnown_w true Ab lb cb sb _ Lb.out Cb (p1_b w14 HC1.out) Yb.out HKb.out).mono ?_)
 rintro e w15 ⟨rfl, hb⟩
 refine ⟨_, rfl, ?_⟩
 replace HC1 := zH HM1 HC1 hb
 replace BD := zB BD hb
 replace hU := zU hU hU.size hb
 clear hb
 refine z3 [(10, z_f), (43, z_f), (42, z_f)] (ze (wp_seq (zs (z1 [(44, pt ND 0)] (zop BD.out rfl rfl ?_)))))
 refine ze (wp_block (wp_seq (zt [(46, z_t), (47, z_t)] (wp_skip (then_normal (zit ?_))))))
 refine wp_skip (block_normal (then_normal (zs (z1 [(73, pt ND 1)] (zfn BD.out rfl rfl (zv (q1_a _ HC1.out) rfl rfl ?_))))))
 refine zv (q1_b _ HC1.out) rfl rfl ?_
 refine zc rfl ((vAdd_any Aa Ab la lb ca cb sa sb _ La.out Lb.out Ca Cb (p1_a w15 HC1.out) (p1_b w15 HC1.out) Ya.out Yb.out).mono ?_)
 rintro e w16 ⟨lg, sg, Ag, cg, Eg, rfl, Cg, Og, hb⟩
 refine ⟨_, rfl, ?_⟩
 replace HC1 := zH HM1 HC1 hb
 replace BD := zB BD hb
 replace Og := hide Og.out.rd
 replace hU := zU hU hU.size hb
 clear hb
 have Gg := zGd Eg ((gdu_ar Ya.out Yb.out hlen_add))
 have Lg := zLe Gg
 have Yg := hide Gg.by_
 clear Gg
 refine zm (A := Ag) (m := lg.length) (c := cg) (s := sg) rfl rfl rfl ?_
 intro w17 Ng Bg hNg hb
 replace Bg := hide Bg
 replace HC1 := zH HM1 HC1 hb
 replace Og := zQ Og hb
 replace BD := zB BD hb
 have hzg : w.heap.size ≤ Ng := Nat.le_trans hU.size hNg
 clear hNg
 replace hU := zU hU hU.size hb
 clear hb
 refine sx_n (z9 [(86, z_f), (85, undef), (84, undef), (83, undef), (82, undef), (81, undef), (80, undef), (79, z_f), (78, z_f)] (ze (zif (wp_skip (block_normal (then_normal ?_))))))
 refine reg_lit (z2 [(29, .int .i64 5), (87, .int .i64 5)] (ze ?_))
 clear Bg Og Cg Lg Yg
 clear BD
 refine zk (z_R Na Nb Nx Nz NV z_f 5) (fun X => ?_)
 refine round_s (zs (z1 [(30, z_t)] (ze (wp_seq (zit ?_)))))
 refine wp_skip (then_normal (wp_seq (wp_block (zs (z1 [(31, pt NV 10)] (zw (r1_TV _ HC1.out) 5 (by decide) rfl rfl ?_))))))
 refine zm2 22 86 rfl rfl rfl ?_
 intro w18 ND BD hb
 replace BD := hide BD
 replace HC1 := zH HM1 HC1 hb
 replace hU := zU hU hU.size hb
 clear hb
 refine sx_n (z1 [(33, pt Nx 0)] (zl (q1_x _ HC1.out) rfl rfl (z2 [(9, .int .i64 ((lx.length : Nat))), (35, .int .i64 ((lx.length : Nat)))] (sx_n (zv (q1_a _ HC1.out) rfl rfl ?_)))))
 refine zc rfl ((vKnown_w true Aa la ca sa _ La.out Ca (p1_a w18 HC1.out) Ya.out HKa.out).mono ?_)
 rintro e w19 ⟨rfl, hb⟩
 refine ⟨_, rfl, ?_⟩
 replace HC1 := zH HM1 HC1 hb
 replace BD := zB BD hb
 replace hU := zU hU hU.size hb
 clear hb
 refine z2 [(39, z_f), (38, z_f)] (zv (q1_b _ HC1.out) rfl rfl ?_)
 refine zc rfl ((vKnown_w true Ab lb cb sb _ Lb.out Cb (p1_b w19 HC1.out) Yb.out HKb.out).mono ?_)
 rintro e w20 ⟨rfl, hb⟩
 refine ⟨_, rfl, ?_⟩
 replace HC1 := zH HM1 HC1 hb
 replace BD := zB BD hb
 replace hU := zU hU hU.size hb
 clear hb
 refine z3 [(10, z_f), (43, z_f), (42, z_f)] (ze (wp_seq (zs (z1 [(44, pt ND 0)] (zop BD.out rfl rfl ?_)))))
 refine ze (wp_block (wp_seq (zg 46 47 (zt [(46, z_t), (48, z_t)] (wp_skip (then_normal ?_))))))
 refine zit (wp_skip (block_normal (then_normal (zs (z1 [(73, pt ND 1)] (zfn BD.out rfl rfl ?_))))))
 refine zv (q1_a _ HC1.out) rfl rfl (zv (q1_b _ HC1.out) rfl rfl ?_)
 refine zc rfl ((vSub_any Aa Ab la lb ca cb sa sb _ La.out Lb.out Ca Cb (p1_a w20 HC1.out) (p1_b w20 HC1.out) Ya.out Yb.out).mono ?_)
 rintro e w21 ⟨lg, sg, Ag, cg, Eg, rfl, Cg, Og, hb⟩
 refine ⟨_, rfl, ?_⟩
 replace HC1 := zH HM1 HC1 hb
 replace BD := zB BD hb
 replace Og := hide Og.out.rd
 replace hU := zU hU hU.size hb
 clear hb
 have Gg := zGd Eg ((gdu_ar Ya.out Yb.out hlen_sub))
 have Lg := zLe Gg
 have Yg := hide Gg.by_
 clear Gg
 refine zm (A := Ag) (m := lg.length) (c := cg) (s := sg) rfl rfl rfl ?_
 intro w22 Ng Bg hNg hb
 replace Bg := hide Bg
 replace HC1 := zH HM1 HC1 hb
 replace Og := zQ Og hb
 replace BD := zB BD hb
 have hzg : w.heap.size ≤ Ng := Nat.le_trans hU.size hNg
 clear hNg
 replace hU := zU hU hU.size hb
 clear hb
 refine sx_n (z9 [(86, z_f), (85, undef), (84, undef), (83, undef), (82, undef), (81, undef), (80, undef), (79, z_f), (78, z_f)] (ze (zif (wp_skip (block_normal (then_normal ?_))))))
 refine reg_lit (z2 [(29, .int .i64 6), (87, .int .i64 6)] (ze ?_))
 clear Bg Og Cg Lg Yg
 clear BD
 refine zk (z_R Na Nb Nx Nz NV z_f 6) (fun X => ?_)
 refine round_s (zs (z1 [(30, z_t)] (ze (wp_seq (zit ?_)))))
 refine wp_skip (then_normal (wp_seq (wp_block (zs (z1 [(31, pt NV 12)] (zw (r1_TV _ HC1.out) 6 (by decide) rfl rfl ?_))))))
 refine zm2 23 87 rfl rfl rfl ?_
 intro w23 ND BD hb
 replace BD := hide BD
 replace HC1 := zH HM1 HC1 hb
 replace hU := zU hU hU.size hb
 clear hb
 refine sx_n (z1 [(33, pt Nx 0)] (zl (q1_x _ HC1.out) rfl rfl (z2 [(9, .int .i64 ((lx.length : Nat))), (35, .int .i64 ((lx.length : Nat)))] (sx_n (zv (q1_a _ HC1.out) rfl rfl ?_)))))
 refine zc rfl ((vKnown_w true Aa la ca sa _ La.out Ca (p1_a w23 HC1.out) Ya.out HKa.out).mono ?_)
 rintro e w24 ⟨rfl, hb⟩
 refine ⟨_, rfl, ?_⟩
 replace HC1 := zH HM1 HC1 hb
 replace BD := zB BD hb
 replace hU := zU hU hU.size hb
 clear hb
 refine z2 [(39, z_f), (38, z_f)] (zv (q1_b _ HC1.out) rfl rfl ?_)
 refine zc rfl ((vKnown_w true Ab lb cb sb _ Lb.out Cb (p1_b w24 HC1.out) Yb.out HKb.out).mono ?_)
 rintro e w25 ⟨rfl, hb⟩
 refine ⟨_, rfl, ?_⟩
 replace HC1 := zH HM1 HC1 hb
 replace BD := zB BD hb
 replace hU := zU hU hU.size hb
 clear hb
 refine z3 [(10, z_f), (43, z_f), (42, z_f)] (ze (wp_seq (zs (z1 [(44, pt ND 0)] (zop BD.out rfl rfl ?_)))))
 refine ze (wp_block (wp_seq (zg 46 47 (zg 46 48 (zt [(46, z_t), (49, z_t)] (wp_skip ?_))))))
 refine then_normal (zit (wp_skip (block_normal (then_normal (zs (z1 [(73, pt ND 1)] ?_))))))
 refine zfn BD.out rfl rfl (zv (q1_a _ HC1.out) rfl rfl (zv (q1_b _ HC1.out) rfl rfl ?_))
 refine zc rfl ((vMul_any Aa Ab la lb ca cb sa sb _ La.out Lb.out Ca Cb (p1_a w25 HC1.out) (p1_b w25 HC1.out) Ya.out Yb.out).mono ?_)
 rintro e w26 ⟨lg, sg, Ag, cg, Eg, rfl, Cg, Og, hb⟩
 refine ⟨_, rfl, ?_⟩
 replace HC1 := zH HM1 HC1 hb
 replace BD := zB BD hb
 replace Og := hide Og.out.rd
 replace hU := zU hU hU.size hb
 clear hb
 have Gg := zGd Eg ((gdu_ar Ya.out Yb.out hlen_mul))
 have Lg := zLe Gg
 have Yg := hide Gg.by_
 clear Gg
 refine zm (A := Ag) (m := lg.length) (c := cg) (s := sg) rfl rfl rfl ?_
 intro w27 Ng Bg hNg hb
 replace Bg := hide Bg
 replace HC1 := zH HM1 HC1 hb
 replace Og := zQ Og hb
 replace BD := zB BD hb
 have hzg : w.heap.size ≤ Ng := Nat.le_trans hU.size hNg
 clear hNg
 replace hU := zU hU hU.size hb
 clear hb
 refine sx_n (z9 [(86, z_f), (85, undef), (84, undef), (83, undef), (82, undef), (81, undef), (80, undef), (79, z_f), (78, z_f)] (ze (zif (wp_skip (block_normal (then_normal ?_))))))
 refine reg_lit (z2 [(29, .int .i64 7), (87, .int .i64 7)] (ze ?_))
 clear Bg Og Cg Lg Yg
 clear BD
 refine zk (z_R Na Nb Nx Nz NV z_f 7) (fun X => ?_)
 refine round_s (zs (z1 [(30, z_t)] (ze (wp_seq (zit ?_)))))
 refine wp_skip (then_normal (wp_seq (wp_block (zs (z1 [(31, pt NV 14)] (zw (r1_TV _ HC1.out) 7 (by decide) rfl rfl ?_))))))
 refine zm2 24 58 rfl rfl rfl ?_
 intro w28 ND BD hb
 replace BD := hide BD
 replace HC1 := zH HM1 HC1 hb
 replace hU := zU hU hU.size hb
 clear hb
 refine sx_n (z1 [(33, pt Nx 0)] (zl (q1_x _ HC1.out) rfl rfl (z2 [(9, .int .i64 ((lx.length : Nat))), (35, .int .i64 ((lx.length : Nat)))] (sx_n (zv (q1_a _ HC1.out) rfl rfl ?_)))))
 refine zc rfl ((vKnown_w true Aa la ca sa _ La.out Ca (p1_a w28 HC1.out) Ya.out HKa.out).mono ?_)
 rintro e w29 ⟨rfl, hb⟩
 refine ⟨_, rfl, ?_⟩
 replace HC1 := zH HM1 HC1 hb
 replace BD := zB BD hb
 replace hU := zU hU hU.size hb
 clear hb
 refine z2 [(39, z_f), (38, z_f)] (zv (q1_b _ HC1.out) rfl rfl ?_)
 refine zc rfl ((vKnown_w true Ab lb cb sb _ Lb.out Cb (p1_b w29 HC1.out) Yb.out HKb.out).mono ?_)
 rintro e w30 ⟨rfl, hb⟩
 refine ⟨_, rfl, ?_⟩
 replace HC1 := zH HM1 HC1 hb
 replace BD := zB BD hb
 replace hU := zU hU hU.size hb
 clear hb
 refine z3 [(10, z_f), (43, z_f), (42, z_f)] (ze (wp_seq (zs (z1 [(44, pt ND 0)] (zop BD.out rfl rfl ?_)))))
 refine ze (wp_block (wp_seq (zg 46 47 (zg 46 48 (zg 46 49 (zt [(46, z_t), (50, z_t)] ?_))))))
 refine wp_skip (then_normal (zit (wp_skip (block_normal (then_normal (zs ?_))))))
 refine z1 [(73, pt ND 1)] (zfn BD.out rfl rfl (zv (q1_a _ HC1.out) rfl rfl (zv (q1_b _ HC1.out) rfl rfl ?_)))
 refine zc rfl ((vDiv_any Aa Ab la lb ca cb sa sb _ La.out Lb.out Ca Cb (p1_a w30 HC1.out) (p1_b w30 HC1.out) Ya.out Yb.out).mono ?_)
 rintro e w31 ⟨lg, sg, Ag, cg, Eg, rfl, Cg, Og, hb⟩
 refine ⟨_, rfl, ?_⟩
 replace HC1 := zH HM1 HC1 hb
 replace BD := zB BD hb
 replace Og := hide Og.out.rd
 replace hU := zU hU hU.size hb
 clear hb
 have Gg := zGd Eg ((gdu_ar Ya.out Yb.out hlen_div))
 have Lg := zLe Gg
 have Yg := hide Gg.by_
 clear Gg
 refine zm (A := Ag) (m := lg.length) (c := cg) (s := sg) rfl rfl rfl ?_
 intro w32 Ng Bg hNg hb
 replace Bg := hide Bg
 replace HC1 := zH HM1 HC1 hb
 replace Og := zQ Og hb
 replace BD := zB BD hb
 have hzg : w.heap.size ≤ Ng := Nat.le_trans hU.size hNg
 clear hNg
 replace hU := zU hU hU.size hb
 clear hb
 refine sx_n (z9 [(86, z_f), (85, undef), (84, undef), (83, undef), (82, undef), (81, undef), (80, undef), (79, z_f), (78, z_f)] (ze (zif (wp_skip (block_normal (then_normal ?_))))))
 refine reg_lit (z2 [(29, .int .i64 8), (87, .int .i64 8)] (ze ?_))
 clear Bg Og Cg Lg Yg
 clear BD
 refine zk (z_R Na Nb Nx Nz NV z_f 8) (fun X => ?_)
 refine round_s (zs (z1 [(30, z_t)] (ze (wp_seq (zit ?_)))))
 refine wp_skip (then_normal (wp_seq (wp_block (zs (z1 [(31, pt NV 16)] (zw (r1_TV _ HC1.out) 8 (by decide) rfl rfl ?_))))))
 refine zm2 25 60 rfl rfl rfl ?_
 intro w33 ND BD hb
 replace BD := hide BD
 replace HC1 := zH HM1 HC1 hb
 replace hU := zU hU hU.size hb
 clear hb
 refine sx_n (z1 [(33, pt Nx 0)] (zl (q1_x _ HC1.out) rfl rfl (z2 [(9, .int .i64 ((lx.length : Nat))), (35, .int .i64 ((lx.length : Nat)))] (sx_n (zv (q1_a _ HC1.out) rfl rfl ?_)))))
 refine zc rfl ((vKnown_w true Aa la ca sa _ La.out Ca (p1_a w33 HC1.out) Ya.out HKa.out).mono ?_)
 rintro e w34 ⟨rfl, hb⟩
 refine ⟨_, rfl, ?_⟩
 replace HC1 := zH HM1 HC1 hb
 replace BD := zB BD hb
 replace hU := zU hU hU.size hb
 clear hb
 refine z2 [(39, z_f), (38, z_f)] (zv (q1_b _ HC1.out) rfl rfl ?_)
 refine zc rfl ((vKnown_w true Ab lb cb sb _ Lb.out Cb (p1_b w34 HC1.out) Yb.out HKb.out).mono ?_)
 rintro e w35 ⟨rfl, hb⟩
 refine ⟨_, rfl, ?_⟩
 replace HC1 := zH HM1 HC1 hb
 replace BD := zB BD hb
 replace hU := zU hU hU.size hb
 clear hb
 refine z3 [(10, z_f), (43, z_f), (42, z_f)] (ze (wp_seq (zs (z1 [(44, pt ND 0)] (zop BD.out rfl rfl ?_)))))
 refine ze (wp_block (wp_seq (zg 46 47 (zg 46 48 (zg 46 49 (zg 46 50 ?_))))))
 refine reg_lit (z2 [(46, z_t), (51, z_t)] (ze (zit (wp_skip (block_normal (then_normal ?_))))))
 refine zs (z1 [(73, pt ND 1)] (zfn BD.out rfl rfl (zv (q1_a _ HC1.out) rfl rfl (zv (q1_b _ HC1.out) rfl rfl ?_))))
 refine zc rfl ((vMod_any Aa Ab la lb ca cb sa sb _ La.out Lb.out Ca Cb (p1_a w35 HC1.out) (p1_b w35 HC1.out) Ya.out Yb.out).mono ?_)
 rintro e w36 ⟨lg, sg, Ag, cg, Eg, rfl, Cg, Og, hb⟩
 refine ⟨_, rfl, ?_⟩
 replace HC1 := zH HM1 HC1 hb
 replace BD := zB BD hb
 replace Og := hide Og.out.rd
 replace hU := zU hU hU.size hb
 clear hb
 have Gg := zGd Eg ((gdu_ar Ya.out Yb.out hlen_mod))
 have Lg := zLe Gg
 have Yg := hide Gg.by_
 clear Gg
 refine zm (A := Ag) (m := lg.length) (c := cg) (s := sg) rfl rfl rfl ?_
 intro w37 Ng Bg hNg hb
 replace Bg := hide Bg
 replace HC1 := zH HM1 HC1 hb
 replace Og := zQ Og hb
 replace BD := zB BD hb
 have hzg : w.heap.size ≤ Ng := Nat.le_trans hU.size hNg
 clear hNg
 replace hU := zU hU hU.size hb
 clear hb
 refine sx_n (z9 [(86, z_f), (85, undef), (84, undef), (83, undef), (82, undef), (81, undef), (80, undef), (79, z_f), (78, z_f)] (ze (zif (wp_skip (block_normal (then_normal ?_))))))
 refine reg_lit (z2 [(29, .int .i64 9), (87, .int .i64 9)] (ze ?_))
 clear Bg Og Cg Lg Yg
 clear BD
 refine zk (z_R Na Nb Nx Nz NV z_f 9) (fun X => ?_)
 refine round_s (zs (z1 [(30, z_t)] (ze (wp_seq (zit ?_)))))
 refine wp_skip (then_normal (wp_seq (wp_block (zs (z1 [(31, pt NV 18)] (zw (r1_TV _ HC1.out) 9 (by decide) rfl rfl ?_))))))
 refine zm2 26 61 rfl rfl rfl ?_
 intro w38 ND BD hb
 replace BD := hide BD
 replace HC1 := zH HM1 HC1 hb
 replace hU := zU hU hU.size hb
 clear hb
 refine sx_n (z1 [(33, pt Nx 0)] (zl (q1_x _ HC1.out) rfl rfl (z2 [(9, .int .i64 ((lx.length : Nat))), (35, .int .i64 ((lx.length : Nat)))] (sx_n (zv (q1_a _ HC1.out) rfl rfl ?_)))))
 refine zc rfl ((vKnown_w true Aa la ca sa _ La.out Ca (p1_a w38 HC1.out) Ya.out HKa.out).mono ?_)
 rintro e w39 ⟨rfl, hb⟩
 refine ⟨_, rfl, ?_⟩
 replace HC1 := zH HM1 HC1 hb
 replace BD := zB BD hb
 replace hU := zU hU hU.size hb
 clear hb
 refine z2 [(39, z_f), (38, z_f)] (zv (q1_b _ HC1.out) rfl rfl ?_)
 refine zc rfl ((vKnown_w true Ab lb cb sb _ Lb.out Cb (p1_b w39 HC1.out) Yb.out HKb.out).mono ?_)
 rintro e w40 ⟨rfl, hb⟩
 refine ⟨_, rfl, ?_⟩
 replace HC1 := zH HM1 HC1 hb
 replace BD := zB BD hb
 replace hU := zU hU hU.size hb
 clear hb
 refine z3 [(10, z_f), (43, z_f), (42, z_f)] (ze (wp_seq (zs (z1 [(44, pt ND 0)] (zop BD.out rfl rfl ?_)))))
 refine ze (wp_block (wp_seq (zg 46 47 (zg 46 48 (zg 46 49 (zg 46 50 ?_))))))
 refine reg_lit (z2 [(46, z_f), (51, z_f)] (ze (zif (wp_seq (zg 52 53 (zg 52 54 ?_))))))
 refine zg 52 55 (reg_lit (z2 [(52, z_f), (56, z_f)] (ze (zif (zt [(57, z_t), (58, z_t)] (reg_lit ?_))))))
 refine z1 [(59, pt Nz 0)] (zl (q1_z _ HC1.out) rfl rfl (z2 [(9, .int .i64 ((ly.length : Nat))), (61, .int .i64 ((ly.length : Nat)))] (wpl_end (block_normal (then_normal (zs ?_))))))
 refine z1 [(73, pt ND 1)] (zfn BD.out rfl rfl (zv (q1_a _ HC1.out) rfl rfl (zv (q1_b _ HC1.out) rfl rfl ?_)))
 refine zc rfl ((vPow_any Aa Ab la lb ca cb sa sb _ La.out Lb.out Ca Cb (p1_a w40 HC1.out) (p1_b w40 HC1.out) Ya.out Yb.out (HT.out.kept hU)).mono ?_)
 rintro e w41 ⟨lg, sg, Ag, cg, Eg, rfl, Cg, Og, hb⟩
 refine ⟨_, rfl, ?_⟩
 replace HC1 := zH HM1 HC1 hb
 replace BD := zB BD hb
 replace Og := hide Og.out.rd
 replace hU := zU hU hU.size hb
 clear hb
 have Gg := zGd Eg ((gdu_pow Ya.out))
 have Lg := zLe Gg
 have Yg := hide Gg.by_
 clear Gg
 refine zm (A := Ag) (m := lg.length) (c := cg) (s := sg) rfl rfl rfl ?_
 intro w42 Ng Bg hNg hb
 replace Bg := hide Bg
 replace HC1 := zH HM1 HC1 hb
 replace Og := zQ Og hb
 replace BD := zB BD hb
 have hzg : w.heap.size ≤ Ng := Nat.le_trans hU.size hNg
 clear hNg
 replace hU := zU hU hU.size hb
 clear hb
 refine sx_n (z9 [(86, z_f), (85, undef), (84, undef), (83, undef), (82, undef), (81, undef), (80, undef), (79, z_f), (78, z_f)] (ze (zif (wp_skip (block_normal (then_normal ?_))))))
 refine reg_lit (z2 [(29, .int .i64 10), (87, .int .i64 10)] (ze ?_))
 clear Bg Og Cg Lg Yg
 clear BD
 refine zk (z_R Na Nb Nx Nz NV z_f 10) (fun X => ?_)
 refine round_s (zs (z1 [(30, z_t)] (ze (wp_seq (zit ?_)))))
 refine wp_skip (then_normal (wp_seq (wp_block (zs (z1 [(31, pt NV 20)] (zw (r1_TV _ HC1.out) 10 (by decide) rfl rfl ?_))))))
 refine zm2 27 91 rfl rfl rfl ?_
 intro w43 ND BD hb
 replace BD := hide BD
 replace HC1 := zH HM1 HC1 hb
 replace hU := zU hU hU.size hb
 clear hb
 refine sx_n (z1 [(33, pt Nx 0)] (zl (q1_x _ HC1.out) rfl rfl (z2 [(9, .int .i64 ((lx.length : Nat))), (35, .int .i64 ((lx.length : Nat)))] (sx_n (zv (q1_a _ HC1.out) rfl rfl ?_)))))
 refine zc rfl ((vKnown_w true Aa la ca sa _ La.out Ca (p1_a w43 HC1.out) Ya.out HKa.out).mono ?_)
 rintro e w44 ⟨rfl, hb⟩
 refine ⟨_, rfl, ?_⟩
 replace HC1 := zH HM1 HC1 hb
 replace BD := zB BD hb
 replace hU := zU hU hU.size hb
 clear hb
 refine z2 [(39, z_f), (38, z_f)] (zv (q1_b _ HC1.out) rfl rfl ?_)
 refine zc rfl ((vKnown_w true Ab lb cb sb _ Lb.out Cb (p1_b w44 HC1.out) Yb.out HKb.out).mono ?_)
 rintro e w45 ⟨rfl, hb⟩
 refine ⟨_, rfl, ?_⟩
 replace HC1 := zH HM1 HC1 hb
 replace BD := zB BD hb
 replace hU := zU hU hU.size hb
 clear hb
 refine z3 [(10, z_f), (43, z_f), (42, z_f)] (ze (wp_seq (zs (z1 [(44, pt ND 0)] (zop BD.out rfl rfl ?_)))))
 refine ze (wp_block (wp_seq (zg 46 47 (zg 46 48 (zg 46 49 (zg 46 50 ?_))))))
 refine reg_lit (z2 [(46, z_f), (51, z_f)] (ze (zif (wp_seq (zg 52 53 (zg 52 54 ?_))))))
 refine zg 52 55 (reg_lit (z2 [(52, z_f), (56, z_f)] (ze (zif (zg 57 58 (wp_seq ?_))))))
 refine zg 62 63 (zg 62 64 (zg 62 65 (reg_lit (z2 [(62, z_f), (66, z_f)] (ze (zif ?_))))))
 refine wp_exit (exit_pass rfl (then_exit (exit_here (then_normal (reg_lit (z2 [(29, .int .i64 11), (87, .int .i64 11)] (wpl_end ?_)))))))
 refine then_normal ?_
 clear BD
 refine zk (z_R Na Nb Nx Nz NV z_f 11) (fun X => ?_)
 refine round_s (zs (z1 [(30, z_t)] (ze (wp_seq (zit ?_)))))
 refine wp_skip (then_normal (wp_seq (wp_block (zs (z1 [(31, pt NV 22)] (zw (r1_TV _ HC1.out) 11 (by decide) rfl rfl ?_))))))
 refine zm2 28 80 rfl rfl rfl ?_
 intro w46 ND BD hb
 replace BD := hide BD
 replace HC1 := zH HM1 HC1 hb
 replace hU := zU hU hU.size hb
 clear hb
 refine sx_n (z1 [(33, pt Nx 0)] (zl (q1_x _ HC1.out) rfl rfl (z2 [(9, .int .i64 ((lx.length : Nat))), (35, .int .i64 ((lx.length : Nat)))] (sx_n (zv (q1_a _ HC1.out) rfl rfl ?_)))))
 refine zc rfl ((vKnown_w true Aa la ca sa _ La.out Ca (p1_a w46 HC1.out) Ya.out HKa.out).mono ?_)
 rintro e w47 ⟨rfl, hb⟩
 refine ⟨_, rfl, ?_⟩
 replace HC1 := zH HM1 HC1 hb
 replace BD := zB BD hb
 replace hU := zU hU hU.size hb
 clear hb
 refine z2 [(39, z_f), (38, z_f)] (zv (q1_b _ HC1.out) rfl rfl ?_)
 refine zc rfl ((vKnown_w true Ab lb cb sb _ Lb.out Cb (p1_b w47 HC1.out) Yb.out HKb.out).mono ?_)
 rintro e w48 ⟨rfl, hb⟩
 refine ⟨_, rfl, ?_⟩
 replace HC1 := zH HM1 HC1 hb
 replace BD := zB BD hb
 replace hU := zU hU hU.size hb
 clear hb
 refine z3 [(10, z_f), (43, z_f), (42, z_f)] (ze (wp_seq (zs (z1 [(44, pt ND 0)] (zop BD.out rfl rfl ?_)))))
 refine ze (wp_block (wp_seq (zg 46 47 (zg 46 48 (zg 46 49 (zg 46 50 ?_))))))
 refine reg_lit (z2 [(46, z_f), (51, z_f)] (ze (zif (wp_seq (zg 52 53 (zg 52 54 ?_))))))
 refine zg 52 55 (reg_lit (z2 [(52, z_f), (56, z_f)] (ze (zif (zg 57 58 (wp_seq ?_))))))
 refine zg 62 63 (zg 62 64 (zg 62 65 (reg_lit (z2 [(62, z_f), (66, z_f)] (ze (zif ?_))))))
 refine wp_exit (exit_pass rfl (then_exit (exit_here (then_normal (reg_lit (z2 [(29, .int .i64 12), (87, .int .i64 12)] (wpl_end ?_)))))))
 refine then_normal ?_
 clear BD
 refine zk (z_R Na Nb Nx Nz NV z_f 12) (fun X => ?_)
 refine round_s (zs (z1 [(30, z_t)] (ze (wp_seq (zit ?_)))))
 refine wp_skip (then_normal (wp_seq (wp_block (zs (z1 [(31, pt NV 24)] (zw (r1_TV _ HC1.out) 12 (by decide) rfl rfl ?_))))))
 refine zm2 31 76 rfl rfl rfl ?_
 intro w49 ND BD hb
 replace BD := hide BD
 replace HC1 := zH HM1 HC1 hb
 replace hU := zU hU hU.size hb
 clear hb
 refine sx_n (z1 [(33, pt Nx 0)] (zl (q1_x _ HC1.out) rfl rfl (z2 [(9, .int .i64 ((lx.length : Nat))), (35, .int .i64 ((lx.length : Nat)))] (sx_n (zv (q1_a _ HC1.out) rfl rfl ?_)))))
 refine zc rfl ((vKnown_w true Aa la ca sa _ La.out Ca (p1_a w49 HC1.out) Ya.out HKa.out).mono ?_)
 rintro e w50 ⟨rfl, hb⟩
 refine ⟨_, rfl, ?_⟩
 replace HC1 := zH HM1 HC1 hb
 replace BD := zB BD hb
 replace hU := zU hU hU.size hb
 clear hb
 refine z2 [(39, z_f), (38, z_f)] (zv (q1_b _ HC1.out) rfl rfl ?_)
 refine zc rfl ((vKnown_w true Ab lb cb sb _ Lb.out Cb (p1_b w50 HC1.out) Yb.out HKb.out).mono ?_)
 rintro e w51 ⟨rfl, hb⟩
 refine ⟨_, rfl, ?_⟩
 replace HC1 := zH HM1 HC1 hb
 replace BD := zB BD hb
 replace hU := zU hU hU.size hb
 clear hb
 refine z3 [(10, z_f), (43, z_f), (42, z_f)] (ze (wp_seq (zs (z1 [(44, pt ND 0)] (zop BD.out rfl rfl ?_)))))
 refine ze (wp_block (wp_seq (zg 46 47 (zg 46 48 (zg 46 49 (zg 46 50 ?_))))))
 refine reg_lit (z2 [(46, z_f), (51, z_f)] (ze (zif (wp_seq (zt [(52, z_t), (53, z_t)] (wp_skip ?_))))))
 refine then_normal (zit (reg_lit (z1 [(9, .int .i64 1)] (wpl_end (block_normal (then_normal (wp_seq ?_)))))))
 refine reg_lit (z1 [(73, pt ND 1)] (zfn BD.out rfl rfl (zv (q1_a _ HC1.out) rfl rfl (zv (q1_b _ HC1.out) rfl rfl ?_))))
 refine zc rfl ((vLt_any Aa Ab la lb ca cb sa sb _ La.out Lb.out Ca Cb (p1_a w51 HC1.out) (p1_b w51 HC1.out) Ya.out Yb.out).mono ?_)
 rintro e w52 ⟨lg, sg, Ag, cg, Eg, rfl, Cg, Og, hb⟩
 refine ⟨_, rfl, ?_⟩
 replace HC1 := zH HM1 HC1 hb
 replace BD := zB BD hb
 replace Og := hide Og.out.rd
 replace hU := zU hU hU.size hb
 clear hb
 have Gg := zGd Eg ((gdu_cmp _ _ _))
 have Lg := zLe Gg
 have Yg := hide Gg.by_
 clear Gg
 refine zm (A := Ag) (m := lg.length) (c := cg) (s := sg) rfl rfl rfl ?_
 intro w53 Ng Bg hNg hb
 replace Bg := hide Bg
 replace HC1 := zH HM1 HC1 hb
 replace Og := zQ Og hb
 replace BD := zB BD hb
 have hzg : w.heap.size ≤ Ng := Nat.le_trans hU.size hNg
 clear hNg
 replace hU := zU hU hU.size hb
 clear hb
 refine sx_n (z9 [(86, z_f), (85, undef), (84, undef), (83, undef), (82, undef), (81, undef), (80, undef), (79, z_f), (78, z_f)] (ze (zif (wp_skip (block_normal (then_normal ?_))))))
 refine reg_lit (z2 [(29, .int .i64 13), (87, .int .i64 13)] (ze ?_))
 clear Bg Og Cg Lg Yg
 clear BD
 refine zk (z_R Na Nb Nx Nz NV z_f 13) (fun X => ?_)
 refine round_s (zs (z1 [(30, z_t)] (ze (wp_seq (zit ?_)))))
 refine wp_skip (then_normal (wp_seq (wp_block (zs (z1 [(31, pt NV 26)] (zw (r1_TV _ HC1.out) 13 (by decide) rfl rfl ?_))))))
 refine zm2 32 78 rfl rfl rfl ?_
 intro w54 ND BD hb
 replace BD := hide BD
 replace HC1 := zH HM1 HC1 hb
 replace hU := zU hU hU.size hb
 clear hb
 refine sx_n (z1 [(33, pt Nx 0)] (zl (q1_x _ HC1.out) rfl rfl (z2 [(9, .int .i64 ((lx.length : Nat))), (35, .int .i64 ((lx.length : Nat)))] (sx_n (zv (q1_a _ HC1.out) rfl rfl ?_)))))
 refine zc rfl ((vKnown_w true Aa la ca sa _ La.out Ca (p1_a w54 HC1.out) Ya.out HKa.out).mono ?_)
 rintro e w55 ⟨rfl, hb⟩
 refine ⟨_, rfl, ?_⟩
 replace HC1 := zH HM1 HC1 hb
 replace BD := zB BD hb
 replace hU := zU hU hU.size hb
 clear hb
 refine z2 [(39, z_f), (38, z_f)] (zv (q1_b _ HC1.out) rfl rfl ?_)
 refine zc rfl ((vKnown_w true Ab lb cb sb _ Lb.out Cb (p1_b w55 HC1.out) Yb.out HKb.out).mono ?_)
 rintro e w56 ⟨rfl, hb⟩
 refine ⟨_, rfl, ?_⟩
 replace HC1 := zH HM1 HC1 hb
 replace BD := zB BD hb
 replace hU := zU hU hU.size hb
 clear hb
 refine z3 [(10, z_f), (43, z_f), (42, z_f)] (ze (wp_seq (zs (z1 [(44, pt ND 0)] (zop BD.out rfl rfl ?_)))))
 refine ze (wp_block (wp_seq (zg 46 47 (zg 46 48 (zg 46 49 (zg 46 50 ?_))))))
 refine reg_lit (z2 [(46, z_f), (51, z_f)] (ze (zif (wp_seq (zg 52 53 (zt [(52, z_t), (54, z_t)] ?_))))))
 refine wp_skip (then_normal (zit (reg_lit (z1 [(9, .int .i64 1)] (wpl_end (block_normal (then_normal ?_)))))))
 refine zs (z1 [(73, pt ND 1)] (zfn BD.out rfl rfl (zv (q1_a _ HC1.out) rfl rfl (zv (q1_b _ HC1.out) rfl rfl ?_))))
 refine zc rfl ((vLe_any Aa Ab la lb ca cb sa sb _ La.out Lb.out Ca Cb (p1_a w56 HC1.out) (p1_b w56 HC1.out) Ya.out Yb.out).mono ?_)
 rintro e w57 ⟨lg, sg, Ag, cg, Eg, rfl, Cg, Og, hb⟩
 refine ⟨_, rfl, ?_⟩
 replace HC1 := zH HM1 HC1 hb
 replace BD := zB BD hb
 replace Og := hide Og.out.rd
 replace hU := zU hU hU.size hb
 clear hb
 have Gg := zGd Eg ((gdu_cmp _ _ _))
 have Lg := zLe Gg
 have Yg := hide Gg.by_
 clear Gg
 refine zm (A := Ag) (m := lg.length) (c := cg) (s := sg) rfl rfl rfl ?_
 intro w58 Ng Bg hNg hb
 replace Bg := hide Bg
 replace HC1 := zH HM1 HC1 hb
 replace Og := zQ Og hb
 replace BD := zB BD hb
 have hzg : w.heap.size ≤ Ng := Nat.le_trans hU.size hNg
 clear hNg
 replace hU := zU hU hU.size hb
 clear hb
 refine sx_n (z9 [(86, z_f), (85, undef), (84, undef), (83, undef), (82, undef), (81, undef), (80, undef), (79, z_f), (78, z_f)] (ze (zif (wp_skip (block_normal (then_normal ?_))))))
 refine reg_lit (z2 [(29, .int .i64 14), (87, .int .i64 14)] (ze ?_))
 clear Bg Og Cg Lg Yg
 clear BD
 refine zk (z_R Na Nb Nx Nz NV z_f 14) (fun X => ?_)
 refine round_s (zs (z1 [(30, z_t)] (ze (wp_seq (zit ?_)))))
 refine wp_skip (then_normal (wp_seq (wp_block (zs (z1 [(31, pt NV 28)] (zw (r1_TV _ HC1.out) 14 (by decide) rfl rfl ?_))))))
 refine zm2 33 79 rfl rfl rfl ?_
 intro w59 ND BD hb
 replace BD := hide BD
 replace HC1 := zH HM1 HC1 hb
 replace hU := zU hU hU.size hb
 clear hb
 refine sx_n (z1 [(33, pt Nx 0)] (zl (q1_x _ HC1.out) rfl rfl (z2 [(9, .int .i64 ((lx.length : Nat))), (35, .int .i64 ((lx.length : Nat)))] (sx_n (zv (q1_a _ HC1.out) rfl rfl ?_)))))
 refine zc rfl ((vKnown_w true Aa la ca sa _ La.out Ca (p1_a w59 HC1.out) Ya.out HKa.out).mono ?_)
 rintro e w60 ⟨rfl, hb⟩
 refine ⟨_, rfl, ?_⟩
 replace HC1 := zH HM1 HC1 hb
 replace BD := zB BD hb
 replace hU := zU hU hU.size hb
 clear hb
 refine z2 [(39, z_f), (38, z_f)] (zv (q1_b _ HC1.out) rfl rfl ?_)
 refine zc rfl ((vKnown_w true Ab lb cb sb _ Lb.out Cb (p1_b w60 HC1.out) Yb.out HKb.out).mono ?_)
 rintro e w61 ⟨rfl, hb⟩
 refine ⟨_, rfl, ?_⟩
 replace HC1 := zH HM1 HC1 hb
 replace BD := zB BD hb
 replace hU := zU hU hU.size hb
 clear hb
 refine z3 [(10, z_f), (43, z_f), (42, z_f)] (ze (wp_seq (zs (z1 [(44, pt ND 0)] (zop BD.out rfl rfl ?_)))))
 refine ze (wp_block (wp_seq (zg 46 47 (zg 46 48 (zg 46 49 (zg 46 50 ?_))))))
 refine reg_lit (z2 [(46, z_f), (51, z_f)] (ze (zif (wp_seq (zg 52 53 (zg 52 54 ?_))))))
 refine zt [(52, z_t), (55, z_t)] (wp_skip (then_normal (zit (reg_lit (z1 [(9, .int .i64 1)] (wpl_end (block_normal ?_)))))))
 refine then_normal (zs (z1 [(73, pt ND 1)] (zfn BD.out rfl rfl (zv (q1_a _ HC1.out) rfl rfl (zv (q1_b _ HC1.out) rfl rfl ?_)))))
 refine zc rfl ((vGt_any Aa Ab la lb ca cb sa sb _ La.out Lb.out Ca Cb (p1_a w61 HC1.out) (p1_b w61 HC1.out) Ya.out Yb.out).mono ?_)
 rintro e w62 ⟨lg, sg, Ag, cg, Eg, rfl, Cg, Og, hb⟩
 refine ⟨_, rfl, ?_⟩
 replace HC1 := zH HM1 HC1 hb
 replace BD := zB BD hb
 replace Og := hide Og.out.rd
 replace hU := zU hU hU.size hb
 clear hb
 have Gg := zGd Eg ((gdu_cmp _ _ _))
 have Lg := zLe Gg
 have Yg := hide Gg.by_
 clear Gg
 refine zm (A := Ag) (m := lg.length) (c := cg) (s := sg) rfl rfl rfl ?_
 intro w63 Ng Bg hNg hb
 replace Bg := hide Bg
 replace HC1 := zH HM1 HC1 hb
 replace Og := zQ Og hb
 replace BD := zB BD hb
 have hzg : w.heap.size ≤ Ng := Nat.le_trans hU.size hNg
 clear hNg
 replace hU := zU hU hU.size hb
 clear hb
 refine sx_n (z9 [(86, z_f), (85, undef), (84, undef), (83, undef), (82, undef), (81, undef), (80, undef), (79, z_f), (78, z_f)] (ze (zif (wp_skip (block_normal (then_normal ?_))))))
 refine reg_lit (z2 [(29, .int .i64 15), (87, .int .i64 15)] (ze ?_))
 clear Bg Og Cg Lg Yg
 clear BD
 refine zk (z_R Na Nb Nx Nz NV z_f 15) (fun X => ?_)
 refine round_s (zs (z1 [(30, z_t)] (ze (wp_seq (zit ?_)))))
 refine wp_skip (then_normal (wp_seq (wp_block (zs (z1 [(31, pt NV 30)] (zw (r1_TV _ HC1.out) 15 (by decide) rfl rfl ?_))))))
 refine zm2 34 77 rfl rfl rfl ?_
 intro w64 ND BD hb
 replace BD := hide BD
 replace HC1 := zH HM1 HC1 hb
 replace hU := zU hU hU.size hb
 clear hb
 refine sx_n (z1 [(33, pt Nx 0)] (zl (q1_x _ HC1.out) rfl rfl (z2 [(9, .int .i64 ((lx.length : Nat))), (35, .int .i64 ((lx.length : Nat)))] (sx_n (zv (q1_a _ HC1.out) rfl rfl ?_)))))
 refine zc rfl ((vKnown_w true Aa la ca sa _ La.out Ca (p1_a w64 HC1.out) Ya.out HKa.out).mono ?_)
 rintro e w65 ⟨rfl, hb⟩
 refine ⟨_, rfl, ?_⟩
 replace HC1 := zH HM1 HC1 hb
 replace BD := zB BD hb
 replace hU := zU hU hU.size hb
 clear hb
 refine z2 [(39, z_f), (38, z_f)] (zv (q1_b _ HC1.out) rfl rfl ?_)
 refine zc rfl ((vKnown_w true Ab lb cb sb _ Lb.out Cb (p1_b w65 HC1.out) Yb.out HKb.out).mono ?_)
 rintro e w66 ⟨rfl, hb⟩
 refine ⟨_, rfl, ?_⟩
 replace HC1 := zH HM1 HC1 hb
 replace BD := zB BD hb
 replace hU := zU hU hU.size hb
 clear hb
 refine z3 [(10, z_f), (43, z_f), (42, z_f)] (ze (wp_seq (zs (z1 [(44, pt ND 0)] (zop BD.out rfl rfl ?_)))))
 refine ze (wp_block (wp_seq (zg 46 47 (zg 46 48 (zg 46 49 (zg 46 50 ?_))))))
 refine reg_lit (z2 [(46, z_f), (51, z_f)] (ze (zif (wp_seq (zg 52 53 (zg 52 54 ?_))))))
 refine zg 52 55 (reg_lit (z2 [(52, z_t), (56, z_t)] (ze (zit (reg_lit (z1 [(9, .int .i64 1)] ?_))))))
 refine wpl_end (block_normal (then_normal (zs (z1 [(73, pt ND 1)] (zfn BD.out rfl rfl (zv (q1_a _ HC1.out) rfl rfl ?_))))))
 refine zv (q1_b _ HC1.out) rfl rfl ?_
 refine zc rfl ((vGe_any Aa Ab la lb ca cb sa sb _ La.out Lb.out Ca Cb (p1_a w66 HC1.out) (p1_b w66 HC1.out) Ya.out Yb.out).mono ?_)
 rintro e w67 ⟨lg, sg, Ag, cg, Eg, rfl, Cg, Og, hb⟩
 refine ⟨_, rfl, ?_⟩
 replace HC1 := zH HM1 HC1 hb
 replace BD := zB BD hb
 replace Og := hide Og.out.rd
 replace hU := zU hU hU.size hb
 clear hb
 have Gg := zGd Eg ((gdu_cmp _ _ _))
 have Lg := zLe Gg
 have Yg := hide Gg.by_
 clear Gg
 refine zm (A := Ag) (m := lg.length) (c := cg) (s := sg) rfl rfl rfl ?_
 intro w68 Ng Bg hNg hb
 replace Bg := hide Bg
 replace HC1 := zH HM1 HC1 hb
 replace Og := zQ Og hb
 replace BD := zB BD hb
 have hzg : w.heap.size ≤ Ng := Nat.le_trans hU.size hNg
 clear hNg
 replace hU := zU hU hU.size hb
 clear hb
 refine sx_n (z9 [(86, z_f), (85, undef), (84, undef), (83, undef), (82, undef), (81, undef), (80, undef), (79, z_f), (78, z_f)] (ze (zif (wp_skip (block_normal (then_normal ?_))))))
 refine reg_lit (z2 [(29, .int .i64 16), (87, .int .i64 16)] (ze ?_))
 clear Bg Og Cg Lg Yg
 clear BD
 refine zk (z_R Na Nb Nx Nz NV z_f 16) (fun X => ?_)
 refine round_s (zs (z1 [(30, z_t)] (ze (wp_seq (zit ?_)))))
 refine wp_skip (then_normal (wp_seq (wp_block (zs (z1 [(31, pt NV 32)] (zw (r1_TV _ HC1.out) 16 (by decide) rfl rfl ?_))))))
 refine zm2 35 73 rfl rfl rfl ?_
 intro w69 ND BD hb
 replace BD := hide BD
 replace HC1 := zH HM1 HC1 hb
 replace hU := zU hU hU.size hb
 clear hb
 refine sx_n (z1 [(33, pt Nx 0)] (zl (q1_x _ HC1.out) rfl rfl (z2 [(9, .int .i64 ((lx.length : Nat))), (35, .int .i64 ((lx.length : Nat)))] (sx_n (zv (q1_a _ HC1.out) rfl rfl ?_)))))
 refine zc rfl ((vKnown_w true Aa la ca sa _ La.out Ca (p1_a w69 HC1.out) Ya.out HKa.out).mono ?_)
 rintro e w70 ⟨rfl, hb⟩
 refine ⟨_, rfl, ?_⟩
 replace HC1 := zH HM1 HC1 hb
 replace BD := zB BD hb
 replace hU := zU hU hU.size hb
 clear hb
 refine z2 [(39, z_f), (38, z_f)] (zv (q1_b _ HC1.out) rfl rfl ?_)
 refine zc rfl ((vKnown_w true Ab lb cb sb _ Lb.out Cb (p1_b w70 HC1.out) Yb.out HKb.out).mono ?_)
 rintro e w71 ⟨rfl, hb⟩
 refine ⟨_, rfl, ?_⟩
 replace HC1 := zH HM1 HC1 hb
 replace BD := zB BD hb
 replace hU := zU hU hU.size hb
 clear hb
 refine z3 [(10, z_f), (43, z_f), (42, z_f)] (ze (wp_seq (zs (z1 [(44, pt ND 0)] (zop BD.out rfl rfl ?_)))))
 refine ze (wp_block (wp_seq (zg 46 47 (zg 46 48 (zg 46 49 (zg 46 50 ?_))))))
 refine reg_lit (z2 [(46, z_f), (51, z_f)] (ze (zif (wp_seq (zg 52 53 (zg 52 54 ?_))))))
 refine zg 52 55 (reg_lit (z2 [(52, z_f), (56, z_f)] (ze (zif (zg 57 58 (wp_seq ?_))))))
 refine zg 62 63 (zg 62 64 (zg 62 65 (reg_lit (z2 [(62, z_f), (66, z_f)] (ze (zif ?_))))))
 refine wp_exit (exit_pass rfl (then_exit (exit_here (then_normal (reg_lit (z2 [(29, .int .i64 17), (87, .int .i64 17)] (wpl_end ?_)))))))
 refine then_normal ?_
 clear BD
 refine zk (z_R Na Nb Nx Nz NV z_f 17) (fun X => ?_)
 refine round_s (zs (z1 [(30, z_t)] (ze (wp_seq (zit ?_)))))
 refine wp_skip (then_normal (wp_seq (wp_block (zs (z1 [(31, pt NV 34)] (zw (r1_TV _ HC1.out) 17 (by decide) rfl rfl ?_))))))
 refine zm2 36 74 rfl rfl rfl ?_
 intro w72 ND BD hb
 replace BD := hide BD
 replace HC1 := zH HM1 HC1 hb
 replace hU := zU hU hU.size hb
 clear hb
 refine sx_n (z1 [(33, pt Nx 0)] (zl (q1_x _ HC1.out) rfl rfl (z2 [(9, .int .i64 ((lx.length : Nat))), (35, .int .i64 ((lx.length : Nat)))] (sx_n (zv (q1_a _ HC1.out) rfl rfl ?_)))))
 refine zc rfl ((vKnown_w true Aa la ca sa _ La.out Ca (p1_a w72 HC1.out) Ya.out HKa.out).mono ?_)
 rintro e w73 ⟨rfl, hb⟩
 refine ⟨_, rfl, ?_⟩
 replace HC1 := zH HM1 HC1 hb
 replace BD := zB BD hb
 replace hU := zU hU hU.size hb
 clear hb
 refine z2 [(39, z_f), (38, z_f)] (zv (q1_b _ HC1.out) rfl rfl ?_)
 refine zc rfl ((vKnown_w true Ab lb cb sb _ Lb.out Cb (p1_b w73 HC1.out) Yb.out HKb.out).mono ?_)
 rintro e w74 ⟨rfl, hb⟩
 refine ⟨_, rfl, ?_⟩
 replace HC1 := zH HM1 HC1 hb
 replace BD := zB BD hb
 replace hU := zU hU hU.size hb
 clear hb
 refine z3 [(10, z_f), (43, z_f), (42, z_f)] (ze (wp_seq (zs (z1 [(44, pt ND 0)] (zop BD.out rfl rfl ?_)))))
 refine ze (wp_block (wp_seq (zg 46 47 (zg 46 48 (zg 46 49 (zg 46 50 ?_))))))
 refine reg_lit (z2 [(46, z_f), (51, z_f)] (ze (zif (wp_seq (zg 52 53 (zg 52 54 ?_))))))
 refine zg 52 55 (reg_lit (z2 [(52, z_f), (56, z_f)] (ze (zif (zg 57 58 (wp_seq ?_))))))
 refine zg 62 63 (zg 62 64 (zg 62 65 (reg_lit (z2 [(62, z_f), (66, z_f)] (ze (zif ?_))))))
 refine wp_exit (exit_pass rfl (then_exit (exit_here (then_normal (reg_lit (z2 [(29, .int .i64 18), (87, .int .i64 18)] (wpl_end ?_)))))))
 refine then_normal ?_
 clear BD
 refine zk (z_R Na Nb Nx Nz NV z_f 18) (fun X => ?_)
 refine round_s (zs (z1 [(30, z_t)] (ze (wp_seq (zit ?_)))))
 refine wp_skip (then_normal (wp_seq (wp_block (zs (z1 [(31, pt NV 36)] (zw (r1_TV _ HC1.out) 18 (by decide) rfl rfl ?_))))))
 refine zm2 41 62 rfl rfl rfl ?_
 intro w75 ND BD hb
 replace BD := hide BD
 replace HC1 := zH HM1 HC1 hb
 replace hU := zU hU hU.size hb
 clear hb
 refine sx_n (z1 [(33, pt Nx 0)] (zl (q1_x _ HC1.out) rfl rfl (z2 [(9, .int .i64 ((lx.length : Nat))), (35, .int .i64 ((lx.length : Nat)))] (sx_n (zv (q1_a _ HC1.out) rfl rfl ?_)))))
 refine zc rfl ((vKnown_w true Aa la ca sa _ La.out Ca (p1_a w75 HC1.out) Ya.out HKa.out).mono ?_)
 rintro e w76 ⟨rfl, hb⟩
 refine ⟨_, rfl, ?_⟩
 replace HC1 := zH HM1 HC1 hb
 replace BD := zB BD hb
 replace hU := zU hU hU.size hb
 clear hb
 refine z2 [(39, z_f), (38, z_f)] (zv (q1_b _ HC1.out) rfl rfl ?_)
 refine zc rfl ((vKnown_w true Ab lb cb sb _ Lb.out Cb (p1_b w76 HC1.out) Yb.out HKb.out).mono ?_)
 rintro e w77 ⟨rfl, hb⟩
 refine ⟨_, rfl, ?_⟩
 replace HC1 := zH HM1 HC1 hb
 replace BD := zB BD hb
 replace hU := zU hU hU.size hb
 clear hb
 refine z3 [(10, z_f), (43, z_f), (42, z_f)] (ze (wp_seq (zs (z1 [(44, pt ND 0)] (zop BD.out rfl rfl ?_)))))
 refine ze (wp_block (wp_seq (zg 46 47 (zg 46 48 (zg 46 49 (zg 46 50 ?_))))))
 refine reg_lit (z2 [(46, z_f), (51, z_f)] (ze (zif (wp_seq (zg 52 53 (zg 52 54 ?_))))))
 refine zg 52 55 (reg_lit (z2 [(52, z_f), (56, z_f)] (ze (zif (zg 57 58 (wp_seq ?_))))))
 refine zt [(62, z_t), (63, z_t)] (wp_skip (then_normal (zit (region_R (n := 7) (N := 8) (by kernel_rfl) (by kernel_rfl) (by kernel_rfl) (by kernel_rfl) (by kernel_rfl) (by kernel_rfl) (fun _ _ _ _ _ h => hP _ _ _ _ _ h) ?_))))
 intro F hQ
 have HC0 := HC1
 refine zav (i := 0) (m' := 1) (v := .pointer (some ⟨Nz, 0, none⟩)) F hQ rfl rfl (anyR_ldsl (i := 1) (m' := 3) (q1_z _ HC0.out) F hQ rfl rfl (by kernel_rfl) (by kernel_rfl) (by kernel_rfl) (by kernel_rfl) (by kernel_rfl) rfl (by kernel_rfl) (zav (i := 2) (m' := 7) (v := .int .i64 ((ly.length : Nat))) F hQ rfl rfl (anyR_ldvec (i := 3) (m' := 15) (q1_b _ HC0.out) F hQ rfl rfl (by kernel_rfl) (by kernel_rfl) (by kernel_rfl) (by kernel_rfl) (by kernel_rfl) rfl (by kernel_rfl) ?_)))
 refine zac (i := 4) (m' := 31) rfl rfl ((vKnown_w true Ab lb cb sb _ Lb.out Cb (by exact (p1_b w77 HC1.out)) Yb.out HKb.out).mono ?_)
 rintro e w78 ⟨rfl, hb⟩
 refine ⟨_, rfl, hb, ?_⟩
 replace hb : Below w77.heap.size w77 w78 := Below.trans ((Below.refl _ _).drew) hb
 replace HC1 := zH HM1 HC1 hb
 replace BD := zB BD hb
 replace hU := zU hU hU.size hb
 clear hb
 refine zav (i := 5) (m' := 63) (v := .bool false) F hQ rfl rfl (zav (i := 6) (m' := 127) (v := .int .i64 ((ly.length : Nat))) F hQ rfl rfl (anyR_e (anyR_last (i := 7) (m' := 255) (v := .bool false) rfl rfl (by kernel_rfl) (by kernel_rfl) (by kernel_rfl) (by kernel_rfl) (by kernel_rfl) (anyE_done (by kernel_rfl) ?_))))
 clear F hQ HC0
 refine block_normal (then_normal (zs (z1 [(73, pt ND 1)] (zfn BD.out rfl rfl (zv (q1_a _ HC1.out) rfl rfl (zv (q1_b _ HC1.out) rfl rfl ?_))))))
 refine zc rfl ((vShl_any Aa Ab la lb ca cb sa sb _ La.out Lb.out Ca Cb (p1_a w78 HC1.out) (p1_b w78 HC1.out) Ya.out Yb.out).mono ?_)
 rintro e w79 ⟨lg, sg, Ag, cg, Eg, rfl, Cg, Og, hb⟩
 refine ⟨_, rfl, ?_⟩
 replace HC1 := zH HM1 HC1 hb
 replace BD := zB BD hb
 replace Og := hide Og.out.rd
 replace hU := zU hU hU.size hb
 clear hb
 have Gg := zGd Eg ((gdu_shf Ya.out gdm_shl))
 have Lg := zLe Gg
 have Yg := hide Gg.by_
 clear Gg
 refine zm (A := Ag) (m := lg.length) (c := cg) (s := sg) rfl rfl rfl ?_
 intro w80 Ng Bg hNg hb
 replace Bg := hide Bg
 replace HC1 := zH HM1 HC1 hb
 replace Og := zQ Og hb
 replace BD := zB BD hb
 have hzg : w.heap.size ≤ Ng := Nat.le_trans hU.size hNg
 clear hNg
 replace hU := zU hU hU.size hb
 clear hb
 refine sx_n (z9 [(86, z_f), (85, undef), (84, undef), (83, undef), (82, undef), (81, undef), (80, undef), (79, z_f), (78, z_f)] (ze (zif (wp_skip (block_normal (then_normal ?_))))))
 refine reg_lit (z2 [(29, .int .i64 19), (87, .int .i64 19)] (ze ?_))
 clear Bg Og Cg Lg Yg
 clear BD
 refine zk (z_R Na Nb Nx Nz NV z_f 19) (fun X => ?_)
 refine round_s (zs (z1 [(30, z_t)] (ze (wp_seq (zit ?_)))))
 refine wp_skip (then_normal (wp_seq (wp_block (zs (z1 [(31, pt NV 38)] (zw (r1_TV _ HC1.out) 19 (by decide) rfl rfl ?_))))))
 refine zm2 42 63 rfl rfl rfl ?_
 intro w81 ND BD hb
 replace BD := hide BD
 replace HC1 := zH HM1 HC1 hb
 replace hU := zU hU hU.size hb
 clear hb
 refine sx_n (z1 [(33, pt Nx 0)] (zl (q1_x _ HC1.out) rfl rfl (z2 [(9, .int .i64 ((lx.length : Nat))), (35, .int .i64 ((lx.length : Nat)))] (sx_n (zv (q1_a _ HC1.out) rfl rfl ?_)))))
 refine zc rfl ((vKnown_w true Aa la ca sa _ La.out Ca (p1_a w81 HC1.out) Ya.out HKa.out).mono ?_)
 rintro e w82 ⟨rfl, hb⟩
 refine ⟨_, rfl, ?_⟩
 replace HC1 := zH HM1 HC1 hb
 replace BD := zB BD hb
 replace hU := zU hU hU.size hb
 clear hb
 refine z2 [(39, z_f), (38, z_f)] (zv (q1_b _ HC1.out) rfl rfl ?_)
 refine zc rfl ((vKnown_w true Ab lb cb sb _ Lb.out Cb (p1_b w82 HC1.out) Yb.out HKb.out).mono ?_)
 rintro e w83 ⟨rfl, hb⟩
 refine ⟨_, rfl, ?_⟩
 replace HC1 := zH HM1 HC1 hb
 replace BD := zB BD hb
 replace hU := zU hU hU.size hb
 clear hb
 refine z3 [(10, z_f), (43, z_f), (42, z_f)] (ze (wp_seq (zs (z1 [(44, pt ND 0)] (zop BD.out rfl rfl ?_)))))
 refine ze (wp_block (wp_seq (zg 46 47 (zg 46 48 (zg 46 49 (zg 46 50 ?_))))))
 refine reg_lit (z2 [(46, z_f), (51, z_f)] (ze (zif (wp_seq (zg 52 53 (zg 52 54 ?_))))))
 refine zg 52 55 (reg_lit (z2 [(52, z_f), (56, z_f)] (ze (zif (zg 57 58 (wp_seq ?_))))))
 refine zg 62 63 (zt [(62, z_t), (64, z_t)] (wp_skip (then_normal (zit (region_R (n := 7) (N := 8) (by kernel_rfl) (by kernel_rfl) (by kernel_rfl) (by kernel_rfl) (by kernel_rfl) (by kernel_rfl) (fun _ _ _ _ _ h => hP _ _ _ _ _ h) ?_)))))
 intro F hQ
 have HC0 := HC1
 refine zav (i := 0) (m' := 1) (v := .pointer (some ⟨Nz, 0, none⟩)) F hQ rfl rfl (anyR_ldsl (i := 1) (m' := 3) (q1_z _ HC0.out) F hQ rfl rfl (by kernel_rfl) (by kernel_rfl) (by kernel_rfl) (by kernel_rfl) (by kernel_rfl) rfl (by kernel_rfl) (zav (i := 2) (m' := 7) (v := .int .i64 ((ly.length : Nat))) F hQ rfl rfl (anyR_ldvec (i := 3) (m' := 15) (q1_b _ HC0.out) F hQ rfl rfl (by kernel_rfl) (by kernel_rfl) (by kernel_rfl) (by kernel_rfl) (by kernel_rfl) rfl (by kernel_rfl) ?_)))
 refine zac (i := 4) (m' := 31) rfl rfl ((vKnown_w true Ab lb cb sb _ Lb.out Cb (by exact (p1_b w83 HC1.out)) Yb.out HKb.out).mono ?_)
 rintro e w84 ⟨rfl, hb⟩
 refine ⟨_, rfl, hb, ?_⟩
 replace hb : Below w83.heap.size w83 w84 := Below.trans ((Below.refl _ _).drew) hb
 replace HC1 := zH HM1 HC1 hb
 replace BD := zB BD hb
 replace hU := zU hU hU.size hb
 clear hb
 refine zav (i := 5) (m' := 63) (v := .bool false) F hQ rfl rfl (zav (i := 6) (m' := 127) (v := .int .i64 ((ly.length : Nat))) F hQ rfl rfl (anyR_e (anyR_last (i := 7) (m' := 255) (v := .bool false) rfl rfl (by kernel_rfl) (by kernel_rfl) (by kernel_rfl) (by kernel_rfl) (by kernel_rfl) (anyE_done (by kernel_rfl) ?_))))
 clear F hQ HC0
 refine block_normal (then_normal (zs (z1 [(73, pt ND 1)] (zfn BD.out rfl rfl (zv (q1_a _ HC1.out) rfl rfl (zv (q1_b _ HC1.out) rfl rfl ?_))))))
 refine zc rfl ((vShr_any Aa Ab la lb ca cb sa sb _ La.out Lb.out Ca Cb (p1_a w84 HC1.out) (p1_b w84 HC1.out) Ya.out Yb.out).mono ?_)
 rintro e w85 ⟨lg, sg, Ag, cg, Eg, rfl, Cg, Og, hb⟩
 refine ⟨_, rfl, ?_⟩
 replace HC1 := zH HM1 HC1 hb
 replace BD := zB BD hb
 replace Og := hide Og.out.rd
 replace hU := zU hU hU.size hb
 clear hb
 have Gg := zGd Eg ((gdu_shf Ya.out gdm_shr))
 have Lg := zLe Gg
 have Yg := hide Gg.by_
 clear Gg
 refine zm (A := Ag) (m := lg.length) (c := cg) (s := sg) rfl rfl rfl ?_
 intro w86 Ng Bg hNg hb
 replace Bg := hide Bg
 replace HC1 := zH HM1 HC1 hb
 replace Og := zQ Og hb
 replace BD := zB BD hb
 have hzg : w.heap.size ≤ Ng := Nat.le_trans hU.size hNg
 clear hNg
 replace hU := zU hU hU.size hb
 clear hb
 refine sx_n (z9 [(86, z_f), (85, undef), (84, undef), (83, undef), (82, undef), (81, undef), (80, undef), (79, z_f), (78, z_f)] (ze (zif (wp_skip (block_normal (then_normal ?_))))))
 refine reg_lit (z2 [(29, .int .i64 20), (87, .int .i64 20)] (ze ?_))
 clear Bg Og Cg Lg Yg
 clear BD
 refine zk (z_R Na Nb Nx Nz NV z_f 20) (fun X => ?_)
 refine round_s (zs (z1 [(30, z_t)] (ze (wp_seq (zit ?_)))))
 refine wp_skip (then_normal (wp_seq (wp_block (zs (z1 [(31, pt NV 40)] (zw (r1_TV _ HC1.out) 20 (by decide) rfl rfl ?_))))))
 refine zm2 43 65 rfl rfl rfl ?_
 intro w87 ND BD hb
 replace BD := hide BD
 replace HC1 := zH HM1 HC1 hb
 replace hU := zU hU hU.size hb
 clear hb
 refine sx_n (z1 [(33, pt Nx 0)] (zl (q1_x _ HC1.out) rfl rfl (z2 [(9, .int .i64 ((lx.length : Nat))), (35, .int .i64 ((lx.length : Nat)))] (sx_n (zv (q1_a _ HC1.out) rfl rfl ?_)))))
 refine zc rfl ((vKnown_w true Aa la ca sa _ La.out Ca (p1_a w87 HC1.out) Ya.out HKa.out).mono ?_)
 rintro e w88 ⟨rfl, hb⟩
 refine ⟨_, rfl, ?_⟩
 replace HC1 := zH HM1 HC1 hb
 replace BD := zB BD hb
 replace hU := zU hU hU.size hb
 clear hb
 refine z2 [(39, z_f), (38, z_f)] (zv (q1_b _ HC1.out) rfl rfl ?_)
 refine zc rfl ((vKnown_w true Ab lb cb sb _ Lb.out Cb (p1_b w88 HC1.out) Yb.out HKb.out).mono ?_)
 rintro e w89 ⟨rfl, hb⟩
 refine ⟨_, rfl, ?_⟩
 replace HC1 := zH HM1 HC1 hb
 replace BD := zB BD hb
 replace hU := zU hU hU.size hb
 clear hb
 refine z3 [(10, z_f), (43, z_f), (42, z_f)] (ze (wp_seq (zs (z1 [(44, pt ND 0)] (zop BD.out rfl rfl ?_)))))
 refine ze (wp_block (wp_seq (zg 46 47 (zg 46 48 (zg 46 49 (zg 46 50 ?_))))))
 refine reg_lit (z2 [(46, z_f), (51, z_f)] (ze (zif (wp_seq (zg 52 53 (zg 52 54 ?_))))))
 refine zg 52 55 (reg_lit (z2 [(52, z_f), (56, z_f)] (ze (zif (zg 57 58 (wp_seq ?_))))))
 refine zg 62 63 (zg 62 64 (zt [(62, z_t), (65, z_t)] (wp_skip (then_normal (zit (region_R (n := 7) (N := 8) (by kernel_rfl) (by kernel_rfl) (by kernel_rfl) (by kernel_rfl) (by kernel_rfl) (by kernel_rfl) (fun _ _ _ _ _ h => hP _ _ _ _ _ h) ?_))))))
 intro F hQ
 have HC0 := HC1
 refine zav (i := 0) (m' := 1) (v := .pointer (some ⟨Nz, 0, none⟩)) F hQ rfl rfl (anyR_ldsl (i := 1) (m' := 3) (q1_z _ HC0.out) F hQ rfl rfl (by kernel_rfl) (by kernel_rfl) (by kernel_rfl) (by kernel_rfl) (by kernel_rfl) rfl (by kernel_rfl) (zav (i := 2) (m' := 7) (v := .int .i64 ((ly.length : Nat))) F hQ rfl rfl (anyR_ldvec (i := 3) (m' := 15) (q1_b _ HC0.out) F hQ rfl rfl (by kernel_rfl) (by kernel_rfl) (by kernel_rfl) (by kernel_rfl) (by kernel_rfl) rfl (by kernel_rfl) ?_)))
 refine zac (i := 4) (m' := 31) rfl rfl ((vKnown_w true Ab lb cb sb _ Lb.out Cb (by exact (p1_b w89 HC1.out)) Yb.out HKb.out).mono ?_)
 rintro e w90 ⟨rfl, hb⟩
 refine ⟨_, rfl, hb, ?_⟩
 replace hb : Below w89.heap.size w89 w90 := Below.trans ((Below.refl _ _).drew) hb
 replace HC1 := zH HM1 HC1 hb
 replace BD := zB BD hb
 replace hU := zU hU hU.size hb
 clear hb
 refine zav (i := 5) (m' := 63) (v := .bool false) F hQ rfl rfl (zav (i := 6) (m' := 127) (v := .int .i64 ((ly.length : Nat))) F hQ rfl rfl (anyR_e (anyR_last (i := 7) (m' := 255) (v := .bool false) rfl rfl (by kernel_rfl) (by kernel_rfl) (by kernel_rfl) (by kernel_rfl) (by kernel_rfl) (anyE_done (by kernel_rfl) ?_))))
 clear F hQ HC0
 refine block_normal (then_normal (zs (z1 [(73, pt ND 1)] (zfn BD.out rfl rfl (zv (q1_a _ HC1.out) rfl rfl (zv (q1_b _ HC1.out) rfl rfl ?_))))))
 refine zc rfl ((vAShl_any Aa Ab la lb ca cb sa sb _ La.out Lb.out Ca Cb (p1_a w90 HC1.out) (p1_b w90 HC1.out) Ya.out Yb.out).mono ?_)
 rintro e w91 ⟨lg, sg, Ag, cg, Eg, rfl, Cg, Og, hb⟩
 refine ⟨_, rfl, ?_⟩
 replace HC1 := zH HM1 HC1 hb
 replace BD := zB BD hb
 replace Og := hide Og.out.rd
 replace hU := zU hU hU.size hb
 clear hb
 have Gg := zGd Eg ((gdu_shf Ya.out gdm_shl))
 have Lg := zLe Gg
 have Yg := hide Gg.by_
 clear Gg
 refine zm (A := Ag) (m := lg.length) (c := cg) (s := sg) rfl rfl rfl ?_
 intro w92 Ng Bg hNg hb
 replace Bg := hide Bg
 replace HC1 := zH HM1 HC1 hb
 replace Og := zQ Og hb
 replace BD := zB BD hb
 have hzg : w.heap.size ≤ Ng := Nat.le_trans hU.size hNg
 clear hNg
 replace hU := zU hU hU.size hb
 clear hb
 refine sx_n (z9 [(86, z_f), (85, undef), (84, undef), (83, undef), (82, undef), (81, undef), (80, undef), (79, z_f), (78, z_f)] (ze (zif (wp_skip (block_normal (then_normal ?_))))))
 refine reg_lit (z2 [(29, .int .i64 21), (87, .int .i64 21)] (ze ?_))
 clear Bg Og Cg Lg Yg
 clear BD
 refine zk (z_R Na Nb Nx Nz NV z_f 21) (fun X => ?_)
 refine round_s (zs (z1 [(30, z_t)] (ze (wp_seq (zit ?_)))))
 refine wp_skip (then_normal (wp_seq (wp_block (zs (z1 [(31, pt NV 42)] (zw (r1_TV _ HC1.out) 21 (by decide) rfl rfl ?_))))))
 refine zm2 44 64 rfl rfl rfl ?_
 intro w93 ND BD hb
 replace BD := hide BD
 replace HC1 := zH HM1 HC1 hb
 replace hU := zU hU hU.size hb
 clear hb
 refine sx_n (z1 [(33, pt Nx 0)] (zl (q1_x _ HC1.out) rfl rfl (z2 [(9, .int .i64 ((lx.length : Nat))), (35, .int .i64 ((lx.length : Nat)))] (sx_n (zv (q1_a _ HC1.out) rfl rfl ?_)))))
 refine zc rfl ((vKnown_w true Aa la ca sa _ La.out Ca (p1_a w93 HC1.out) Ya.out HKa.out).mono ?_)
 rintro e w94 ⟨rfl, hb⟩
 refine ⟨_, rfl, ?_⟩
 replace HC1 := zH HM1 HC1 hb
 replace BD := zB BD hb
 replace hU := zU hU hU.size hb
 clear hb
 refine z2 [(39, z_f), (38, z_f)] (zv (q1_b _ HC1.out) rfl rfl ?_)
 refine zc rfl ((vKnown_w true Ab lb cb sb _ Lb.out Cb (p1_b w94 HC1.out) Yb.out HKb.out).mono ?_)
 rintro e w95 ⟨rfl, hb⟩
 refine ⟨_, rfl, ?_⟩
 replace HC1 := zH HM1 HC1 hb
 replace BD := zB BD hb
 replace hU := zU hU hU.size hb
 clear hb
 refine z3 [(10, z_f), (43, z_f), (42, z_f)] (ze (wp_seq (zs (z1 [(44, pt ND 0)] (zop BD.out rfl rfl ?_)))))
 refine ze (wp_block (wp_seq (zg 46 47 (zg 46 48 (zg 46 49 (zg 46 50 ?_))))))
 refine reg_lit (z2 [(46, z_f), (51, z_f)] (ze (zif (wp_seq (zg 52 53 (zg 52 54 ?_))))))
 refine zg 52 55 (reg_lit (z2 [(52, z_f), (56, z_f)] (ze (zif (zg 57 58 (wp_seq ?_))))))
 refine zg 62 63 (zg 62 64 (zg 62 65 (reg_lit (z2 [(62, z_t), (66, z_t)] (ze (zit ?_))))))
 refine region_R (n := 7) (N := 8) (by kernel_rfl) (by kernel_rfl) (by kernel_rfl) (by kernel_rfl) (by kernel_rfl) (by kernel_rfl) (fun _ _ _ _ _ h => hP _ _ _ _ _ h) ?_
 intro F hQ
 have HC0 := HC1
 refine zav (i := 0) (m' := 1) (v := .pointer (some ⟨Nz, 0, none⟩)) F hQ rfl rfl (anyR_ldsl (i := 1) (m' := 3) (q1_z _ HC0.out) F hQ rfl rfl (by kernel_rfl) (by kernel_rfl) (by kernel_rfl) (by kernel_rfl) (by kernel_rfl) rfl (by kernel_rfl) (zav (i := 2) (m' := 7) (v := .int .i64 ((ly.length : Nat))) F hQ rfl rfl (anyR_ldvec (i := 3) (m' := 15) (q1_b _ HC0.out) F hQ rfl rfl (by kernel_rfl) (by kernel_rfl) (by kernel_rfl) (by kernel_rfl) (by kernel_rfl) rfl (by kernel_rfl) ?_)))
 refine zac (i := 4) (m' := 31) rfl rfl ((vKnown_w true Ab lb cb sb _ Lb.out Cb (by exact (p1_b w95 HC1.out)) Yb.out HKb.out).mono ?_)
 rintro e w96 ⟨rfl, hb⟩
 refine ⟨_, rfl, hb, ?_⟩
 replace hb : Below w95.heap.size w95 w96 := Below.trans ((Below.refl _ _).drew) hb
 replace HC1 := zH HM1 HC1 hb
 replace BD := zB BD hb
 replace hU := zU hU hU.size hb
 clear hb
 refine zav (i := 5) (m' := 63) (v := .bool false) F hQ rfl rfl (zav (i := 6) (m' := 127) (v := .int .i64 ((ly.length : Nat))) F hQ rfl rfl (anyR_e (anyR_last (i := 7) (m' := 255) (v := .bool false) rfl rfl (by kernel_rfl) (by kernel_rfl) (by kernel_rfl) (by kernel_rfl) (by kernel_rfl) (anyE_done (by kernel_rfl) ?_))))
 clear F hQ HC0
 refine block_normal (then_normal (zs (z1 [(73, pt ND 1)] (zfn BD.out rfl rfl (zv (q1_a _ HC1.out) rfl rfl (zv (q1_b _ HC1.out) rfl rfl ?_))))))
 refine zc rfl ((vAShr_any Aa Ab la lb ca cb sa sb _ La.out Lb.out Ca Cb (p1_a w96 HC1.out) (p1_b w96 HC1.out) Ya.out Yb.out).mono ?_)
 rintro e w97 ⟨lg, sg, Ag, cg, Eg, rfl, Cg, Og, hb⟩
 refine ⟨_, rfl, ?_⟩
 replace HC1 := zH HM1 HC1 hb
 replace BD := zB BD hb
 replace Og := hide Og.out.rd
 replace hU := zU hU hU.size hb
 clear hb
 have Gg := zGd Eg ((gdu_shf Ya.out gdm_ashr))
 have Lg := zLe Gg
 have Yg := hide Gg.by_
 clear Gg
 refine zm (A := Ag) (m := lg.length) (c := cg) (s := sg) rfl rfl rfl ?_
 intro w98 Ng Bg hNg hb
 replace Bg := hide Bg
 replace HC1 := zH HM1 HC1 hb
 replace Og := zQ Og hb
 replace BD := zB BD hb
 have hzg : w.heap.size ≤ Ng := Nat.le_trans hU.size hNg
 clear hNg
 replace hU := zU hU hU.size hb
 clear hb
 refine sx_n (z9 [(86, z_f), (85, undef), (84, undef), (83, undef), (82, undef), (81, undef), (80, undef), (79, z_f), (78, z_f)] (ze (zif (wp_skip (block_normal (then_normal ?_))))))
 refine reg_lit (z2 [(29, .int .i64 22), (87, .int .i64 22)] (ze ?_))
 clear Bg Og Cg Lg Yg
 clear BD
 refine zk (z_R Na Nb Nx Nz NV z_f 22) (fun X => ?_)
 refine round_s (zs (z1 [(30, z_t)] (ze (wp_seq (zit ?_)))))
 refine wp_skip (then_normal (wp_seq (wp_block (zs (z1 [(31, pt NV 44)] (zw (r1_TV _ HC1.out) 22 (by decide) rfl rfl ?_))))))
 refine zm2 29 81 rfl rfl rfl ?_
 intro w99 ND BD hb
 replace BD := hide BD
 replace HC1 := zH HM1 HC1 hb
 replace hU := zU hU hU.size hb
 clear hb
 refine sx_n (z1 [(33, pt Nx 0)] (zl (q1_x _ HC1.out) rfl rfl (z2 [(9, .int .i64 ((lx.length : Nat))), (35, .int .i64 ((lx.length : Nat)))] (sx_n (zv (q1_a _ HC1.out) rfl rfl ?_)))))
 refine zc rfl ((vKnown_w true Aa la ca sa _ La.out Ca (p1_a w99 HC1.out) Ya.out HKa.out).mono ?_)
 rintro e w100 ⟨rfl, hb⟩
 refine ⟨_, rfl, ?_⟩
 replace HC1 := zH HM1 HC1 hb
 replace BD := zB BD hb
 replace hU := zU hU hU.size hb
 clear hb
 refine z2 [(39, z_f), (38, z_f)] (zv (q1_b _ HC1.out) rfl rfl ?_)
 refine zc rfl ((vKnown_w true Ab lb cb sb _ Lb.out Cb (p1_b w100 HC1.out) Yb.out HKb.out).mono ?_)
 rintro e w101 ⟨rfl, hb⟩
 refine ⟨_, rfl, ?_⟩
 replace HC1 := zH HM1 HC1 hb
 replace BD := zB BD hb
 replace hU := zU hU hU.size hb
 clear hb
 refine z3 [(10, z_f), (43, z_f), (42, z_f)] (ze (wp_seq (zs (z1 [(44, pt ND 0)] (zop BD.out rfl rfl ?_)))))
 refine ze (wp_block (wp_seq (zg 46 47 (zg 46 48 (zg 46 49 (zg 46 50 ?_))))))
 refine reg_lit (z2 [(46, z_f), (51, z_f)] (ze (zif (wp_seq (zg 52 53 (zg 52 54 ?_))))))
 refine zg 52 55 (reg_lit (z2 [(52, z_f), (56, z_f)] (ze (zif (zg 57 58 (wp_seq ?_))))))
 refine zg 62 63 (zg 62 64 (zg 62 65 (reg_lit (z2 [(62, z_f), (66, z_f)] (ze (zif ?_))))))
 refine wp_exit (exit_pass rfl (then_exit (exit_here (then_normal (reg_lit (z2 [(29, .int .i64 23), (87, .int .i64 23)] (wpl_end ?_)))))))
 refine then_normal ?_
 clear BD
 refine zk (z_R Na Nb Nx Nz NV z_f 23) (fun X => ?_)
 refine round_s (zs (z1 [(30, z_t)] (ze (wp_seq (zit ?_)))))
 refine wp_skip (then_normal (wp_seq (wp_block (zs (z1 [(31, pt NV 46)] (zw (r1_TV _ HC1.out) 23 (by decide) rfl rfl ?_))))))
 refine zm2 30 82 rfl rfl rfl ?_
 intro w102 ND BD hb
 replace BD := hide BD
 replace HC1 := zH HM1 HC1 hb
 replace hU := zU hU hU.size hb
 clear hb
 refine sx_n (z1 [(33, pt Nx 0)] (zl (q1_x _ HC1.out) rfl rfl (z2 [(9, .int .i64 ((lx.length : Nat))), (35, .int .i64 ((lx.length : Nat)))] (sx_n (zv (q1_a _ HC1.out) rfl rfl ?_)))))
 refine zc rfl ((vKnown_w true Aa la ca sa _ La.out Ca (p1_a w102 HC1.out) Ya.out HKa.out).mono ?_)
 rintro e w103 ⟨rfl, hb⟩
 refine ⟨_, rfl, ?_⟩
 replace HC1 := zH HM1 HC1 hb
 replace BD := zB BD hb
 replace hU := zU hU hU.size hb
 clear hb
 refine z2 [(39, z_f), (38, z_f)] (zv (q1_b _ HC1.out) rfl rfl ?_)
 refine zc rfl ((vKnown_w true Ab lb cb sb _ Lb.out Cb (p1_b w103 HC1.out) Yb.out HKb.out).mono ?_)
 rintro e w104 ⟨rfl, hb⟩
 refine ⟨_, rfl, ?_⟩
 replace HC1 := zH HM1 HC1 hb
 replace BD := zB BD hb
 replace hU := zU hU hU.size hb
 clear hb
 refine z3 [(10, z_f), (43, z_f), (42, z_f)] (ze (wp_seq (zs (z1 [(44, pt ND 0)] (zop BD.out rfl rfl ?_)))))
 refine ze (wp_block (wp_seq (zg 46 47 (zg 46 48 (zg 46 49 (zg 46 50 ?_))))))
 refine reg_lit (z2 [(46, z_f), (51, z_f)] (ze (zif (wp_seq (zg 52 53 (zg 52 54 ?_))))))
 refine zg 52 55 (reg_lit (z2 [(52, z_f), (56, z_f)] (ze (zif (zg 57 58 (wp_seq ?_))))))
 refine zg 62 63 (zg 62 64 (zg 62 65 (reg_lit (z2 [(62, z_f), (66, z_f)] (ze (zif ?_))))))
 refine wp_exit (exit_pass rfl (then_exit (exit_here (then_normal (reg_lit (z2 [(29, .int .i64 24), (87, .int .i64 24)] (wpl_end ?_)))))))
 refine then_normal ?_
 clear BD
 refine zk (z_R Na Nb Nx Nz NV z_f 24) (fun X => ?_)
 refine round_s (zs (z1 [(30, z_f)] (ze (wp_seq (zif ?_)))))
 refine wp_exit (then_exit (then_exit ?_))
 exact hX _ _ hU
set_option maxHeartbeats 64000000 in
theorem VecUnknown_short (Aa : Option Addr) (la : List Int) (ca : Nat) (sa : Bool) (Ab : Option Addr) (lb : List Int) (cb : Nat) (sb : Bool) (w : World) (ma : la.length ≤ maxLen) (ra : RQ w Aa la) (ya : By la) (pa : Hid (la.length ≤ ca ∧ ca ≤ maxLen)) (mb : lb.length ≤ maxLen) (rb : RQ w Ab lb) (yb : By lb) (pb : Hid (lb.length ≤ cb ∧ cb ≤ maxLen)) (tn : Tab1 2 mNot w) (tb : Tab1 5 mBuf w) (ta : Tab2 3 mAnd w) (tO : Tab2 0 mOr w) (tx : Tab2 4 mXor w) (tg : Tab2 1 mAgree w) (hs : Hid (∀ i (h : i < 2), [(Aa, la.length, ca, sa), (Ab, lb.length, cb, sb)][i].2.1 ≤ 140)) : Calls Tryz.prog 11 #[.agg #[.slice Aa la.length ca, .bool sa], .agg #[.slice Ab lb.length cb, .bool sb]] w (Mk (.bool true) w) := by
 have La : Hid (la.length ≤ 4096) := hide (Nat.le_trans (hs.out 0 (by decide)) (by decide))
 have Lb : Hid (lb.length ≤ 4096) := hide (Nat.le_trans (hs.out 1 (by decide)) (by decide))
 clear ma mb
 have Oa := hide ra
 have Ya := hide ya
 have Ca := pa
 have Ob := hide rb
 have Yb := hide yb
 have Cb := pb
 clear ra ya rb yb
 have HT := hide (show Tabs w from ⟨tn, tb, ta, tO, tx, tg⟩)
 clear tn tb ta tO tx tg
 have hU : Below w.heap.size w w := Below.refl _ _
 refine calls_sl (l := [.agg #[.slice Aa la.length ca, .bool sa], .agg #[.slice Ab lb.length cb, .bool sb]]) 88 Tryz.func11 rfl (by kernel_rfl) (by simp) (zs (wpl_boxvec (A := Aa) (m := la.length) (c := ca) (s := sa) rfl (by kernel_rfl) rfl (by kernel_rfl) ?_))
 intro w1 Na Ba hNa hb
 replace Ba := hide Ba
 replace Oa := zQ Oa hb
 replace Ob := zQ Ob hb
 have hza : w.heap.size ≤ Na := Nat.le_trans hU.size hNa
 clear hNa
 replace hU := zU hU hU.size hb
 clear hb
 refine wpl_boxvec (A := Ab) (m := lb.length) (c := cb) (s := sb) rfl (by kernel_rfl) rfl (by kernel_rfl) ?_
 intro w2 Nb Bb hNb hb
 replace Bb := hide Bb
 replace Oa := zQ Oa hb
 replace Ob := zQ Ob hb
 replace Ba := zX Ba hb
 have hzb : w.heap.size ≤ Nb := Nat.le_trans hU.size hNb
 clear hNb
 replace hU := zU hU hU.size hb
 clear hb
 refine z1 [(4, z_f)] (ze (wp_seq (wp_seq ?_)))
 obtain ⟨Pr1, HM1, HS1, HC1, p1_a, p1_b, q1_a, q1_b⟩ : ∃ Pr : World → Prop, (∀ w w', Pr w → Below w.heap.size w w' → Pr w') ∧ (∀ {N m c : Nat} {A : Option Addr} {s : Bool} {w V : World}, Std N A m c s w V → Na ≠ N → Nb ≠ N → Pr w → Pr V) ∧ Hid (Pr w2) ∧ (∀ W, Pr W → RQ W Aa la) ∧ (∀ W, Pr W → RQ W Ab lb) ∧ (∀ W, Pr W → Box Na Aa la.length ca sa W) ∧ (∀ W, Pr W → Box Nb Ab lb.length cb sb W) := ⟨fun W => RQ W Aa la ∧ RQ W Ab lb ∧ Box Na Aa la.length ca sa W ∧ Box Nb Ab lb.length cb sb W, fun _ _ h hb => ⟨RQ.below h.1 hb, RQ.below h.2.1 hb, Box.kept h.2.2.1 hb, Box.kept h.2.2.2 hb⟩, fun hst na nb h => ⟨hst.rq h.1, hst.rq h.2.1, hst.ne h.2.2.1 na, hst.ne h.2.2.2 nb⟩, hide ⟨Oa.out, Ob.out, Ba.out, Bb.out⟩, fun _ h => h.1, fun _ h => h.2.1, fun _ h => h.2.2.1, fun _ h => h.2.2.2⟩
 clear Oa Ob Ba Bb
 refine reg_lit (zv (q1_a _ HC1.out) rfl rfl (zv (q1_b _ HC1.out) rfl rfl (wpl_bsL2 rfl (by kernel_rfl) rfl (A0 := Aa) (m0 := la.length) (c0 := ca) (s0 := sa) (A1 := Ab) (m1 := lb.length) (c1 := cb) (s1 := sb) (by kernel_rfl) (by kernel_rfl) ?_)))
 intro w3 NV3 RV3 hb
 replace RV3 := hide RV3
 replace HC1 := zH HM1 HC1 hb
 replace hU := zU hU hU.size hb
 clear hb
 refine zc rfl ((vlong_no NV3 2 [(Aa, la.length, ca, sa), (Ab, lb.length, cb, sb)] _ (by simp) RV3.out hs.out).mono ?_)
 rintro e w' ⟨rfl, rfl⟩
 refine ⟨_, rfl, ?_⟩
 clear RV3
 refine z1 [(16, z_f)] ?_
 refine zc rfl ((vawake_any _ (HT.out.kept hU)).mono ?_)
 rintro e w4 ⟨rfl, hb⟩
 refine ⟨_, rfl, ?_⟩
 replace HC1 := zH HM1 HC1 hb
 replace hU := zU hU hU.size hb
 clear hb
 refine z2 [(19, z_f), (18, z_f)] (ze (zif (wp_skip (then_normal (wp_seq ?_)))))
 refine wp_cutK (α := (List Int × Bool × Option Addr × Nat) × (List Int × Bool × Option Addr × Nat) × (Nat) × (Nat)) (fun ((lx, sx, Ax, cx), (ly, sy, Ay, cy), Nx, Nz) => [(0, .agg #[.slice Aa la.length ca, .bool sa]), (1, .agg #[.slice Ab lb.length cb, .bool sb]), (2, pt Na 0), (3, pt Nb 0), (4, z_f), (12, .agg #[.slice Aa la.length ca, .bool sa]), (13, .agg #[.slice Ab lb.length cb, .bool sb]), (14, .slice (some ⟨NV3, 0, none⟩) 2 2), (15, z_f), (16, z_f), (17, z_t), (18, z_f), (19, z_f), (22, .agg #[.slice Aa la.length ca, .bool sa]), (23, .agg #[.slice Ab lb.length cb, .bool sb]), (25, .agg #[.slice Aa la.length ca, .bool sa]), (24, .agg #[.slice Ax lx.length cx, .bool sx]), (26, .agg #[.slice Ay ly.length cy, .bool sy]), (5, pt Nx 0), (6, pt Nz 0)]) (fun ((lx, sx, Ax, cx), (ly, sy, Ay, cy), Nx, Nz) W => Below w.heap.size w W ∧ Hid (Pr1 W) ∧ Hid ((⟨lx, sx⟩ : Vc) = ⟨blA ⟨la, sa⟩ ⟨lb, sb⟩, sg ⟨la, sa⟩ ⟨lb, sb⟩⟩) ∧ Hid (RQ W Ax lx) ∧ Hid (lx.length ≤ cx ∧ cx ≤ maxLen) ∧ Hid (lx.length ≤ 4096) ∧ Hid (By lx) ∧ Hid ((⟨ly, sy⟩ : Vc) = cnt ⟨la, sa⟩) ∧ Hid (RQ W Ay ly) ∧ Hid (ly.length ≤ cy ∧ cy ≤ maxLen) ∧ Hid (ly.length ≤ 4096) ∧ Hid (By ly) ∧ Hid (Box Nx Ax lx.length cx sx W) ∧ Hid (Box Nz Ay ly.length cy sy W) ∧ w.heap.size ≤ Nx ∧ w.heap.size ≤ Nz) ?_ ?_
 refine region_R (n := 8) (N := 10) (by kernel_rfl) (by kernel_rfl) (by kernel_rfl) (by kernel_rfl) (by kernel_rfl) (by kernel_rfl) (fun _ _ _ _ _ h => h) ?_
 intro F hQ
 have HC0 := HC1
 refine anyR_ldvec (i := 1) (m' := 2) (q1_a _ HC0.out) F hQ rfl rfl (by kernel_rfl) (by kernel_rfl) (by kernel_rfl) (by kernel_rfl) (by kernel_rfl) rfl (by kernel_rfl) (anyR_ldvec (i := 2) (m' := 6) (q1_b _ HC0.out) F hQ rfl rfl (by kernel_rfl) (by kernel_rfl) (by kernel_rfl) (by kernel_rfl) (by kernel_rfl) rfl (by kernel_rfl) (anyR_ldvec (i := 4) (m' := 22) (q1_a _ HC0.out) F hQ rfl rfl (by kernel_rfl) (by kernel_rfl) (by kernel_rfl) (by kernel_rfl) (by kernel_rfl) rfl (by kernel_rfl) ?_))
 refine anyR_split [0, 6, 7] (by kernel_rfl) rfl ⟨?_, ?_, ?_, trivial⟩
 refine stepR_call (i := 0) (m' := 23) rfl rfl (by kernel_rfl) (by kernel_rfl) (by kernel_rfl) (by kernel_rfl) ((vof_any ⟨#[49]⟩ _ (by decide)).mono ?_)
 rintro e w5 ⟨l1, s1, A1, c1, E1, rfl, C1, O1, hb⟩
 refine ⟨_, rfl, hb, ?_⟩
 replace hb : Below w4.heap.size w4 w5 := Below.trans ((Below.refl _ _).drew) hb
 replace HC1 := zH HM1 HC1 hb
 replace O1 := hide O1.out.rd
 replace hU := zU hU hU.size hb
 clear hb
 have G1 := zGd E1 (gd_of (by decide +kernel))
 have L1 := zLe G1
 have Y1 := hide G1.by_
 clear G1
 refine anyR_split [3, 6, 7] (by kernel_rfl) rfl ⟨?_, ?_, ?_, trivial⟩
 refine stepR_call (i := 3) (m' := 31) rfl rfl (by kernel_rfl) (by kernel_rfl) (by kernel_rfl) (by kernel_rfl) ((vCond_any A1 l1 c1 s1 Aa Ab la lb ca cb sa sb _ La.out Lb.out Ca Cb (p1_a w5 HC1.out) (p1_b w5 HC1.out) Ya.out Yb.out L1.out C1 O1.out Y1.out (HT.out.kept hU)).mono ?_)
 rintro e w6 ⟨lx, sx, Ax, cx, Ex, rfl, Cx, Ox, hb⟩
 refine ⟨_, rfl, hb, ?_⟩
 replace HC1 := zH HM1 HC1 hb
 replace O1 := zQ O1 hb
 replace Ox := hide Ox.out.rd
 replace hU := zU hU hU.size hb
 clear hb
 have Gx := zGd Ex ((by rw [E1.out, of_one, vCond_1]; exact gd_blA Ya.out Yb.out))
 have Lx := zLe Gx
 have Yx := hide Gx.by_
 clear Gx
 replace Ex := hide (show (⟨lx, sx⟩ : Vc) = ⟨blA ⟨la, sa⟩ ⟨lb, sb⟩, sg ⟨la, sa⟩ ⟨lb, sb⟩⟩ from Ex.out.trans (by rw [E1.out, of_one, vCond_1]))
 clear O1 C1 L1 Y1
 refine anyR_split [5, 6, 7] (by kernel_rfl) rfl ⟨?_, ?_, ?_, trivial⟩
 refine stepR_call (i := 5) (m' := 63) rfl rfl (by kernel_rfl) (by kernel_rfl) (by kernel_rfl) (by kernel_rfl) ((rnorm_any' Aa la ca sa _ La.out Ca (p1_a w6 HC1.out) Ya.out).mono ?_)
 rintro e w7 ⟨ly, sy, Ay, cy, Ey, rfl, Cy, Oy, hb⟩
 refine ⟨_, rfl, hb, ?_⟩
 replace HC1 := zH HM1 HC1 hb
 replace Ox := zQ Ox hb
 replace Oy := hide Oy.out.rd
 replace hU := zU hU hU.size hb
 clear hb
 have Gy := zGd Ey ((cnt_gd (v := ⟨la, sa⟩) Ya.out))
 have Ly := zLe Gy
 have Yy := hide Gy.by_
 clear Gy
 refine anyR_split [6, 7] (by kernel_rfl) rfl ⟨?_, ?_, trivial⟩
 refine stepR_al (i := 6) (m' := 127) rfl rfl (by kernel_rfl) (by kernel_rfl) (by kernel_rfl) rfl ?_
 intro w8 Nx Bx hNx hb
 replace Bx := hide Bx
 have neax : Na ≠ Nx := by have := (q1_a _ HC1.out).lt; omega
 have nebx : Nb ≠ Nx := by have := (q1_b _ HC1.out).lt; omega
 replace HC1 := zH HM1 HC1 hb
 replace Ox := zQ Ox hb
 replace Oy := zQ Oy hb
 have hzx : w.heap.size ≤ Nx := Nat.le_trans hU.size hNx
 clear hNx
 replace hU := zU hU hU.size hb
 clear hb
 refine anyR_split [7] (by kernel_rfl) rfl ⟨?_, trivial⟩
 refine stepR_al (i := 7) (m' := 255) rfl rfl (by kernel_rfl) (by kernel_rfl) (by kernel_rfl) rfl ?_
 intro w9 Nz Bz hNz hb
 replace Bz := hide Bz
 have neaz : Na ≠ Nz := by have := (q1_a _ HC1.out).lt; omega
 have nebz : Nb ≠ Nz := by have := (q1_b _ HC1.out).lt; omega
 have nexz : Nx ≠ Nz := by have := Bx.out.lt; omega
 replace HC1 := zH HM1 HC1 hb
 replace Ox := zQ Ox hb
 replace Oy := zQ Oy hb
 replace Bx := zX Bx hb
 have hzz : w.heap.size ≤ Nz := Nat.le_trans hU.size hNz
 clear hNz
 replace hU := zU hU hU.size hb
 clear hb
 refine anyR_e (anyE_st (i := 8) (m' := 511) Bx.out rfl rfl (by kernel_rfl) (by kernel_rfl) (by kernel_rfl) (by kernel_rfl) rfl (by kernel_rfl) (A2 := Ax) (m2 := lx.length) (c2 := cx) (s2 := sx) (by kernel_rfl) ?_)
 intro w10 hst
 replace Ox := hide (hst.rq Ox.out)
 replace Oy := hide (hst.rq Oy.out)
 replace HC1 := hide (HS1 hst neax nebx HC1.out)
 replace Bz := hide (hst.ne Bz.out (by first | exact nezx | exact (Ne.symm nexz) | assumption | (exact Ne.symm (by assumption)) | omega))
 replace Bx := hide hst.box
 replace hU := hU.trans (hst.bel hzx)
 clear hst
 refine anyE_st (i := 9) (m' := 1023) Bz.out rfl rfl (by kernel_rfl) (by kernel_rfl) (by kernel_rfl) (by kernel_rfl) rfl (by kernel_rfl) (A2 := Ay) (m2 := ly.length) (c2 := cy) (s2 := sy) (by kernel_rfl) ?_
 intro w11 hst
 replace Ox := hide (hst.rq Ox.out)
 replace Oy := hide (hst.rq Oy.out)
 replace HC1 := hide (HS1 hst neaz nebz HC1.out)
 replace Bx := hide (hst.ne Bx.out (by first | exact nexz | exact (Ne.symm nezx) | assumption | (exact Ne.symm (by assumption)) | omega))
 replace Bz := hide hst.box
 replace hU := hU.trans (hst.bel hzz)
 clear hst
 refine anyE_done (by kernel_rfl) ?_
 refine then_normal ⟨((lx, sx, Ax, cx), (ly, sy, Ay, cy), Nx, Nz), _, rfl, Kp_c (by kernel_rfl) (Kp_c (by kernel_rfl) (Kp_c (by kernel_rfl) (Kp_c (by kernel_rfl) (Kp_c (by kernel_rfl) (Kp_c (by kernel_rfl) (Kp_c (by kernel_rfl) (Kp_c (by kernel_rfl) (Kp_c (by kernel_rfl) (Kp_c (by kernel_rfl) (Kp_c (by kernel_rfl) (Kp_c (by kernel_rfl) (Kp_c (by kernel_rfl) (Kp_c (by kernel_rfl) (Kp_c (by kernel_rfl) (Kp_c (by kernel_rfl) (Kp_c (by kernel_rfl) (Kp_c (by kernel_rfl) (Kp_c (by kernel_rfl) (Kp_c (by kernel_rfl) (Kp_n)))))))))))))))))))), ?_⟩
 dsimp only
 exact ⟨hU, HC1, Ex, Ox, Cx, Lx, Yx, Ey, Oy, Cy, Ly, Yy, Bx, Bz, hzx, hzz⟩
 refine stepR_al (i := 7) (m' := 191) rfl rfl (by kernel_rfl) (by kernel_rfl) (by kernel_rfl) rfl ?_
 intro w12 Nz Bz hNz hb
 replace Bz := hide Bz
 have neaz : Na ≠ Nz := by have := (q1_a _ HC1.out).lt; omega
 have nebz : Nb ≠ Nz := by have := (q1_b _ HC1.out).lt; omega
 replace HC1 := zH HM1 HC1 hb
 replace Ox := zQ Ox hb
 replace Oy := zQ Oy hb
 have hzz : w.heap.size ≤ Nz := Nat.le_trans hU.size hNz
 clear hNz
 replace hU := zU hU hU.size hb
 clear hb
 refine anyR_split [6] (by kernel_rfl) rfl ⟨?_, trivial⟩
 refine stepR_al (i := 6) (m' := 255) rfl rfl (by kernel_rfl) (by kernel_rfl) (by kernel_rfl) rfl ?_
 intro w13 Nx Bx hNx hb
 replace Bx := hide Bx
 have neax : Na ≠ Nx := by have := (q1_a _ HC1.out).lt; omega
 have nebx : Nb ≠ Nx := by have := (q1_b _ HC1.out).lt; omega
 have nezx : Nz ≠ Nx := by have := Bz.out.lt; omega
 replace HC1 := zH HM1 HC1 hb
 replace Ox := zQ Ox hb
 replace Oy := zQ Oy hb
 replace Bz := zX Bz hb
 have hzx : w.heap.size ≤ Nx := Nat.le_trans hU.size hNx
 clear hNx
 replace hU := zU hU hU.size hb
 clear hb
 refine anyR_e (anyE_st (i := 8) (m' := 511) Bx.out rfl rfl (by kernel_rfl) (by kernel_rfl) (by kernel_rfl) (by kernel_rfl) rfl (by kernel_rfl) (A2 := Ax) (m2 := lx.length) (c2 := cx) (s2 := sx) (by kernel_rfl) ?_)
 intro w14 hst
 replace Ox := hide (hst.rq Ox.out)
 replace Oy := hide (hst.rq Oy.out)
 replace HC1 := hide (HS1 hst neax nebx HC1.out)
 replace Bz := hide (hst.ne Bz.out (by first | exact nezx | exact (Ne.symm nexz) | assumption | (exact Ne.symm (by assumption)) | omega))
 replace Bx := hide hst.box
 replace hU := hU.trans (hst.bel hzx)
 clear hst
 refine anyE_st (i := 9) (m' := 1023) Bz.out rfl rfl (by kernel_rfl) (by kernel_rfl) (by kernel_rfl) (by kernel_rfl) rfl (by kernel_rfl) (A2 := Ay) (m2 := ly.length) (c2 := cy) (s2 := sy) (by kernel_rfl) ?_
 intro w15 hst
 replace Ox := hide (hst.rq Ox.out)
 replace Oy := hide (hst.rq Oy.out)
 replace HC1 := hide (HS1 hst neaz nebz HC1.out)
 replace Bx := hide (hst.ne Bx.out (by first | exact nexz | exact (Ne.symm nezx) | assumption | (exact Ne.symm (by assumption)) | omega))
 replace Bz := hide hst.box
 replace hU := hU.trans (hst.bel hzz)
 clear hst
 refine anyE_done (by kernel_rfl) ?_
 refine then_normal ⟨((lx, sx, Ax, cx), (ly, sy, Ay, cy), Nx, Nz), _, rfl, Kp_c (by kernel_rfl) (Kp_c (by kernel_rfl) (Kp_c (by kernel_rfl) (Kp_c (by kernel_rfl) (Kp_c (by kernel_rfl) (Kp_c (by kernel_rfl) (Kp_c (by kernel_rfl) (Kp_c (by kernel_rfl) (Kp_c (by kernel_rfl) (Kp_c (by kernel_rfl) (Kp_c (by kernel_rfl) (Kp_c (by kernel_rfl) (Kp_c (by kernel_rfl) (Kp_c (by kernel_rfl) (Kp_c (by kernel_rfl) (Kp_c (by kernel_rfl) (Kp_c (by kernel_rfl) (Kp_c (by kernel_rfl) (Kp_c (by kernel_rfl) (Kp_c (by kernel_rfl) (Kp_n)))))))))))))))))))), ?_⟩
 dsimp only
 exact ⟨hU, HC1, Ex, Ox, Cx, Lx, Yx, Ey, Oy, Cy, Ly, Yy, Bx, Bz, hzx, hzz⟩
 refine stepR_al (i := 6) (m' := 95) rfl rfl (by kernel_rfl) (by kernel_rfl) (by kernel_rfl) rfl ?_
 intro w16 Nx Bx hNx hb
 replace Bx := hide Bx
 have neax : Na ≠ Nx := by have := (q1_a _ HC1.out).lt; omega
 have nebx : Nb ≠ Nx := by have := (q1_b _ HC1.out).lt; omega
 replace HC1 := zH HM1 HC1 hb
 replace Ox := zQ Ox hb
 have hzx : w.heap.size ≤ Nx := Nat.le_trans hU.size hNx
 clear hNx
 replace hU := zU hU hU.size hb
 clear hb
 refine anyR_split [5, 7] (by kernel_rfl) rfl ⟨?_, ?_, trivial⟩
 refine stepR_call (i := 5) (m' := 127) rfl rfl (by kernel_rfl) (by kernel_rfl) (by kernel_rfl) (by kernel_rfl) ((rnorm_any' Aa la ca sa _ La.out Ca (p1_a w16 HC1.out) Ya.out).mono ?_)
 rintro e w17 ⟨ly, sy, Ay, cy, Ey, rfl, Cy, Oy, hb⟩
 refine ⟨_, rfl, hb, ?_⟩
 replace HC1 := zH HM1 HC1 hb
 replace Ox := zQ Ox hb
 replace Bx := zX Bx hb
 replace Oy := hide Oy.out.rd
 replace hU := zU hU hU.size hb
 clear hb
 have Gy := zGd Ey ((cnt_gd (v := ⟨la, sa⟩) Ya.out))
 have Ly := zLe Gy
 have Yy := hide Gy.by_
 clear Gy
 refine anyR_split [7] (by kernel_rfl) rfl ⟨?_, trivial⟩
 refine stepR_al (i := 7) (m' := 255) rfl rfl (by kernel_rfl) (by kernel_rfl) (by kernel_rfl) rfl ?_
 intro w18 Nz Bz hNz hb
 replace Bz := hide Bz
 have neaz : Na ≠ Nz := by have := (q1_a _ HC1.out).lt; omega
 have nebz : Nb ≠ Nz := by have := (q1_b _ HC1.out).lt; omega
 have nexz : Nx ≠ Nz := by have := Bx.out.lt; omega
 replace HC1 := zH HM1 HC1 hb
 replace Ox := zQ Ox hb
 replace Oy := zQ Oy hb
 replace Bx := zX Bx hb
 have hzz : w.heap.size ≤ Nz := Nat.le_trans hU.size hNz
 clear hNz
 replace hU := zU hU hU.size hb
 clear hb
 refine anyR_e (anyE_st (i := 8) (m' := 511) Bx.out rfl rfl (by kernel_rfl) (by kernel_rfl) (by kernel_rfl) (by kernel_rfl) rfl (by kernel_rfl) (A2 := Ax) (m2 := lx.length) (c2 := cx) (s2 := sx) (by kernel_rfl) ?_)
 intro w19 hst
 replace Ox := hide (hst.rq Ox.out)
 replace Oy := hide (hst.rq Oy.out)
 replace HC1 := hide (HS1 hst neax nebx HC1.out)
 replace Bz := hide (hst.ne Bz.out (by first | exact nezx | exact (Ne.symm nexz) | assumption | (exact Ne.symm (by assumption)) | omega))
 replace Bx := hide hst.box
 replace hU := hU.trans (hst.bel hzx)
 clear hst
 refine anyE_st (i := 9) (m' := 1023) Bz.out rfl rfl (by kernel_rfl) (by kernel_rfl) (by kernel_rfl) (by kernel_rfl) rfl (by kernel_rfl) (A2 := Ay) (m2 := ly.length) (c2 := cy) (s2 := sy) (by kernel_rfl) ?_
 intro w20 hst
 replace Ox := hide (hst.rq Ox.out)
 replace Oy := hide (hst.rq Oy.out)
 replace HC1 := hide (HS1 hst neaz nebz HC1.out)
 replace Bx := hide (hst.ne Bx.out (by first | exact nexz | exact (Ne.symm nezx) | assumption | (exact Ne.symm (by assumption)) | omega))
 replace Bz := hide hst.box
 replace hU := hU.trans (hst.bel hzz)
 clear hst
 refine anyE_done (by kernel_rfl) ?_
 refine then_normal ⟨((lx, sx, Ax, cx), (ly, sy, Ay, cy), Nx, Nz), _, rfl, Kp_c (by kernel_rfl) (Kp_c (by kernel_rfl) (Kp_c (by kernel_rfl) (Kp_c (by kernel_rfl) (Kp_c (by kernel_rfl) (Kp_c (by kernel_rfl) (Kp_c (by kernel_rfl) (Kp_c (by kernel_rfl) (Kp_c (by kernel_rfl) (Kp_c (by kernel_rfl) (Kp_c (by kernel_rfl) (Kp_c (by kernel_rfl) (Kp_c (by kernel_rfl) (Kp_c (by kernel_rfl) (Kp_c (by kernel_rfl) (Kp_c (by kernel_rfl) (Kp_c (by kernel_rfl) (Kp_c (by kernel_rfl) (Kp_c (by kernel_rfl) (Kp_c (by kernel_rfl) (Kp_n)))))))))))))))))))), ?_⟩
 dsimp only
 exact ⟨hU, HC1, Ex, Ox, Cx, Lx, Yx, Ey, Oy, Cy, Ly, Yy, Bx, Bz, hzx, hzz⟩
 refine stepR_al (i := 7) (m' := 223) rfl rfl (by kernel_rfl) (by kernel_rfl) (by kernel_rfl) rfl ?_
 intro w21 Nz Bz hNz hb
 replace Bz := hide Bz
 have neaz : Na ≠ Nz := by have := (q1_a _ HC1.out).lt; omega
 have nebz : Nb ≠ Nz := by have := (q1_b _ HC1.out).lt; omega
 have nexz : Nx ≠ Nz := by have := Bx.out.lt; omega
 replace HC1 := zH HM1 HC1 hb
 replace Ox := zQ Ox hb
 replace Bx := zX Bx hb
 have hzz : w.heap.size ≤ Nz := Nat.le_trans hU.size hNz
 clear hNz
 replace hU := zU hU hU.size hb
 clear hb
 refine zac (i := 5) (m' := 255) rfl rfl ((rnorm_any' Aa la ca sa _ La.out Ca (p1_a w21 HC1.out) Ya.out).mono ?_)
 rintro e w22 ⟨ly, sy, Ay, cy, Ey, rfl, Cy, Oy, hb⟩
 refine ⟨_, rfl, hb, ?_⟩
 replace HC1 := zH HM1 HC1 hb
 replace Ox := zQ Ox hb
 replace Bx := zX Bx hb
 replace Bz := zX Bz hb
 replace Oy := hide Oy.out.rd
 replace hU := zU hU hU.size hb
 clear hb
 have Gy := zGd Ey ((cnt_gd (v := ⟨la, sa⟩) Ya.out))
 have Ly := zLe Gy
 have Yy := hide Gy.by_
 clear Gy
 refine anyR_e (anyE_st (i := 8) (m' := 511) Bx.out rfl rfl (by kernel_rfl) (by kernel_rfl) (by kernel_rfl) (by kernel_rfl) rfl (by kernel_rfl) (A2 := Ax) (m2 := lx.length) (c2 := cx) (s2 := sx) (by kernel_rfl) ?_)
 intro w23 hst
 replace Ox := hide (hst.rq Ox.out)
 replace Oy := hide (hst.rq Oy.out)
 replace HC1 := hide (HS1 hst neax nebx HC1.out)
 replace Bz := hide (hst.ne Bz.out (by first | exact nezx | exact (Ne.symm nexz) | assumption | (exact Ne.symm (by assumption)) | omega))
 replace Bx := hide hst.box
 replace hU := hU.trans (hst.bel hzx)
 clear hst
 refine anyE_st (i := 9) (m' := 1023) Bz.out rfl rfl (by kernel_rfl) (by kernel_rfl) (by kernel_rfl) (by kernel_rfl) rfl (by kernel_rfl) (A2 := Ay) (m2 := ly.length) (c2 := cy) (s2 := sy) (by kernel_rfl) ?_
 intro w24 hst
 replace Ox := hide (hst.rq Ox.out)
 replace Oy := hide (hst.rq Oy.out)
 replace HC1 := hide (HS1 hst neaz nebz HC1.out)
 replace Bx := hide (hst.ne Bx.out (by first | exact nexz | exact (Ne.symm nezx) | assumption | (exact Ne.symm (by assumption)) | omega))
 replace Bz := hide hst.box
 replace hU := hU.trans (hst.bel hzz)
 clear hst
 refine anyE_done (by kernel_rfl) ?_
 refine then_normal ⟨((lx, sx, Ax, cx), (ly, sy, Ay, cy), Nx, Nz), _, rfl, Kp_c (by kernel_rfl) (Kp_c (by kernel_rfl) (Kp_c (by kernel_rfl) (Kp_c (by kernel_rfl) (Kp_c (by kernel_rfl) (Kp_c (by kernel_rfl) (Kp_c (by kernel_rfl) (Kp_c (by kernel_rfl) (Kp_c (by kernel_rfl) (Kp_c (by kernel_rfl) (Kp_c (by kernel_rfl) (Kp_c (by kernel_rfl) (Kp_c (by kernel_rfl) (Kp_c (by kernel_rfl) (Kp_c (by kernel_rfl) (Kp_c (by kernel_rfl) (Kp_c (by kernel_rfl) (Kp_c (by kernel_rfl) (Kp_c (by kernel_rfl) (Kp_c (by kernel_rfl) (Kp_n)))))))))))))))))))), ?_⟩
 dsimp only
 exact ⟨hU, HC1, Ex, Ox, Cx, Lx, Yx, Ey, Oy, Cy, Ly, Yy, Bx, Bz, hzx, hzz⟩
 refine stepR_al (i := 7) (m' := 159) rfl rfl (by kernel_rfl) (by kernel_rfl) (by kernel_rfl) rfl ?_
 intro w25 Nz Bz hNz hb
 replace Bz := hide Bz
 have neaz : Na ≠ Nz := by have := (q1_a _ HC1.out).lt; omega
 have nebz : Nb ≠ Nz := by have := (q1_b _ HC1.out).lt; omega
 replace HC1 := zH HM1 HC1 hb
 replace Ox := zQ Ox hb
 have hzz : w.heap.size ≤ Nz := Nat.le_trans hU.size hNz
 clear hNz
 replace hU := zU hU hU.size hb
 clear hb
 refine anyR_split [5, 6] (by kernel_rfl) rfl ⟨?_, ?_, trivial⟩
 refine stepR_call (i := 5) (m' := 191) rfl rfl (by kernel_rfl) (by kernel_rfl) (by kernel_rfl) (by kernel_rfl) ((rnorm_any' Aa la ca sa _ La.out Ca (p1_a w25 HC1.out) Ya.out).mono ?_)
 rintro e w26 ⟨ly, sy, Ay, cy, Ey, rfl, Cy, Oy, hb⟩
 refine ⟨_, rfl, hb, ?_⟩
 replace HC1 := zH HM1 HC1 hb
 replace Ox := zQ Ox hb
 replace Bz := zX Bz hb
 replace Oy := hide Oy.out.rd
 replace hU := zU hU hU.size hb
 clear hb
 have Gy := zGd Ey ((cnt_gd (v := ⟨la, sa⟩) Ya.out))
 have Ly := zLe Gy
 have Yy := hide Gy.by_
 clear Gy
 refine anyR_split [6] (by kernel_rfl) rfl ⟨?_, trivial⟩
 refine stepR_al (i := 6) (m' := 255) rfl rfl (by kernel_rfl) (by kernel_rfl) (by kernel_rfl) rfl ?_
 intro w27 Nx Bx hNx hb
 replace Bx := hide Bx
 have neax : Na ≠ Nx := by have := (q1_a _ HC1.out).lt; omega
 have nebx : Nb ≠ Nx := by have := (q1_b _ HC1.out).lt; omega
 have nezx : Nz ≠ Nx := by have := Bz.out.lt; omega
 replace HC1 := zH HM1 HC1 hb
 replace Ox := zQ Ox hb
 replace Oy := zQ Oy hb
 replace Bz := zX Bz hb
 have hzx : w.heap.size ≤ Nx := Nat.le_trans hU.size hNx
 clear hNx
 replace hU := zU hU hU.size hb
 clear hb
 refine anyR_e (anyE_st (i := 8) (m' := 511) Bx.out rfl rfl (by kernel_rfl) (by kernel_rfl) (by kernel_rfl) (by kernel_rfl) rfl (by kernel_rfl) (A2 := Ax) (m2 := lx.length) (c2 := cx) (s2 := sx) (by kernel_rfl) ?_)
 intro w28 hst
 replace Ox := hide (hst.rq Ox.out)
 replace Oy := hide (hst.rq Oy.out)
 replace HC1 := hide (HS1 hst neax nebx HC1.out)
 replace Bz := hide (hst.ne Bz.out (by first | exact nezx | exact (Ne.symm nexz) | assumption | (exact Ne.symm (by assumption)) | omega))
 replace Bx := hide hst.box
 replace hU := hU.trans (hst.bel hzx)
 clear hst
 refine anyE_st (i := 9) (m' := 1023) Bz.out rfl rfl (by kernel_rfl) (by kernel_rfl) (by kernel_rfl) (by kernel_rfl) rfl (by kernel_rfl) (A2 := Ay) (m2 := ly.length) (c2 := cy) (s2 := sy) (by kernel_rfl) ?_
 intro w29 hst
 replace Ox := hide (hst.rq Ox.out)
 replace Oy := hide (hst.rq Oy.out)
 replace HC1 := hide (HS1 hst neaz nebz HC1.out)
 replace Bx := hide (hst.ne Bx.out (by first | exact nexz | exact (Ne.symm nezx) | assumption | (exact Ne.symm (by assumption)) | omega))
 replace Bz := hide hst.box
 replace hU := hU.trans (hst.bel hzz)
 clear hst
 refine anyE_done (by kernel_rfl) ?_
 refine then_normal ⟨((lx, sx, Ax, cx), (ly, sy, Ay, cy), Nx, Nz), _, rfl, Kp_c (by kernel_rfl) (Kp_c (by kernel_rfl) (Kp_c (by kernel_rfl) (Kp_c (by kernel_rfl) (Kp_c (by kernel_rfl) (Kp_c (by kernel_rfl) (Kp_c (by kernel_rfl) (Kp_c (by kernel_rfl) (Kp_c (by kernel_rfl) (Kp_c (by kernel_rfl) (Kp_c (by kernel_rfl) (Kp_c (by kernel_rfl) (Kp_c (by kernel_rfl) (Kp_c (by kernel_rfl) (Kp_c (by kernel_rfl) (Kp_c (by kernel_rfl) (Kp_c (by kernel_rfl) (Kp_c (by kernel_rfl) (Kp_c (by kernel_rfl) (Kp_c (by kernel_rfl) (Kp_n)))))))))))))))))))), ?_⟩
 dsimp only
 exact ⟨hU, HC1, Ex, Ox, Cx, Lx, Yx, Ey, Oy, Cy, Ly, Yy, Bx, Bz, hzx, hzz⟩
 refine stepR_al (i := 6) (m' := 223) rfl rfl (by kernel_rfl) (by kernel_rfl) (by kernel_rfl) rfl ?_
 intro w30 Nx Bx hNx hb
 replace Bx := hide Bx
 have neax : Na ≠ Nx := by have := (q1_a _ HC1.out).lt; omega
 have nebx : Nb ≠ Nx := by have := (q1_b _ HC1.out).lt; omega
 have nezx : Nz ≠ Nx := by have := Bz.out.lt; omega
 replace HC1 := zH HM1 HC1 hb
 replace Ox := zQ Ox hb
 replace Bz := zX Bz hb
 have hzx : w.heap.size ≤ Nx := Nat.le_trans hU.size hNx
 clear hNx
 replace hU := zU hU hU.size hb
 clear hb
 refine zac (i := 5) (m' := 255) rfl rfl ((rnorm_any' Aa la ca sa _ La.out Ca (p1_a w30 HC1.out) Ya.out).mono ?_)
 rintro e w31 ⟨ly, sy, Ay, cy, Ey, rfl, Cy, Oy, hb⟩
 refine ⟨_, rfl, hb, ?_⟩
 replace HC1 := zH HM1 HC1 hb
 replace Ox := zQ Ox hb
 replace Bz := zX Bz hb
 replace Bx := zX Bx hb
 replace Oy := hide Oy.out.rd
 replace hU := zU hU hU.size hb
 clear hb
 have Gy := zGd Ey ((cnt_gd (v := ⟨la, sa⟩) Ya.out))
 have Ly := zLe Gy
 have Yy := hide Gy.by_
 clear Gy
 refine anyR_e (anyE_st (i := 8) (m' := 511) Bx.out rfl rfl (by kernel_rfl) (by kernel_rfl) (by kernel_rfl) (by kernel_rfl) rfl (by kernel_rfl) (A2 := Ax) (m2 := lx.length) (c2 := cx) (s2 := sx) (by kernel_rfl) ?_)
 intro w32 hst
 replace Ox := hide (hst.rq Ox.out)
 replace Oy := hide (hst.rq Oy.out)
 replace HC1 := hide (HS1 hst neax nebx HC1.out)
 replace Bz := hide (hst.ne Bz.out (by first | exact nezx | exact (Ne.symm nexz) | assumption | (exact Ne.symm (by assumption)) | omega))
 replace Bx := hide hst.box
 replace hU := hU.trans (hst.bel hzx)
 clear hst
 refine anyE_st (i := 9) (m' := 1023) Bz.out rfl rfl (by kernel_rfl) (by kernel_rfl) (by kernel_rfl) (by kernel_rfl) rfl (by kernel_rfl) (A2 := Ay) (m2 := ly.length) (c2 := cy) (s2 := sy) (by kernel_rfl) ?_
 intro w33 hst
 replace Ox := hide (hst.rq Ox.out)
 replace Oy := hide (hst.rq Oy.out)
 replace HC1 := hide (HS1 hst neaz nebz HC1.out)
 replace Bx := hide (hst.ne Bx.out (by first | exact nexz | exact (Ne.symm nezx) | assumption | (exact Ne.symm (by assumption)) | omega))
 replace Bz := hide hst.box
 replace hU := hU.trans (hst.bel hzz)
 clear hst
 refine anyE_done (by kernel_rfl) ?_
 refine then_normal ⟨((lx, sx, Ax, cx), (ly, sy, Ay, cy), Nx, Nz), _, rfl, Kp_c (by kernel_rfl) (Kp_c (by kernel_rfl) (Kp_c (by kernel_rfl) (Kp_c (by kernel_rfl) (Kp_c (by kernel_rfl) (Kp_c (by kernel_rfl) (Kp_c (by kernel_rfl) (Kp_c (by kernel_rfl) (Kp_c (by kernel_rfl) (Kp_c (by kernel_rfl) (Kp_c (by kernel_rfl) (Kp_c (by kernel_rfl) (Kp_c (by kernel_rfl) (Kp_c (by kernel_rfl) (Kp_c (by kernel_rfl) (Kp_c (by kernel_rfl) (Kp_c (by kernel_rfl) (Kp_c (by kernel_rfl) (Kp_c (by kernel_rfl) (Kp_c (by kernel_rfl) (Kp_n)))))))))))))))))))), ?_⟩
 dsimp only
 exact ⟨hU, HC1, Ex, Ox, Cx, Lx, Yx, Ey, Oy, Cy, Ly, Yy, Bx, Bz, hzx, hzz⟩
 refine stepR_al (i := 6) (m' := 87) rfl rfl (by kernel_rfl) (by kernel_rfl) (by kernel_rfl) rfl ?_
 intro w34 Nx Bx hNx hb
 replace Bx := hide Bx
 have neax : Na ≠ Nx := by have := (q1_a _ HC1.out).lt; omega
 have nebx : Nb ≠ Nx := by have := (q1_b _ HC1.out).lt; omega
 replace HC1 := zH HM1 HC1 hb
 replace O1 := zQ O1 hb
 have hzx : w.heap.size ≤ Nx := Nat.le_trans hU.size hNx
 clear hNx
 replace hU := zU hU hU.size hb
 clear hb
 refine anyR_split [3, 7] (by kernel_rfl) rfl ⟨?_, ?_, trivial⟩
 refine stepR_call (i := 3) (m' := 95) rfl rfl (by kernel_rfl) (by kernel_rfl) (by kernel_rfl) (by kernel_rfl) ((vCond_any A1 l1 c1 s1 Aa Ab la lb ca cb sa sb _ La.out Lb.out Ca Cb (p1_a w34 HC1.out) (p1_b w34 HC1.out) Ya.out Yb.out L1.out C1 O1.out Y1.out (HT.out.kept hU)).mono ?_)
 rintro e w35 ⟨lx, sx, Ax, cx, Ex, rfl, Cx, Ox, hb⟩
 refine ⟨_, rfl, hb, ?_⟩
 replace HC1 := zH HM1 HC1 hb
 replace O1 := zQ O1 hb
 replace Bx := zX Bx hb
 replace Ox := hide Ox.out.rd
 replace hU := zU hU hU.size hb
 clear hb
 have Gx := zGd Ex ((by rw [E1.out, of_one, vCond_1]; exact gd_blA Ya.out Yb.out))
 have Lx := zLe Gx
 have Yx := hide Gx.by_
 clear Gx
 replace Ex := hide (show (⟨lx, sx⟩ : Vc) = ⟨blA ⟨la, sa⟩ ⟨lb, sb⟩, sg ⟨la, sa⟩ ⟨lb, sb⟩⟩ from Ex.out.trans (by rw [E1.out, of_one, vCond_1]))
 clear O1 C1 L1 Y1
 refine anyR_split [5, 7] (by kernel_rfl) rfl ⟨?_, ?_, trivial⟩
 refine stepR_call (i := 5) (m' := 127) rfl rfl (by kernel_rfl) (by kernel_rfl) (by kernel_rfl) (by kernel_rfl) ((rnorm_any' Aa la ca sa _ La.out Ca (p1_a w35 HC1.out) Ya.out).mono ?_)
 rintro e w36 ⟨ly, sy, Ay, cy, Ey, rfl, Cy, Oy, hb⟩
 refine ⟨_, rfl, hb, ?_⟩
 replace HC1 := zH HM1 HC1 hb
 replace Ox := zQ Ox hb
 replace Bx := zX Bx hb
 replace Oy := hide Oy.out.rd
 replace hU := zU hU hU.size hb
 clear hb
 have Gy := zGd Ey ((cnt_gd (v := ⟨la, sa⟩) Ya.out))
 have Ly := zLe Gy
 have Yy := hide Gy.by_
 clear Gy
 refine anyR_split [7] (by kernel_rfl) rfl ⟨?_, trivial⟩
 refine stepR_al (i := 7) (m' := 255) rfl rfl (by kernel_rfl) (by kernel_rfl) (by kernel_rfl) rfl ?_
 intro w37 Nz Bz hNz hb
 replace Bz := hide Bz
 have neaz : Na ≠ Nz := by have := (q1_a _ HC1.out).lt; omega
 have nebz : Nb ≠ Nz := by have := (q1_b _ HC1.out).lt; omega
 have nexz : Nx ≠ Nz := by have := Bx.out.lt; omega
 replace HC1 := zH HM1 HC1 hb
 replace Ox := zQ Ox hb
 replace Oy := zQ Oy hb
 replace Bx := zX Bx hb
 have hzz : w.heap.size ≤ Nz := Nat.le_trans hU.size hNz
 clear hNz
 replace hU := zU hU hU.size hb
 clear hb
 refine anyR_e (anyE_st (i := 8) (m' := 511) Bx.out rfl rfl (by kernel_rfl) (by kernel_rfl) (by kernel_rfl) (by kernel_rfl) rfl (by kernel_rfl) (A2 := Ax) (m2 := lx.length) (c2 := cx) (s2 := sx) (by kernel_rfl) ?_)
 intro w38 hst
 replace Ox := hide (hst.rq Ox.out)
 replace Oy := hide (hst.rq Oy.out)
 replace HC1 := hide (HS1 hst neax nebx HC1.out)
 replace Bz := hide (hst.ne Bz.out (by first | exact nezx | exact (Ne.symm nexz) | assumption | (exact Ne.symm (by assumption)) | omega))
 replace Bx := hide hst.box
 replace hU := hU.trans (hst.bel hzx)
 clear hst
 refine anyE_st (i := 9) (m' := 1023) Bz.out rfl rfl (by kernel_rfl) (by kernel_rfl) (by kernel_rfl) (by kernel_rfl) rfl (by kernel_rfl) (A2 := Ay) (m2 := ly.length) (c2 := cy) (s2 := sy) (by kernel_rfl) ?_
 intro w39 hst
 replace Ox := hide (hst.rq Ox.out)
 replace Oy := hide (hst.rq Oy.out)
 replace HC1 := hide (HS1 hst neaz nebz HC1.out)
 replace Bx := hide (hst.ne Bx.out (by first | exact nexz | exact (Ne.symm nezx) | assumption | (exact Ne.symm (by assumption)) | omega))
 replace Bz := hide hst.box
 replace hU := hU.trans (hst.bel hzz)
 clear hst
 refine anyE_done (by kernel_rfl) ?_
 refine then_normal ⟨((lx, sx, Ax, cx), (ly, sy, Ay, cy), Nx, Nz), _, rfl, Kp_c (by kernel_rfl) (Kp_c (by kernel_rfl) (Kp_c (by kernel_rfl) (Kp_c (by kernel_rfl) (Kp_c (by kernel_rfl) (Kp_c (by kernel_rfl) (Kp_c (by kernel_rfl) (Kp_c (by kernel_rfl) (Kp_c (by kernel_rfl) (Kp_c (by kernel_rfl) (Kp_c (by kernel_rfl) (Kp_c (by kernel_rfl) (Kp_c (by kernel_rfl) (Kp_c (by kernel_rfl) (Kp_c (by kernel_rfl) (Kp_c (by kernel_rfl) (Kp_c (by kernel_rfl) (Kp_c (by kernel_rfl) (Kp_c (by kernel_rfl) (Kp_c (by kernel_rfl) (Kp_n)))))))))))))))))))), ?_⟩
 dsimp only
 exact ⟨hU, HC1, Ex, Ox, Cx, Lx, Yx, Ey, Oy, Cy, Ly, Yy, Bx, Bz, hzx, hzz⟩
 refine stepR_al (i := 7) (m' := 223) rfl rfl (by kernel_rfl) (by kernel_rfl) (by kernel_rfl) rfl ?_
 intro w40 Nz Bz hNz hb
 replace Bz := hide Bz
 have neaz : Na ≠ Nz := by have := (q1_a _ HC1.out).lt; omega
 have nebz : Nb ≠ Nz := by have := (q1_b _ HC1.out).lt; omega
 have nexz : Nx ≠ Nz := by have := Bx.out.lt; omega
 replace HC1 := zH HM1 HC1 hb
 replace Ox := zQ Ox hb
 replace Bx := zX Bx hb
 have hzz : w.heap.size ≤ Nz := Nat.le_trans hU.size hNz
 clear hNz
 replace hU := zU hU hU.size hb
 clear hb
 refine zac (i := 5) (m' := 255) rfl rfl ((rnorm_any' Aa la ca sa _ La.out Ca (p1_a w40 HC1.out) Ya.out).mono ?_)
 rintro e w41 ⟨ly, sy, Ay, cy, Ey, rfl, Cy, Oy, hb⟩
 refine ⟨_, rfl, hb, ?_⟩
 replace HC1 := zH HM1 HC1 hb
 replace Ox := zQ Ox hb
 replace Bx := zX Bx hb
 replace Bz := zX Bz hb
 replace Oy := hide Oy.out.rd
 replace hU := zU hU hU.size hb
 clear hb
 have Gy := zGd Ey ((cnt_gd (v := ⟨la, sa⟩) Ya.out))
 have Ly := zLe Gy
 have Yy := hide Gy.by_
 clear Gy
 refine anyR_e (anyE_st (i := 8) (m' := 511) Bx.out rfl rfl (by kernel_rfl) (by kernel_rfl) (by kernel_rfl) (by kernel_rfl) rfl (by kernel_rfl) (A2 := Ax) (m2 := lx.length) (c2 := cx) (s2 := sx) (by kernel_rfl) ?_)
 intro w42 hst
 replace Ox := hide (hst.rq Ox.out)
 replace Oy := hide (hst.rq Oy.out)
 replace HC1 := hide (HS1 hst neax nebx HC1.out)
 replace Bz := hide (hst.ne Bz.out (by first | exact nezx | exact (Ne.symm nexz) | assumption | (exact Ne.symm (by assumption)) | omega))
 replace Bx := hide hst.box
 replace hU := hU.trans (hst.bel hzx)
 clear hst
 refine anyE_st (i := 9) (m' := 1023) Bz.out rfl rfl (by kernel_rfl) (by kernel_rfl) (by kernel_rfl) (by kernel_rfl) rfl (by kernel_rfl) (A2 := Ay) (m2 := ly.length) (c2 := cy) (s2 := sy) (by kernel_rfl) ?_
 intro w43 hst
 replace Ox := hide (hst.rq Ox.out)
 replace Oy := hide (hst.rq Oy.out)
 replace HC1 := hide (HS1 hst neaz nebz HC1.out)
 replace Bx := hide (hst.ne Bx.out (by first | exact nexz | exact (Ne.symm nezx) | assumption | (exact Ne.symm (by assumption)) | omega))
 replace Bz := hide hst.box
 replace hU := hU.trans (hst.bel hzz)
 clear hst
 refine anyE_done (by kernel_rfl) ?_
 refine then_normal ⟨((lx, sx, Ax, cx), (ly, sy, Ay, cy), Nx, Nz), _, rfl, Kp_c (by kernel_rfl) (Kp_c (by kernel_rfl) (Kp_c (by kernel_rfl) (Kp_c (by kernel_rfl) (Kp_c (by kernel_rfl) (Kp_c (by kernel_rfl) (Kp_c (by kernel_rfl) (Kp_c (by kernel_rfl) (Kp_c (by kernel_rfl) (Kp_c (by kernel_rfl) (Kp_c (by kernel_rfl) (Kp_c (by kernel_rfl) (Kp_c (by kernel_rfl) (Kp_c (by kernel_rfl) (Kp_c (by kernel_rfl) (Kp_c (by kernel_rfl) (Kp_c (by kernel_rfl) (Kp_c (by kernel_rfl) (Kp_c (by kernel_rfl) (Kp_c (by kernel_rfl) (Kp_n)))))))))))))))))))), ?_⟩
 dsimp only
 exact ⟨hU, HC1, Ex, Ox, Cx, Lx, Yx, Ey, Oy, Cy, Ly, Yy, Bx, Bz, hzx, hzz⟩
 refine stepR_al (i := 7) (m' := 215) rfl rfl (by kernel_rfl) (by kernel_rfl) (by kernel_rfl) rfl ?_
 intro w44 Nz Bz hNz hb
 replace Bz := hide Bz
 have neaz : Na ≠ Nz := by have := (q1_a _ HC1.out).lt; omega
 have nebz : Nb ≠ Nz := by have := (q1_b _ HC1.out).lt; omega
 have nexz : Nx ≠ Nz := by have := Bx.out.lt; omega
 replace HC1 := zH HM1 HC1 hb
 replace O1 := zQ O1 hb
 replace Bx := zX Bx hb
 have hzz : w.heap.size ≤ Nz := Nat.le_trans hU.size hNz
 clear hNz
 replace hU := zU hU hU.size hb
 clear hb
 refine zac (i := 3) (m' := 223) rfl rfl ((vCond_any A1 l1 c1 s1 Aa Ab la lb ca cb sa sb _ La.out Lb.out Ca Cb (p1_a w44 HC1.out) (p1_b w44 HC1.out) Ya.out Yb.out L1.out C1 O1.out Y1.out (HT.out.kept hU)).mono ?_)
 rintro e w45 ⟨lx, sx, Ax, cx, Ex, rfl, Cx, Ox, hb⟩
 refine ⟨_, rfl, hb, ?_⟩
 replace HC1 := zH HM1 HC1 hb
 replace O1 := zQ O1 hb
 replace Bx := zX Bx hb
 replace Bz := zX Bz hb
 replace Ox := hide Ox.out.rd
 replace hU := zU hU hU.size hb
 clear hb
 have Gx := zGd Ex ((by rw [E1.out, of_one, vCond_1]; exact gd_blA Ya.out Yb.out))
 have Lx := zLe Gx
 have Yx := hide Gx.by_
 clear Gx
 replace Ex := hide (show (⟨lx, sx⟩ : Vc) = ⟨blA ⟨la, sa⟩ ⟨lb, sb⟩, sg ⟨la, sa⟩ ⟨lb, sb⟩⟩ from Ex.out.trans (by rw [E1.out, of_one, vCond_1]))
 clear O1 C1 L1 Y1
 refine zac (i := 5) (m' := 255) rfl rfl ((rnorm_any' Aa la ca sa _ La.out Ca (p1_a w45 HC1.out) Ya.out).mono ?_)
 rintro e w46 ⟨ly, sy, Ay, cy, Ey, rfl, Cy, Oy, hb⟩
 refine ⟨_, rfl, hb, ?_⟩
 replace HC1 := zH HM1 HC1 hb
 replace Ox := zQ Ox hb
 replace Bx := zX Bx hb
 replace Bz := zX Bz hb
 replace Oy := hide Oy.out.rd
 replace hU := zU hU hU.size hb
 clear hb
 have Gy := zGd Ey ((cnt_gd (v := ⟨la, sa⟩) Ya.out))
 have Ly := zLe Gy
 have Yy := hide Gy.by_
 clear Gy
 refine anyR_e (anyE_st (i := 8) (m' := 511) Bx.out rfl rfl (by kernel_rfl) (by kernel_rfl) (by kernel_rfl) (by kernel_rfl) rfl (by kernel_rfl) (A2 := Ax) (m2 := lx.length) (c2 := cx) (s2 := sx) (by kernel_rfl) ?_)
 intro w47 hst
 replace Ox := hide (hst.rq Ox.out)
 replace Oy := hide (hst.rq Oy.out)
 replace HC1 := hide (HS1 hst neax nebx HC1.out)
 replace Bz := hide (hst.ne Bz.out (by first | exact nezx | exact (Ne.symm nexz) | assumption | (exact Ne.symm (by assumption)) | omega))
 replace Bx := hide hst.box
 replace hU := hU.trans (hst.bel hzx)
 clear hst
 refine anyE_st (i := 9) (m' := 1023) Bz.out rfl rfl (by kernel_rfl) (by kernel_rfl) (by kernel_rfl) (by kernel_rfl) rfl (by kernel_rfl) (A2 := Ay) (m2 := ly.length) (c2 := cy) (s2 := sy) (by kernel_rfl) ?_
 intro w48 hst
 replace Ox := hide (hst.rq Ox.out)
 replace Oy := hide (hst.rq Oy.out)
 replace HC1 := hide (HS1 hst neaz nebz HC1.out)
 replace Bx := hide (hst.ne Bx.out (by first | exact nexz | exact (Ne.symm nezx) | assumption | (exact Ne.symm (by assumption)) | omega))
 replace Bz := hide hst.box
 replace hU := hU.trans (hst.bel hzz)
 clear hst
 refine anyE_done (by kernel_rfl) ?_
 refine then_normal ⟨((lx, sx, Ax, cx), (ly, sy, Ay, cy), Nx, Nz), _, rfl, Kp_c (by kernel_rfl) (Kp_c (by kernel_rfl) (Kp_c (by kernel_rfl) (Kp_c (by kernel_rfl) (Kp_c (by kernel_rfl) (Kp_c (by kernel_rfl) (Kp_c (by kernel_rfl) (Kp_c (by kernel_rfl) (Kp_c (by kernel_rfl) (Kp_c (by kernel_rfl) (Kp_c (by kernel_rfl) (Kp_c (by kernel_rfl) (Kp_c (by kernel_rfl) (Kp_c (by kernel_rfl) (Kp_c (by kernel_rfl) (Kp_c (by kernel_rfl) (Kp_c (by kernel_rfl) (Kp_c (by kernel_rfl) (Kp_c (by kernel_rfl) (Kp_c (by kernel_rfl) (Kp_n)))))))))))))))))))), ?_⟩
 dsimp only
 exact ⟨hU, HC1, Ex, Ox, Cx, Lx, Yx, Ey, Oy, Cy, Ly, Yy, Bx, Bz, hzx, hzz⟩
 refine stepR_al (i := 7) (m' := 151) rfl rfl (by kernel_rfl) (by kernel_rfl) (by kernel_rfl) rfl ?_
 intro w49 Nz Bz hNz hb
 replace Bz := hide Bz
 have neaz : Na ≠ Nz := by have := (q1_a _ HC1.out).lt; omega
 have nebz : Nb ≠ Nz := by have := (q1_b _ HC1.out).lt; omega
 replace HC1 := zH HM1 HC1 hb
 replace O1 := zQ O1 hb
 have hzz : w.heap.size ≤ Nz := Nat.le_trans hU.size hNz
 clear hNz
 replace hU := zU hU hU.size hb
 clear hb
 refine anyR_split [3, 6] (by kernel_rfl) rfl ⟨?_, ?_, trivial⟩
 refine stepR_call (i := 3) (m' := 159) rfl rfl (by kernel_rfl) (by kernel_rfl) (by kernel_rfl) (by kernel_rfl) ((vCond_any A1 l1 c1 s1 Aa Ab la lb ca cb sa sb _ La.out Lb.out Ca Cb (p1_a w49 HC1.out) (p1_b w49 HC1.out) Ya.out Yb.out L1.out C1 O1.out Y1.out (HT.out.kept hU)).mono ?_)
 rintro e w50 ⟨lx, sx, Ax, cx, Ex, rfl, Cx, Ox, hb⟩
 refine ⟨_, rfl, hb, ?_⟩
 replace HC1 := zH HM1 HC1 hb
 replace O1 := zQ O1 hb
 replace Bz := zX Bz hb
 replace Ox := hide Ox.out.rd
 replace hU := zU hU hU.size hb
 clear hb
 have Gx := zGd Ex ((by rw [E1.out, of_one, vCond_1]; exact gd_blA Ya.out Yb.out))
 have Lx := zLe Gx
 have Yx := hide Gx.by_
 clear Gx
 replace Ex := hide (show (⟨lx, sx⟩ : Vc) = ⟨blA ⟨la, sa⟩ ⟨lb, sb⟩, sg ⟨la, sa⟩ ⟨lb, sb⟩⟩ from Ex.out.trans (by rw [E1.out, of_one, vCond_1]))
 clear O1 C1 L1 Y1
 refine anyR_split [5, 6] (by kernel_rfl) rfl ⟨?_, ?_, trivial⟩
 refine stepR_call (i := 5) (m' := 191) rfl rfl (by kernel_rfl) (by kernel_rfl) (by kernel_rfl) (by kernel_rfl) ((rnorm_any' Aa la ca sa _ La.out Ca (p1_a w50 HC1.out) Ya.out).mono ?_)
 rintro e w51 ⟨ly, sy, Ay, cy, Ey, rfl, Cy, Oy, hb⟩
 refine ⟨_, rfl, hb, ?_⟩
 replace HC1 := zH HM1 HC1 hb
 replace Ox := zQ Ox hb
 replace Bz := zX Bz hb
 replace Oy := hide Oy.out.rd
 replace hU := zU hU hU.size hb
 clear hb
 have Gy := zGd Ey ((cnt_gd (v := ⟨la, sa⟩) Ya.out))
 have Ly := zLe Gy
 have Yy := hide Gy.by_
 clear Gy
 refine anyR_split [6] (by kernel_rfl) rfl ⟨?_, trivial⟩
 refine stepR_al (i := 6) (m' := 255) rfl rfl (by kernel_rfl) (by kernel_rfl) (by kernel_rfl) rfl ?_
 intro w52 Nx Bx hNx hb
 replace Bx := hide Bx
 have neax : Na ≠ Nx := by have := (q1_a _ HC1.out).lt; omega
 have nebx : Nb ≠ Nx := by have := (q1_b _ HC1.out).lt; omega
 have nezx : Nz ≠ Nx := by have := Bz.out.lt; omega
 replace HC1 := zH HM1 HC1 hb
 replace Ox := zQ Ox hb
 replace Oy := zQ Oy hb
 replace Bz := zX Bz hb
 have hzx : w.heap.size ≤ Nx := Nat.le_trans hU.size hNx
 clear hNx
 replace hU := zU hU hU.size hb
 clear hb
 refine anyR_e (anyE_st (i := 8) (m' := 511) Bx.out rfl rfl (by kernel_rfl) (by kernel_rfl) (by kernel_rfl) (by kernel_rfl) rfl (by kernel_rfl) (A2 := Ax) (m2 := lx.length) (c2 := cx) (s2 := sx) (by kernel_rfl) ?_)
 intro w53 hst
 replace Ox := hide (hst.rq Ox.out)
 replace Oy := hide (hst.rq Oy.out)
 replace HC1 := hide (HS1 hst neax nebx HC1.out)
 replace Bz := hide (hst.ne Bz.out (by first | exact nezx | exact (Ne.symm nexz) | assumption | (exact Ne.symm (by assumption)) | omega))
 replace Bx := hide hst.box
 replace hU := hU.trans (hst.bel hzx)
 clear hst
 refine anyE_st (i := 9) (m' := 1023) Bz.out rfl rfl (by kernel_rfl) (by kernel_rfl) (by kernel_rfl) (by kernel_rfl) rfl (by kernel_rfl) (A2 := Ay) (m2 := ly.length) (c2 := cy) (s2 := sy) (by kernel_rfl) ?_
 intro w54 hst
 replace Ox := hide (hst.rq Ox.out)
 replace Oy := hide (hst.rq Oy.out)
 replace HC1 := hide (HS1 hst neaz nebz HC1.out)
 replace Bx := hide (hst.ne Bx.out (by first | exact nexz | exact (Ne.symm nezx) | assumption | (exact Ne.symm (by assumption)) | omega))
 replace Bz := hide hst.box
 replace hU := hU.trans (hst.bel hzz)
 clear hst
 refine anyE_done (by kernel_rfl) ?_
 refine then_normal ⟨((lx, sx, Ax, cx), (ly, sy, Ay, cy), Nx, Nz), _, rfl, Kp_c (by kernel_rfl) (Kp_c (by kernel_rfl) (Kp_c (by kernel_rfl) (Kp_c (by kernel_rfl) (Kp_c (by kernel_rfl) (Kp_c (by kernel_rfl) (Kp_c (by kernel_rfl) (Kp_c (by kernel_rfl) (Kp_c (by kernel_rfl) (Kp_c (by kernel_rfl) (Kp_c (by kernel_rfl) (Kp_c (by kernel_rfl) (Kp_c (by kernel_rfl) (Kp_c (by kernel_rfl) (Kp_c (by kernel_rfl) (Kp_c (by kernel_rfl) (Kp_c (by kernel_rfl) (Kp_c (by kernel_rfl) (Kp_c (by kernel_rfl) (Kp_c (by kernel_rfl) (Kp_n)))))))))))))))))))), ?_⟩
 dsimp only
 exact ⟨hU, HC1, Ex, Ox, Cx, Lx, Yx, Ey, Oy, Cy, Ly, Yy, Bx, Bz, hzx, hzz⟩
 refine stepR_al (i := 6) (m' := 223) rfl rfl (by kernel_rfl) (by kernel_rfl) (by kernel_rfl) rfl ?_
 intro w55 Nx Bx hNx hb
 replace Bx := hide Bx
 have neax : Na ≠ Nx := by have := (q1_a _ HC1.out).lt; omega
 have nebx : Nb ≠ Nx := by have := (q1_b _ HC1.out).lt; omega
 have nezx : Nz ≠ Nx := by have := Bz.out.lt; omega
 replace HC1 := zH HM1 HC1 hb
 replace Ox := zQ Ox hb
 replace Bz := zX Bz hb
 have hzx : w.heap.size ≤ Nx := Nat.le_trans hU.size hNx
 clear hNx
 replace hU := zU hU hU.size hb
 clear hb
 refine zac (i := 5) (m' := 255) rfl rfl ((rnorm_any' Aa la ca sa _ La.out Ca (p1_a w55 HC1.out) Ya.out).mono ?_)
 rintro e w56 ⟨ly, sy, Ay, cy, Ey, rfl, Cy, Oy, hb⟩
 refine ⟨_, rfl, hb, ?_⟩
 replace HC1 := zH HM1 HC1 hb
 replace Ox := zQ Ox hb
 replace Bz := zX Bz hb
 replace Bx := zX Bx hb
 replace Oy := hide Oy.out.rd
 replace hU := zU hU hU.size hb
 clear hb
 have Gy := zGd Ey ((cnt_gd (v := ⟨la, sa⟩) Ya.out))
 have Ly := zLe Gy
 have Yy := hide Gy.by_
 clear Gy
 refine anyR_e (anyE_st (i := 8) (m' := 511) Bx.out rfl rfl (by kernel_rfl) (by kernel_rfl) (by kernel_rfl) (by kernel_rfl) rfl (by kernel_rfl) (A2 := Ax) (m2 := lx.length) (c2 := cx) (s2 := sx) (by kernel_rfl) ?_)
 intro w57 hst
 replace Ox := hide (hst.rq Ox.out)
 replace Oy := hide (hst.rq Oy.out)
 replace HC1 := hide (HS1 hst neax nebx HC1.out)
 replace Bz := hide (hst.ne Bz.out (by first | exact nezx | exact (Ne.symm nexz) | assumption | (exact Ne.symm (by assumption)) | omega))
 replace Bx := hide hst.box
 replace hU := hU.trans (hst.bel hzx)
 clear hst
 refine anyE_st (i := 9) (m' := 1023) Bz.out rfl rfl (by kernel_rfl) (by kernel_rfl) (by kernel_rfl) (by kernel_rfl) rfl (by kernel_rfl) (A2 := Ay) (m2 := ly.length) (c2 := cy) (s2 := sy) (by kernel_rfl) ?_
 intro w58 hst
 replace Ox := hide (hst.rq Ox.out)
 replace Oy := hide (hst.rq Oy.out)
 replace HC1 := hide (HS1 hst neaz nebz HC1.out)
 replace Bx := hide (hst.ne Bx.out (by first | exact nexz | exact (Ne.symm nezx) | assumption | (exact Ne.symm (by assumption)) | omega))
 replace Bz := hide hst.box
 replace hU := hU.trans (hst.bel hzz)
 clear hst
 refine anyE_done (by kernel_rfl) ?_
 refine then_normal ⟨((lx, sx, Ax, cx), (ly, sy, Ay, cy), Nx, Nz), _, rfl, Kp_c (by kernel_rfl) (Kp_c (by kernel_rfl) (Kp_c (by kernel_rfl) (Kp_c (by kernel_rfl) (Kp_c (by kernel_rfl) (Kp_c (by kernel_rfl) (Kp_c (by kernel_rfl) (Kp_c (by kernel_rfl) (Kp_c (by kernel_rfl) (Kp_c (by kernel_rfl) (Kp_c (by kernel_rfl) (Kp_c (by kernel_rfl) (Kp_c (by kernel_rfl) (Kp_c (by kernel_rfl) (Kp_c (by kernel_rfl) (Kp_c (by kernel_rfl) (Kp_c (by kernel_rfl) (Kp_c (by kernel_rfl) (Kp_c (by kernel_rfl) (Kp_c (by kernel_rfl) (Kp_n)))))))))))))))))))), ?_⟩
 dsimp only
 exact ⟨hU, HC1, Ex, Ox, Cx, Lx, Yx, Ey, Oy, Cy, Ly, Yy, Bx, Bz, hzx, hzz⟩
 refine stepR_al (i := 6) (m' := 215) rfl rfl (by kernel_rfl) (by kernel_rfl) (by kernel_rfl) rfl ?_
 intro w59 Nx Bx hNx hb
 replace Bx := hide Bx
 have neax : Na ≠ Nx := by have := (q1_a _ HC1.out).lt; omega
 have nebx : Nb ≠ Nx := by have := (q1_b _ HC1.out).lt; omega
 have nezx : Nz ≠ Nx := by have := Bz.out.lt; omega
 replace HC1 := zH HM1 HC1 hb
 replace O1 := zQ O1 hb
 replace Bz := zX Bz hb
 have hzx : w.heap.size ≤ Nx := Nat.le_trans hU.size hNx
 clear hNx
 replace hU := zU hU hU.size hb
 clear hb
 refine zac (i := 3) (m' := 223) rfl rfl ((vCond_any A1 l1 c1 s1 Aa Ab la lb ca cb sa sb _ La.out Lb.out Ca Cb (p1_a w59 HC1.out) (p1_b w59 HC1.out) Ya.out Yb.out L1.out C1 O1.out Y1.out (HT.out.kept hU)).mono ?_)
 rintro e w60 ⟨lx, sx, Ax, cx, Ex, rfl, Cx, Ox, hb⟩
 refine ⟨_, rfl, hb, ?_⟩
 replace HC1 := zH HM1 HC1 hb
 replace O1 := zQ O1 hb
 replace Bz := zX Bz hb
 replace Bx := zX Bx hb
 replace Ox := hide Ox.out.rd
 replace hU := zU hU hU.size hb
 clear hb
 have Gx := zGd Ex ((by rw [E1.out, of_one, vCond_1]; exact gd_blA Ya.out Yb.out))
 have Lx := zLe Gx
 have Yx := hide Gx.by_
 clear Gx
 replace Ex := hide (show (⟨lx, sx⟩ : Vc) = ⟨blA ⟨la, sa⟩ ⟨lb, sb⟩, sg ⟨la, sa⟩ ⟨lb, sb⟩⟩ from Ex.out.trans (by rw [E1.out, of_one, vCond_1]))
 clear O1 C1 L1 Y1
 refine zac (i := 5) (m' := 255) rfl rfl ((rnorm_any' Aa la ca sa _ La.out Ca (p1_a w60 HC1.out) Ya.out).mono ?_)
 rintro e w61 ⟨ly, sy, Ay, cy, Ey, rfl, Cy, Oy, hb⟩
 refine ⟨_, rfl, hb, ?_⟩
 replace HC1 := zH HM1 HC1 hb
 replace Ox := zQ Ox hb
 replace Bz := zX Bz hb
 replace Bx := zX Bx hb
 replace Oy := hide Oy.out.rd
 replace hU := zU hU hU.size hb
 clear hb
 have Gy := zGd Ey ((cnt_gd (v := ⟨la, sa⟩) Ya.out))
 have Ly := zLe Gy
 have Yy := hide Gy.by_
 clear Gy
 refine anyR_e (anyE_st (i := 8) (m' := 511) Bx.out rfl rfl (by kernel_rfl) (by kernel_rfl) (by kernel_rfl) (by kernel_rfl) rfl (by kernel_rfl) (A2 := Ax) (m2 := lx.length) (c2 := cx) (s2 := sx) (by kernel_rfl) ?_)
 intro w62 hst
 replace Ox := hide (hst.rq Ox.out)
 replace Oy := hide (hst.rq Oy.out)
 replace HC1 := hide (HS1 hst neax nebx HC1.out)
 replace Bz := hide (hst.ne Bz.out (by first | exact nezx | exact (Ne.symm nexz) | assumption | (exact Ne.symm (by assumption)) | omega))
 replace Bx := hide hst.box
 replace hU := hU.trans (hst.bel hzx)
 clear hst
 refine anyE_st (i := 9) (m' := 1023) Bz.out rfl rfl (by kernel_rfl) (by kernel_rfl) (by kernel_rfl) (by kernel_rfl) rfl (by kernel_rfl) (A2 := Ay) (m2 := ly.length) (c2 := cy) (s2 := sy) (by kernel_rfl) ?_
 intro w63 hst
 replace Ox := hide (hst.rq Ox.out)
 replace Oy := hide (hst.rq Oy.out)
 replace HC1 := hide (HS1 hst neaz nebz HC1.out)
 replace Bx := hide (hst.ne Bx.out (by first | exact nexz | exact (Ne.symm nezx) | assumption | (exact Ne.symm (by assumption)) | omega))
 replace Bz := hide hst.box
 replace hU := hU.trans (hst.bel hzz)
 clear hst
 refine anyE_done (by kernel_rfl) ?_
 refine then_normal ⟨((lx, sx, Ax, cx), (ly, sy, Ay, cy), Nx, Nz), _, rfl, Kp_c (by kernel_rfl) (Kp_c (by kernel_rfl) (Kp_c (by kernel_rfl) (Kp_c (by kernel_rfl) (Kp_c (by kernel_rfl) (Kp_c (by kernel_rfl) (Kp_c (by kernel_rfl) (Kp_c (by kernel_rfl) (Kp_c (by kernel_rfl) (Kp_c (by kernel_rfl) (Kp_c (by kernel_rfl) (Kp_c (by kernel_rfl) (Kp_c (by kernel_rfl) (Kp_c (by kernel_rfl) (Kp_c (by kernel_rfl) (Kp_c (by kernel_rfl) (Kp_c (by kernel_rfl) (Kp_c (by kernel_rfl) (Kp_c (by kernel_rfl) (Kp_c (by kernel_rfl) (Kp_n)))))))))))))))))))), ?_⟩
 dsimp only
 exact ⟨hU, HC1, Ex, Ox, Cx, Lx, Yx, Ey, Oy, Cy, Ly, Yy, Bx, Bz, hzx, hzz⟩
 refine stepR_al (i := 6) (m' := 86) rfl rfl (by kernel_rfl) (by kernel_rfl) (by kernel_rfl) rfl ?_
 intro w64 Nx Bx hNx hb
 replace Bx := hide Bx
 replace hb : Below w4.heap.size w4 w64 := Below.trans ((Below.refl _ _).drew) hb
 replace hNx : w4.heap.size ≤ Nx := hNx
 have neax : Na ≠ Nx := by have := (q1_a _ HC1.out).lt; omega
 have nebx : Nb ≠ Nx := by have := (q1_b _ HC1.out).lt; omega
 replace HC1 := zH HM1 HC1 hb
 have hzx : w.heap.size ≤ Nx := Nat.le_trans hU.size hNx
 clear hNx
 replace hU := zU hU hU.size hb
 clear hb
 refine anyR_split [0, 7] (by kernel_rfl) rfl ⟨?_, ?_, trivial⟩
 refine stepR_call (i := 0) (m' := 87) rfl rfl (by kernel_rfl) (by kernel_rfl) (by kernel_rfl) (by kernel_rfl) ((vof_any ⟨#[49]⟩ _ (by decide)).mono ?_)
 rintro e w65 ⟨l1, s1, A1, c1, E1, rfl, C1, O1, hb⟩
 refine ⟨_, rfl, hb, ?_⟩
 replace HC1 := zH HM1 HC1 hb
 replace Bx := zX Bx hb
 replace O1 := hide O1.out.rd
 replace hU := zU hU hU.size hb
 clear hb
 have G1 := zGd E1 (gd_of (by decide +kernel))
 have L1 := zLe G1
 have Y1 := hide G1.by_
 clear G1
 refine anyR_split [3, 7] (by kernel_rfl) rfl ⟨?_, ?_, trivial⟩
 refine stepR_call (i := 3) (m' := 95) rfl rfl (by kernel_rfl) (by kernel_rfl) (by kernel_rfl) (by kernel_rfl) ((vCond_any A1 l1 c1 s1 Aa Ab la lb ca cb sa sb _ La.out Lb.out Ca Cb (p1_a w65 HC1.out) (p1_b w65 HC1.out) Ya.out Yb.out L1.out C1 O1.out Y1.out (HT.out.kept hU)).mono ?_)
 rintro e w66 ⟨lx, sx, Ax, cx, Ex, rfl, Cx, Ox, hb⟩
 refine ⟨_, rfl, hb, ?_⟩
 replace HC1 := zH HM1 HC1 hb
 replace O1 := zQ O1 hb
 replace Bx := zX Bx hb
 replace Ox := hide Ox.out.rd
 replace hU := zU hU hU.size hb
 clear hb
 have Gx := zGd Ex ((by rw [E1.out, of_one, vCond_1]; exact gd_blA Ya.out Yb.out))
 have Lx := zLe Gx
 have Yx := hide Gx.by_
 clear Gx
 replace Ex := hide (show (⟨lx, sx⟩ : Vc) = ⟨blA ⟨la, sa⟩ ⟨lb, sb⟩, sg ⟨la, sa⟩ ⟨lb, sb⟩⟩ from Ex.out.trans (by rw [E1.out, of_one, vCond_1]))
 clear O1 C1 L1 Y1
 refine anyR_split [5, 7] (by kernel_rfl) rfl ⟨?_, ?_, trivial⟩
 refine stepR_call (i := 5) (m' := 127) rfl rfl (by kernel_rfl) (by kernel_rfl) (by kernel_rfl) (by kernel_rfl) ((rnorm_any' Aa la ca sa _ La.out Ca (p1_a w66 HC1.out) Ya.out).mono ?_)
 rintro e w67 ⟨ly, sy, Ay, cy, Ey, rfl, Cy, Oy, hb⟩
 refine ⟨_, rfl, hb, ?_⟩
 replace HC1 := zH HM1 HC1 hb
 replace Ox := zQ Ox hb
 replace Bx := zX Bx hb
 replace Oy := hide Oy.out.rd
 replace hU := zU hU hU.size hb
 clear hb
 have Gy := zGd Ey ((cnt_gd (v := ⟨la, sa⟩) Ya.out))
 have Ly := zLe Gy
 have Yy := hide Gy.by_
 clear Gy
 refine anyR_split [7] (by kernel_rfl) rfl ⟨?_, trivial⟩
 refine stepR_al (i := 7) (m' := 255) rfl rfl (by kernel_rfl) (by kernel_rfl) (by kernel_rfl) rfl ?_
 intro w68 Nz Bz hNz hb
 replace Bz := hide Bz
 have neaz : Na ≠ Nz := by have := (q1_a _ HC1.out).lt; omega
 have nebz : Nb ≠ Nz := by have := (q1_b _ HC1.out).lt; omega
 have nexz : Nx ≠ Nz := by have := Bx.out.lt; omega
 replace HC1 := zH HM1 HC1 hb
 replace Ox := zQ Ox hb
 replace Oy := zQ Oy hb
 replace Bx := zX Bx hb
 have hzz : w.heap.size ≤ Nz := Nat.le_trans hU.size hNz
 clear hNz
 replace hU := zU hU hU.size hb
 clear hb
 refine anyR_e (anyE_st (i := 8) (m' := 511) Bx.out rfl rfl (by kernel_rfl) (by kernel_rfl) (by kernel_rfl) (by kernel_rfl) rfl (by kernel_rfl) (A2 := Ax) (m2 := lx.length) (c2 := cx) (s2 := sx) (by kernel_rfl) ?_)
 intro w69 hst
 replace Ox := hide (hst.rq Ox.out)
 replace Oy := hide (hst.rq Oy.out)
 replace HC1 := hide (HS1 hst neax nebx HC1.out)
 replace Bz := hide (hst.ne Bz.out (by first | exact nezx | exact (Ne.symm nexz) | assumption | (exact Ne.symm (by assumption)) | omega))
 replace Bx := hide hst.box
 replace hU := hU.trans (hst.bel hzx)
 clear hst
 refine anyE_st (i := 9) (m' := 1023) Bz.out rfl rfl (by kernel_rfl) (by kernel_rfl) (by kernel_rfl) (by kernel_rfl) rfl (by kernel_rfl) (A2 := Ay) (m2 := ly.length) (c2 := cy) (s2 := sy) (by kernel_rfl) ?_
 intro w70 hst
 replace Ox := hide (hst.rq Ox.out)
 replace Oy := hide (hst.rq Oy.out)
 replace HC1 := hide (HS1 hst neaz nebz HC1.out)
 replace Bx := hide (hst.ne Bx.out (by first | exact nexz | exact (Ne.symm nezx) | assumption | (exact Ne.symm (by assumption)) | omega))
 replace Bz := hide hst.box
 replace hU := hU.trans (hst.bel hzz)
 clear hst
 refine anyE_done (by kernel_rfl) ?_
 refine then_normal ⟨((lx, sx, Ax, cx), (ly, sy, Ay, cy), Nx, Nz), _, rfl, Kp_c (by kernel_rfl) (Kp_c (by kernel_rfl) (Kp_c (by kernel_rfl) (Kp_c (by kernel_rfl) (Kp_c (by kernel_rfl) (Kp_c (by kernel_rfl) (Kp_c (by kernel_rfl) (Kp_c (by kernel_rfl) (Kp_c (by kernel_rfl) (Kp_c (by kernel_rfl) (Kp_c (by kernel_rfl) (Kp_c (by kernel_rfl) (Kp_c (by kernel_rfl) (Kp_c (by kernel_rfl) (Kp_c (by kernel_rfl) (Kp_c (by kernel_rfl) (Kp_c (by kernel_rfl) (Kp_c (by kernel_rfl) (Kp_c (by kernel_rfl) (Kp_c (by kernel_rfl) (Kp_n)))))))))))))))))))), ?_⟩
 dsimp only
 exact ⟨hU, HC1, Ex, Ox, Cx, Lx, Yx, Ey, Oy, Cy, Ly, Yy, Bx, Bz, hzx, hzz⟩
 refine stepR_al (i := 7) (m' := 223) rfl rfl (by kernel_rfl) (by kernel_rfl) (by kernel_rfl) rfl ?_
 intro w71 Nz Bz hNz hb
 replace Bz := hide Bz
 have neaz : Na ≠ Nz := by have := (q1_a _ HC1.out).lt; omega
 have nebz : Nb ≠ Nz := by have := (q1_b _ HC1.out).lt; omega
 have nexz : Nx ≠ Nz := by have := Bx.out.lt; omega
 replace HC1 := zH HM1 HC1 hb
 replace Ox := zQ Ox hb
 replace Bx := zX Bx hb
 have hzz : w.heap.size ≤ Nz := Nat.le_trans hU.size hNz
 clear hNz
 replace hU := zU hU hU.size hb
 clear hb
 refine zac (i := 5) (m' := 255) rfl rfl ((rnorm_any' Aa la ca sa _ La.out Ca (p1_a w71 HC1.out) Ya.out).mono ?_)
 rintro e w72 ⟨ly, sy, Ay, cy, Ey, rfl, Cy, Oy, hb⟩
 refine ⟨_, rfl, hb, ?_⟩
 replace HC1 := zH HM1 HC1 hb
 replace Ox := zQ Ox hb
 replace Bx := zX Bx hb
 replace Bz := zX Bz hb
 replace Oy := hide Oy.out.rd
 replace hU := zU hU hU.size hb
 clear hb
 have Gy := zGd Ey ((cnt_gd (v := ⟨la, sa⟩) Ya.out))
 have Ly := zLe Gy
 have Yy := hide Gy.by_
 clear Gy
 refine anyR_e (anyE_st (i := 8) (m' := 511) Bx.out rfl rfl (by kernel_rfl) (by kernel_rfl) (by kernel_rfl) (by kernel_rfl) rfl (by kernel_rfl) (A2 := Ax) (m2 := lx.length) (c2 := cx) (s2 := sx) (by kernel_rfl) ?_)
 intro w73 hst
 replace Ox := hide (hst.rq Ox.out)
 replace Oy := hide (hst.rq Oy.out)
 replace HC1 := hide (HS1 hst neax nebx HC1.out)
 replace Bz := hide (hst.ne Bz.out (by first | exact nezx | exact (Ne.symm nexz) | assumption | (exact Ne.symm (by assumption)) | omega))
 replace Bx := hide hst.box
 replace hU := hU.trans (hst.bel hzx)
 clear hst
 refine anyE_st (i := 9) (m' := 1023) Bz.out rfl rfl (by kernel_rfl) (by kernel_rfl) (by kernel_rfl) (by kernel_rfl) rfl (by kernel_rfl) (A2 := Ay) (m2 := ly.length) (c2 := cy) (s2 := sy) (by kernel_rfl) ?_
 intro w74 hst
 replace Ox := hide (hst.rq Ox.out)
 replace Oy := hide (hst.rq Oy.out)
 replace HC1 := hide (HS1 hst neaz nebz HC1.out)
 replace Bx := hide (hst.ne Bx.out (by first | exact nexz | exact (Ne.symm nezx) | assumption | (exact Ne.symm (by assumption)) | omega))
 replace Bz := hide hst.box
 replace hU := hU.trans (hst.bel hzz)
 clear hst
 refine anyE_done (by kernel_rfl) ?_
 refine then_normal ⟨((lx, sx, Ax, cx), (ly, sy, Ay, cy), Nx, Nz), _, rfl, Kp_c (by kernel_rfl) (Kp_c (by kernel_rfl) (Kp_c (by kernel_rfl) (Kp_c (by kernel_rfl) (Kp_c (by kernel_rfl) (Kp_c (by kernel_rfl) (Kp_c (by kernel_rfl) (Kp_c (by kernel_rfl) (Kp_c (by kernel_rfl) (Kp_c (by kernel_rfl) (Kp_c (by kernel_rfl) (Kp_c (by kernel_rfl) (Kp_c (by kernel_rfl) (Kp_c (by kernel_rfl) (Kp_c (by kernel_rfl) (Kp_c (by kernel_rfl) (Kp_c (by kernel_rfl) (Kp_c (by kernel_rfl) (Kp_c (by kernel_rfl) (Kp_c (by kernel_rfl) (Kp_n)))))))))))))))))))), ?_⟩
 dsimp only
 exact ⟨hU, HC1, Ex, Ox, Cx, Lx, Yx, Ey, Oy, Cy, Ly, Yy, Bx, Bz, hzx, hzz⟩
 refine stepR_al (i := 7) (m' := 215) rfl rfl (by kernel_rfl) (by kernel_rfl) (by kernel_rfl) rfl ?_
 intro w75 Nz Bz hNz hb
 replace Bz := hide Bz
 have neaz : Na ≠ Nz := by have := (q1_a _ HC1.out).lt; omega
 have nebz : Nb ≠ Nz := by have := (q1_b _ HC1.out).lt; omega
 have nexz : Nx ≠ Nz := by have := Bx.out.lt; omega
 replace HC1 := zH HM1 HC1 hb
 replace O1 := zQ O1 hb
 replace Bx := zX Bx hb
 have hzz : w.heap.size ≤ Nz := Nat.le_trans hU.size hNz
 clear hNz
 replace hU := zU hU hU.size hb
 clear hb
 refine zac (i := 3) (m' := 223) rfl rfl ((vCond_any A1 l1 c1 s1 Aa Ab la lb ca cb sa sb _ La.out Lb.out Ca Cb (p1_a w75 HC1.out) (p1_b w75 HC1.out) Ya.out Yb.out L1.out C1 O1.out Y1.out (HT.out.kept hU)).mono ?_)
 rintro e w76 ⟨lx, sx, Ax, cx, Ex, rfl, Cx, Ox, hb⟩
 refine ⟨_, rfl, hb, ?_⟩
 replace HC1 := zH HM1 HC1 hb
 replace O1 := zQ O1 hb
 replace Bx := zX Bx hb
 replace Bz := zX Bz hb
 replace Ox := hide Ox.out.rd
 replace hU := zU hU hU.size hb
 clear hb
 have Gx := zGd Ex ((by rw [E1.out, of_one, vCond_1]; exact gd_blA Ya.out Yb.out))
 have Lx := zLe Gx
 have Yx := hide Gx.by_
 clear Gx
 replace Ex := hide (show (⟨lx, sx⟩ : Vc) = ⟨blA ⟨la, sa⟩ ⟨lb, sb⟩, sg ⟨la, sa⟩ ⟨lb, sb⟩⟩ from Ex.out.trans (by rw [E1.out, of_one, vCond_1]))
 clear O1 C1 L1 Y1
 refine zac (i := 5) (m' := 255) rfl rfl ((rnorm_any' Aa la ca sa _ La.out Ca (p1_a w76 HC1.out) Ya.out).mono ?_)
 rintro e w77 ⟨ly, sy, Ay, cy, Ey, rfl, Cy, Oy, hb⟩
 refine ⟨_, rfl, hb, ?_⟩
 replace HC1 := zH HM1 HC1 hb
 replace Ox := zQ Ox hb
 replace Bx := zX Bx hb
 replace Bz := zX Bz hb
 replace Oy := hide Oy.out.rd
 replace hU := zU hU hU.size hb
 clear hb
 have Gy := zGd Ey ((cnt_gd (v := ⟨la, sa⟩) Ya.out))
 have Ly := zLe Gy
 have Yy := hide Gy.by_
 clear Gy
 refine anyR_e (anyE_st (i := 8) (m' := 511) Bx.out rfl rfl (by kernel_rfl) (by kernel_rfl) (by kernel_rfl) (by kernel_rfl) rfl (by kernel_rfl) (A2 := Ax) (m2 := lx.length) (c2 := cx) (s2 := sx) (by kernel_rfl) ?_)
 intro w78 hst
 replace Ox := hide (hst.rq Ox.out)
 replace Oy := hide (hst.rq Oy.out)
 replace HC1 := hide (HS1 hst neax nebx HC1.out)
 replace Bz := hide (hst.ne Bz.out (by first | exact nezx | exact (Ne.symm nexz) | assumption | (exact Ne.symm (by assumption)) | omega))
 replace Bx := hide hst.box
 replace hU := hU.trans (hst.bel hzx)
 clear hst
 refine anyE_st (i := 9) (m' := 1023) Bz.out rfl rfl (by kernel_rfl) (by kernel_rfl) (by kernel_rfl) (by kernel_rfl) rfl (by kernel_rfl) (A2 := Ay) (m2 := ly.length) (c2 := cy) (s2 := sy) (by kernel_rfl) ?_
 intro w79 hst
 replace Ox := hide (hst.rq Ox.out)
 replace Oy := hide (hst.rq Oy.out)
 replace HC1 := hide (HS1 hst neaz nebz HC1.out)
 replace Bx := hide (hst.ne Bx.out (by first | exact nexz | exact (Ne.symm nezx) | assumption | (exact Ne.symm (by assumption)) | omega))
 replace Bz := hide hst.box
 replace hU := hU.trans (hst.bel hzz)
 clear hst
 refine anyE_done (by kernel_rfl) ?_
 refine then_normal ⟨((lx, sx, Ax, cx), (ly, sy, Ay, cy), Nx, Nz), _, rfl, Kp_c (by kernel_rfl) (Kp_c (by kernel_rfl) (Kp_c (by kernel_rfl) (Kp_c (by kernel_rfl) (Kp_c (by kernel_rfl) (Kp_c (by kernel_rfl) (Kp_c (by kernel_rfl) (Kp_c (by kernel_rfl) (Kp_c (by kernel_rfl) (Kp_c (by kernel_rfl) (Kp_c (by kernel_rfl) (Kp_c (by kernel_rfl) (Kp_c (by kernel_rfl) (Kp_c (by kernel_rfl) (Kp_c (by kernel_rfl) (Kp_c (by kernel_rfl) (Kp_c (by kernel_rfl) (Kp_c (by kernel_rfl) (Kp_c (by kernel_rfl) (Kp_c (by kernel_rfl) (Kp_n)))))))))))))))))))), ?_⟩
 dsimp only
 exact ⟨hU, HC1, Ex, Ox, Cx, Lx, Yx, Ey, Oy, Cy, Ly, Yy, Bx, Bz, hzx, hzz⟩
 refine stepR_al (i := 7) (m' := 214) rfl rfl (by kernel_rfl) (by kernel_rfl) (by kernel_rfl) rfl ?_
 intro w80 Nz Bz hNz hb
 replace Bz := hide Bz
 have neaz : Na ≠ Nz := by have := (q1_a _ HC1.out).lt; omega
 have nebz : Nb ≠ Nz := by have := (q1_b _ HC1.out).lt; omega
 have nexz : Nx ≠ Nz := by have := Bx.out.lt; omega
 replace HC1 := zH HM1 HC1 hb
 replace Bx := zX Bx hb
 have hzz : w.heap.size ≤ Nz := Nat.le_trans hU.size hNz
 clear hNz
 replace hU := zU hU hU.size hb
 clear hb
 refine zac (i := 0) (m' := 215) rfl rfl ((vof_any ⟨#[49]⟩ _ (by decide)).mono ?_)
 rintro e w81 ⟨l1, s1, A1, c1, E1, rfl, C1, O1, hb⟩
 refine ⟨_, rfl, hb, ?_⟩
 replace HC1 := zH HM1 HC1 hb
 replace Bx := zX Bx hb
 replace Bz := zX Bz hb
 replace O1 := hide O1.out.rd
 replace hU := zU hU hU.size hb
 clear hb
 have G1 := zGd E1 (gd_of (by decide +kernel))
 have L1 := zLe G1
 have Y1 := hide G1.by_
 clear G1
 refine zac (i := 3) (m' := 223) rfl rfl ((vCond_any A1 l1 c1 s1 Aa Ab la lb ca cb sa sb _ La.out Lb.out Ca Cb (p1_a w81 HC1.out) (p1_b w81 HC1.out) Ya.out Yb.out L1.out C1 O1.out Y1.out (HT.out.kept hU)).mono ?_)
 rintro e w82 ⟨lx, sx, Ax, cx, Ex, rfl, Cx, Ox, hb⟩
 refine ⟨_, rfl, hb, ?_⟩
 replace HC1 := zH HM1 HC1 hb
 replace O1 := zQ O1 hb
 replace Bx := zX Bx hb
 replace Bz := zX Bz hb
 replace Ox := hide Ox.out.rd
 replace hU := zU hU hU.size hb
 clear hb
 have Gx := zGd Ex ((by rw [E1.out, of_one, vCond_1]; exact gd_blA Ya.out Yb.out))
 have Lx := zLe Gx
 have Yx := hide Gx.by_
 clear Gx
 replace Ex := hide (show (⟨lx, sx⟩ : Vc) = ⟨blA ⟨la, sa⟩ ⟨lb, sb⟩, sg ⟨la, sa⟩ ⟨lb, sb⟩⟩ from Ex.out.trans (by rw [E1.out, of_one, vCond_1]))
 clear O1 C1 L1 Y1
 refine zac (i := 5) (m' := 255) rfl rfl ((rnorm_any' Aa la ca sa _ La.out Ca (p1_a w82 HC1.out) Ya.out).mono ?_)
 rintro e w83 ⟨ly, sy, Ay, cy, Ey, rfl, Cy, Oy, hb⟩
 refine ⟨_, rfl, hb, ?_⟩
 replace HC1 := zH HM1 HC1 hb
 replace Ox := zQ Ox hb
 replace Bx := zX Bx hb
 replace Bz := zX Bz hb
 replace Oy := hide Oy.out.rd
 replace hU := zU hU hU.size hb
 clear hb
 have Gy := zGd Ey ((cnt_gd (v := ⟨la, sa⟩) Ya.out))
 have Ly := zLe Gy
 have Yy := hide Gy.by_
 clear Gy
 refine anyR_e (anyE_st (i := 8) (m' := 511) Bx.out rfl rfl (by kernel_rfl) (by kernel_rfl) (by kernel_rfl) (by kernel_rfl) rfl (by kernel_rfl) (A2 := Ax) (m2 := lx.length) (c2 := cx) (s2 := sx) (by kernel_rfl) ?_)
 intro w84 hst
 replace Ox := hide (hst.rq Ox.out)
 replace Oy := hide (hst.rq Oy.out)
 replace HC1 := hide (HS1 hst neax nebx HC1.out)
 replace Bz := hide (hst.ne Bz.out (by first | exact nezx | exact (Ne.symm nexz) | assumption | (exact Ne.symm (by assumption)) | omega))
 replace Bx := hide hst.box
 replace hU := hU.trans (hst.bel hzx)
 clear hst
 refine anyE_st (i := 9) (m' := 1023) Bz.out rfl rfl (by kernel_rfl) (by kernel_rfl) (by kernel_rfl) (by kernel_rfl) rfl (by kernel_rfl) (A2 := Ay) (m2 := ly.length) (c2 := cy) (s2 := sy) (by kernel_rfl) ?_
 intro w85 hst
 replace Ox := hide (hst.rq Ox.out)
 replace Oy := hide (hst.rq Oy.out)
 replace HC1 := hide (HS1 hst neaz nebz HC1.out)
 replace Bx := hide (hst.ne Bx.out (by first | exact nexz | exact (Ne.symm nezx) | assumption | (exact Ne.symm (by assumption)) | omega))
 replace Bz := hide hst.box
 replace hU := hU.trans (hst.bel hzz)
 clear hst
 refine anyE_done (by kernel_rfl) ?_
 refine then_normal ⟨((lx, sx, Ax, cx), (ly, sy, Ay, cy), Nx, Nz), _, rfl, Kp_c (by kernel_rfl) (Kp_c (by kernel_rfl) (Kp_c (by kernel_rfl) (Kp_c (by kernel_rfl) (Kp_c (by kernel_rfl) (Kp_c (by kernel_rfl) (Kp_c (by kernel_rfl) (Kp_c (by kernel_rfl) (Kp_c (by kernel_rfl) (Kp_c (by kernel_rfl) (Kp_c (by kernel_rfl) (Kp_c (by kernel_rfl) (Kp_c (by kernel_rfl) (Kp_c (by kernel_rfl) (Kp_c (by kernel_rfl) (Kp_c (by kernel_rfl) (Kp_c (by kernel_rfl) (Kp_c (by kernel_rfl) (Kp_c (by kernel_rfl) (Kp_c (by kernel_rfl) (Kp_n)))))))))))))))))))), ?_⟩
 dsimp only
 exact ⟨hU, HC1, Ex, Ox, Cx, Lx, Yx, Ey, Oy, Cy, Ly, Yy, Bx, Bz, hzx, hzz⟩
 refine stepR_al (i := 7) (m' := 150) rfl rfl (by kernel_rfl) (by kernel_rfl) (by kernel_rfl) rfl ?_
 intro w86 Nz Bz hNz hb
 replace Bz := hide Bz
 replace hb : Below w4.heap.size w4 w86 := Below.trans ((Below.refl _ _).drew) hb
 replace hNz : w4.heap.size ≤ Nz := hNz
 have neaz : Na ≠ Nz := by have := (q1_a _ HC1.out).lt; omega
 have nebz : Nb ≠ Nz := by have := (q1_b _ HC1.out).lt; omega
 replace HC1 := zH HM1 HC1 hb
 have hzz : w.heap.size ≤ Nz := Nat.le_trans hU.size hNz
 clear hNz
 replace hU := zU hU hU.size hb
 clear hb
 refine anyR_split [0, 6] (by kernel_rfl) rfl ⟨?_, ?_, trivial⟩
 refine stepR_call (i := 0) (m' := 151) rfl rfl (by kernel_rfl) (by kernel_rfl) (by kernel_rfl) (by kernel_rfl) ((vof_any ⟨#[49]⟩ _ (by decide)).mono ?_)
 rintro e w87 ⟨l1, s1, A1, c1, E1, rfl, C1, O1, hb⟩
 refine ⟨_, rfl, hb, ?_⟩
 replace HC1 := zH HM1 HC1 hb
 replace Bz := zX Bz hb
 replace O1 := hide O1.out.rd
 replace hU := zU hU hU.size hb
 clear hb
 have G1 := zGd E1 (gd_of (by decide +kernel))
 have L1 := zLe G1
 have Y1 := hide G1.by_
 clear G1
 refine anyR_split [3, 6] (by kernel_rfl) rfl ⟨?_, ?_, trivial⟩
 refine stepR_call (i := 3) (m' := 159) rfl rfl (by kernel_rfl) (by kernel_rfl) (by kernel_rfl) (by kernel_rfl) ((vCond_any A1 l1 c1 s1 Aa Ab la lb ca cb sa sb _ La.out Lb.out Ca Cb (p1_a w87 HC1.out) (p1_b w87 HC1.out) Ya.out Yb.out L1.out C1 O1.out Y1.out (HT.out.kept hU)).mono ?_)
 rintro e w88 ⟨lx, sx, Ax, cx, Ex, rfl, Cx, Ox, hb⟩
 refine ⟨_, rfl, hb, ?_⟩
 replace HC1 := zH HM1 HC1 hb
 replace O1 := zQ O1 hb
 replace Bz := zX Bz hb
 replace Ox := hide Ox.out.rd
 replace hU := zU hU hU.size hb
 clear hb
 have Gx := zGd Ex ((by rw [E1.out, of_one, vCond_1]; exact gd_blA Ya.out Yb.out))
 have Lx := zLe Gx
 have Yx := hide Gx.by_
 clear Gx
 replace Ex := hide (show (⟨lx, sx⟩ : Vc) = ⟨blA ⟨la, sa⟩ ⟨lb, sb⟩, sg ⟨la, sa⟩ ⟨lb, sb⟩⟩ from Ex.out.trans (by rw [E1.out, of_one, vCond_1]))
 clear O1 C1 L1 Y1
 refine anyR_split [5, 6] (by kernel_rfl) rfl ⟨?_, ?_, trivial⟩
 refine stepR_call (i := 5) (m' := 191) rfl rfl (by kernel_rfl) (by kernel_rfl) (by kernel_rfl) (by kernel_rfl) ((rnorm_any' Aa la ca sa _ La.out Ca (p1_a w88 HC1.out) Ya.out).mono ?_)
 rintro e w89 ⟨ly, sy, Ay, cy, Ey, rfl, Cy, Oy, hb⟩
 refine ⟨_, rfl, hb, ?_⟩
 replace HC1 := zH HM1 HC1 hb
 replace Ox := zQ Ox hb
 replace Bz := zX Bz hb
 replace Oy := hide Oy.out.rd
 replace hU := zU hU hU.size hb
 clear hb
 have Gy := zGd Ey ((cnt_gd (v := ⟨la, sa⟩) Ya.out))
 have Ly := zLe Gy
 have Yy := hide Gy.by_
 clear Gy
 refine anyR_split [6] (by kernel_rfl) rfl ⟨?_, trivial⟩
 refine stepR_al (i := 6) (m' := 255) rfl rfl (by kernel_rfl) (by kernel_rfl) (by kernel_rfl) rfl ?_
 intro w90 Nx Bx hNx hb
 replace Bx := hide Bx
 have neax : Na ≠ Nx := by have := (q1_a _ HC1.out).lt; omega
 have nebx : Nb ≠ Nx := by have := (q1_b _ HC1.out).lt; omega
 have nezx : Nz ≠ Nx := by have := Bz.out.lt; omega
 replace HC1 := zH HM1 HC1 hb
 replace Ox := zQ Ox hb
 replace Oy := zQ Oy hb
 replace Bz := zX Bz hb
 have hzx : w.heap.size ≤ Nx := Nat.le_trans hU.size hNx
 clear hNx
 replace hU := zU hU hU.size hb
 clear hb
 refine anyR_e (anyE_st (i := 8) (m' := 511) Bx.out rfl rfl (by kernel_rfl) (by kernel_rfl) (by kernel_rfl) (by kernel_rfl) rfl (by kernel_rfl) (A2 := Ax) (m2 := lx.length) (c2 := cx) (s2 := sx) (by kernel_rfl) ?_)
 intro w91 hst
 replace Ox := hide (hst.rq Ox.out)
 replace Oy := hide (hst.rq Oy.out)
 replace HC1 := hide (HS1 hst neax nebx HC1.out)
 replace Bz := hide (hst.ne Bz.out (by first | exact nezx | exact (Ne.symm nexz) | assumption | (exact Ne.symm (by assumption)) | omega))
 replace Bx := hide hst.box
 replace hU := hU.trans (hst.bel hzx)
 clear hst
 refine anyE_st (i := 9) (m' := 1023) Bz.out rfl rfl (by kernel_rfl) (by kernel_rfl) (by kernel_rfl) (by kernel_rfl) rfl (by kernel_rfl) (A2 := Ay) (m2 := ly.length) (c2 := cy) (s2 := sy) (by kernel_rfl) ?_
 intro w92 hst
 replace Ox := hide (hst.rq Ox.out)
 replace Oy := hide (hst.rq Oy.out)
 replace HC1 := hide (HS1 hst neaz nebz HC1.out)
 replace Bx := hide (hst.ne Bx.out (by first | exact nexz | exact (Ne.symm nezx) | assumption | (exact Ne.symm (by assumption)) | omega))
 replace Bz := hide hst.box
 replace hU := hU.trans (hst.bel hzz)
 clear hst
 refine anyE_done (by kernel_rfl) ?_
 refine then_normal ⟨((lx, sx, Ax, cx), (ly, sy, Ay, cy), Nx, Nz), _, rfl, Kp_c (by kernel_rfl) (Kp_c (by kernel_rfl) (Kp_c (by kernel_rfl) (Kp_c (by kernel_rfl) (Kp_c (by kernel_rfl) (Kp_c (by kernel_rfl) (Kp_c (by kernel_rfl) (Kp_c (by kernel_rfl) (Kp_c (by kernel_rfl) (Kp_c (by kernel_rfl) (Kp_c (by kernel_rfl) (Kp_c (by kernel_rfl) (Kp_c (by kernel_rfl) (Kp_c (by kernel_rfl) (Kp_c (by kernel_rfl) (Kp_c (by kernel_rfl) (Kp_c (by kernel_rfl) (Kp_c (by kernel_rfl) (Kp_c (by kernel_rfl) (Kp_c (by kernel_rfl) (Kp_n)))))))))))))))))))), ?_⟩
 dsimp only
 exact ⟨hU, HC1, Ex, Ox, Cx, Lx, Yx, Ey, Oy, Cy, Ly, Yy, Bx, Bz, hzx, hzz⟩
 refine stepR_al (i := 6) (m' := 223) rfl rfl (by kernel_rfl) (by kernel_rfl) (by kernel_rfl) rfl ?_
 intro w93 Nx Bx hNx hb
 replace Bx := hide Bx
 have neax : Na ≠ Nx := by have := (q1_a _ HC1.out).lt; omega
 have nebx : Nb ≠ Nx := by have := (q1_b _ HC1.out).lt; omega
 have nezx : Nz ≠ Nx := by have := Bz.out.lt; omega
 replace HC1 := zH HM1 HC1 hb
 replace Ox := zQ Ox hb
 replace Bz := zX Bz hb
 have hzx : w.heap.size ≤ Nx := Nat.le_trans hU.size hNx
 clear hNx
 replace hU := zU hU hU.size hb
 clear hb
 refine zac (i := 5) (m' := 255) rfl rfl ((rnorm_any' Aa la ca sa _ La.out Ca (p1_a w93 HC1.out) Ya.out).mono ?_)
 rintro e w94 ⟨ly, sy, Ay, cy, Ey, rfl, Cy, Oy, hb⟩
 refine ⟨_, rfl, hb, ?_⟩
 replace HC1 := zH HM1 HC1 hb
 replace Ox := zQ Ox hb
 replace Bz := zX Bz hb
 replace Bx := zX Bx hb
 replace Oy := hide Oy.out.rd
 replace hU := zU hU hU.size hb
 clear hb
 have Gy := zGd Ey ((cnt_gd (v := ⟨la, sa⟩) Ya.out))
 have Ly := zLe Gy
 have Yy := hide Gy.by_
 clear Gy
 refine anyR_e (anyE_st (i := 8) (m' := 511) Bx.out rfl rfl (by kernel_rfl) (by kernel_rfl) (by kernel_rfl) (by kernel_rfl) rfl (by kernel_rfl) (A2 := Ax) (m2 := lx.length) (c2 := cx) (s2 := sx) (by kernel_rfl) ?_)
 intro w95 hst
 replace Ox := hide (hst.rq Ox.out)
 replace Oy := hide (hst.rq Oy.out)
 replace HC1 := hide (HS1 hst neax nebx HC1.out)
 replace Bz := hide (hst.ne Bz.out (by first | exact nezx | exact (Ne.symm nexz) | assumption | (exact Ne.symm (by assumption)) | omega))
 replace Bx := hide hst.box
 replace hU := hU.trans (hst.bel hzx)
 clear hst
 refine anyE_st (i := 9) (m' := 1023) Bz.out rfl rfl (by kernel_rfl) (by kernel_rfl) (by kernel_rfl) (by kernel_rfl) rfl (by kernel_rfl) (A2 := Ay) (m2 := ly.length) (c2 := cy) (s2 := sy) (by kernel_rfl) ?_
 intro w96 hst
 replace Ox := hide (hst.rq Ox.out)
 replace Oy := hide (hst.rq Oy.out)
 replace HC1 := hide (HS1 hst neaz nebz HC1.out)
 replace Bx := hide (hst.ne Bx.out (by first | exact nexz | exact (Ne.symm nezx) | assumption | (exact Ne.symm (by assumption)) | omega))
 replace Bz := hide hst.box
 replace hU := hU.trans (hst.bel hzz)
 clear hst
 refine anyE_done (by kernel_rfl) ?_
 refine then_normal ⟨((lx, sx, Ax, cx), (ly, sy, Ay, cy), Nx, Nz), _, rfl, Kp_c (by kernel_rfl) (Kp_c (by kernel_rfl) (Kp_c (by kernel_rfl) (Kp_c (by kernel_rfl) (Kp_c (by kernel_rfl) (Kp_c (by kernel_rfl) (Kp_c (by kernel_rfl) (Kp_c (by kernel_rfl) (Kp_c (by kernel_rfl) (Kp_c (by kernel_rfl) (Kp_c (by kernel_rfl) (Kp_c (by kernel_rfl) (Kp_c (by kernel_rfl) (Kp_c (by kernel_rfl) (Kp_c (by kernel_rfl) (Kp_c (by kernel_rfl) (Kp_c (by kernel_rfl) (Kp_c (by kernel_rfl) (Kp_c (by kernel_rfl) (Kp_c (by kernel_rfl) (Kp_n)))))))))))))))))))), ?_⟩
 dsimp only
 exact ⟨hU, HC1, Ex, Ox, Cx, Lx, Yx, Ey, Oy, Cy, Ly, Yy, Bx, Bz, hzx, hzz⟩
 refine stepR_al (i := 6) (m' := 215) rfl rfl (by kernel_rfl) (by kernel_rfl) (by kernel_rfl) rfl ?_
 intro w97 Nx Bx hNx hb
 replace Bx := hide Bx
 have neax : Na ≠ Nx := by have := (q1_a _ HC1.out).lt; omega
 have nebx : Nb ≠ Nx := by have := (q1_b _ HC1.out).lt; omega
 have nezx : Nz ≠ Nx := by have := Bz.out.lt; omega
 replace HC1 := zH HM1 HC1 hb
 replace O1 := zQ O1 hb
 replace Bz := zX Bz hb
 have hzx : w.heap.size ≤ Nx := Nat.le_trans hU.size hNx
 clear hNx
 replace hU := zU hU hU.size hb
 clear hb
 refine zac (i := 3) (m' := 223) rfl rfl ((vCond_any A1 l1 c1 s1 Aa Ab la lb ca cb sa sb _ La.out Lb.out Ca Cb (p1_a w97 HC1.out) (p1_b w97 HC1.out) Ya.out Yb.out L1.out C1 O1.out Y1.out (HT.out.kept hU)).mono ?_)
 rintro e w98 ⟨lx, sx, Ax, cx, Ex, rfl, Cx, Ox, hb⟩
 refine ⟨_, rfl, hb, ?_⟩
 replace HC1 := zH HM1 HC1 hb
 replace O1 := zQ O1 hb
 replace Bz := zX Bz hb
 replace Bx := zX Bx hb
 replace Ox := hide Ox.out.rd
 replace hU := zU hU hU.size hb
 clear hb
 have Gx := zGd Ex ((by rw [E1.out, of_one, vCond_1]; exact gd_blA Ya.out Yb.out))
 have Lx := zLe Gx
 have Yx := hide Gx.by_
 clear Gx
 replace Ex := hide (show (⟨lx, sx⟩ : Vc) = ⟨blA ⟨la, sa⟩ ⟨lb, sb⟩, sg ⟨la, sa⟩ ⟨lb, sb⟩⟩ from Ex.out.trans (by rw [E1.out, of_one, vCond_1]))
 clear O1 C1 L1 Y1
 refine zac (i := 5) (m' := 255) rfl rfl ((rnorm_any' Aa la ca sa _ La.out Ca (p1_a w98 HC1.out) Ya.out).mono ?_)
 rintro e w99 ⟨ly, sy, Ay, cy, Ey, rfl, Cy, Oy, hb⟩
 refine ⟨_, rfl, hb, ?_⟩
 replace HC1 := zH HM1 HC1 hb
 replace Ox := zQ Ox hb
 replace Bz := zX Bz hb
 replace Bx := zX Bx hb
 replace Oy := hide Oy.out.rd
 replace hU := zU hU hU.size hb
 clear hb
 have Gy := zGd Ey ((cnt_gd (v := ⟨la, sa⟩) Ya.out))
 have Ly := zLe Gy
 have Yy := hide Gy.by_
 clear Gy
 refine anyR_e (anyE_st (i := 8) (m' := 511) Bx.out rfl rfl (by kernel_rfl) (by kernel_rfl) (by kernel_rfl) (by kernel_rfl) rfl (by kernel_rfl) (A2 := Ax) (m2 := lx.length) (c2 := cx) (s2 := sx) (by kernel_rfl) ?_)
 intro w100 hst
 replace Ox := hide (hst.rq Ox.out)
 replace Oy := hide (hst.rq Oy.out)
 replace HC1 := hide (HS1 hst neax nebx HC1.out)
 replace Bz := hide (hst.ne Bz.out (by first | exact nezx | exact (Ne.symm nexz) | assumption | (exact Ne.symm (by assumption)) | omega))
 replace Bx := hide hst.box
 replace hU := hU.trans (hst.bel hzx)
 clear hst
 refine anyE_st (i := 9) (m' := 1023) Bz.out rfl rfl (by kernel_rfl) (by kernel_rfl) (by kernel_rfl) (by kernel_rfl) rfl (by kernel_rfl) (A2 := Ay) (m2 := ly.length) (c2 := cy) (s2 := sy) (by kernel_rfl) ?_
 intro w101 hst
 replace Ox := hide (hst.rq Ox.out)
 replace Oy := hide (hst.rq Oy.out)
 replace HC1 := hide (HS1 hst neaz nebz HC1.out)
 replace Bx := hide (hst.ne Bx.out (by first | exact nexz | exact (Ne.symm nezx) | assumption | (exact Ne.symm (by assumption)) | omega))
 replace Bz := hide hst.box
 replace hU := hU.trans (hst.bel hzz)
 clear hst
 refine anyE_done (by kernel_rfl) ?_
 refine then_normal ⟨((lx, sx, Ax, cx), (ly, sy, Ay, cy), Nx, Nz), _, rfl, Kp_c (by kernel_rfl) (Kp_c (by kernel_rfl) (Kp_c (by kernel_rfl) (Kp_c (by kernel_rfl) (Kp_c (by kernel_rfl) (Kp_c (by kernel_rfl) (Kp_c (by kernel_rfl) (Kp_c (by kernel_rfl) (Kp_c (by kernel_rfl) (Kp_c (by kernel_rfl) (Kp_c (by kernel_rfl) (Kp_c (by kernel_rfl) (Kp_c (by kernel_rfl) (Kp_c (by kernel_rfl) (Kp_c (by kernel_rfl) (Kp_c (by kernel_rfl) (Kp_c (by kernel_rfl) (Kp_c (by kernel_rfl) (Kp_c (by kernel_rfl) (Kp_c (by kernel_rfl) (Kp_n)))))))))))))))))))), ?_⟩
 dsimp only
 exact ⟨hU, HC1, Ex, Ox, Cx, Lx, Yx, Ey, Oy, Cy, Ly, Yy, Bx, Bz, hzx, hzz⟩
 refine stepR_al (i := 6) (m' := 214) rfl rfl (by kernel_rfl) (by kernel_rfl) (by kernel_rfl) rfl ?_
 intro w102 Nx Bx hNx hb
 replace Bx := hide Bx
 have neax : Na ≠ Nx := by have := (q1_a _ HC1.out).lt; omega
 have nebx : Nb ≠ Nx := by have := (q1_b _ HC1.out).lt; omega
 have nezx : Nz ≠ Nx := by have := Bz.out.lt; omega
 replace HC1 := zH HM1 HC1 hb
 replace Bz := zX Bz hb
 have hzx : w.heap.size ≤ Nx := Nat.le_trans hU.size hNx
 clear hNx
 replace hU := zU hU hU.size hb
 clear hb
 refine zac (i := 0) (m' := 215) rfl rfl ((vof_any ⟨#[49]⟩ _ (by decide)).mono ?_)
 rintro e w103 ⟨l1, s1, A1, c1, E1, rfl, C1, O1, hb⟩
 refine ⟨_, rfl, hb, ?_⟩
 replace HC1 := zH HM1 HC1 hb
 replace Bz := zX Bz hb
 replace Bx := zX Bx hb
 replace O1 := hide O1.out.rd
 replace hU := zU hU hU.size hb
 clear hb
 have G1 := zGd E1 (gd_of (by decide +kernel))
 have L1 := zLe G1
 have Y1 := hide G1.by_
 clear G1
 refine zac (i := 3) (m' := 223) rfl rfl ((vCond_any A1 l1 c1 s1 Aa Ab la lb ca cb sa sb _ La.out Lb.out Ca Cb (p1_a w103 HC1.out) (p1_b w103 HC1.out) Ya.out Yb.out L1.out C1 O1.out Y1.out (HT.out.kept hU)).mono ?_)
 rintro e w104 ⟨lx, sx, Ax, cx, Ex, rfl, Cx, Ox, hb⟩
 refine ⟨_, rfl, hb, ?_⟩
 replace HC1 := zH HM1 HC1 hb
 replace O1 := zQ O1 hb
 replace Bz := zX Bz hb
 replace Bx := zX Bx hb
 replace Ox := hide Ox.out.rd
 replace hU := zU hU hU.size hb
 clear hb
 have Gx := zGd Ex ((by rw [E1.out, of_one, vCond_1]; exact gd_blA Ya.out Yb.out))
 have Lx := zLe Gx
 have Yx := hide Gx.by_
 clear Gx
 replace Ex := hide (show (⟨lx, sx⟩ : Vc) = ⟨blA ⟨la, sa⟩ ⟨lb, sb⟩, sg ⟨la, sa⟩ ⟨lb, sb⟩⟩ from Ex.out.trans (by rw [E1.out, of_one, vCond_1]))
 clear O1 C1 L1 Y1
 refine zac (i := 5) (m' := 255) rfl rfl ((rnorm_any' Aa la ca sa _ La.out Ca (p1_a w104 HC1.out) Ya.out).mono ?_)
 rintro e w105 ⟨ly, sy, Ay, cy, Ey, rfl, Cy, Oy, hb⟩
 refine ⟨_, rfl, hb, ?_⟩
 replace HC1 := zH HM1 HC1 hb
 replace Ox := zQ Ox hb
 replace Bz := zX Bz hb
 replace Bx := zX Bx hb
 replace Oy := hide Oy.out.rd
 replace hU := zU hU hU.size hb
 clear hb
 have Gy := zGd Ey ((cnt_gd (v := ⟨la, sa⟩) Ya.out))
 have Ly := zLe Gy
 have Yy := hide Gy.by_
 clear Gy
 refine anyR_e (anyE_st (i := 8) (m' := 511) Bx.out rfl rfl (by kernel_rfl) (by kernel_rfl) (by kernel_rfl) (by kernel_rfl) rfl (by kernel_rfl) (A2 := Ax) (m2 := lx.length) (c2 := cx) (s2 := sx) (by kernel_rfl) ?_)
 intro w106 hst
 replace Ox := hide (hst.rq Ox.out)
 replace Oy := hide (hst.rq Oy.out)
 replace HC1 := hide (HS1 hst neax nebx HC1.out)
 replace Bz := hide (hst.ne Bz.out (by first | exact nezx | exact (Ne.symm nexz) | assumption | (exact Ne.symm (by assumption)) | omega))
 replace Bx := hide hst.box
 replace hU := hU.trans (hst.bel hzx)
 clear hst
 refine anyE_st (i := 9) (m' := 1023) Bz.out rfl rfl (by kernel_rfl) (by kernel_rfl) (by kernel_rfl) (by kernel_rfl) rfl (by kernel_rfl) (A2 := Ay) (m2 := ly.length) (c2 := cy) (s2 := sy) (by kernel_rfl) ?_
 intro w107 hst
 replace Ox := hide (hst.rq Ox.out)
 replace Oy := hide (hst.rq Oy.out)
 replace HC1 := hide (HS1 hst neaz nebz HC1.out)
 replace Bx := hide (hst.ne Bx.out (by first | exact nexz | exact (Ne.symm nezx) | assumption | (exact Ne.symm (by assumption)) | omega))
 replace Bz := hide hst.box
 replace hU := hU.trans (hst.bel hzz)
 clear hst
 refine anyE_done (by kernel_rfl) ?_
 refine then_normal ⟨((lx, sx, Ax, cx), (ly, sy, Ay, cy), Nx, Nz), _, rfl, Kp_c (by kernel_rfl) (Kp_c (by kernel_rfl) (Kp_c (by kernel_rfl) (Kp_c (by kernel_rfl) (Kp_c (by kernel_rfl) (Kp_c (by kernel_rfl) (Kp_c (by kernel_rfl) (Kp_c (by kernel_rfl) (Kp_c (by kernel_rfl) (Kp_c (by kernel_rfl) (Kp_c (by kernel_rfl) (Kp_c (by kernel_rfl) (Kp_c (by kernel_rfl) (Kp_c (by kernel_rfl) (Kp_c (by kernel_rfl) (Kp_c (by kernel_rfl) (Kp_c (by kernel_rfl) (Kp_c (by kernel_rfl) (Kp_c (by kernel_rfl) (Kp_c (by kernel_rfl) (Kp_n)))))))))))))))))))), ?_⟩
 dsimp only
 exact ⟨hU, HC1, Ex, Ox, Cx, Lx, Yx, Ey, Oy, Cy, Ly, Yy, Bx, Bz, hzx, hzz⟩
 rintro ⟨⟨lx, sx, Ax, cx⟩, ⟨ly, sy, Ay, cy⟩, Nx, Nz⟩ X108 w108 h
 clear hU HC1
 dsimp only at h
 obtain ⟨hU, HC1, Ex, Ox, Cx, Lx, Yx, Ey, Oy, Cy, Ly, Yy, Bx, Bz, hzx, hzz⟩ := h
 refine then_normal (wp_seq (wp_seq ?_))
 have Gxx := hide (show Gd lx by have h := congrArg Vc.b Ex.out; dsimp only at h; rw [h]; exact gd_blA Ya.out Yb.out)
 have Gyy := hide (show Gd ly by have h := congrArg Vc.b Ey.out; dsimp only at h; rw [h]; exact cnt_gd (v := ⟨la, sa⟩) Ya.out)
 have Lxx := hide (show lx.length = wd ⟨la, sa⟩ ⟨lb, sb⟩ by have h := congrArg (fun v : Vc => v.b.length) Ex.out; exact h.trans (blA_length _ _))
 have Lyy := hide (show ly.length = (cnt ⟨la, sa⟩).b.length from congrArg (fun v : Vc => v.b.length) Ey.out)
 refine reg_lit ?_
 refine zc rfl ((vtwos_any _).mono ?_)
 rintro e w109 ⟨NV, rfl, TV, hb⟩
 refine ⟨_, rfl, ?_⟩
 replace HC1 := zH HM1 HC1 hb
 replace Ox := zQ Ox hb
 replace Oy := zQ Oy hb
 replace Bx := zX Bx hb
 replace Bz := zX Bz hb
 replace hU := zU hU hU.size hb
 clear hb
 replace TV := hide TV
 obtain ⟨Pr2, HM2, HC2, p2_x, p2_y, p2_a, p2_b, q2_a, q2_b, q2_x, q2_z, r2_TV⟩ : ∃ Pr : World → Prop, (∀ w w', Pr w → Below w.heap.size w w' → Pr w') ∧ Hid (Pr w109) ∧ (∀ W, Pr W → RQ W Ax lx) ∧ (∀ W, Pr W → RQ W Ay ly) ∧ (∀ W, Pr W → RQ W Aa la) ∧ (∀ W, Pr W → RQ W Ab lb) ∧ (∀ W, Pr W → Box Na Aa la.length ca sa W) ∧ (∀ W, Pr W → Box Nb Ab lb.length cb sb W) ∧ (∀ W, Pr W → Box Nx Ax lx.length cx sx W) ∧ (∀ W, Pr W → Box Nz Ay ly.length cy sy W) ∧ (∀ W, Pr W → Two NV W) := ⟨fun W => RQ W Ax lx ∧ RQ W Ay ly ∧ RQ W Aa la ∧ RQ W Ab lb ∧ Box Na Aa la.length ca sa W ∧ Box Nb Ab lb.length cb sb W ∧ Box Nx Ax lx.length cx sx W ∧ Box Nz Ay ly.length cy sy W ∧ Two NV W, fun _ _ h hb => ⟨RQ.below h.1 hb, RQ.below h.2.1 hb, RQ.below h.2.2.1 hb, RQ.below h.2.2.2.1 hb, Box.kept h.2.2.2.2.1 hb, Box.kept h.2.2.2.2.2.1 hb, Box.kept h.2.2.2.2.2.2.1 hb, Box.kept h.2.2.2.2.2.2.2.1 hb, Two.kept h.2.2.2.2.2.2.2.2 hb⟩, hide ⟨Ox.out, Oy.out, (p1_a w109 HC1.out), (p1_b w109 HC1.out), (q1_a _ HC1.out), (q1_b _ HC1.out), Bx.out, Bz.out, TV.out⟩, fun _ h => h.1, fun _ h => h.2.1, fun _ h => h.2.2.1, fun _ h => h.2.2.2.1, fun _ h => h.2.2.2.2.1, fun _ h => h.2.2.2.2.2.1, fun _ h => h.2.2.2.2.2.2.1, fun _ h => h.2.2.2.2.2.2.2.1, fun _ h => h.2.2.2.2.2.2.2.2⟩
 clear Ox Oy Bx Bz TV HC1
 refine z2 [(29, .int .i64 0), (28, .int .i64 24)] (ze (wp_block (loop_r 25 ?_)))
 refine zk (z_R Na Nb Nx Nz NV z_f 0) (fun X => ?_)
 cases hA : kn (cnt ⟨la, sa⟩).b <;> cases hB : kn (cnt ⟨lb, sb⟩).b
 refine VecUnknown_rff Aa la ca sa Ab lb cb sb lx sx Ax cx ly sy Ay cy Na Nb Nx Nz NV w _ La Lb Ya Yb Ca Cb HT Lx Ly Gxx Gyy Lxx Lyy hU (hide (p2_a w109 HC2.out)) (hide (p2_b w109 HC2.out)) (hide (q2_a _ HC2.out)) (hide (q2_b _ HC2.out)) (hide (q2_x _ HC2.out)) (hide (q2_z _ HC2.out)) (hide (r2_TV _ HC2.out)) hA hB _ (fun _ _ _ _ _ h => h) (fun E w9 hU => ?_) X
 refine exit_here (then_normal (zs (z1 [(4, z_t)] (ze (wp_ret ?_)))))
 refine (show bodyPost _ _ _ .ret _ _ from ret_sl (.bool true) rfl (by kernel_rfl) ?_)
 exact ⟨rfl, hU⟩
 refine VecUnknown_rft Aa la ca sa Ab lb cb sb lx sx Ax cx ly sy Ay cy Na Nb Nx Nz NV w _ La Lb Ya Yb Ca Cb HT Lx Ly Gxx Gyy Lxx Lyy hU (hide (p2_a w109 HC2.out)) (hide (p2_b w109 HC2.out)) (hide (q2_a _ HC2.out)) (hide (q2_b _ HC2.out)) (hide (q2_x _ HC2.out)) (hide (q2_z _ HC2.out)) (hide (r2_TV _ HC2.out)) hA hB _ (fun _ _ _ _ _ h => h) (fun E w9 hU => ?_) X
 refine exit_here (then_normal (zs (z1 [(4, z_t)] (ze (wp_ret ?_)))))
 refine (show bodyPost _ _ _ .ret _ _ from ret_sl (.bool true) rfl (by kernel_rfl) ?_)
 exact ⟨rfl, hU⟩
 refine VecUnknown_rtf Aa la ca sa Ab lb cb sb lx sx Ax cx ly sy Ay cy Na Nb Nx Nz NV w _ La Lb Ya Yb Ca Cb HT Lx Ly Gxx Gyy Lxx Lyy hU (hide (p2_a w109 HC2.out)) (hide (p2_b w109 HC2.out)) (hide (q2_a _ HC2.out)) (hide (q2_b _ HC2.out)) (hide (q2_x _ HC2.out)) (hide (q2_z _ HC2.out)) (hide (r2_TV _ HC2.out)) hA hB _ (fun _ _ _ _ _ h => h) (fun E w9 hU => ?_) X
 refine exit_here (then_normal (zs (z1 [(4, z_t)] (ze (wp_ret ?_)))))
 refine (show bodyPost _ _ _ .ret _ _ from ret_sl (.bool true) rfl (by kernel_rfl) ?_)
 exact ⟨rfl, hU⟩
 refine VecUnknown_rtt Aa la ca sa Ab lb cb sb lx sx Ax cx ly sy Ay cy Na Nb Nx Nz NV w _ La Lb Ya Yb Ca Cb HT Lx Ly Gxx Gyy Lxx Lyy hU (hide (p2_a w109 HC2.out)) (hide (p2_b w109 HC2.out)) (hide (q2_a _ HC2.out)) (hide (q2_b _ HC2.out)) (hide (q2_x _ HC2.out)) (hide (q2_z _ HC2.out)) (hide (r2_TV _ HC2.out)) hA hB _ (fun _ _ _ _ _ h => h) (fun E w9 hU => ?_) X
 refine exit_here (then_normal (zs (z1 [(4, z_t)] (ze (wp_ret ?_)))))
 refine (show bodyPost _ _ _ .ret _ _ from ret_sl (.bool true) rfl (by kernel_rfl) ?_)
 exact ⟨rfl, hU⟩
theorem VecUnknown_walk (Aa : Option Addr) (la : List Int) (ca : Nat) (sa : Bool) (Ab : Option Addr) (lb : List Int) (cb : Nat) (sb : Bool) (w : World) (ma : la.length ≤ maxLen) (ra : RQ w Aa la) (ya : By la) (pa : Hid (la.length ≤ ca ∧ ca ≤ maxLen)) (mb : lb.length ≤ maxLen) (rb : RQ w Ab lb) (yb : By lb) (pb : Hid (lb.length ≤ cb ∧ cb ≤ maxLen)) (tn : Tab1 2 mNot w) (tb : Tab1 5 mBuf w) (ta : Tab2 3 mAnd w) (tO : Tab2 0 mOr w) (tx : Tab2 4 mXor w) (tg : Tab2 1 mAgree w) : Calls Tryz.prog 11 #[.agg #[.slice Aa la.length ca, .bool sa], .agg #[.slice Ab lb.length cb, .bool sb]] w (Mk (.bool true) w) := by
 by_cases hl : la.length ≤ 140 ∧ lb.length ≤ 140
 · exact VecUnknown_short Aa la ca sa Ab lb cb sb w ma ra ya pa mb rb yb pb tn tb ta tO tx tg (hide fun i h => by
     rcases i with _ | _ | i
     · exact hl.1
     · exact hl.2
     · omega)
 · exact VecUnknown_long Aa la ca sa Ab lb cb sb w ma ra ya pa mb rb yb pb tn tb ta tO tx tg (hide (by
     rcases Nat.lt_or_ge 140 la.length with h | h
     · exact ⟨0, by decide, h⟩
     · exact ⟨1, by decide, by show 140 < lb.length; omega⟩))
end
end Go.Proofs.YtpiakebbndoecaaGreatDoor
