/-
  The walk of BvExamples.
-/
import Derived.Test.YtkjiaflmaniplaaBvCC
namespace Go.Proofs.Ytkjiaflmaniplaa
open Go.RowKit
set_option linter.unusedSimpArgs false
set_option linter.unusedVariables false

theorem nv63 : nv (List.replicate 63 false ++ [true]) = 9223372036854775808 := by rw [nv_append, nv_zeros]; decide
theorem sv63 : sv (List.replicate 63 false ++ [true]) = -9223372036854775808 := by
  unfold sv
  rw [nv63]; decide
theorem sv64 : sv (List.replicate 63 false ++ [true, false]) = 9223372036854775808 := by
  have h : nv (List.replicate 63 false ++ [true, false]) = 9223372036854775808 := by rw [nv_append, nv_zeros]; decide
  unfold sv
  rw [h]; decide
theorem shl_big : vz 4 ((nv (vz 4 5) : Int) * 2 ^ (1099511627776 : Int).toNat) = vz 4 0 := by
  rw [← shl_min, show min (1099511627776 : Int).toNat 4 = 4 from by omega]; decide
theorem sar_big : vz 4 (sv (vz 4 9) / 2 ^ (1099511627776 : Int).toNat) = vz 4 15 := by
  rw [show (1099511627776 : Int).toNat = 3 + 1099511627773 from by omega, Int.pow_add, ← Int.ediv_ediv_of_nonneg (by decide), show sv (vz 4 9) / 2 ^ 3 = -1 from by decide, neg_one_div _ (two_pos _)]; decide
set_option maxRecDepth 100000 in
set_option maxHeartbeats 16000000 in
theorem BvExamples_walk (w : World) : Calls Try.prog 7 #[] w (Mk (.bool true) w) := by
  go_enter Try.func7, Try.ntmps7
  have HB := hide (Below.refl w.heap.size w)
  go_wp2_with fail
  refine (awake_any _).mono ?_
  rintro e w1 ⟨rfl, hb⟩
  replace HB := hide (HB.out.trans (hb.mono HB.out.size))
  clear hb
  go_wp2_with fail
  refine (from_err 1 (-1) _ (by omega)).mono ?_
  rintro e w' ⟨rfl, rfl⟩
  go_wp2_with fail
  refine (from_err 1 129 _ (by omega)).mono ?_
  rintro e w' ⟨rfl, rfl⟩
  go_wp2_with fail
  refine (from_rr (-1) 128 _ (by omega) (by omega) (by omega)).mono ?_
  rintro e w2 ⟨rwi, Awi, cwi, Ewi, rfl, Cwi, Owi, hb⟩
  have Lwi : rwi.length ≤ 4096 := by rw [Ewi.out, vz_length]; first | omega | simp
  replace HB := hide (HB.out.trans (hb.mono HB.out.size))
  clear hb
  clear Owi
  go_wp2_with fail
  refine (from_rr (-1) 0 _ (by omega) (by omega) (by omega)).mono ?_
  rintro e w3 ⟨rno, Ano, cno, Eno, rfl, Cno, Ono, hb⟩
  have Lno : rno.length ≤ 4096 := by rw [Eno.out, vz_length]; first | omega | simp
  replace HB := hide (HB.out.trans (hb.mono HB.out.size))
  clear hb
  clear Ono
  go_wp2_with fail
  refine (of_any (3) 2 _ (by omega) (by omega) (by omega)).mono ?_
  rintro e w4 ⟨r1, A1, c1, E1, rfl, C1, O1, hb⟩
  have L1 : r1.length ≤ 4096 := by rw [E1.out, vz_length]; omega
  replace HB := hide (HB.out.trans (hb.mono HB.out.size))
  clear hb
  have R1 := hide O1.out.rd
  clear O1
  go_wp2_with fail
  refine (of_any (0) 5 _ (by omega) (by omega) (by omega)).mono ?_
  rintro e w5 ⟨r2, A2, c2, E2, rfl, C2, O2, hb⟩
  have L2 : r2.length ≤ 4096 := by rw [E2.out, vz_length]; omega
  replace R1 := hide (R1.out.below hb)
  replace HB := hide (HB.out.trans (hb.mono HB.out.size))
  clear hb
  have R2 := hide O2.out.rd
  clear O2
  go_wp2_with fail
  refine (div_zero _ _ r1 r2 _ _ _ L1 L2 R2.out (by rw [E2.out]; decide)).mono ?_
  rintro e w' ⟨rfl, rfl⟩
  clear R1
  clear R2
  go_wp2_with fail
  refine (sdiv_zero none none [] [] 0 0 _ (by simp) (by simp) (fun h => absurd h (by simp)) (fun h => absurd h (by simp)) (by decide)).mono ?_
  rintro e w6 ⟨rfl, hb⟩
  replace HB := hide (HB.out.trans (hb.mono HB.out.size))
  clear hb
  go_wp2_with fail
  refine (of_any (13) 4 _ (by omega) (by omega) (by omega)).mono ?_
  rintro e w7 ⟨r3, A3, c3, E3, rfl, C3, O3, hb⟩
  have L3 : r3.length ≤ 4096 := by rw [E3.out, vz_length]; omega
  replace HB := hide (HB.out.trans (hb.mono HB.out.size))
  clear hb
  have R3 := hide O3.out.rd
  clear O3
  go_wp2_with fail
  refine (of_any (200) 9 _ (by omega) (by omega) (by omega)).mono ?_
  rintro e w8 ⟨r4, A4, c4, E4, rfl, C4, O4, hb⟩
  have L4 : r4.length ≤ 4096 := by rw [E4.out, vz_length]; omega
  replace R3 := hide (R3.out.below hb)
  replace HB := hide (HB.out.trans (hb.mono HB.out.size))
  clear hb
  have R4 := hide O4.out.rd
  clear O4
  go_wp2_with fail
  refine (div_r _ _ r3 r4 _ _ _ L3 L4 R3.out R4.out (by rw [E4.out]; decide)).mono ?_
  rintro e w9 ⟨rq, Aq, cq, rr, Ar, cr, Eq, Er, rfl, Oq, Or, hb⟩
  have Lq : rq.length ≤ 4096 := by rw [Eq.out, vz_length]; first | omega | simp
  have Lr : rr.length ≤ 4096 := by rw [Er.out, vz_length]; first | omega | simp
  replace R3 := hide (R3.out.below hb)
  replace R4 := hide (R4.out.below hb)
  replace HB := hide (HB.out.trans (hb.mono HB.out.size))
  clear hb
  have Rq := hide Oq.out.rd
  clear Oq
  have Rr := hide Or.out.rd
  clear Or
  clear R3
  clear R4
  go_wp2_with fail
  refine (of_any (1) 1 _ (by omega) (by omega) (by omega)).mono ?_
  rintro e w10 ⟨r5, A5, c5, E5, rfl, C5, O5, hb⟩
  have L5 : r5.length ≤ 4096 := by rw [E5.out, vz_length]; omega
  replace Rq := hide (Rq.out.below hb)
  replace Rr := hide (Rr.out.below hb)
  replace HB := hide (HB.out.trans (hb.mono HB.out.size))
  clear hb
  have R5 := hide O5.out.rd
  clear O5
  go_wp2_with fail
  refine (sdiv_r none _ [] r5 0 _ _ (by simp) L5 (fun h => absurd h (by simp)) R5.out (by rw [E5.out]; decide)).mono ?_
  rintro e w11 ⟨rs, As, cs, rt, At, ct, Es, Et, rfl, Os, Ot, hb⟩
  have Ls : rs.length ≤ 4096 := by rw [Es.out, vz_length]; first | omega | simp
  have Lt : rt.length ≤ 4096 := by rw [Et.out, vz_length]; first | omega | simp
  replace Rq := hide (Rq.out.below hb)
  replace Rr := hide (Rr.out.below hb)
  replace R5 := hide (R5.out.below hb)
  replace HB := hide (HB.out.trans (hb.mono HB.out.size))
  clear hb
  have Rs := hide Os.out.rd
  clear Os
  have Rt := hide Ot.out.rd
  clear Ot
  clear R5
  clear Rs
  clear Rt
  go_wp2_with fail
  refine (of_any (-1) 64 _ (by omega) (by omega) (by omega)).mono ?_
  rintro e w12 ⟨ru1, Au1, cu1, Eu1, rfl, Cu1, Ou1, hb⟩
  have Lu1 : ru1.length ≤ 4096 := by rw [Eu1.out, vz_length]; omega
  replace Rq := hide (Rq.out.below hb)
  replace Rr := hide (Rr.out.below hb)
  replace HB := hide (HB.out.trans (hb.mono HB.out.size))
  clear hb
  have Ru1 := hide Ou1.out.rd
  clear Ou1
  go_wp2_with fail
  refine (uint_any _ ru1 _ _ Lu1 Ru1.out).mono ?_
  rintro e w' ⟨hu, rfl⟩
  obtain rfl := uint_is hu (m := 18446744073709551615) (by have := nv_vz 64 (-1); rw [← Eu1.out] at this; omega) (by omega)
  clear hu
  clear Ru1
  go_wp2_with fail
  refine (of_any (-1) 65 _ (by omega) (by omega) (by omega)).mono ?_
  rintro e w13 ⟨ru2, Au2, cu2, Eu2, rfl, Cu2, Ou2, hb⟩
  have Lu2 : ru2.length ≤ 4096 := by rw [Eu2.out, vz_length]; omega
  replace Rq := hide (Rq.out.below hb)
  replace Rr := hide (Rr.out.below hb)
  replace HB := hide (HB.out.trans (hb.mono HB.out.size))
  clear hb
  have Ru2 := hide Ou2.out.rd
  clear Ou2
  go_wp2_with fail
  refine (uint_any _ ru2 _ _ Lu2 Ru2.out).mono ?_
  rintro e w' ⟨hu, rfl⟩
  obtain rfl := uint_not hu (by have := nv_vz 65 (-1); rw [← Eu2.out] at this; omega)
  clear hu
  clear Ru2
  go_wp2_with fail
  refine (of_any (-1) 128 _ (by omega) (by omega) (by omega)).mono ?_
  rintro e w14 ⟨ru3, Au3, cu3, Eu3, rfl, Cu3, Ou3, hb⟩
  have Lu3 : ru3.length ≤ 4096 := by rw [Eu3.out, vz_length]; omega
  replace Rq := hide (Rq.out.below hb)
  replace Rr := hide (Rr.out.below hb)
  replace HB := hide (HB.out.trans (hb.mono HB.out.size))
  clear hb
  have Ru3 := hide Ou3.out.rd
  clear Ou3
  go_wp2_with fail
  refine (int_any _ ru3 _ _ Lu3 Ru3.out).mono ?_
  rintro e w' ⟨hu, rfl⟩
  obtain rfl := int_is hu (m := -1) (by rw [Eu3.out]; exact sv_vz (by decide) (by decide)) (by omega) (by omega)
  clear hu
  clear Ru3
  go_wp2_with (first
    | (at_make; refine wpList_make_ow _ rfl _ _ rfl _ _ 63 rfl rfl rfl rfl (by omega) ?_; intro wm hr1 hb hz1; have HR := hide hr1; clear hr1)
    | (at_builtin; refine wpList_append_bv _ rfl _ _ rfl w14.heap.size _ 63 (List.replicate 63 false) rfl (HR.out.alloc _) (some ⟨wm.heap.size, 0, none⟩) 1 1 [true] rfl rfl (one_rd _ _) (by simp) (by simp; omega) ?_; intro v' wq hown hb2; obtain ⟨rb1, hy⟩ : ∃ y, y = List.replicate 63 false ++ [true] := ⟨_, rfl⟩; rw [← hy] at hown; obtain ⟨Ab1, cb1, rfl, h1, h2, h3⟩ := own_open hown; have Ob1 := hide h3; replace hb := ((hb.alloc (Nat.le_of_lt hz1) (.cells #[.bool true] 4)).trans hb2); have Eb1 := hide hy; clear hown hb2 h1 h2 h3 hy hz1))
  have Lb1 : rb1.length ≤ 4096 := by rw [Eb1.out]; simp
  replace Rq := hide (Rq.out.below hb)
  replace Rr := hide (Rr.out.below hb)
  replace HB := hide (HB.out.trans (hb.mono HB.out.size))
  clear hb HR
  have Rb1 := hide Ob1.out.rd
  refine (int_any _ rb1 _ _ Lb1 Rb1.out).mono ?_
  rintro e w' ⟨hu, rfl⟩
  obtain rfl := int_is hu (m := -9223372036854775808) (by rw [Eb1.out]; exact sv63) (by omega) (by omega)
  clear hu Rb1 Ob1
  obtain ⟨w15, hwq⟩ : ∃ x, x = wq := ⟨_, rfl⟩
  subst hwq
  go_wp2_with (first
    | (at_make; refine wpList_make_ow _ rfl _ _ rfl _ _ 63 rfl rfl rfl rfl (by omega) ?_; intro wm hr1 hb hz1; have HR := hide hr1; clear hr1)
    | (at_builtin; refine wpList_append_bv _ rfl _ _ rfl w15.heap.size _ 63 (List.replicate 63 false) rfl (HR.out.alloc _) (some ⟨wm.heap.size, 0, none⟩) 2 2 [true, false] rfl rfl (two_rd _ _ _) (by simp) (by simp; omega) ?_; intro v' wq hown hb2; obtain ⟨rb2, hy⟩ : ∃ y, y = List.replicate 63 false ++ [true, false] := ⟨_, rfl⟩; rw [← hy] at hown; obtain ⟨Ab2, cb2, rfl, h1, h2, h3⟩ := own_open hown; have Ob2 := hide h3; replace hb := ((hb.alloc (Nat.le_of_lt hz1) (.cells #[.bool true, .bool false] 4)).trans hb2); have Eb2 := hide hy; clear hown hb2 h1 h2 h3 hy hz1))
  have Lb2 : rb2.length ≤ 4096 := by rw [Eb2.out]; simp
  replace Rq := hide (Rq.out.below hb)
  replace Rr := hide (Rr.out.below hb)
  replace HB := hide (HB.out.trans (hb.mono HB.out.size))
  clear hb HR
  have Rb2 := hide Ob2.out.rd
  refine (int_any _ rb2 _ _ Lb2 Rb2.out).mono ?_
  rintro e w' ⟨hu, rfl⟩
  obtain rfl := int_not hu (by rw [Eb2.out, sv64]; omega)
  clear hu Rb2 Ob2
  obtain ⟨w16, hwq⟩ : ∃ x, x = wq := ⟨_, rfl⟩
  subst hwq
  have hl1 : rwi.length = 128 := by rw [Ewi.out, vz_length]
  have hl2 : rno.length = 0 := by rw [Eno.out, vz_length]
  have hl3 : rs.length = 0 := by rw [Es.out, vz_length]; rfl
  have hl4 : rt.length = 0 := by rw [Et.out, vz_length]; rfl
  go_wp2_with fail
  refine (of_any (0) 4 _ (by omega) (by omega) (by omega)).mono ?_
  rintro e w17 ⟨rc1, Ac1, cc1, Ec1, rfl, Cc1, Oc1, hb⟩
  have Lc1 : rc1.length ≤ 4096 := by rw [Ec1.out, vz_length]; omega
  replace Rq := hide (Rq.out.below hb)
  replace Rr := hide (Rr.out.below hb)
  replace HB := hide (HB.out.trans (hb.mono HB.out.size))
  clear hb
  have Rc1 := hide Oc1.out.rd
  clear Oc1
  go_wp2_with fail
  refine (same_yes _ _ _ _ _ _ _ Lq Rq.out Rc1.out (by rw [Eq.out, Ec1.out, E3.out, E4.out]; decide)).mono ?_
  rintro e w18 ⟨rfl, hb⟩
  replace Rq := hide (Rq.out.below hb)
  replace Rr := hide (Rr.out.below hb)
  replace Rc1 := hide (Rc1.out.below hb)
  replace HB := hide (HB.out.trans (hb.mono HB.out.size))
  clear hb
  clear Rq
  clear Rc1
  go_wp2_with fail
  refine (of_any (13) 4 _ (by omega) (by omega) (by omega)).mono ?_
  rintro e w19 ⟨rc2, Ac2, cc2, Ec2, rfl, Cc2, Oc2, hb⟩
  have Lc2 : rc2.length ≤ 4096 := by rw [Ec2.out, vz_length]; omega
  replace Rr := hide (Rr.out.below hb)
  replace HB := hide (HB.out.trans (hb.mono HB.out.size))
  clear hb
  have Rc2 := hide Oc2.out.rd
  clear Oc2
  go_wp2_with fail
  refine (same_yes _ _ _ _ _ _ _ Lr Rr.out Rc2.out (by rw [Er.out, Ec2.out, E3.out, E4.out]; decide)).mono ?_
  rintro e w20 ⟨rfl, hb⟩
  replace Rr := hide (Rr.out.below hb)
  replace Rc2 := hide (Rc2.out.below hb)
  replace HB := hide (HB.out.trans (hb.mono HB.out.size))
  clear hb
  clear Rr
  clear Rc2
  go_wp2_with fail
  refine (of_any (5) 3 _ (by omega) (by omega) (by omega)).mono ?_
  rintro e w21 ⟨rd1, Ad1, cd1, Ed1, rfl, Cd1, Od1, hb⟩
  have Ld1 : rd1.length ≤ 4096 := by rw [Ed1.out, vz_length]; omega
  replace HB := hide (HB.out.trans (hb.mono HB.out.size))
  clear hb
  have Rd1 := hide Od1.out.rd
  clear Od1
  go_wp2_with fail
  refine (add_r none _ [] rd1 0 _ _ (by simp) Ld1 (fun h => absurd h (by simp)) Rd1.out).mono ?_
  rintro e w22 ⟨rd2, Ad2, cd2, Ed2, rfl, Cd2, Od2, hb⟩
  have Ld2 : rd2.length ≤ 4096 := by rw [Ed2.out, vz_length]; first | omega | simp
  replace Rd1 := hide (Rd1.out.below hb)
  replace HB := hide (HB.out.trans (hb.mono HB.out.size))
  clear hb
  have Rd2 := hide Od2.out.rd
  clear Od2
  have hl5 : rd2.length = 0 := by rw [Ed2.out, vz_length]; rfl
  clear Rd1
  clear Rd2
  go_wp2_with fail
  refine (of_any (1) 1 _ (by omega) (by omega) (by omega)).mono ?_
  rintro e w23 ⟨re1, Ae1, ce1, Ee1, rfl, Ce1, Oe1, hb⟩
  have Le1 : re1.length ≤ 4096 := by rw [Ee1.out, vz_length]; omega
  replace HB := hide (HB.out.trans (hb.mono HB.out.size))
  clear hb
  have Re1 := hide Oe1.out.rd
  clear Oe1
  go_wp2_with fail
  refine (of_any (3) 2 _ (by omega) (by omega) (by omega)).mono ?_
  rintro e w24 ⟨re2, Ae2, ce2, Ee2, rfl, Ce2, Oe2, hb⟩
  have Le2 : re2.length ≤ 4096 := by rw [Ee2.out, vz_length]; omega
  replace Re1 := hide (Re1.out.below hb)
  replace HB := hide (HB.out.trans (hb.mono HB.out.size))
  clear hb
  have Re2 := hide Oe2.out.rd
  clear Oe2
  go_wp2_with fail
  refine (add_r _ _ re1 re2 _ _ _ Le1 Le2 Re1.out Re2.out).mono ?_
  rintro e w25 ⟨re3, Ae3, ce3, Ee3, rfl, Ce3, Oe3, hb⟩
  have Le3 : re3.length ≤ 4096 := by rw [Ee3.out, vz_length]; first | omega | simp
  replace Re1 := hide (Re1.out.below hb)
  replace Re2 := hide (Re2.out.below hb)
  replace HB := hide (HB.out.trans (hb.mono HB.out.size))
  clear hb
  have Re3 := hide Oe3.out.rd
  clear Oe3
  go_wp2_with fail
  refine (of_any (0) 1 _ (by omega) (by omega) (by omega)).mono ?_
  rintro e w26 ⟨re4, Ae4, ce4, Ee4, rfl, Ce4, Oe4, hb⟩
  have Le4 : re4.length ≤ 4096 := by rw [Ee4.out, vz_length]; omega
  replace Re1 := hide (Re1.out.below hb)
  replace Re2 := hide (Re2.out.below hb)
  replace Re3 := hide (Re3.out.below hb)
  replace HB := hide (HB.out.trans (hb.mono HB.out.size))
  clear hb
  have Re4 := hide Oe4.out.rd
  clear Oe4
  go_wp2_with fail
  refine (same_yes _ _ _ _ _ _ _ Le3 Re3.out Re4.out (by rw [Ee3.out, Ee4.out, Ee1.out, Ee2.out]; decide)).mono ?_
  rintro e w27 ⟨rfl, hb⟩
  replace Re1 := hide (Re1.out.below hb)
  replace Re2 := hide (Re2.out.below hb)
  replace Re3 := hide (Re3.out.below hb)
  replace Re4 := hide (Re4.out.below hb)
  replace HB := hide (HB.out.trans (hb.mono HB.out.size))
  clear hb
  clear Re1
  clear Re2
  clear Re3
  clear Re4
  go_wp2_with fail
  refine (of_any (0) 3 _ (by omega) (by omega) (by omega)).mono ?_
  rintro e w28 ⟨rf1, Af1, cf1, Ef1, rfl, Cf1, Of1, hb⟩
  have Lf1 : rf1.length ≤ 4096 := by rw [Ef1.out, vz_length]; omega
  replace HB := hide (HB.out.trans (hb.mono HB.out.size))
  clear hb
  have Rf1 := hide Of1.out.rd
  clear Of1
  go_wp2_with fail
  refine (of_any (9) 5 _ (by omega) (by omega) (by omega)).mono ?_
  rintro e w29 ⟨rf2, Af2, cf2, Ef2, rfl, Cf2, Of2, hb⟩
  have Lf2 : rf2.length ≤ 4096 := by rw [Ef2.out, vz_length]; omega
  replace Rf1 := hide (Rf1.out.below hb)
  replace HB := hide (HB.out.trans (hb.mono HB.out.size))
  clear hb
  have Rf2 := hide Of2.out.rd
  clear Of2
  go_wp2_with fail
  refine (sub_r _ _ rf1 rf2 _ _ _ Lf1 Lf2 Rf1.out Rf2.out).mono ?_
  rintro e w30 ⟨rf3, Af3, cf3, Ef3, rfl, Cf3, Of3, hb⟩
  have Lf3 : rf3.length ≤ 4096 := by rw [Ef3.out, vz_length]; first | omega | simp
  replace Rf1 := hide (Rf1.out.below hb)
  replace Rf2 := hide (Rf2.out.below hb)
  replace HB := hide (HB.out.trans (hb.mono HB.out.size))
  clear hb
  have Rf3 := hide Of3.out.rd
  clear Of3
  go_wp2_with fail
  refine (of_any (7) 3 _ (by omega) (by omega) (by omega)).mono ?_
  rintro e w31 ⟨rf4, Af4, cf4, Ef4, rfl, Cf4, Of4, hb⟩
  have Lf4 : rf4.length ≤ 4096 := by rw [Ef4.out, vz_length]; omega
  replace Rf1 := hide (Rf1.out.below hb)
  replace Rf2 := hide (Rf2.out.below hb)
  replace Rf3 := hide (Rf3.out.below hb)
  replace HB := hide (HB.out.trans (hb.mono HB.out.size))
  clear hb
  have Rf4 := hide Of4.out.rd
  clear Of4
  go_wp2_with fail
  refine (same_yes _ _ _ _ _ _ _ Lf3 Rf3.out Rf4.out (by rw [Ef3.out, Ef4.out, Ef1.out, Ef2.out]; decide)).mono ?_
  rintro e w32 ⟨rfl, hb⟩
  replace Rf1 := hide (Rf1.out.below hb)
  replace Rf2 := hide (Rf2.out.below hb)
  replace Rf3 := hide (Rf3.out.below hb)
  replace Rf4 := hide (Rf4.out.below hb)
  replace HB := hide (HB.out.trans (hb.mono HB.out.size))
  clear hb
  clear Rf1
  clear Rf2
  clear Rf3
  clear Rf4
  go_wp2_with fail
  refine (of_any (5) 4 _ (by omega) (by omega) (by omega)).mono ?_
  rintro e w33 ⟨rh1, Ah1, ch1, Eh1, rfl, Ch1, Oh1, hb⟩
  have Lh1 : rh1.length ≤ 4096 := by rw [Eh1.out, vz_length]; omega
  replace HB := hide (HB.out.trans (hb.mono HB.out.size))
  clear hb
  have Rh1 := hide Oh1.out.rd
  clear Oh1
  go_wp2_with fail
  refine (shl_r _ rh1 _ 1099511627776 _ Lh1 Rh1.out).mono ?_
  rintro e w34 ⟨rh2, Ah2, ch2, Eh2, rfl, Ch2, Oh2, hb⟩
  have Lh2 : rh2.length ≤ 4096 := by rw [Eh2.out, vz_length]; first | omega | simp
  replace Rh1 := hide (Rh1.out.below hb)
  replace HB := hide (HB.out.trans (hb.mono HB.out.size))
  clear hb
  have Rh2 := hide Oh2.out.rd
  clear Oh2
  go_wp2_with fail
  refine (of_any (0) 4 _ (by omega) (by omega) (by omega)).mono ?_
  rintro e w35 ⟨rh3, Ah3, ch3, Eh3, rfl, Ch3, Oh3, hb⟩
  have Lh3 : rh3.length ≤ 4096 := by rw [Eh3.out, vz_length]; omega
  replace Rh1 := hide (Rh1.out.below hb)
  replace Rh2 := hide (Rh2.out.below hb)
  replace HB := hide (HB.out.trans (hb.mono HB.out.size))
  clear hb
  have Rh3 := hide Oh3.out.rd
  clear Oh3
  go_wp2_with fail
  refine (same_yes _ _ _ _ _ _ _ Lh2 Rh2.out Rh3.out (by rw [Eh2.out, Eh3.out, Eh1.out, vz_length]; exact shl_big)).mono ?_
  rintro e w36 ⟨rfl, hb⟩
  replace Rh1 := hide (Rh1.out.below hb)
  replace Rh2 := hide (Rh2.out.below hb)
  replace Rh3 := hide (Rh3.out.below hb)
  replace HB := hide (HB.out.trans (hb.mono HB.out.size))
  clear hb
  clear Rh1
  clear Rh2
  clear Rh3
  go_wp2_with fail
  refine (of_any (5) 4 _ (by omega) (by omega) (by omega)).mono ?_
  rintro e w37 ⟨ri1, Ai1, ci1, Ei1, rfl, Ci1, Oi1, hb⟩
  have Li1 : ri1.length ≤ 4096 := by rw [Ei1.out, vz_length]; omega
  replace HB := hide (HB.out.trans (hb.mono HB.out.size))
  clear hb
  have Ri1 := hide Oi1.out.rd
  clear Oi1
  go_wp2_with fail
  refine (shr_r _ ri1 _ (-1) _ Li1 Ri1.out).mono ?_
  rintro e w38 ⟨ri2, Ai2, ci2, Ei2, rfl, Ci2, Oi2, hb⟩
  have Li2 : ri2.length ≤ 4096 := by rw [Ei2.out, vz_length]; first | omega | simp
  replace Ri1 := hide (Ri1.out.below hb)
  replace HB := hide (HB.out.trans (hb.mono HB.out.size))
  clear hb
  have Ri2 := hide Oi2.out.rd
  clear Oi2
  go_wp2_with fail
  refine (of_any (5) 4 _ (by omega) (by omega) (by omega)).mono ?_
  rintro e w39 ⟨ri3, Ai3, ci3, Ei3, rfl, Ci3, Oi3, hb⟩
  have Li3 : ri3.length ≤ 4096 := by rw [Ei3.out, vz_length]; omega
  replace Ri1 := hide (Ri1.out.below hb)
  replace Ri2 := hide (Ri2.out.below hb)
  replace HB := hide (HB.out.trans (hb.mono HB.out.size))
  clear hb
  have Ri3 := hide Oi3.out.rd
  clear Oi3
  go_wp2_with fail
  refine (same_yes _ _ _ _ _ _ _ Li2 Ri2.out Ri3.out (by rw [Ei2.out, Ei3.out, Ei1.out]; decide)).mono ?_
  rintro e w40 ⟨rfl, hb⟩
  replace Ri1 := hide (Ri1.out.below hb)
  replace Ri2 := hide (Ri2.out.below hb)
  replace Ri3 := hide (Ri3.out.below hb)
  replace HB := hide (HB.out.trans (hb.mono HB.out.size))
  clear hb
  clear Ri1
  clear Ri2
  clear Ri3
  go_wp2_with fail
  refine (of_any (9) 4 _ (by omega) (by omega) (by omega)).mono ?_
  rintro e w41 ⟨rj1, Aj1, cj1, Ej1, rfl, Cj1, Oj1, hb⟩
  have Lj1 : rj1.length ≤ 4096 := by rw [Ej1.out, vz_length]; omega
  replace HB := hide (HB.out.trans (hb.mono HB.out.size))
  clear hb
  have Rj1 := hide Oj1.out.rd
  clear Oj1
  go_wp2_with fail
  refine (sar_r _ rj1 _ 1099511627776 _ Lj1 Rj1.out).mono ?_
  rintro e w42 ⟨rj2, Aj2, cj2, Ej2, rfl, Cj2, Oj2, hb⟩
  have Lj2 : rj2.length ≤ 4096 := by rw [Ej2.out, vz_length]; first | omega | simp
  replace Rj1 := hide (Rj1.out.below hb)
  replace HB := hide (HB.out.trans (hb.mono HB.out.size))
  clear hb
  have Rj2 := hide Oj2.out.rd
  clear Oj2
  go_wp2_with fail
  refine (of_any (15) 4 _ (by omega) (by omega) (by omega)).mono ?_
  rintro e w43 ⟨rj3, Aj3, cj3, Ej3, rfl, Cj3, Oj3, hb⟩
  have Lj3 : rj3.length ≤ 4096 := by rw [Ej3.out, vz_length]; omega
  replace Rj1 := hide (Rj1.out.below hb)
  replace Rj2 := hide (Rj2.out.below hb)
  replace HB := hide (HB.out.trans (hb.mono HB.out.size))
  clear hb
  have Rj3 := hide Oj3.out.rd
  clear Oj3
  go_wp2_with fail
  refine (same_yes _ _ _ _ _ _ _ Lj2 Rj2.out Rj3.out (by rw [Ej2.out, Ej3.out, Ej1.out, vz_length]; exact sar_big)).mono ?_
  rintro e w44 ⟨rfl, hb⟩
  replace Rj1 := hide (Rj1.out.below hb)
  replace Rj2 := hide (Rj2.out.below hb)
  replace Rj3 := hide (Rj3.out.below hb)
  replace HB := hide (HB.out.trans (hb.mono HB.out.size))
  clear hb
  clear Rj1
  clear Rj2
  clear Rj3
  go_wp2_with fail
  refine (of_any (5) 4 _ (by omega) (by omega) (by omega)).mono ?_
  rintro e w45 ⟨rk1, Ak1, ck1, Ek1, rfl, Ck1, Ok1, hb⟩
  have Lk1 : rk1.length ≤ 4096 := by rw [Ek1.out, vz_length]; omega
  replace HB := hide (HB.out.trans (hb.mono HB.out.size))
  clear hb
  have Rk1 := hide Ok1.out.rd
  clear Ok1
  go_wp2_with fail
  refine (of_any (5) 9 _ (by omega) (by omega) (by omega)).mono ?_
  rintro e w46 ⟨rk2, Ak2, ck2, Ek2, rfl, Ck2, Ok2, hb⟩
  have Lk2 : rk2.length ≤ 4096 := by rw [Ek2.out, vz_length]; omega
  replace Rk1 := hide (Rk1.out.below hb)
  replace HB := hide (HB.out.trans (hb.mono HB.out.size))
  clear hb
  have Rk2 := hide Ok2.out.rd
  clear Ok2
  go_wp2_with fail
  have h := cmp_any Ak1 Ak2 rk1 rk2 ck1 ck2 _ Lk1 Lk2 Rk1.out Rk2.out
  rw [show cmp (nv rk1) (nv rk2) = 0 from by rw [Ek1.out, Ek2.out]; decide] at h
  have H := hide h
  clear h
  refine (H.out).mono ?_
  rintro e w' ⟨rfl, rfl⟩
  clear H
  clear Rk1
  clear Rk2
  go_wp2_with fail
  refine (of_any (5) 3 _ (by omega) (by omega) (by omega)).mono ?_
  rintro e w47 ⟨rm1, Am1, cm1, Em1, rfl, Cm1, Om1, hb⟩
  have Lm1 : rm1.length ≤ 4096 := by rw [Em1.out, vz_length]; omega
  replace HB := hide (HB.out.trans (hb.mono HB.out.size))
  clear hb
  have Rm1 := hide Om1.out.rd
  clear Om1
  go_wp2_with fail
  refine (of_any (5) 4 _ (by omega) (by omega) (by omega)).mono ?_
  rintro e w48 ⟨rm2, Am2, cm2, Em2, rfl, Cm2, Om2, hb⟩
  have Lm2 : rm2.length ≤ 4096 := by rw [Em2.out, vz_length]; omega
  replace Rm1 := hide (Rm1.out.below hb)
  replace HB := hide (HB.out.trans (hb.mono HB.out.size))
  clear hb
  have Rm2 := hide Om2.out.rd
  clear Om2
  go_wp2_with fail
  have h := scmp_any Am1 Am2 rm1 rm2 cm1 cm2 _ Lm1 Lm2 Rm1.out Rm2.out
  rw [show cmp (sv rm1) (sv rm2) = -1 from by rw [Em1.out, Em2.out]; decide] at h
  have H := hide h
  clear h
  refine (H.out).mono ?_
  rintro e w' ⟨rfl, rfl⟩
  clear H
  clear Rm1
  clear Rm2
  go_wp2_with fail
  refine (of_any (1) 1 _ (by omega) (by omega) (by omega)).mono ?_
  rintro e w49 ⟨rn1, An1, cn1, En1, rfl, Cn1, On1, hb⟩
  have Ln1 : rn1.length ≤ 4096 := by rw [En1.out, vz_length]; omega
  replace HB := hide (HB.out.trans (hb.mono HB.out.size))
  clear hb
  have Rn1 := hide On1.out.rd
  clear On1
  go_wp2_with fail
  have h := scmp_any none An1 [] rn1 0 cn1 _ (by simp) Ln1 (fun h => absurd h (by simp)) Rn1.out
  rw [show cmp (sv []) (sv rn1) = 1 from by rw [En1.out]; decide] at h
  have H := hide h
  clear h
  refine (H.out).mono ?_
  rintro e w' ⟨rfl, rfl⟩
  clear H
  clear Rn1
  go_wp2_with fail
  refine (of_any (0) 4 _ (by omega) (by omega) (by omega)).mono ?_
  rintro e w50 ⟨ro1, Ao1, co1, Eo1, rfl, Co1, Oo1, hb⟩
  have Lo1 : ro1.length ≤ 4096 := by rw [Eo1.out, vz_length]; omega
  replace HB := hide (HB.out.trans (hb.mono HB.out.size))
  clear hb
  have Ro1 := hide Oo1.out.rd
  clear Oo1
  go_wp2_with fail
  refine (pow_r _ none ro1 [] _ 0 _ Lo1 (by simp) Ro1.out (fun h => absurd h (by simp))).mono ?_
  rintro e w51 ⟨ro2, Ao2, co2, Eo2, rfl, Co2, Oo2, hb⟩
  have Lo2 : ro2.length ≤ 4096 := by rw [Eo2.out, vz_length]; first | omega | simp
  replace Ro1 := hide (Ro1.out.below hb)
  replace HB := hide (HB.out.trans (hb.mono HB.out.size))
  clear hb
  have Ro2 := hide Oo2.out.rd
  clear Oo2
  go_wp2_with fail
  refine (of_any (1) 4 _ (by omega) (by omega) (by omega)).mono ?_
  rintro e w52 ⟨ro3, Ao3, co3, Eo3, rfl, Co3, Oo3, hb⟩
  have Lo3 : ro3.length ≤ 4096 := by rw [Eo3.out, vz_length]; omega
  replace Ro1 := hide (Ro1.out.below hb)
  replace Ro2 := hide (Ro2.out.below hb)
  replace HB := hide (HB.out.trans (hb.mono HB.out.size))
  clear hb
  have Ro3 := hide Oo3.out.rd
  clear Oo3
  go_wp2_with fail
  refine (same_yes _ _ _ _ _ _ _ Lo2 Ro2.out Ro3.out (by rw [Eo2.out, Eo3.out, Eo1.out]; decide)).mono ?_
  rintro e w53 ⟨rfl, hb⟩
  replace Ro1 := hide (Ro1.out.below hb)
  replace Ro2 := hide (Ro2.out.below hb)
  replace Ro3 := hide (Ro3.out.below hb)
  replace HB := hide (HB.out.trans (hb.mono HB.out.size))
  clear hb
  clear Ro1
  clear Ro2
  clear Ro3
  go_wp2_with fail
  refine (of_any (1) 1 _ (by omega) (by omega) (by omega)).mono ?_
  rintro e w54 ⟨rp1, Ap1, cp1, Ep1, rfl, Cp1, Op1, hb⟩
  have Lp1 : rp1.length ≤ 4096 := by rw [Ep1.out, vz_length]; omega
  replace HB := hide (HB.out.trans (hb.mono HB.out.size))
  clear hb
  have Rp1 := hide Op1.out.rd
  clear Op1
  go_wp2_with fail
  refine (pow_r none _ [] rp1 0 _ _ (by simp) Lp1 (fun h => absurd h (by simp)) Rp1.out).mono ?_
  rintro e w55 ⟨rp2, Ap2, cp2, Ep2, rfl, Cp2, Op2, hb⟩
  have Lp2 : rp2.length ≤ 4096 := by rw [Ep2.out, vz_length]; first | omega | simp
  replace Rp1 := hide (Rp1.out.below hb)
  replace HB := hide (HB.out.trans (hb.mono HB.out.size))
  clear hb
  have Rp2 := hide Op2.out.rd
  clear Op2
  have hl6 : rp2.length = 0 := by rw [Ep2.out, vz_length]; rfl
  clear Rp1
  clear Rp2
  go_wp2_with fail
  refine (of_any (2) 4 _ (by omega) (by omega) (by omega)).mono ?_
  rintro e w56 ⟨rz1, Az1, cz1, Ez1, rfl, Cz1, Oz1, hb⟩
  have Lz1 : rz1.length ≤ 4096 := by rw [Ez1.out, vz_length]; omega
  replace HB := hide (HB.out.trans (hb.mono HB.out.size))
  clear hb
  have Rz1 := hide Oz1.out.rd
  clear Oz1
  go_wp2_with fail
  refine (of_any (4) 3 _ (by omega) (by omega) (by omega)).mono ?_
  rintro e w57 ⟨rz2, Az2, cz2, Ez2, rfl, Cz2, Oz2, hb⟩
  have Lz2 : rz2.length ≤ 4096 := by rw [Ez2.out, vz_length]; omega
  replace Rz1 := hide (Rz1.out.below hb)
  replace HB := hide (HB.out.trans (hb.mono HB.out.size))
  clear hb
  have Rz2 := hide Oz2.out.rd
  clear Oz2
  go_wp2_with fail
  refine (pow_r _ _ rz1 rz2 _ _ _ Lz1 Lz2 Rz1.out Rz2.out).mono ?_
  rintro e w58 ⟨rz3, Az3, cz3, Ez3, rfl, Cz3, Oz3, hb⟩
  have Lz3 : rz3.length ≤ 4096 := by rw [Ez3.out, vz_length]; first | omega | simp
  replace Rz1 := hide (Rz1.out.below hb)
  replace Rz2 := hide (Rz2.out.below hb)
  replace HB := hide (HB.out.trans (hb.mono HB.out.size))
  clear hb
  have Rz3 := hide Oz3.out.rd
  clear Oz3
  go_wp2_with fail
  refine (of_any (0) 4 _ (by omega) (by omega) (by omega)).mono ?_
  rintro e w59 ⟨rz4, Az4, cz4, Ez4, rfl, Cz4, Oz4, hb⟩
  have Lz4 : rz4.length ≤ 4096 := by rw [Ez4.out, vz_length]; omega
  replace Rz1 := hide (Rz1.out.below hb)
  replace Rz2 := hide (Rz2.out.below hb)
  replace Rz3 := hide (Rz3.out.below hb)
  replace HB := hide (HB.out.trans (hb.mono HB.out.size))
  clear hb
  have Rz4 := hide Oz4.out.rd
  clear Oz4
  go_wp2_with fail
  refine (same_yes _ _ _ _ _ _ _ Lz3 Rz3.out Rz4.out (by rw [Ez3.out, Ez4.out, Ez1.out, Ez2.out]; decide)).mono ?_
  rintro e w60 ⟨rfl, hb⟩
  replace Rz1 := hide (Rz1.out.below hb)
  replace Rz2 := hide (Rz2.out.below hb)
  replace Rz3 := hide (Rz3.out.below hb)
  replace Rz4 := hide (Rz4.out.below hb)
  replace HB := hide (HB.out.trans (hb.mono HB.out.size))
  clear hb
  clear Rz1
  clear Rz2
  clear Rz3
  clear Rz4
  go_wp2_with fail
  go_ret
  exact ⟨rfl, HB.out⟩
end Go.Proofs.Ytkjiaflmaniplaa
