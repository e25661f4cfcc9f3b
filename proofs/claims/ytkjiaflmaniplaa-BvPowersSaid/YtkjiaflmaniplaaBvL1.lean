/-
  The walk of BvPowers.
-/
import Derived.Test.YtkjiaflmaniplaaBvT
namespace Go.Proofs.Ytkjiaflmaniplaa
open Go.RowKit
set_option linter.unusedSimpArgs false
set_option linter.unusedVariables false

theorem nv8 {m : Int} (h0 : 0 ≤ m) (h1 : m ≤ 255) : nv (vz 8 m) = m.toNat := by
  have := nv_vz_of (w := 8) h0 (by omega); omega
theorem nv9 {m n : Int} (h0 : 0 ≤ m) (h1 : m ≤ 255) (k0 : 0 ≤ n) (k1 : n ≤ 255) : nv (vz 9 (m + n)) = m.toNat + n.toNat := by
  have := nv_vz_of (w := 9) (z := m + n) (by omega) (by omega); omega
set_option maxRecDepth 100000 in
set_option maxHeartbeats 4000000 in
theorem BvPowers_walk (A : Option Addr) (ra : List Bool) (c : Nat) (m n : Int) (w : World) (hc : ra.length ≤ maxLen) (Ra0 : Rd w A ra) (h0 : 0 ≤ m) (h1 : m ≤ 255) (k0 : 0 ≤ n) (k1 : n ≤ 255) :
    Calls Try.prog 12 #[.slice A ra.length c, .int .u8 m, .int .u8 n] w (Mk (.bool true) w) := by
  have HB := hide (Below.refl w.heap.size w)
  have Ra := hide Ra0
  clear Ra0
  unfold maxLen at hc
  by_cases hl : ra.length ≤ 40
  · have La : ra.length ≤ 4096 := by omega
    go_enter Try.func12, Try.ntmps12
    go_wp2_with fail
    refine (awake_any _).mono ?_
    rintro e w1 ⟨rfl, hb⟩
    replace Ra := hide (Ra.out.below hb)
    replace HB := hide (HB.out.trans (hb.mono HB.out.size))
    clear hb
    go_wp2_with fail
    refine (of_any m 8 _ (by omega) (by omega) (by omega)).mono ?_
    rintro e w2 ⟨rm, Am, cm, Em, rfl, Cm, Om, hb⟩
    have Lm : rm.length ≤ 4096 := by rw [Em.out, vz_length]; omega
    replace Ra := hide (Ra.out.below hb)
    replace HB := hide (HB.out.trans (hb.mono HB.out.size))
    clear hb
    have Rm := hide Om.out.rd
    clear Om
    go_wp2_with fail
    refine (pow_r _ _ ra rm _ _ _ La Lm Ra.out Rm.out).mono ?_
    rintro e w3 ⟨rpm, Apm, cpm, Epm, rfl, Cpm, Opm, hb⟩
    have Lpm : rpm.length ≤ 4096 := by rw [Epm.out, vz_length]; exact La
    replace Ra := hide (Ra.out.below hb)
    replace Rm := hide (Rm.out.below hb)
    replace HB := hide (HB.out.trans (hb.mono HB.out.size))
    clear hb
    have Rpm := hide Opm.out.rd
    clear Opm
    go_wp2_with fail
    refine (of_any n 8 _ (by omega) (by omega) (by omega)).mono ?_
    rintro e w4 ⟨rn, An, cn, En, rfl, Cn, On, hb⟩
    have Ln : rn.length ≤ 4096 := by rw [En.out, vz_length]; omega
    replace Ra := hide (Ra.out.below hb)
    replace Rm := hide (Rm.out.below hb)
    replace Rpm := hide (Rpm.out.below hb)
    replace HB := hide (HB.out.trans (hb.mono HB.out.size))
    clear hb
    have Rn := hide On.out.rd
    clear On
    go_wp2_with fail
    refine (pow_r _ _ ra rn _ _ _ La Ln Ra.out Rn.out).mono ?_
    rintro e w5 ⟨rpn, Apn, cpn, Epn, rfl, Cpn, Opn, hb⟩
    have Lpn : rpn.length ≤ 4096 := by rw [Epn.out, vz_length]; exact La
    replace Ra := hide (Ra.out.below hb)
    replace Rm := hide (Rm.out.below hb)
    replace Rpm := hide (Rpm.out.below hb)
    replace Rn := hide (Rn.out.below hb)
    replace HB := hide (HB.out.trans (hb.mono HB.out.size))
    clear hb
    have Rpn := hide Opn.out.rd
    clear Opn
    go_wp2_with fail
    refine (of_any (m + n) 9 _ (by omega) (by omega) (by omega)).mono ?_
    rintro e w6 ⟨rs, As, cs, Es, rfl, Cs, Os, hb⟩
    have Ls : rs.length ≤ 4096 := by rw [Es.out, vz_length]; omega
    replace Ra := hide (Ra.out.below hb)
    replace Rm := hide (Rm.out.below hb)
    replace Rpm := hide (Rpm.out.below hb)
    replace Rn := hide (Rn.out.below hb)
    replace Rpn := hide (Rpn.out.below hb)
    replace HB := hide (HB.out.trans (hb.mono HB.out.size))
    clear hb
    have Rs := hide Os.out.rd
    clear Os
    go_wp2_with fail
    refine (pow_r _ _ ra rs _ _ _ La Ls Ra.out Rs.out).mono ?_
    rintro e w7 ⟨rps, Aps, cps, Eps, rfl, Cps, Ops, hb⟩
    have Lps : rps.length ≤ 4096 := by rw [Eps.out, vz_length]; exact La
    replace Ra := hide (Ra.out.below hb)
    replace Rm := hide (Rm.out.below hb)
    replace Rpm := hide (Rpm.out.below hb)
    replace Rn := hide (Rn.out.below hb)
    replace Rpn := hide (Rpn.out.below hb)
    replace Rs := hide (Rs.out.below hb)
    replace HB := hide (HB.out.trans (hb.mono HB.out.size))
    clear hb
    have Rps := hide Ops.out.rd
    clear Ops
    go_wp2_with fail
    refine (mul_r _ _ rpm rpn _ _ _ Lpm Lpn Rpm.out Rpn.out).mono ?_
    rintro e w8 ⟨rx, Ax, cx, Ex, rfl, Cx, Ox, hb⟩
    have Lx : rx.length ≤ 4096 := by rw [Ex.out, vz_length]; exact Lpm
    replace Ra := hide (Ra.out.below hb)
    replace Rm := hide (Rm.out.below hb)
    replace Rpm := hide (Rpm.out.below hb)
    replace Rn := hide (Rn.out.below hb)
    replace Rpn := hide (Rpn.out.below hb)
    replace Rs := hide (Rs.out.below hb)
    replace Rps := hide (Rps.out.below hb)
    replace HB := hide (HB.out.trans (hb.mono HB.out.size))
    clear hb
    have Rx := hide Ox.out.rd
    clear Ox
    go_wp2_with fail
    refine (same_yes _ _ _ _ _ _ _ Lps Rps.out Rx.out (by rw [Ex.out, Eps.out, Epm.out, Epn.out, vz_length, vz_mull, vz_mulr, Es.out, Em.out, En.out, nv8 h0 h1, nv8 k0 k1, nv9 h0 h1 k0 k1, Int.pow_add])).mono ?_
    rintro e w9 ⟨rfl, hb⟩
    replace Ra := hide (Ra.out.below hb)
    replace Rm := hide (Rm.out.below hb)
    replace Rpm := hide (Rpm.out.below hb)
    replace Rn := hide (Rn.out.below hb)
    replace Rpn := hide (Rpn.out.below hb)
    replace Rs := hide (Rs.out.below hb)
    replace Rps := hide (Rps.out.below hb)
    replace Rx := hide (Rx.out.below hb)
    replace HB := hide (HB.out.trans (hb.mono HB.out.size))
    clear hb
    clear Rm
    clear Rn
    clear Rpm
    clear Rpn
    clear Rs
    clear Rps
    clear Rx
    go_wp2_with fail
    refine (pow_r _ none ra [] _ 0 _ La (by simp) Ra.out (fun h => absurd h (by simp))).mono ?_
    rintro e w10 ⟨rz, Az, cz, Ez, rfl, Cz, Oz, hb⟩
    have Lz : rz.length ≤ 4096 := by rw [Ez.out, vz_length]; exact La
    replace Ra := hide (Ra.out.below hb)
    replace HB := hide (HB.out.trans (hb.mono HB.out.size))
    clear hb
    have Rz := hide Oz.out.rd
    clear Oz
    go_wp2_with fail
    have hb := (Below.refl w10.heap.size w10).alloc (Nat.le_refl _) (.cells #[.bool true] 4)
    replace Ra := hide (Ra.out.below hb)
    replace Rz := hide (Rz.out.below hb)
    replace HB := hide (HB.out.trans (hb.mono HB.out.size))
    clear hb
    have Rt := hide (one_rd w10 true)
    refine (fit_any _ [true] 1 ra.length _ (by simp) La Rt.out).mono ?_
    rintro e w11 ⟨rf, Af, cf, Ef, rfl, Cf, Of, hb⟩
    have Lf : rf.length ≤ 4096 := by rw [Ef.out, vz_length]; exact La
    replace Ra := hide (Ra.out.below hb)
    replace Rz := hide (Rz.out.below hb)
    replace Rt := hide (Rt.out.below hb)
    replace HB := hide (HB.out.trans (hb.mono HB.out.size))
    clear hb
    have Rf := hide Of.out.rd
    clear Of
    go_wp2_with fail
    refine (same_yes _ _ _ _ _ _ _ Lz Rz.out Rf.out (by rw [Ef.out, Ez.out]; rfl)).mono ?_
    rintro e w12 ⟨rfl, hb⟩
    replace Ra := hide (Ra.out.below hb)
    replace Rz := hide (Rz.out.below hb)
    replace Rt := hide (Rt.out.below hb)
    replace Rf := hide (Rf.out.below hb)
    replace HB := hide (HB.out.trans (hb.mono HB.out.size))
    clear hb
    clear Rz
    clear Rf
    clear Rt
    go_wp2_with fail
    refine (of_any 1 3 _ (by omega) (by omega) (by omega)).mono ?_
    rintro e w13 ⟨ro, Ao, co, Eo, rfl, Co, Oo, hb⟩
    have Lo : ro.length ≤ 4096 := by rw [Eo.out, vz_length]; omega
    replace Ra := hide (Ra.out.below hb)
    replace HB := hide (HB.out.trans (hb.mono HB.out.size))
    clear hb
    have Ro := hide Oo.out.rd
    clear Oo
    go_wp2_with fail
    refine (pow_r _ _ ra ro _ _ _ La Lo Ra.out Ro.out).mono ?_
    rintro e w14 ⟨ry, Ay, cy, Ey, rfl, Cy, Oy, hb⟩
    have Ly : ry.length ≤ 4096 := by rw [Ey.out, vz_length]; exact La
    replace Ra := hide (Ra.out.below hb)
    replace Ro := hide (Ro.out.below hb)
    replace HB := hide (HB.out.trans (hb.mono HB.out.size))
    clear hb
    have Ry := hide Oy.out.rd
    clear Oy
    go_wp2_with fail
    refine (same_yes _ _ _ _ _ _ _ Ly Ry.out Ra.out (by rw [Ey.out, Eo.out, show nv (vz 3 1) = 1 from by decide, Int.pow_one, vz_nv])).mono ?_
    rintro e w15 ⟨rfl, hb⟩
    replace Ra := hide (Ra.out.below hb)
    replace Ro := hide (Ro.out.below hb)
    replace Ry := hide (Ry.out.below hb)
    replace HB := hide (HB.out.trans (hb.mono HB.out.size))
    clear hb
    go_wp2_with fail
    go_ret
    exact ⟨rfl, HB.out⟩
  · go_enter Try.func12, Try.ntmps12
    go_wp2_with fail
    refine (awake_any _).mono ?_
    rintro e w1 ⟨rfl, hb⟩
    go_wp2_with fail
    go_ret
    exact ⟨rfl, hb⟩
end Go.Proofs.Ytkjiaflmaniplaa
