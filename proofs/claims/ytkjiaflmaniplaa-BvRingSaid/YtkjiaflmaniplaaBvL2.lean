/-
  The walk of BvRing.
-/
import Derived.Test.YtkjiaflmaniplaaBvT
namespace Go.Proofs.Ytkjiaflmaniplaa
open Go.RowKit
set_option linter.unusedSimpArgs false
set_option linter.unusedVariables false
/-- The block of Long's arguments. -/
theorem sls3 (w : World) (A B C : Option Addr) (a b c ca cb cc : Nat) (t : TypeId) : Sls (w.alloc (.cells #[.slice A a ca, .slice B b cb, .slice C c cc] t)) w.heap.size [(A, a, ca), (B, b, cb), (C, c, cc)] := fun i hi => by
  have e : ∀ i, (w.alloc (.cells #[.slice A a ca, .slice B b cb, .slice C c cc] t)).cell? ⟨w.heap.size, i, none⟩ = #[.slice A a ca, .slice B b cb, .slice C c cc][i]? := fun i => cell_of_row _ _ _ _ _ _ (heap_alloc_new w _)
  rw [e i]
  match i, hi with
  | 0, _ => rfl
  | 1, _ => rfl
  | 2, _ => rfl
def Eq3 (A : Option Addr) (a : List Bool) (ca : Nat) (b c : List Bool) (w : World) (e : Ending) (w' : World) : Prop := ∃ y Y cy z Z cz, Hid (y = vz a.length (nv b)) ∧ Hid (z = vz a.length (nv c)) ∧ e = .returned (.tuple #[.slice A a.length ca, .slice Y y.length cy, .slice Z z.length cz]) ∧ Hid (Rd w' Y y) ∧ Hid (Rd w' Z z) ∧ Below w.heap.size w w'
theorem equal_any (A B C : Option Addr) (a b c : List Bool) (ca cb cc : Nat) (w : World) (La : a.length ≤ 4096) (Lb : b.length ≤ 4096) (Lc : c.length ≤ 4096) (Rb0 : Rd w B b) (Rc0 : Rd w C c) :
    Calls Try.prog 49 #[.slice A a.length ca, .slice B b.length cb, .slice C c.length cc] w
      fun e w' => ∃ y Y cy z Z cz, Hid (y = vz a.length (nv b)) ∧ Hid (z = vz a.length (nv c)) ∧ e = .returned (.tuple #[.slice A a.length ca, .slice Y y.length cy, .slice Z z.length cz]) ∧ Hid (Rd w' Y y) ∧ Hid (Rd w' Z z) ∧ Below w.heap.size w w' := by
  have HC := hide Rc0
  clear Rc0
  show Calls _ _ _ _ (Eq3 A a ca b c w)
  go_enter Try.func49, Try.ntmps49
  go_wp2_with fail
  refine (fit_any B b cb a.length w Lb La Rb0).mono ?_
  rintro e w1 ⟨y, Y, cy, ey, rfl, _, oy, hb⟩
  have HC1 := hide (HC.out.below hb)
  have B1 := hide hb
  clear hb
  go_wp2_with fail
  refine (fit_any C c cc a.length w1 Lc La HC1.out).mono ?_
  rintro e w2 ⟨z, Z, cz, ez, rfl, _, oz, hb⟩
  have B2 := hide hb
  clear hb
  go_wp2_with fail
  go_ret3
  exact ⟨y, Y, cy, z, Z, cz, ey, ez, rfl, hide (oy.out.kept B2.out).rd, hide oz.out.rd, B1.out.trans (B2.out.mono B1.out.size)⟩

theorem long3 {A B C : Option Addr} {a b c ca cb cc : Nat} (h : ¬ (a ≤ 140 ∧ b ≤ 140 ∧ c ≤ 140)) : ∃ i, ∃ h : i < [(A, a, ca), (B, b, cb), (C, c, cc)].length, 140 < ([(A, a, ca), (B, b, cb), (C, c, cc)][i]).2.1 := by
  by_cases h1 : 140 < a
  · exact ⟨0, by simp, h1⟩
  · by_cases h2 : 140 < b
    · exact ⟨1, by simp, h2⟩
    · exact ⟨2, by simp, show 140 < c by omega⟩
theorem mul_one_or (a u : List Bool) (h : a.length = 0 ∨ nv u = 1) : vz a.length ((nv a : Int) * nv u) = a := by
  rcases h with h | h
  · exact list_ext (vz_length _ _) fun i hi => by rw [vz_length] at hi; omega
  · rw [h]; simp only [Int.natCast_one, Int.mul_one]; exact vz_nv a
set_option maxRecDepth 100000 in
set_option maxHeartbeats 8000000 in
theorem BvRing_walk (A : Option Addr) (ra : List Bool) (ca : Nat) (B : Option Addr) (rb : List Bool) (cb : Nat) (C : Option Addr) (rc : List Bool) (cc : Nat) (w : World) (ka : ra.length ≤ maxLen) (Ra0 : Rd w A ra) (kb : rb.length ≤ maxLen) (Rb0 : Rd w B rb) (kc : rc.length ≤ maxLen) (Rc0 : Rd w C rc) :
    Calls Try.prog 8 #[.slice A ra.length ca, .slice B rb.length cb, .slice C rc.length cc] w (Mk (.bool true) w) := by
  have HB := hide (Below.refl w.heap.size w)
  have Ra := hide Ra0
  have Rb := hide Rb0
  have Rc := hide Rc0
  clear Ra0 Rb0 Rc0
  have ka' := ka
  unfold maxLen at ka'
  by_cases hl : ra.length ≤ 140 ∧ rb.length ≤ 140 ∧ rc.length ≤ 140
  · obtain ⟨ha, hbb, hcc⟩ := hl
    by_cases h70 : ra.length ≤ 70
    · have La : ra.length ≤ 4096 := by omega
      have Lb : rb.length ≤ 4096 := by omega
      have Lc : rc.length ≤ 4096 := by omega
      go_enter Try.func8, Try.ntmps8
      go_wp2_with fail
      have hb := (Below.refl w.heap.size w).alloc (Nat.le_refl _) (.cells #[.slice A ra.length ca, .slice B rb.length cb, .slice C rc.length cc] 22)
      replace Ra := hide (Ra.out.below hb)
      replace Rb := hide (Rb.out.below hb)
      replace Rc := hide (Rc.out.below hb)
      replace HB := hide (HB.out.trans (hb.mono HB.out.size))
      clear hb
      refine (long_no w.heap.size 3 [(A, ra.length, ca), (B, rb.length, cb), (C, rc.length, cc)] _ (by simp) (sls3 w A B C _ _ _ _ _ _ _) (by intro i hi; match i, hi with | 0, _ => exact ha | 1, _ => exact hbb | 2, _ => exact hcc)).mono ?_
      rintro e w' ⟨rfl, rfl⟩
      go_wp2_with fail
      refine (awake_any _).mono ?_
      rintro e w1 ⟨rfl, hb⟩
      replace Ra := hide (Ra.out.below hb)
      replace Rb := hide (Rb.out.below hb)
      replace Rc := hide (Rc.out.below hb)
      replace HB := hide (HB.out.trans (hb.mono HB.out.size))
      clear hb
      go_wp2_with fail
      refine (equal_any A B C ra rb rc ca cb cc _ La Lb Lc Rb.out Rc.out).mono ?_
      rintro e we ⟨ry, Y, cy, rz, Z, cz, Ey, Ez, rfl, Ry, Rz, hb⟩
      have Ly : ry.length ≤ 4096 := by rw [Ey.out, vz_length]; exact La
      have Lz : rz.length ≤ 4096 := by rw [Ez.out, vz_length]; exact La
      clear Rb
      clear Rc
      replace Ra := hide (Ra.out.below hb)
      replace HB := hide (HB.out.trans (hb.mono HB.out.size))
      clear hb
      go_wp2_with fail
      refine (add_r _ _ ra ry _ _ _ La Ly Ra.out Ry.out).mono ?_
      rintro e w2 ⟨rt1, At1, ct1, Et1, rfl, Ct1, Ot1, hb⟩
      have Lt1 : rt1.length ≤ 4096 := by rw [Et1.out, vz_length]; exact La
      replace Ra := hide (Ra.out.below hb)
      replace Ry := hide (Ry.out.below hb)
      replace Rz := hide (Rz.out.below hb)
      replace HB := hide (HB.out.trans (hb.mono HB.out.size))
      clear hb
      have Rt1 := hide Ot1.out.rd
      clear Ot1
      go_wp2_with fail
      refine (add_r _ _ ry ra _ _ _ Ly La Ry.out Ra.out).mono ?_
      rintro e w3 ⟨rt2, At2, ct2, Et2, rfl, Ct2, Ot2, hb⟩
      have Lt2 : rt2.length ≤ 4096 := by rw [Et2.out, vz_length]; exact Ly
      replace Ra := hide (Ra.out.below hb)
      replace Ry := hide (Ry.out.below hb)
      replace Rz := hide (Rz.out.below hb)
      replace Rt1 := hide (Rt1.out.below hb)
      replace HB := hide (HB.out.trans (hb.mono HB.out.size))
      clear hb
      have Rt2 := hide Ot2.out.rd
      clear Ot2
      go_wp2_with fail
      refine (same_yes _ _ _ _ _ _ _ Lt1 Rt1.out Rt2.out (by rw [Et1.out, Et2.out, Ey.out]; simp only [vz_length, vz_addl, vz_addr, vz_mull, vz_mulr, vz_subl, vz_subr, vz_neg]; rw [Int.add_comm])).mono ?_
      rintro e w4 ⟨rfl, hb⟩
      replace Ra := hide (Ra.out.below hb)
      replace Ry := hide (Ry.out.below hb)
      replace Rz := hide (Rz.out.below hb)
      replace Rt1 := hide (Rt1.out.below hb)
      replace Rt2 := hide (Rt2.out.below hb)
      replace HB := hide (HB.out.trans (hb.mono HB.out.size))
      clear hb
      clear Rt1
      clear Rt2
      go_wp2_with fail
      refine (add_r _ _ ra ry _ _ _ La Ly Ra.out Ry.out).mono ?_
      rintro e w5 ⟨rt3, At3, ct3, Et3, rfl, Ct3, Ot3, hb⟩
      have Lt3 : rt3.length ≤ 4096 := by rw [Et3.out, vz_length]; exact La
      replace Ra := hide (Ra.out.below hb)
      replace Ry := hide (Ry.out.below hb)
      replace Rz := hide (Rz.out.below hb)
      replace HB := hide (HB.out.trans (hb.mono HB.out.size))
      clear hb
      have Rt3 := hide Ot3.out.rd
      clear Ot3
      go_wp2_with fail
      refine (add_r _ _ rt3 rz _ _ _ Lt3 Lz Rt3.out Rz.out).mono ?_
      rintro e w6 ⟨rt4, At4, ct4, Et4, rfl, Ct4, Ot4, hb⟩
      have Lt4 : rt4.length ≤ 4096 := by rw [Et4.out, vz_length]; exact Lt3
      replace Ra := hide (Ra.out.below hb)
      replace Ry := hide (Ry.out.below hb)
      replace Rz := hide (Rz.out.below hb)
      replace Rt3 := hide (Rt3.out.below hb)
      replace HB := hide (HB.out.trans (hb.mono HB.out.size))
      clear hb
      have Rt4 := hide Ot4.out.rd
      clear Ot4
      go_wp2_with fail
      refine (add_r _ _ ry rz _ _ _ Ly Lz Ry.out Rz.out).mono ?_
      rintro e w7 ⟨rt5, At5, ct5, Et5, rfl, Ct5, Ot5, hb⟩
      have Lt5 : rt5.length ≤ 4096 := by rw [Et5.out, vz_length]; exact Ly
      replace Ra := hide (Ra.out.below hb)
      replace Ry := hide (Ry.out.below hb)
      replace Rz := hide (Rz.out.below hb)
      replace Rt3 := hide (Rt3.out.below hb)
      replace Rt4 := hide (Rt4.out.below hb)
      replace HB := hide (HB.out.trans (hb.mono HB.out.size))
      clear hb
      have Rt5 := hide Ot5.out.rd
      clear Ot5
      go_wp2_with fail
      refine (add_r _ _ ra rt5 _ _ _ La Lt5 Ra.out Rt5.out).mono ?_
      rintro e w8 ⟨rt6, At6, ct6, Et6, rfl, Ct6, Ot6, hb⟩
      have Lt6 : rt6.length ≤ 4096 := by rw [Et6.out, vz_length]; exact La
      replace Ra := hide (Ra.out.below hb)
      replace Ry := hide (Ry.out.below hb)
      replace Rz := hide (Rz.out.below hb)
      replace Rt3 := hide (Rt3.out.below hb)
      replace Rt4 := hide (Rt4.out.below hb)
      replace Rt5 := hide (Rt5.out.below hb)
      replace HB := hide (HB.out.trans (hb.mono HB.out.size))
      clear hb
      have Rt6 := hide Ot6.out.rd
      clear Ot6
      go_wp2_with fail
      refine (same_yes _ _ _ _ _ _ _ Lt4 Rt4.out Rt6.out (by rw [Et4.out, Et6.out, Et3.out, Et5.out, Ey.out, Ez.out]; simp only [vz_length, vz_addl, vz_addr, vz_mull, vz_mulr, vz_subl, vz_subr, vz_neg]; rw [Int.add_assoc])).mono ?_
      rintro e w9 ⟨rfl, hb⟩
      replace Ra := hide (Ra.out.below hb)
      replace Ry := hide (Ry.out.below hb)
      replace Rz := hide (Rz.out.below hb)
      replace Rt3 := hide (Rt3.out.below hb)
      replace Rt4 := hide (Rt4.out.below hb)
      replace Rt5 := hide (Rt5.out.below hb)
      replace Rt6 := hide (Rt6.out.below hb)
      replace HB := hide (HB.out.trans (hb.mono HB.out.size))
      clear hb
      clear Rt3
      clear Rt4
      clear Rt5
      clear Rt6
      go_wp2_with fail
      refine (mul_r _ _ ra ry _ _ _ La Ly Ra.out Ry.out).mono ?_
      rintro e w10 ⟨rt7, At7, ct7, Et7, rfl, Ct7, Ot7, hb⟩
      have Lt7 : rt7.length ≤ 4096 := by rw [Et7.out, vz_length]; exact La
      replace Ra := hide (Ra.out.below hb)
      replace Ry := hide (Ry.out.below hb)
      replace Rz := hide (Rz.out.below hb)
      replace HB := hide (HB.out.trans (hb.mono HB.out.size))
      clear hb
      have Rt7 := hide Ot7.out.rd
      clear Ot7
      go_wp2_with fail
      refine (mul_r _ _ ry ra _ _ _ Ly La Ry.out Ra.out).mono ?_
      rintro e w11 ⟨rt8, At8, ct8, Et8, rfl, Ct8, Ot8, hb⟩
      have Lt8 : rt8.length ≤ 4096 := by rw [Et8.out, vz_length]; exact Ly
      replace Ra := hide (Ra.out.below hb)
      replace Ry := hide (Ry.out.below hb)
      replace Rz := hide (Rz.out.below hb)
      replace Rt7 := hide (Rt7.out.below hb)
      replace HB := hide (HB.out.trans (hb.mono HB.out.size))
      clear hb
      have Rt8 := hide Ot8.out.rd
      clear Ot8
      go_wp2_with fail
      refine (same_yes _ _ _ _ _ _ _ Lt7 Rt7.out Rt8.out (by rw [Et7.out, Et8.out, Ey.out]; simp only [vz_length, vz_addl, vz_addr, vz_mull, vz_mulr, vz_subl, vz_subr, vz_neg]; rw [Int.mul_comm])).mono ?_
      rintro e w12 ⟨rfl, hb⟩
      replace Ra := hide (Ra.out.below hb)
      replace Ry := hide (Ry.out.below hb)
      replace Rz := hide (Rz.out.below hb)
      replace Rt7 := hide (Rt7.out.below hb)
      replace Rt8 := hide (Rt8.out.below hb)
      replace HB := hide (HB.out.trans (hb.mono HB.out.size))
      clear hb
      clear Rt7
      clear Rt8
      go_wp2_with fail
      refine (mul_r _ _ ra ry _ _ _ La Ly Ra.out Ry.out).mono ?_
      rintro e w13 ⟨rt9, At9, ct9, Et9, rfl, Ct9, Ot9, hb⟩
      have Lt9 : rt9.length ≤ 4096 := by rw [Et9.out, vz_length]; exact La
      replace Ra := hide (Ra.out.below hb)
      replace Ry := hide (Ry.out.below hb)
      replace Rz := hide (Rz.out.below hb)
      replace HB := hide (HB.out.trans (hb.mono HB.out.size))
      clear hb
      have Rt9 := hide Ot9.out.rd
      clear Ot9
      go_wp2_with fail
      refine (mul_r _ _ rt9 rz _ _ _ Lt9 Lz Rt9.out Rz.out).mono ?_
      rintro e w14 ⟨rt10, At10, ct10, Et10, rfl, Ct10, Ot10, hb⟩
      have Lt10 : rt10.length ≤ 4096 := by rw [Et10.out, vz_length]; exact Lt9
      replace Ra := hide (Ra.out.below hb)
      replace Ry := hide (Ry.out.below hb)
      replace Rz := hide (Rz.out.below hb)
      replace Rt9 := hide (Rt9.out.below hb)
      replace HB := hide (HB.out.trans (hb.mono HB.out.size))
      clear hb
      have Rt10 := hide Ot10.out.rd
      clear Ot10
      go_wp2_with fail
      refine (mul_r _ _ ry rz _ _ _ Ly Lz Ry.out Rz.out).mono ?_
      rintro e w15 ⟨rt11, At11, ct11, Et11, rfl, Ct11, Ot11, hb⟩
      have Lt11 : rt11.length ≤ 4096 := by rw [Et11.out, vz_length]; exact Ly
      replace Ra := hide (Ra.out.below hb)
      replace Ry := hide (Ry.out.below hb)
      replace Rz := hide (Rz.out.below hb)
      replace Rt9 := hide (Rt9.out.below hb)
      replace Rt10 := hide (Rt10.out.below hb)
      replace HB := hide (HB.out.trans (hb.mono HB.out.size))
      clear hb
      have Rt11 := hide Ot11.out.rd
      clear Ot11
      go_wp2_with fail
      refine (mul_r _ _ ra rt11 _ _ _ La Lt11 Ra.out Rt11.out).mono ?_
      rintro e w16 ⟨rt12, At12, ct12, Et12, rfl, Ct12, Ot12, hb⟩
      have Lt12 : rt12.length ≤ 4096 := by rw [Et12.out, vz_length]; exact La
      replace Ra := hide (Ra.out.below hb)
      replace Ry := hide (Ry.out.below hb)
      replace Rz := hide (Rz.out.below hb)
      replace Rt9 := hide (Rt9.out.below hb)
      replace Rt10 := hide (Rt10.out.below hb)
      replace Rt11 := hide (Rt11.out.below hb)
      replace HB := hide (HB.out.trans (hb.mono HB.out.size))
      clear hb
      have Rt12 := hide Ot12.out.rd
      clear Ot12
      go_wp2_with fail
      refine (same_yes _ _ _ _ _ _ _ Lt10 Rt10.out Rt12.out (by rw [Et10.out, Et12.out, Et9.out, Et11.out, Ey.out, Ez.out]; simp only [vz_length, vz_addl, vz_addr, vz_mull, vz_mulr, vz_subl, vz_subr, vz_neg]; rw [Int.mul_assoc])).mono ?_
      rintro e w17 ⟨rfl, hb⟩
      replace Ra := hide (Ra.out.below hb)
      replace Ry := hide (Ry.out.below hb)
      replace Rz := hide (Rz.out.below hb)
      replace Rt9 := hide (Rt9.out.below hb)
      replace Rt10 := hide (Rt10.out.below hb)
      replace Rt11 := hide (Rt11.out.below hb)
      replace Rt12 := hide (Rt12.out.below hb)
      replace HB := hide (HB.out.trans (hb.mono HB.out.size))
      clear hb
      clear Rt9
      clear Rt10
      clear Rt11
      clear Rt12
      go_wp2_with (at_make; refine wpList_make_bv _ rfl _ _ rfl _ _ ra.length rfl rfl rfl rfl La ?_; intro wz hr1 hb hz1; have Ow := hide hr1; clear hr1 hz1)
      replace Ra := hide (Ra.out.below hb)
      replace Ry := hide (Ry.out.below hb)
      replace Rz := hide (Rz.out.below hb)
      replace HB := hide (HB.out.trans (hb.mono HB.out.size))
      clear hb
      obtain ⟨ro, eo⟩ : ∃ ro, ro = vz ra.length 0 := ⟨_, rfl⟩
      have lo : ro.length = ra.length := by rw [eo, vz_length]
      have Lo : ro.length ≤ 4096 := by rw [lo]; exact La
      have Ro := hide (Own.rd (B := 0) (w := wz) (A := some ⟨w17.heap.size, 0, none⟩) (l := ro) fun _ => ⟨_, rfl, Nat.zero_le _, by rw [lo]; exact Ow.out.congr fun i hi => by rw [eo, show vz ra.length 0 = bl ra.length (zb 0) from rfl, bt_bl_lt hi, zb_zero]⟩)
      have Eo := hide eo
      have LO := hide lo
      clear eo lo Ow
      refine (add_r _ _ ry rz _ _ _ Ly Lz Ry.out Rz.out).mono ?_
      rintro e w18 ⟨rt13, At13, ct13, Et13, rfl, Ct13, Ot13, hb⟩
      have Lt13 : rt13.length ≤ 4096 := by rw [Et13.out, vz_length]; exact Ly
      replace Ra := hide (Ra.out.below hb)
      replace Ry := hide (Ry.out.below hb)
      replace Rz := hide (Rz.out.below hb)
      replace Ro := hide (Ro.out.below hb)
      replace HB := hide (HB.out.trans (hb.mono HB.out.size))
      clear hb
      have Rt13 := hide Ot13.out.rd
      clear Ot13
      go_wp2_with fail
      refine (mul_r _ _ ra rt13 _ _ _ La Lt13 Ra.out Rt13.out).mono ?_
      rintro e w19 ⟨rt14, At14, ct14, Et14, rfl, Ct14, Ot14, hb⟩
      have Lt14 : rt14.length ≤ 4096 := by rw [Et14.out, vz_length]; exact La
      replace Ra := hide (Ra.out.below hb)
      replace Ry := hide (Ry.out.below hb)
      replace Rz := hide (Rz.out.below hb)
      replace Ro := hide (Ro.out.below hb)
      replace Rt13 := hide (Rt13.out.below hb)
      replace HB := hide (HB.out.trans (hb.mono HB.out.size))
      clear hb
      have Rt14 := hide Ot14.out.rd
      clear Ot14
      go_wp2_with fail
      refine (mul_r _ _ ra ry _ _ _ La Ly Ra.out Ry.out).mono ?_
      rintro e w20 ⟨rt15, At15, ct15, Et15, rfl, Ct15, Ot15, hb⟩
      have Lt15 : rt15.length ≤ 4096 := by rw [Et15.out, vz_length]; exact La
      replace Ra := hide (Ra.out.below hb)
      replace Ry := hide (Ry.out.below hb)
      replace Rz := hide (Rz.out.below hb)
      replace Ro := hide (Ro.out.below hb)
      replace Rt13 := hide (Rt13.out.below hb)
      replace Rt14 := hide (Rt14.out.below hb)
      replace HB := hide (HB.out.trans (hb.mono HB.out.size))
      clear hb
      have Rt15 := hide Ot15.out.rd
      clear Ot15
      go_wp2_with fail
      refine (mul_r _ _ ra rz _ _ _ La Lz Ra.out Rz.out).mono ?_
      rintro e w21 ⟨rt16, At16, ct16, Et16, rfl, Ct16, Ot16, hb⟩
      have Lt16 : rt16.length ≤ 4096 := by rw [Et16.out, vz_length]; exact La
      replace Ra := hide (Ra.out.below hb)
      replace Ry := hide (Ry.out.below hb)
      replace Rz := hide (Rz.out.below hb)
      replace Ro := hide (Ro.out.below hb)
      replace Rt13 := hide (Rt13.out.below hb)
      replace Rt14 := hide (Rt14.out.below hb)
      replace Rt15 := hide (Rt15.out.below hb)
      replace HB := hide (HB.out.trans (hb.mono HB.out.size))
      clear hb
      have Rt16 := hide Ot16.out.rd
      clear Ot16
      go_wp2_with fail
      refine (add_r _ _ rt15 rt16 _ _ _ Lt15 Lt16 Rt15.out Rt16.out).mono ?_
      rintro e w22 ⟨rt17, At17, ct17, Et17, rfl, Ct17, Ot17, hb⟩
      have Lt17 : rt17.length ≤ 4096 := by rw [Et17.out, vz_length]; exact Lt15
      replace Ra := hide (Ra.out.below hb)
      replace Ry := hide (Ry.out.below hb)
      replace Rz := hide (Rz.out.below hb)
      replace Ro := hide (Ro.out.below hb)
      replace Rt13 := hide (Rt13.out.below hb)
      replace Rt14 := hide (Rt14.out.below hb)
      replace Rt15 := hide (Rt15.out.below hb)
      replace Rt16 := hide (Rt16.out.below hb)
      replace HB := hide (HB.out.trans (hb.mono HB.out.size))
      clear hb
      have Rt17 := hide Ot17.out.rd
      clear Ot17
      go_wp2_with fail
      refine (same_yes _ _ _ _ _ _ _ Lt14 Rt14.out Rt17.out (by rw [Et14.out, Et13.out, Et17.out, Et15.out, Et16.out, Ey.out, Ez.out]; simp only [vz_length, vz_addl, vz_addr, vz_mull, vz_mulr, vz_subl, vz_subr, vz_neg]; rw [Int.mul_add])).mono ?_
      rintro e w23 ⟨rfl, hb⟩
      replace Ra := hide (Ra.out.below hb)
      replace Ry := hide (Ry.out.below hb)
      replace Rz := hide (Rz.out.below hb)
      replace Ro := hide (Ro.out.below hb)
      replace Rt13 := hide (Rt13.out.below hb)
      replace Rt14 := hide (Rt14.out.below hb)
      replace Rt15 := hide (Rt15.out.below hb)
      replace Rt16 := hide (Rt16.out.below hb)
      replace Rt17 := hide (Rt17.out.below hb)
      replace HB := hide (HB.out.trans (hb.mono HB.out.size))
      clear hb
      clear Rt13
      clear Rt14
      clear Rt15
      clear Rt16
      clear Rt17
      go_wp2_with fail
      refine (sub_r _ _ ra ry _ _ _ La Ly Ra.out Ry.out).mono ?_
      rintro e w24 ⟨rt18, At18, ct18, Et18, rfl, Ct18, Ot18, hb⟩
      have Lt18 : rt18.length ≤ 4096 := by rw [Et18.out, vz_length]; exact La
      replace Ra := hide (Ra.out.below hb)
      replace Ry := hide (Ry.out.below hb)
      replace Rz := hide (Rz.out.below hb)
      replace Ro := hide (Ro.out.below hb)
      replace HB := hide (HB.out.trans (hb.mono HB.out.size))
      clear hb
      have Rt18 := hide Ot18.out.rd
      clear Ot18
      go_wp2_with fail
      refine (neg_r _ ry _ _ Ly Ry.out).mono ?_
      rintro e w25 ⟨rt19, At19, ct19, Et19, rfl, Ct19, Ot19, hb⟩
      have Lt19 : rt19.length ≤ 4096 := by rw [Et19.out, vz_length]; exact Ly
      replace Ra := hide (Ra.out.below hb)
      replace Ry := hide (Ry.out.below hb)
      replace Rz := hide (Rz.out.below hb)
      replace Ro := hide (Ro.out.below hb)
      replace Rt18 := hide (Rt18.out.below hb)
      replace HB := hide (HB.out.trans (hb.mono HB.out.size))
      clear hb
      have Rt19 := hide Ot19.out.rd
      clear Ot19
      go_wp2_with fail
      refine (add_r _ _ ra rt19 _ _ _ La Lt19 Ra.out Rt19.out).mono ?_
      rintro e w26 ⟨rt20, At20, ct20, Et20, rfl, Ct20, Ot20, hb⟩
      have Lt20 : rt20.length ≤ 4096 := by rw [Et20.out, vz_length]; exact La
      replace Ra := hide (Ra.out.below hb)
      replace Ry := hide (Ry.out.below hb)
      replace Rz := hide (Rz.out.below hb)
      replace Ro := hide (Ro.out.below hb)
      replace Rt18 := hide (Rt18.out.below hb)
      replace Rt19 := hide (Rt19.out.below hb)
      replace HB := hide (HB.out.trans (hb.mono HB.out.size))
      clear hb
      have Rt20 := hide Ot20.out.rd
      clear Ot20
      go_wp2_with fail
      refine (same_yes _ _ _ _ _ _ _ Lt18 Rt18.out Rt20.out (by rw [Et18.out, Et20.out, Et19.out, Ey.out]; simp only [vz_length, vz_addl, vz_addr, vz_mull, vz_mulr, vz_subl, vz_subr, vz_neg]; rw [Int.sub_eq_add_neg])).mono ?_
      rintro e w27 ⟨rfl, hb⟩
      replace Ra := hide (Ra.out.below hb)
      replace Ry := hide (Ry.out.below hb)
      replace Rz := hide (Rz.out.below hb)
      replace Ro := hide (Ro.out.below hb)
      replace Rt18 := hide (Rt18.out.below hb)
      replace Rt19 := hide (Rt19.out.below hb)
      replace Rt20 := hide (Rt20.out.below hb)
      replace HB := hide (HB.out.trans (hb.mono HB.out.size))
      clear hb
      clear Rt18
      clear Rt19
      clear Rt20
      go_wp2_with fail
      refine (sub_r _ _ ra ra _ _ _ La La Ra.out Ra.out).mono ?_
      rintro e w28 ⟨rt21, At21, ct21, Et21, rfl, Ct21, Ot21, hb⟩
      have Lt21 : rt21.length ≤ 4096 := by rw [Et21.out, vz_length]; exact La
      replace Ra := hide (Ra.out.below hb)
      replace Ry := hide (Ry.out.below hb)
      replace Rz := hide (Rz.out.below hb)
      replace Ro := hide (Ro.out.below hb)
      replace HB := hide (HB.out.trans (hb.mono HB.out.size))
      clear hb
      have Rt21 := hide Ot21.out.rd
      clear Ot21
      go_wp2_with fail
      have h := same_yes At21 (some ⟨w17.heap.size, 0, none⟩) rt21 ro ct21 ra.length w28 Lt21 Rt21.out Ro.out (by rw [Et21.out, Eo.out, Int.sub_self])
      rw [LO.out] at h
      have H := hide h
      clear h
      refine (H.out).mono ?_
      rintro e wy ⟨rfl, hb⟩
      clear H
      replace Ra := hide (Ra.out.below hb)
      replace Ry := hide (Ry.out.below hb)
      replace Rz := hide (Rz.out.below hb)
      replace Ro := hide (Ro.out.below hb)
      replace Rt21 := hide (Rt21.out.below hb)
      replace HB := hide (HB.out.trans (hb.mono HB.out.size))
      clear hb
      clear Rt21
      go_wp2_with fail
      have h := add_r A (some ⟨w17.heap.size, 0, none⟩) ra ro ca ra.length wy La Lo Ra.out Ro.out
      rw [LO.out] at h
      have H := hide h
      clear h
      refine (H.out).mono ?_
      rintro e wx ⟨rp, Ap, cp, Ep, rfl, Cp, Op, hb⟩
      have Lp : rp.length ≤ 4096 := by rw [Ep.out, vz_length]; exact La
      clear H
      replace Ra := hide (Ra.out.below hb)
      replace Ry := hide (Ry.out.below hb)
      replace Rz := hide (Rz.out.below hb)
      replace Ro := hide (Ro.out.below hb)
      replace HB := hide (HB.out.trans (hb.mono HB.out.size))
      clear hb
      have Rp := hide Op.out.rd
      go_wp2_with fail
      refine (same_yes _ _ _ _ _ _ _ Lp Rp.out Ra.out (by rw [Ep.out, Eo.out, vz_addr, Int.add_zero, vz_nv])).mono ?_
      rintro e w29 ⟨rfl, hb⟩
      replace Ra := hide (Ra.out.below hb)
      replace Ry := hide (Ry.out.below hb)
      replace Rz := hide (Rz.out.below hb)
      replace Ro := hide (Ro.out.below hb)
      replace Rp := hide (Rp.out.below hb)
      replace HB := hide (HB.out.trans (hb.mono HB.out.size))
      clear hb
      clear Rp
      clear Ro
      go_wp2_with fail
      · skip
        refine (of_any 1 1 _ (by omega) (by omega) (by omega)).mono ?_
        rintro e wu ⟨ru, Au, cu, Eu, rfl, Cu, Ou, hb⟩
        have hv := hide (show ra.length = 0 ∨ nv ru = 1 from Or.inr (by rw [Eu.out]; decide))
        have Lu : ru.length ≤ 4096 := by rw [Eu.out, vz_length]; omega
        replace Ra := hide (Ra.out.below hb)
        replace Ry := hide (Ry.out.below hb)
        replace Rz := hide (Rz.out.below hb)
        replace HB := hide (HB.out.trans (hb.mono HB.out.size))
        clear hb
        have Ru := hide Ou.out.rd
        go_wp2_with fail
        refine (mul_r _ _ ra ru _ _ _ La Lu Ra.out Ru.out).mono ?_
        rintro e w30 ⟨rv, Av, cv, Ev, rfl, Cv, Ov, hb⟩
        have Lv : rv.length ≤ 4096 := by rw [Ev.out, vz_length]; exact La
        replace Ra := hide (Ra.out.below hb)
        replace Ry := hide (Ry.out.below hb)
        replace Rz := hide (Rz.out.below hb)
        replace Ru := hide (Ru.out.below hb)
        replace HB := hide (HB.out.trans (hb.mono HB.out.size))
        clear hb
        have Rv := hide Ov.out.rd
        clear Ov
        go_wp2_with fail
        refine (same_yes _ _ _ _ _ _ _ Lv Rv.out Ra.out (by rw [Ev.out]; exact mul_one_or _ _ hv.out)).mono ?_
        rintro e w31 ⟨rfl, hb⟩
        replace Ra := hide (Ra.out.below hb)
        replace Ry := hide (Ry.out.below hb)
        replace Rz := hide (Rz.out.below hb)
        replace Ru := hide (Ru.out.below hb)
        replace Rv := hide (Rv.out.below hb)
        replace HB := hide (HB.out.trans (hb.mono HB.out.size))
        clear hb
        go_wp2_with fail
        go_ret
        exact ⟨rfl, HB.out⟩
      · skip
        refine (of_any 1 ra.length _ (by omega) (by omega) (by omega)).mono ?_
        rintro e wu ⟨ru, Au, cu, Eu, rfl, Cu, Ou, hb⟩
        have hv := hide (show ra.length = 0 ∨ nv ru = 1 from (by rcases (show ra.length = 0 ∨ ra.length = 1 by omega) with h | h; exact Or.inl h; exact Or.inr (by rw [Eu.out, h]; decide)))
        have Lu : ru.length ≤ 4096 := by rw [Eu.out, vz_length]; omega
        replace Ra := hide (Ra.out.below hb)
        replace Ry := hide (Ry.out.below hb)
        replace Rz := hide (Rz.out.below hb)
        replace HB := hide (HB.out.trans (hb.mono HB.out.size))
        clear hb
        have Ru := hide Ou.out.rd
        go_wp2_with fail
        refine (mul_r _ _ ra ru _ _ _ La Lu Ra.out Ru.out).mono ?_
        rintro e w30 ⟨rv, Av, cv, Ev, rfl, Cv, Ov, hb⟩
        have Lv : rv.length ≤ 4096 := by rw [Ev.out, vz_length]; exact La
        replace Ra := hide (Ra.out.below hb)
        replace Ry := hide (Ry.out.below hb)
        replace Rz := hide (Rz.out.below hb)
        replace Ru := hide (Ru.out.below hb)
        replace HB := hide (HB.out.trans (hb.mono HB.out.size))
        clear hb
        have Rv := hide Ov.out.rd
        clear Ov
        go_wp2_with fail
        refine (same_yes _ _ _ _ _ _ _ Lv Rv.out Ra.out (by rw [Ev.out]; exact mul_one_or _ _ hv.out)).mono ?_
        rintro e w31 ⟨rfl, hb⟩
        replace Ra := hide (Ra.out.below hb)
        replace Ry := hide (Ry.out.below hb)
        replace Rz := hide (Rz.out.below hb)
        replace Ru := hide (Ru.out.below hb)
        replace Rv := hide (Rv.out.below hb)
        replace HB := hide (HB.out.trans (hb.mono HB.out.size))
        clear hb
        go_wp2_with fail
        go_ret
        exact ⟨rfl, HB.out⟩
    · go_enter Try.func8, Try.ntmps8
      go_wp2_with fail
      refine (long_no w.heap.size 3 [(A, ra.length, ca), (B, rb.length, cb), (C, rc.length, cc)] _ (by simp) (sls3 w A B C _ _ _ _ _ _ _) (by intro i hi; match i, hi with | 0, _ => exact ha | 1, _ => exact hbb | 2, _ => exact hcc)).mono ?_
      rintro e w' ⟨rfl, rfl⟩
      go_wp2_with fail
      refine (awake_any _).mono ?_
      rintro e w1 ⟨rfl, hb⟩
      go_wp2_with fail
      go_ret
      exact ⟨rfl, ((Below.refl _ _).alloc (Nat.le_refl _) _).trans (hb.mono (by simp))⟩
  · have HK := hide hl
    have HA := hide ka
    have HBb := hide kb
    have HCc := hide kc
    clear hl ka kb kc
    go_enter Try.func8, Try.ntmps8
    go_wp2_with fail
    refine (long_yes w.heap.size 3 [(A, ra.length, ca), (B, rb.length, cb), (C, rc.length, cc)] _ (by simp) (sls3 w A B C _ _ _ _ _ _ _) (long3 HK.out) (by intro i hi; match i, hi with | 0, _ => exact HA.out | 1, _ => exact HBb.out | 2, _ => exact HCc.out)).mono ?_
    rintro e w' ⟨rfl, rfl⟩
    go_wp2_with fail
    refine (awake_any _).mono ?_
    rintro e w1 ⟨rfl, hb⟩
    go_wp2_with fail
    go_ret
    exact ⟨rfl, ((Below.refl _ _).alloc (Nat.le_refl _) _).trans (hb.mono (by simp))⟩
end Go.Proofs.Ytkjiaflmaniplaa
