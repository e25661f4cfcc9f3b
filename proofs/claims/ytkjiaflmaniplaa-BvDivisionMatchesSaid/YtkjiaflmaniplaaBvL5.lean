/-
  The walk of BvDivisionMatches.
-/
import Derived.Test.YtkjiaflmaniplaaBvQ
namespace Go.Proofs.Ytkjiaflmaniplaa
open Go.RowKit
set_option linter.unusedSimpArgs false
set_option linter.unusedVariables false

structure MD (w : World) (A B X Y : Option Addr) (a b x y : List Bool) (Q R S T : Option Addr) (q r s t : List Bool) (wr : World) : Prop where
  ra : Rd wr A a
  rb : Rd wr B b
  rx : Rd wr X x
  ry : Rd wr Y y
  rq : Rd wr Q q
  rr : Rd wr R r
  rs : Rd wr S s
  rt : Rd wr T t
  bel : Below w.heap.size w wr
theorem MD.next {w wr w' : World} {A B X Y Q R S T : Option Addr} {a b x y q r s t : List Bool} (h : MD w A B X Y a b x y Q R S T q r s t wr) (hb : Below wr.heap.size wr w') : MD w A B X Y a b x y Q R S T q r s t w' :=
  ⟨h.ra.below hb, h.rb.below hb, h.rx.below hb, h.ry.below hb, h.rq.below hb, h.rr.below hb, h.rs.below hb, h.rt.below hb, h.bel.trans (hb.mono h.bel.size)⟩
set_option maxRecDepth 100000 in
set_option maxHeartbeats 8000000 in
theorem BvDivisionMatches_walk (A : Option Addr) (ra : List Bool) (ca : Nat) (B : Option Addr) (rb : List Bool) (cb : Nat) (w : World) (ka : ra.length ≤ maxLen) (Ra0 : Rd w A ra) (kb : rb.length ≤ maxLen) (Rb0 : Rd w B rb) (Ca : Hid (ra.length ≤ ca ∧ ca ≤ maxLen)) (Cb : Hid (rb.length ≤ cb ∧ cb ≤ maxLen)) :
    Calls Try.prog 4 #[.slice A ra.length ca, .slice B rb.length cb] w (Mk (.bool true) w) := by
  have HB := hide (Below.refl w.heap.size w)
  have Ra := hide Ra0
  have Rb := hide Rb0
  clear Ra0 Rb0
  by_cases hl : ra.length ≤ 140 ∧ rb.length ≤ 140
  · obtain ⟨ha, hbb⟩ := hl
    have La : ra.length ≤ 4096 := by omega
    have Lb : rb.length ≤ 4096 := by omega
    go_enter Try.func4, Try.ntmps4
    go_wp2_with fail
    have hb := (Below.refl w.heap.size w).alloc (Nat.le_refl _) (.cells #[.slice A ra.length ca, .slice B rb.length cb] 22)
    replace Ra := hide (Ra.out.below hb)
    replace Rb := hide (Rb.out.below hb)
    replace HB := hide (HB.out.trans (hb.mono HB.out.size))
    clear hb
    refine (long_no w.heap.size 2 [(A, ra.length, ca), (B, rb.length, cb)] _ (by simp) (sls2 w A B _ _ _ _) (by intro i hi; match i, hi with | 0, _ => exact ha | 1, _ => exact hbb)).mono ?_
    rintro e w' ⟨rfl, rfl⟩
    go_wp2_with fail
    refine (own_any _ ra _ _ La Ra.out).mono ?_
    rintro e w1 ⟨rx, Ax, cx, Ex, rfl, Cx, Ox, hb⟩
    have Lx : rx.length ≤ 4096 := by rw [Ex.out]; exact La
    replace Ra := hide (Ra.out.below hb)
    replace Rb := hide (Rb.out.below hb)
    replace HB := hide (HB.out.trans (hb.mono HB.out.size))
    clear hb
    have Rx := hide Ox.out.rd
    clear Ox
    go_wp2_with fail
    refine (own_any _ rb _ _ Lb Rb.out).mono ?_
    rintro e w2 ⟨ry, Ay, cy, Ey, rfl, Cy, Oy, hb⟩
    have Ly : ry.length ≤ 4096 := by rw [Ey.out]; exact Lb
    replace Ra := hide (Ra.out.below hb)
    replace Rb := hide (Rb.out.below hb)
    replace Rx := hide (Rx.out.below hb)
    replace HB := hide (HB.out.trans (hb.mono HB.out.size))
    clear hb
    have Ry := hide Oy.out.rd
    clear Oy
    have hlx : rx.length ≤ 140 := by rw [Ex.out]; exact ha
    have hly : ry.length ≤ 140 := by rw [Ey.out]; exact hbb
    by_cases h0 : 0 < nv rb
    · have H0 := hide h0
      clear h0
      go_wp2_with fail
      refine (rdiv_any _ _ ra rb _ _ _ (by omega) (by omega) Cb Ra.out Rb.out H0.out).mono ?_
      rintro e w3 ⟨rq, Aq, cq, rr, Ar, cr, Eq, Er, rfl, Oq, Or, hb⟩
      have Lq : rq.length ≤ 4096 := by rw [Eq.out, vz_length]; omega
      have Lr : rr.length ≤ 4096 := by rw [Er.out, vz_length]; omega
      replace Ra := hide (Ra.out.below hb)
      replace Rb := hide (Rb.out.below hb)
      replace Rx := hide (Rx.out.below hb)
      replace Ry := hide (Ry.out.below hb)
      replace HB := hide (HB.out.trans (hb.mono HB.out.size))
      clear hb
      have Rq := hide Oq.out.rd
      clear Oq
      have Rr := hide Or.out.rd
      clear Or
      go_wp2_with fail
      refine (rsdiv_any _ _ ra rb _ _ _ (by omega) (by omega) Ca Cb Ra.out Rb.out H0.out).mono ?_
      rintro e w4 ⟨rs, As, cs, rt, At, ct, Es, Et, rfl, Os, Ot, hb⟩
      have Ls : rs.length ≤ 4096 := by rw [Es.out, vz_length]; omega
      have Lt : rt.length ≤ 4096 := by rw [Et.out, vz_length]; omega
      replace Ra := hide (Ra.out.below hb)
      replace Rb := hide (Rb.out.below hb)
      replace Rx := hide (Rx.out.below hb)
      replace Ry := hide (Ry.out.below hb)
      replace Rq := hide (Rq.out.below hb)
      replace Rr := hide (Rr.out.below hb)
      replace HB := hide (HB.out.trans (hb.mono HB.out.size))
      clear hb
      have Rs := hide Os.out.rd
      clear Os
      have Rt := hide Ot.out.rd
      clear Ot
      have MR0 := hide (MD.mk (w := w) Ra.out Rb.out Rx.out Ry.out Rq.out Rr.out Rs.out Rt.out HB.out)
      clear Ra Rb Rx Ry Rq Rr Rs Rt HB
      go_wp2
      go_loopw [13] (fun i wr => ∃ k : Nat, k ≤ 2 ∧ i = .int .i64 k ∧ MD w A B Ax Ay ra rb rx ry Aq Ar As At rq rr rs rt wr) (fun i _ => 2 - (intOf i).toNat)
      case atStart => exact ⟨0, by omega, rfl, MR0.out⟩
      case round =>
        clear MR0
        obtain ⟨k, hk, rfl, hR⟩ := hrel
        have hRH := hide hR
        clear hR
        have Ra := hide hRH.out.ra
        have Rb := hide hRH.out.rb
        have Rx := hide hRH.out.rx
        have Ry := hide hRH.out.ry
        have Rq := hide hRH.out.rq
        have Rr := hide hRH.out.rr
        have Rs := hide hRH.out.rs
        have Rt := hide hRH.out.rt
        have HB := hide hRH.out.bel
        by_cases hlt : k < 2
        · have HW := hide (Below.refl wr.heap.size wr)
          have hx0 : Hid (0 < nv ry) := hide (by rw [Ey.out]; exact H0.out)
          go_wp2_with fail
          refine (div_r _ _ rx ry _ _ _ Lx Ly Rx.out Ry.out hx0.out).mono ?_
          rintro e wi1 ⟨rc1, Ac1, cc1, rc2, Ac2, cc2, Ec1, Ec2, rfl, Oc1, Oc2, hb⟩
          have Lc1 : rc1.length ≤ 4096 := by rw [Ec1.out, vz_length]; exact Lx
          replace Oc1 := hide (Oc1.out.base HW.out.size)
          have Lc2 : rc2.length ≤ 4096 := by rw [Ec2.out, vz_length]; exact Lx
          replace Oc2 := hide (Oc2.out.base HW.out.size)
          replace HW := hide (HW.out.trans (hb.mono HW.out.size))
          replace Ra := hide (Ra.out.below hb)
          replace Rb := hide (Rb.out.below hb)
          replace Rx := hide (Rx.out.below hb)
          replace Ry := hide (Ry.out.below hb)
          replace Rq := hide (Rq.out.below hb)
          replace Rr := hide (Rr.out.below hb)
          replace Rs := hide (Rs.out.below hb)
          replace Rt := hide (Rt.out.below hb)
          replace HB := hide (HB.out.trans (hb.mono HB.out.size))
          clear hb
          have Rc1 := hide Oc1.out.rd
          have Rc2 := hide Oc2.out.rd
          go_wp2_with fail
          refine (sdiv_r _ _ rx ry _ _ _ Lx Ly Rx.out Ry.out hx0.out).mono ?_
          rintro e wi2 ⟨rc3, Ac3, cc3, rc4, Ac4, cc4, Ec3, Ec4, rfl, Oc3, Oc4, hb⟩
          have Lc3 : rc3.length ≤ 4096 := by rw [Ec3.out, vz_length]; exact Lx
          replace Oc3 := hide (Oc3.out.base HW.out.size)
          have Lc4 : rc4.length ≤ 4096 := by rw [Ec4.out, vz_length]; exact Lx
          replace Oc4 := hide (Oc4.out.base HW.out.size)
          replace HW := hide (HW.out.trans (hb.mono HW.out.size))
          replace Ra := hide (Ra.out.below hb)
          replace Rb := hide (Rb.out.below hb)
          replace Rx := hide (Rx.out.below hb)
          replace Ry := hide (Ry.out.below hb)
          replace Rq := hide (Rq.out.below hb)
          replace Rr := hide (Rr.out.below hb)
          replace Rs := hide (Rs.out.below hb)
          replace Rt := hide (Rt.out.below hb)
          replace Rc1 := hide (Rc1.out.below hb)
          replace Rc2 := hide (Rc2.out.below hb)
          replace Oc1 := hide (Oc1.out.kept hb)
          replace Oc2 := hide (Oc2.out.kept hb)
          replace HB := hide (HB.out.trans (hb.mono HB.out.size))
          clear hb
          have Rc3 := hide Oc3.out.rd
          have Rc4 := hide Oc4.out.rd
          clear Rx
          clear Ry
          go_wp2_with fail
          refine (same_yes _ _ _ _ _ _ _ Lc1 Rc1.out Rq.out (by rw [Ec1.out, Eq.out, Ex.out, Ey.out])).mono ?_
          rintro e wi3 ⟨rfl, hb⟩
          replace HW := hide (HW.out.trans (hb.mono HW.out.size))
          replace Ra := hide (Ra.out.below hb)
          replace Rb := hide (Rb.out.below hb)
          replace Rq := hide (Rq.out.below hb)
          replace Rr := hide (Rr.out.below hb)
          replace Rs := hide (Rs.out.below hb)
          replace Rt := hide (Rt.out.below hb)
          replace Rc1 := hide (Rc1.out.below hb)
          replace Rc2 := hide (Rc2.out.below hb)
          replace Rc3 := hide (Rc3.out.below hb)
          replace Rc4 := hide (Rc4.out.below hb)
          replace Oc1 := hide (Oc1.out.kept hb)
          replace Oc2 := hide (Oc2.out.kept hb)
          replace Oc3 := hide (Oc3.out.kept hb)
          replace Oc4 := hide (Oc4.out.kept hb)
          replace HB := hide (HB.out.trans (hb.mono HB.out.size))
          clear hb
          go_wp2_with fail
          refine (same_yes _ _ _ _ _ _ _ Lc2 Rc2.out Rr.out (by rw [Ec2.out, Er.out, Ex.out, Ey.out])).mono ?_
          rintro e wi4 ⟨rfl, hb⟩
          replace HW := hide (HW.out.trans (hb.mono HW.out.size))
          replace Ra := hide (Ra.out.below hb)
          replace Rb := hide (Rb.out.below hb)
          replace Rq := hide (Rq.out.below hb)
          replace Rr := hide (Rr.out.below hb)
          replace Rs := hide (Rs.out.below hb)
          replace Rt := hide (Rt.out.below hb)
          replace Rc1 := hide (Rc1.out.below hb)
          replace Rc2 := hide (Rc2.out.below hb)
          replace Rc3 := hide (Rc3.out.below hb)
          replace Rc4 := hide (Rc4.out.below hb)
          replace Oc1 := hide (Oc1.out.kept hb)
          replace Oc2 := hide (Oc2.out.kept hb)
          replace Oc3 := hide (Oc3.out.kept hb)
          replace Oc4 := hide (Oc4.out.kept hb)
          replace HB := hide (HB.out.trans (hb.mono HB.out.size))
          clear hb
          go_wp2_with fail
          refine (same_yes _ _ _ _ _ _ _ Lc3 Rc3.out Rs.out (by rw [Ec3.out, Es.out, Ex.out, Ey.out])).mono ?_
          rintro e wi5 ⟨rfl, hb⟩
          replace HW := hide (HW.out.trans (hb.mono HW.out.size))
          replace Ra := hide (Ra.out.below hb)
          replace Rb := hide (Rb.out.below hb)
          replace Rq := hide (Rq.out.below hb)
          replace Rr := hide (Rr.out.below hb)
          replace Rs := hide (Rs.out.below hb)
          replace Rt := hide (Rt.out.below hb)
          replace Rc1 := hide (Rc1.out.below hb)
          replace Rc2 := hide (Rc2.out.below hb)
          replace Rc3 := hide (Rc3.out.below hb)
          replace Rc4 := hide (Rc4.out.below hb)
          replace Oc1 := hide (Oc1.out.kept hb)
          replace Oc2 := hide (Oc2.out.kept hb)
          replace Oc3 := hide (Oc3.out.kept hb)
          replace Oc4 := hide (Oc4.out.kept hb)
          replace HB := hide (HB.out.trans (hb.mono HB.out.size))
          clear hb
          go_wp2_with fail
          refine (same_yes _ _ _ _ _ _ _ Lc4 Rc4.out Rt.out (by rw [Ec4.out, Et.out, Ex.out, Ey.out])).mono ?_
          rintro e wi6 ⟨rfl, hb⟩
          replace HW := hide (HW.out.trans (hb.mono HW.out.size))
          replace Ra := hide (Ra.out.below hb)
          replace Rb := hide (Rb.out.below hb)
          replace Rq := hide (Rq.out.below hb)
          replace Rr := hide (Rr.out.below hb)
          replace Rs := hide (Rs.out.below hb)
          replace Rt := hide (Rt.out.below hb)
          replace Rc1 := hide (Rc1.out.below hb)
          replace Rc2 := hide (Rc2.out.below hb)
          replace Rc3 := hide (Rc3.out.below hb)
          replace Rc4 := hide (Rc4.out.below hb)
          replace Oc1 := hide (Oc1.out.kept hb)
          replace Oc2 := hide (Oc2.out.kept hb)
          replace Oc3 := hide (Oc3.out.kept hb)
          replace Oc4 := hide (Oc4.out.kept hb)
          replace HB := hide (HB.out.trans (hb.mono HB.out.size))
          clear hb
          clear Ra Rb Rq Rr Rs Rt Rc1 Rc2 Rc3 Rc4
          go_wp2_with fail
          refine (spoil_any wr.heap.size wi6.heap.size 4 [(Ac1, rc1.length, cc1), (Ac2, rc2.length, cc2), (Ac3, rc3.length, cc3), (Ac4, rc4.length, cc4)] _ (by simp) (len4 Lc1 Lc2 Lc3 Lc4) (spr4 cc1 cc2 cc3 cc4 Oc1.out Oc2.out Oc3.out Oc4.out)).mono ?_
          rintro e wl ⟨rfl, hbl⟩
          have HL := hide ((HW.out.alloc HW.out.size (.cells #[.slice Ac1 rc1.length cc1, .slice Ac2 rc2.length cc2, .slice Ac3 rc3.length cc3, .slice Ac4 rc4.length cc4] 22)).trans hbl)
          clear hbl
          go_wp2
          go_roundw
          case rel => exact ⟨k + 1, by omega, by go_num, hRH.out.next HL.out⟩
          case measure => simp [intOf]; omega
        · skip
          go_wp2_with fail
          refine (same_yes _ _ _ _ _ _ _ Lx Rx.out Ra.out (by exact Ex.out)).mono ?_
          rintro e wj1 ⟨rfl, hb⟩
          replace Ra := hide (Ra.out.below hb)
          replace Rb := hide (Rb.out.below hb)
          replace Rx := hide (Rx.out.below hb)
          replace Ry := hide (Ry.out.below hb)
          replace Rq := hide (Rq.out.below hb)
          replace Rr := hide (Rr.out.below hb)
          replace Rs := hide (Rs.out.below hb)
          replace Rt := hide (Rt.out.below hb)
          replace HB := hide (HB.out.trans (hb.mono HB.out.size))
          clear hb
          go_wp2_with fail
          refine (same_yes _ _ _ _ _ _ _ Ly Ry.out Rb.out (by exact Ey.out)).mono ?_
          rintro e wj2 ⟨rfl, hb⟩
          replace Ra := hide (Ra.out.below hb)
          replace Rb := hide (Rb.out.below hb)
          replace Rx := hide (Rx.out.below hb)
          replace Ry := hide (Ry.out.below hb)
          replace Rq := hide (Rq.out.below hb)
          replace Rr := hide (Rr.out.below hb)
          replace Rs := hide (Rs.out.below hb)
          replace Rt := hide (Rt.out.below hb)
          replace HB := hide (HB.out.trans (hb.mono HB.out.size))
          clear hb
          go_wp2_with fail
          refine (awake_any _).mono ?_
          rintro e wj3 ⟨rfl, hb⟩
          replace Ra := hide (Ra.out.below hb)
          replace Rb := hide (Rb.out.below hb)
          replace Rx := hide (Rx.out.below hb)
          replace Ry := hide (Ry.out.below hb)
          replace Rq := hide (Rq.out.below hb)
          replace Rr := hide (Rr.out.below hb)
          replace Rs := hide (Rs.out.below hb)
          replace Rt := hide (Rt.out.below hb)
          replace HB := hide (HB.out.trans (hb.mono HB.out.size))
          clear hb
          go_wp2_with fail
          go_ret
          exact ⟨rfl, HB.out⟩
    · have H0 := hide h0
      clear h0
      go_wp2_with fail
      refine (rdiv_zero _ _ ra rb _ _ _ (by omega) Cb Rb.out (by have := H0.out; omega)).mono ?_
      rintro e w3 ⟨rfl, hb⟩
      replace Ra := hide (Ra.out.below hb)
      replace Rb := hide (Rb.out.below hb)
      replace Rx := hide (Rx.out.below hb)
      replace Ry := hide (Ry.out.below hb)
      replace HB := hide (HB.out.trans (hb.mono HB.out.size))
      clear hb
      go_wp2_with fail
      refine (rsdiv_zero _ _ ra rb _ _ _ (by omega) Cb Rb.out (by have := H0.out; omega)).mono ?_
      rintro e w4 ⟨rfl, hb⟩
      replace Ra := hide (Ra.out.below hb)
      replace Rb := hide (Rb.out.below hb)
      replace Rx := hide (Rx.out.below hb)
      replace Ry := hide (Ry.out.below hb)
      replace HB := hide (HB.out.trans (hb.mono HB.out.size))
      clear hb
      have MR0 := hide (MR.mk (w := w) Ra.out Rb.out Rx.out Ry.out HB.out)
      clear Ra Rb Rx Ry HB
      go_wp2
      go_loopw [13] (fun i wr => ∃ k : Nat, k ≤ 2 ∧ i = .int .i64 k ∧ MR w A B Ax Ay ra rb rx ry wr) (fun i _ => 2 - (intOf i).toNat)
      case atStart => exact ⟨0, by omega, rfl, MR0.out⟩
      case round =>
        clear MR0
        obtain ⟨k, hk, rfl, hR⟩ := hrel
        have hRH := hide hR
        clear hR
        have Ra := hide hRH.out.ra
        have Rb := hide hRH.out.rb
        have Rx := hide hRH.out.rx
        have Ry := hide hRH.out.ry
        have HB := hide hRH.out.bel
        by_cases hlt : k < 2
        · have HW := hide (Below.refl wr.heap.size wr)
          have hx0 : Hid (nv ry = 0) := hide (by rw [Ey.out]; have := H0.out; omega)
          go_wp2_with fail
          refine (div_zero _ _ rx ry _ _ _ Lx Ly Ry.out hx0.out).mono ?_
          rintro e w' ⟨rfl, rfl⟩
          go_wp2_with fail
          refine (sdiv_zero _ _ rx ry _ _ _ Lx Ly Rx.out Ry.out hx0.out).mono ?_
          rintro e wi1 ⟨rfl, hb⟩
          replace HW := hide (HW.out.trans (hb.mono HW.out.size))
          replace Ra := hide (Ra.out.below hb)
          replace Rb := hide (Rb.out.below hb)
          replace Rx := hide (Rx.out.below hb)
          replace Ry := hide (Ry.out.below hb)
          replace HB := hide (HB.out.trans (hb.mono HB.out.size))
          clear hb
          go_wp2_with fail
          refine (same_yes none none [] [] 0 0 _ (by simp) (fun h => absurd h (by simp)) (fun h => absurd h (by simp)) rfl).mono ?_
          rintro e wi2 ⟨rfl, hb⟩
          replace HW := hide (HW.out.trans (hb.mono HW.out.size))
          replace Ra := hide (Ra.out.below hb)
          replace Rb := hide (Rb.out.below hb)
          replace Rx := hide (Rx.out.below hb)
          replace Ry := hide (Ry.out.below hb)
          replace HB := hide (HB.out.trans (hb.mono HB.out.size))
          clear hb
          go_wp2_with fail
          refine (same_yes none none [] [] 0 0 _ (by simp) (fun h => absurd h (by simp)) (fun h => absurd h (by simp)) rfl).mono ?_
          rintro e wi3 ⟨rfl, hb⟩
          replace HW := hide (HW.out.trans (hb.mono HW.out.size))
          replace Ra := hide (Ra.out.below hb)
          replace Rb := hide (Rb.out.below hb)
          replace Rx := hide (Rx.out.below hb)
          replace Ry := hide (Ry.out.below hb)
          replace HB := hide (HB.out.trans (hb.mono HB.out.size))
          clear hb
          go_wp2_with fail
          refine (same_yes none none [] [] 0 0 _ (by simp) (fun h => absurd h (by simp)) (fun h => absurd h (by simp)) rfl).mono ?_
          rintro e wi4 ⟨rfl, hb⟩
          replace HW := hide (HW.out.trans (hb.mono HW.out.size))
          replace Ra := hide (Ra.out.below hb)
          replace Rb := hide (Rb.out.below hb)
          replace Rx := hide (Rx.out.below hb)
          replace Ry := hide (Ry.out.below hb)
          replace HB := hide (HB.out.trans (hb.mono HB.out.size))
          clear hb
          go_wp2_with fail
          refine (same_yes none none [] [] 0 0 _ (by simp) (fun h => absurd h (by simp)) (fun h => absurd h (by simp)) rfl).mono ?_
          rintro e wi5 ⟨rfl, hb⟩
          replace HW := hide (HW.out.trans (hb.mono HW.out.size))
          replace Ra := hide (Ra.out.below hb)
          replace Rb := hide (Rb.out.below hb)
          replace Rx := hide (Rx.out.below hb)
          replace Ry := hide (Ry.out.below hb)
          replace HB := hide (HB.out.trans (hb.mono HB.out.size))
          clear hb
          go_wp2_with fail
          refine (spoil_any wr.heap.size wi5.heap.size 4 [(none, 0, 0), (none, 0, 0), (none, 0, 0), (none, 0, 0)] _ (by simp) (len4 (by omega) (by omega) (by omega) (by omega)) (spr4 (w := wi5) (A := none) (B := none) (C := none) (D := none) (a := []) (b := []) (c := []) (d := []) 0 0 0 0 (fun h => absurd h (by simp)) (fun h => absurd h (by simp)) (fun h => absurd h (by simp)) (fun h => absurd h (by simp)))).mono ?_
          rintro e wl ⟨rfl, hbl⟩
          have HL := hide ((HW.out.alloc HW.out.size (.cells #[.slice none 0 0, .slice none 0 0, .slice none 0 0, .slice none 0 0] 22)).trans hbl)
          clear hbl
          go_wp2
          go_roundw
          case rel => exact ⟨k + 1, by omega, by go_num, hRH.out.next HL.out⟩
          case measure => simp [intOf]; omega
        · skip
          go_wp2_with fail
          refine (same_yes _ _ _ _ _ _ _ Lx Rx.out Ra.out (by exact Ex.out)).mono ?_
          rintro e wj1 ⟨rfl, hb⟩
          replace Ra := hide (Ra.out.below hb)
          replace Rb := hide (Rb.out.below hb)
          replace Rx := hide (Rx.out.below hb)
          replace Ry := hide (Ry.out.below hb)
          replace HB := hide (HB.out.trans (hb.mono HB.out.size))
          clear hb
          go_wp2_with fail
          refine (same_yes _ _ _ _ _ _ _ Ly Ry.out Rb.out (by exact Ey.out)).mono ?_
          rintro e wj2 ⟨rfl, hb⟩
          replace Ra := hide (Ra.out.below hb)
          replace Rb := hide (Rb.out.below hb)
          replace Rx := hide (Rx.out.below hb)
          replace Ry := hide (Ry.out.below hb)
          replace HB := hide (HB.out.trans (hb.mono HB.out.size))
          clear hb
          go_wp2_with fail
          refine (awake_any _).mono ?_
          rintro e wj3 ⟨rfl, hb⟩
          replace Ra := hide (Ra.out.below hb)
          replace Rb := hide (Rb.out.below hb)
          replace Rx := hide (Rx.out.below hb)
          replace Ry := hide (Ry.out.below hb)
          replace HB := hide (HB.out.trans (hb.mono HB.out.size))
          clear hb
          go_wp2_with fail
          go_ret
          exact ⟨rfl, HB.out⟩
  · have HK := hide hl
    have HA := hide ka
    have HBb := hide kb
    clear hl ka kb
    go_enter Try.func4, Try.ntmps4
    go_wp2_with fail
    refine (long_yes w.heap.size 2 [(A, ra.length, ca), (B, rb.length, cb)] _ (by simp) (sls2 w A B _ _ _ _) (long2 HK.out) (by intro i hi; match i, hi with | 0, _ => exact HA.out | 1, _ => exact HBb.out)).mono ?_
    rintro e w' ⟨rfl, rfl⟩
    go_wp2_with fail
    refine (awake_any _).mono ?_
    rintro e w1 ⟨rfl, hb⟩
    go_wp2_with fail
    go_ret
    exact ⟨rfl, ((Below.refl _ _).alloc (Nat.le_refl _) _).trans (hb.mono (by simp))⟩
end Go.Proofs.Ytkjiaflmaniplaa
