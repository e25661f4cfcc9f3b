/-
  The walk of BvMatches.
-/
import Derived.Test.YtkjiaflmaniplaaBvQ
namespace Go.Proofs.Ytkjiaflmaniplaa
open Go.RowKit
set_option linter.unusedSimpArgs false
set_option linter.unusedVariables false
set_option maxRecDepth 100000 in
set_option maxHeartbeats 8000000 in
theorem BvMatches_walk (A : Option Addr) (ra : List Bool) (ca : Nat) (B : Option Addr) (rb : List Bool) (cb : Nat) (w : World) (ka : ra.length ≤ maxLen) (Ra0 : Rd w A ra) (kb : rb.length ≤ maxLen) (Rb0 : Rd w B rb) (Ca : Hid (ra.length ≤ ca ∧ ca ≤ maxLen)) (Cb : Hid (rb.length ≤ cb ∧ cb ≤ maxLen)) :
    Calls Try.prog 3 #[.slice A ra.length ca, .slice B rb.length cb] w (Mk (.bool true) w) := by
  have HB := hide (Below.refl w.heap.size w)
  have Ra := hide Ra0
  have Rb := hide Rb0
  clear Ra0 Rb0
  by_cases hl : ra.length ≤ 140 ∧ rb.length ≤ 140
  · obtain ⟨ha, hbb⟩ := hl
    have La : ra.length ≤ 4096 := by omega
    have Lb : rb.length ≤ 4096 := by omega
    go_enter Try.func3, Try.ntmps3
    go_wp2_with fail
    have hb := (Below.refl w.heap.size w).alloc (Nat.le_refl _) (.cells #[.slice A ra.length ca, .slice B rb.length cb] 22)
    replace Ra := hide (Ra.out.below hb)
    replace Rb := hide (Rb.out.below hb)
    replace HB := hide (HB.out.trans (hb.mono HB.out.size))
    clear hb
    refine (long_no w.heap.size 2 [(A, ra.length, ca), (B, rb.length, cb)] _ (by simp) (sls2 w A B _ _ _ _) (by intro i hi; match i, hi with | 0, _ => exact ha | 1, _ => exact hbb)).mono ?_
    rintro e w' ⟨rfl, rfl⟩
    go_wp2_with fail
    refine (own_any _ ra _ _ La Ra.out).mono ?_
    rintro e w1 ⟨rx, Ax, cx, Ex, rfl, Cx, Ox, hb⟩
    have Lx : rx.length ≤ 4096 := by rw [Ex.out]; exact La
    replace Ra := hide (Ra.out.below hb)
    replace Rb := hide (Rb.out.below hb)
    replace HB := hide (HB.out.trans (hb.mono HB.out.size))
    clear hb
    have Rx := hide Ox.out.rd
    clear Ox
    go_wp2_with fail
    refine (own_any _ rb _ _ Lb Rb.out).mono ?_
    rintro e w2 ⟨ry, Ay, cy, Ey, rfl, Cy, Oy, hb⟩
    have Ly : ry.length ≤ 4096 := by rw [Ey.out]; exact Lb
    replace Ra := hide (Ra.out.below hb)
    replace Rb := hide (Rb.out.below hb)
    replace Rx := hide (Rx.out.below hb)
    replace HB := hide (HB.out.trans (hb.mono HB.out.size))
    clear hb
    have Ry := hide Oy.out.rd
    clear Oy
    have hlx : rx.length ≤ 140 := by rw [Ex.out]; exact ha
    have hly : ry.length ≤ 140 := by rw [Ey.out]; exact hbb
    have MR0 := hide (MR.mk (w := w) Ra.out Rb.out Rx.out Ry.out HB.out)
    clear Ra Rb Rx Ry HB
    go_wp2
    go_loopw [7] (fun i wr => ∃ k : Nat, k ≤ 2 ∧ i = .int .i64 k ∧ MR w A B Ax Ay ra rb rx ry wr) (fun i _ => 2 - (intOf i).toNat)
    case atStart => exact ⟨0, by omega, rfl, MR0.out⟩
    case round =>
      clear MR0
      obtain ⟨k, hk, rfl, hR⟩ := hrel
      have hRH := hide hR
      clear hR
      have Ra := hide hRH.out.ra
      have Rb := hide hRH.out.rb
      have Rx := hide hRH.out.rx
      have Ry := hide hRH.out.ry
      have HB := hide hRH.out.bel
      by_cases hlt : k < 2
      · have HW := hide (Below.refl wr.heap.size wr)
        go_wp2_with fail
        refine (add_r _ _ rx ry _ _ _ Lx Ly Rx.out Ry.out).mono ?_
        rintro e wi1 ⟨rs1, As1, cs1, Es1, rfl, Cs1, Os1, hb⟩
        have Ls1 : rs1.length ≤ 4096 := by rw [Es1.out, vz_length]; exact Lx
        replace Os1 := hide (Os1.out.base HW.out.size)
        replace HW := hide (HW.out.trans (hb.mono HW.out.size))
        replace Ra := hide (Ra.out.below hb)
        replace Rb := hide (Rb.out.below hb)
        replace Rx := hide (Rx.out.below hb)
        replace Ry := hide (Ry.out.below hb)
        replace HB := hide (HB.out.trans (hb.mono HB.out.size))
        clear hb
        have Rs1 := hide Os1.out.rd
        go_wp2_with fail
        refine (sub_r _ _ rx ry _ _ _ Lx Ly Rx.out Ry.out).mono ?_
        rintro e wi2 ⟨rs2, As2, cs2, Es2, rfl, Cs2, Os2, hb⟩
        have Ls2 : rs2.length ≤ 4096 := by rw [Es2.out, vz_length]; exact Lx
        replace Os2 := hide (Os2.out.base HW.out.size)
        replace HW := hide (HW.out.trans (hb.mono HW.out.size))
        replace Ra := hide (Ra.out.below hb)
        replace Rb := hide (Rb.out.below hb)
        replace Rx := hide (Rx.out.below hb)
        replace Ry := hide (Ry.out.below hb)
        replace Rs1 := hide (Rs1.out.below hb)
        replace Os1 := hide (Os1.out.kept hb)
        replace HB := hide (HB.out.trans (hb.mono HB.out.size))
        clear hb
        have Rs2 := hide Os2.out.rd
        go_wp2_with fail
        refine (neg_r _ rx _ _ Lx Rx.out).mono ?_
        rintro e wi3 ⟨rs3, As3, cs3, Es3, rfl, Cs3, Os3, hb⟩
        have Ls3 : rs3.length ≤ 4096 := by rw [Es3.out, vz_length]; exact Lx
        replace Os3 := hide (Os3.out.base HW.out.size)
        replace HW := hide (HW.out.trans (hb.mono HW.out.size))
        replace Ra := hide (Ra.out.below hb)
        replace Rb := hide (Rb.out.below hb)
        replace Rx := hide (Rx.out.below hb)
        replace Ry := hide (Ry.out.below hb)
        replace Rs1 := hide (Rs1.out.below hb)
        replace Rs2 := hide (Rs2.out.below hb)
        replace Os1 := hide (Os1.out.kept hb)
        replace Os2 := hide (Os2.out.kept hb)
        replace HB := hide (HB.out.trans (hb.mono HB.out.size))
        clear hb
        have Rs3 := hide Os3.out.rd
        go_wp2_with fail
        refine (mul_r _ _ rx ry _ _ _ Lx Ly Rx.out Ry.out).mono ?_
        rintro e wi4 ⟨rs4, As4, cs4, Es4, rfl, Cs4, Os4, hb⟩
        have Ls4 : rs4.length ≤ 4096 := by rw [Es4.out, vz_length]; exact Lx
        replace Os4 := hide (Os4.out.base HW.out.size)
        replace HW := hide (HW.out.trans (hb.mono HW.out.size))
        replace Ra := hide (Ra.out.below hb)
        replace Rb := hide (Rb.out.below hb)
        replace Rx := hide (Rx.out.below hb)
        replace Ry := hide (Ry.out.below hb)
        replace Rs1 := hide (Rs1.out.below hb)
        replace Rs2 := hide (Rs2.out.below hb)
        replace Rs3 := hide (Rs3.out.below hb)
        replace Os1 := hide (Os1.out.kept hb)
        replace Os2 := hide (Os2.out.kept hb)
        replace Os3 := hide (Os3.out.kept hb)
        replace HB := hide (HB.out.trans (hb.mono HB.out.size))
        clear hb
        have Rs4 := hide Os4.out.rd
        clear Rx
        clear Ry
        go_wp2_with fail
        refine (radd_any _ _ ra rb _ _ _ (by omega) (by omega) Ra.out Rb.out).mono ?_
        rintro e wi5 ⟨rt1, At1, ct1, Et1, rfl, Ct1, Ot1, hb⟩
        have Lt1 : rt1.length ≤ 4096 := by rw [Et1.out, vz_length]; exact La
        replace HW := hide (HW.out.trans (hb.mono HW.out.size))
        replace Ra := hide (Ra.out.below hb)
        replace Rb := hide (Rb.out.below hb)
        replace Rs1 := hide (Rs1.out.below hb)
        replace Rs2 := hide (Rs2.out.below hb)
        replace Rs3 := hide (Rs3.out.below hb)
        replace Rs4 := hide (Rs4.out.below hb)
        replace Os1 := hide (Os1.out.kept hb)
        replace Os2 := hide (Os2.out.kept hb)
        replace Os3 := hide (Os3.out.kept hb)
        replace Os4 := hide (Os4.out.kept hb)
        replace HB := hide (HB.out.trans (hb.mono HB.out.size))
        clear hb
        have Rt1 := hide Ot1.out.rd
        clear Ot1
        go_wp2_with fail
        refine (same_yes _ _ _ _ _ _ _ Ls1 Rs1.out Rt1.out (by rw [Es1.out, Et1.out, Ex.out, Ey.out])).mono ?_
        rintro e wi6 ⟨rfl, hb⟩
        replace HW := hide (HW.out.trans (hb.mono HW.out.size))
        replace Ra := hide (Ra.out.below hb)
        replace Rb := hide (Rb.out.below hb)
        replace Rs1 := hide (Rs1.out.below hb)
        replace Rs2 := hide (Rs2.out.below hb)
        replace Rs3 := hide (Rs3.out.below hb)
        replace Rs4 := hide (Rs4.out.below hb)
        replace Rt1 := hide (Rt1.out.below hb)
        replace Os1 := hide (Os1.out.kept hb)
        replace Os2 := hide (Os2.out.kept hb)
        replace Os3 := hide (Os3.out.kept hb)
        replace Os4 := hide (Os4.out.kept hb)
        replace HB := hide (HB.out.trans (hb.mono HB.out.size))
        clear hb
        clear Rt1
        go_wp2_with fail
        refine (rsub_any _ _ ra rb _ _ _ (by omega) (by omega) Ra.out Rb.out).mono ?_
        rintro e wi7 ⟨rt2, At2, ct2, Et2, rfl, Ct2, Ot2, hb⟩
        have Lt2 : rt2.length ≤ 4096 := by rw [Et2.out, vz_length]; exact La
        replace HW := hide (HW.out.trans (hb.mono HW.out.size))
        replace Ra := hide (Ra.out.below hb)
        replace Rb := hide (Rb.out.below hb)
        replace Rs1 := hide (Rs1.out.below hb)
        replace Rs2 := hide (Rs2.out.below hb)
        replace Rs3 := hide (Rs3.out.below hb)
        replace Rs4 := hide (Rs4.out.below hb)
        replace Os1 := hide (Os1.out.kept hb)
        replace Os2 := hide (Os2.out.kept hb)
        replace Os3 := hide (Os3.out.kept hb)
        replace Os4 := hide (Os4.out.kept hb)
        replace HB := hide (HB.out.trans (hb.mono HB.out.size))
        clear hb
        have Rt2 := hide Ot2.out.rd
        clear Ot2
        go_wp2_with fail
        refine (same_yes _ _ _ _ _ _ _ Ls2 Rs2.out Rt2.out (by rw [Es2.out, Et2.out, Ex.out, Ey.out])).mono ?_
        rintro e wi8 ⟨rfl, hb⟩
        replace HW := hide (HW.out.trans (hb.mono HW.out.size))
        replace Ra := hide (Ra.out.below hb)
        replace Rb := hide (Rb.out.below hb)
        replace Rs1 := hide (Rs1.out.below hb)
        replace Rs2 := hide (Rs2.out.below hb)
        replace Rs3 := hide (Rs3.out.below hb)
        replace Rs4 := hide (Rs4.out.below hb)
        replace Rt2 := hide (Rt2.out.below hb)
        replace Os1 := hide (Os1.out.kept hb)
        replace Os2 := hide (Os2.out.kept hb)
        replace Os3 := hide (Os3.out.kept hb)
        replace Os4 := hide (Os4.out.kept hb)
        replace HB := hide (HB.out.trans (hb.mono HB.out.size))
        clear hb
        clear Rt2
        go_wp2_with fail
        refine (rneg2_any _ ra _ _ (by omega) Ra.out).mono ?_
        rintro e wi9 ⟨rt3, At3, ct3, Et3, rfl, Ct3, Ot3, hb⟩
        have Lt3 : rt3.length ≤ 4096 := by rw [Et3.out, vz_length]; exact La
        replace HW := hide (HW.out.trans (hb.mono HW.out.size))
        replace Ra := hide (Ra.out.below hb)
        replace Rb := hide (Rb.out.below hb)
        replace Rs1 := hide (Rs1.out.below hb)
        replace Rs2 := hide (Rs2.out.below hb)
        replace Rs3 := hide (Rs3.out.below hb)
        replace Rs4 := hide (Rs4.out.below hb)
        replace Os1 := hide (Os1.out.kept hb)
        replace Os2 := hide (Os2.out.kept hb)
        replace Os3 := hide (Os3.out.kept hb)
        replace Os4 := hide (Os4.out.kept hb)
        replace HB := hide (HB.out.trans (hb.mono HB.out.size))
        clear hb
        have Rt3 := hide Ot3.out.rd
        clear Ot3
        go_wp2_with fail
        refine (same_yes _ _ _ _ _ _ _ Ls3 Rs3.out Rt3.out (by rw [Es3.out, Et3.out, Ex.out])).mono ?_
        rintro e wi10 ⟨rfl, hb⟩
        replace HW := hide (HW.out.trans (hb.mono HW.out.size))
        replace Ra := hide (Ra.out.below hb)
        replace Rb := hide (Rb.out.below hb)
        replace Rs1 := hide (Rs1.out.below hb)
        replace Rs2 := hide (Rs2.out.below hb)
        replace Rs3 := hide (Rs3.out.below hb)
        replace Rs4 := hide (Rs4.out.below hb)
        replace Rt3 := hide (Rt3.out.below hb)
        replace Os1 := hide (Os1.out.kept hb)
        replace Os2 := hide (Os2.out.kept hb)
        replace Os3 := hide (Os3.out.kept hb)
        replace Os4 := hide (Os4.out.kept hb)
        replace HB := hide (HB.out.trans (hb.mono HB.out.size))
        clear hb
        clear Rt3
        go_wp2_with fail
        refine (rmul_any _ _ ra rb _ _ _ (by omega) (by omega) Ra.out Rb.out).mono ?_
        rintro e wi11 ⟨rt4, At4, ct4, Et4, rfl, Ct4, Ot4, hb⟩
        have Lt4 : rt4.length ≤ 4096 := by rw [Et4.out, vz_length]; exact La
        replace HW := hide (HW.out.trans (hb.mono HW.out.size))
        replace Ra := hide (Ra.out.below hb)
        replace Rb := hide (Rb.out.below hb)
        replace Rs1 := hide (Rs1.out.below hb)
        replace Rs2 := hide (Rs2.out.below hb)
        replace Rs3 := hide (Rs3.out.below hb)
        replace Rs4 := hide (Rs4.out.below hb)
        replace Os1 := hide (Os1.out.kept hb)
        replace Os2 := hide (Os2.out.kept hb)
        replace Os3 := hide (Os3.out.kept hb)
        replace Os4 := hide (Os4.out.kept hb)
        replace HB := hide (HB.out.trans (hb.mono HB.out.size))
        clear hb
        have Rt4 := hide Ot4.out.rd
        clear Ot4
        go_wp2_with fail
        refine (same_yes _ _ _ _ _ _ _ Ls4 Rs4.out Rt4.out (by rw [Es4.out, Et4.out, Ex.out, Ey.out])).mono ?_
        rintro e wi12 ⟨rfl, hb⟩
        replace HW := hide (HW.out.trans (hb.mono HW.out.size))
        replace Ra := hide (Ra.out.below hb)
        replace Rb := hide (Rb.out.below hb)
        replace Rs1 := hide (Rs1.out.below hb)
        replace Rs2 := hide (Rs2.out.below hb)
        replace Rs3 := hide (Rs3.out.below hb)
        replace Rs4 := hide (Rs4.out.below hb)
        replace Rt4 := hide (Rt4.out.below hb)
        replace Os1 := hide (Os1.out.kept hb)
        replace Os2 := hide (Os2.out.kept hb)
        replace Os3 := hide (Os3.out.kept hb)
        replace Os4 := hide (Os4.out.kept hb)
        replace HB := hide (HB.out.trans (hb.mono HB.out.size))
        clear hb
        clear Rt4
        clear Ra Rb Rs1 Rs2 Rs3 Rs4
        go_wp2_with fail
        refine (spoil_any wr.heap.size wi12.heap.size 4 [(As1, rs1.length, cs1), (As2, rs2.length, cs2), (As3, rs3.length, cs3), (As4, rs4.length, cs4)] _ (by simp) (len4 Ls1 Ls2 Ls3 Ls4) (spr4 cs1 cs2 cs3 cs4 Os1.out Os2.out Os3.out Os4.out)).mono ?_
        rintro e wl ⟨rfl, hbl⟩
        have HL := hide ((HW.out.alloc HW.out.size (.cells #[.slice As1 rs1.length cs1, .slice As2 rs2.length cs2, .slice As3 rs3.length cs3, .slice As4 rs4.length cs4] 22)).trans hbl)
        clear hbl
        go_wp2
        go_roundw
        case rel => exact ⟨k + 1, by omega, by go_num, hRH.out.next HL.out⟩
        case measure => simp [intOf]; omega
      · skip
        go_wp2_with fail
        refine (cmp_any _ _ ra rb _ _ _ La Lb Ra.out Rb.out).mono ?_
        rintro e w' ⟨rfl, rfl⟩
        go_wp2_with fail
        refine (rcmp_any _ _ ra rb _ _ _ La Lb Ca Cb Ra.out Rb.out).mono ?_
        rintro e wj1 ⟨rfl, hb⟩
        replace Ra := hide (Ra.out.below hb)
        replace Rb := hide (Rb.out.below hb)
        replace Rx := hide (Rx.out.below hb)
        replace Ry := hide (Ry.out.below hb)
        replace HB := hide (HB.out.trans (hb.mono HB.out.size))
        clear hb
        go_wp2_with fail
        refine (scmp_any _ _ ra rb _ _ _ La Lb Ra.out Rb.out).mono ?_
        rintro e w' ⟨rfl, rfl⟩
        go_wp2_with fail
        refine (rscmp_any _ _ ra rb _ _ _ (by omega) (by omega) Ca Cb Ra.out Rb.out).mono ?_
        rintro e wj2 ⟨rfl, hb⟩
        replace Ra := hide (Ra.out.below hb)
        replace Rb := hide (Rb.out.below hb)
        replace Rx := hide (Rx.out.below hb)
        replace Ry := hide (Ry.out.below hb)
        replace HB := hide (HB.out.trans (hb.mono HB.out.size))
        clear hb
        go_wp2_with fail
        refine (same_yes _ _ _ _ _ _ _ Lx Rx.out Ra.out (by exact Ex.out)).mono ?_
        rintro e wj3 ⟨rfl, hb⟩
        replace Ra := hide (Ra.out.below hb)
        replace Rb := hide (Rb.out.below hb)
        replace Rx := hide (Rx.out.below hb)
        replace Ry := hide (Ry.out.below hb)
        replace HB := hide (HB.out.trans (hb.mono HB.out.size))
        clear hb
        go_wp2_with fail
        refine (same_yes _ _ _ _ _ _ _ Ly Ry.out Rb.out (by exact Ey.out)).mono ?_
        rintro e wj4 ⟨rfl, hb⟩
        replace Ra := hide (Ra.out.below hb)
        replace Rb := hide (Rb.out.below hb)
        replace Rx := hide (Rx.out.below hb)
        replace Ry := hide (Ry.out.below hb)
        replace HB := hide (HB.out.trans (hb.mono HB.out.size))
        clear hb
        go_wp2_with fail
        refine (awake_any _).mono ?_
        rintro e wj5 ⟨rfl, hb⟩
        replace Ra := hide (Ra.out.below hb)
        replace Rb := hide (Rb.out.below hb)
        replace Rx := hide (Rx.out.below hb)
        replace Ry := hide (Ry.out.below hb)
        replace HB := hide (HB.out.trans (hb.mono HB.out.size))
        clear hb
        go_wp2_with fail
        go_ret
        exact ⟨rfl, HB.out⟩
  · have HK := hide hl
    have HA := hide ka
    have HBb := hide kb
    clear hl ka kb
    go_enter Try.func3, Try.ntmps3
    go_wp2_with fail
    refine (long_yes w.heap.size 2 [(A, ra.length, ca), (B, rb.length, cb)] _ (by simp) (sls2 w A B _ _ _ _) (long2 HK.out) (by intro i hi; match i, hi with | 0, _ => exact HA.out | 1, _ => exact HBb.out)).mono ?_
    rintro e w' ⟨rfl, rfl⟩
    go_wp2_with fail
    refine (awake_any _).mono ?_
    rintro e w1 ⟨rfl, hb⟩
    go_wp2_with fail
    go_ret
    exact ⟨rfl, ((Below.refl _ _).alloc (Nat.le_refl _) _).trans (hb.mono (by simp))⟩
end Go.Proofs.Ytkjiaflmaniplaa
