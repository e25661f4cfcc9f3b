/-
  The walk of BvPowMatches.
-/
import Derived.Test.YtkjiaflmaniplaaBvQ
namespace Go.Proofs.Ytkjiaflmaniplaa
open Go.RowKit
set_option linter.unusedSimpArgs false
set_option linter.unusedVariables false

set_option maxRecDepth 100000 in
set_option maxHeartbeats 8000000 in
theorem BvPowMatches_walk (A : Option Addr) (ra : List Bool) (ca : Nat) (B : Option Addr) (rb : List Bool) (cb : Nat) (w : World) (ka : ra.length ≤ maxLen) (Ra0 : Rd w A ra) (kb : rb.length ≤ maxLen) (Rb0 : Rd w B rb) :
    Calls Try.prog 6 #[.slice A ra.length ca, .slice B rb.length cb] w (Mk (.bool true) w) := by
  have HB := hide (Below.refl w.heap.size w)
  have Ra := hide Ra0
  have Rb := hide Rb0
  clear Ra0 Rb0
  unfold maxLen at ka kb
  by_cases h1 : ra.length ≤ 40
  · by_cases h2 : rb.length ≤ 40
    · have La : ra.length ≤ 4096 := by omega
      have Lb : rb.length ≤ 4096 := by omega
      go_enter Try.func6, Try.ntmps6
      go_wp2_with fail
      refine (pow_r _ _ ra rb _ _ _ La Lb Ra.out Rb.out).mono ?_
      rintro e w1 ⟨rx, Ax, cx, Ex, rfl, Cx, Ox, hb⟩
      have Lx : rx.length ≤ 4096 := by rw [Ex.out, vz_length]; exact La
      replace Ra := hide (Ra.out.below hb)
      replace Rb := hide (Rb.out.below hb)
      replace HB := hide (HB.out.trans (hb.mono HB.out.size))
      clear hb
      have Rx := hide Ox.out.rd
      clear Ox
      go_wp2_with fail
      refine (rpow_any _ _ ra rb _ _ _ (by omega) (by omega) Ra.out Rb.out).mono ?_
      rintro e w2 ⟨ry, Ay, cy, Ey, rfl, Cy, Oy, hb⟩
      have Ly : ry.length ≤ 4096 := by rw [Ey.out, vz_length]; exact La
      replace Ra := hide (Ra.out.below hb)
      replace Rb := hide (Rb.out.below hb)
      replace Rx := hide (Rx.out.below hb)
      replace HB := hide (HB.out.trans (hb.mono HB.out.size))
      clear hb
      have Ry := hide Oy.out.rd
      clear Oy
      go_wp2_with fail
      refine (same_yes _ _ _ _ _ _ _ Lx Rx.out Ry.out (by rw [Ex.out, Ey.out])).mono ?_
      rintro e w3 ⟨rfl, hb⟩
      replace Ra := hide (Ra.out.below hb)
      replace Rb := hide (Rb.out.below hb)
      replace Rx := hide (Rx.out.below hb)
      replace Ry := hide (Ry.out.below hb)
      replace HB := hide (HB.out.trans (hb.mono HB.out.size))
      clear hb
      go_wp2_with fail
      refine (awake_any _).mono ?_
      rintro e w4 ⟨rfl, hb⟩
      replace Ra := hide (Ra.out.below hb)
      replace Rb := hide (Rb.out.below hb)
      replace Rx := hide (Rx.out.below hb)
      replace Ry := hide (Ry.out.below hb)
      replace HB := hide (HB.out.trans (hb.mono HB.out.size))
      clear hb
      go_wp2_with fail
      go_ret
      exact ⟨rfl, HB.out⟩
    · go_enter Try.func6, Try.ntmps6
      go_wp2_with fail
      refine (awake_any _).mono ?_
      rintro e w1 ⟨rfl, hb⟩
      go_wp2_with fail
      go_ret
      exact ⟨rfl, hb⟩
  · go_enter Try.func6, Try.ntmps6
    go_wp2_with fail
    refine (awake_any _).mono ?_
    rintro e w1 ⟨rfl, hb⟩
    go_wp2_with fail
    go_ret
    exact ⟨rfl, hb⟩
end Go.Proofs.Ytkjiaflmaniplaa
