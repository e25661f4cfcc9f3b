/-
  VecEC.
-/
import Derived.Test.YtpiakebbndoecaaGreatDoorME5
set_option linter.unusedVariables false
set_option linter.unusedSimpArgs false
set_option linter.unusedSectionVars false
namespace Go.Proofs.YtpiakebbndoecaaGreatDoor
open Go.RowKit
set_option maxRecDepth 100000
set_option linter.unusedSimpArgs false
set_option linter.unusedVariables false
/-- The region that lays the rows. -/
noncomputable def rgEX : Code := ((Tryz.f7.body.map drawnOf).getD []).headD .skip
set_option maxHeartbeats 64000000 in
theorem EX_c0 (Q : Exit → Act → World → Prop) (w W w76 : World) (E0 : Env) (VS : List (Option Addr × List Int)) (Akk : Option Addr) (lkk : List Int) (ckk : Nat) (skk : Bool) (Pr1 : World → Prop) (HT : Hid (Tabs w)) (hU : Below w.heap.size w w76) (HL : Hid (VL VS w76)) (HM1 : ∀ w w', Pr1 w → Below w.heap.size w w' → Pr1 w') (HC1 : Hid (Pr1 w76)) (p1_kk : ∀ W, Pr1 W → RQ W Akk lkk) (Ckk : Hid (lkk.length ≤ ckk ∧ ckk ≤ maxLen)) (Ekk : Hid ((⟨lkk, skk⟩ : Vc) = ⟨[0, 4], true⟩)) (Lkk : Hid (lkk.length ≤ 4096)) (Ykk : Hid (By lkk)) : CH rgEX 240 523 Q W 189 897227025082773292366518262096013308818644166382150252171691099047329791 124 897227025082773292366518262096013308839413353816289562685250134410788863 ([(380, .agg #[.slice Akk lkk.length ckk, .bool skk])] ++ E0) w76 (fun G => ∀ (E' : Env) (w' : World) (_ : ∀ i, outR 196 260 i = true → lk E' i = lk ([(380, .agg #[.slice Akk lkk.length ckk, .bool skk])] ++ E0) i) (lq198 : List Int) (sq198 : Bool) (Aq198 : Option Addr) (cq198 : Nat) (lq199 : List Int) (sq199 : Bool) (Aq199 : Option Addr) (cq199 : Nat) (lq203 : List Int) (sq203 : Bool) (Aq203 : Option Addr) (cq203 : Nat) (lq204 : List Int) (sq204 : Bool) (Aq204 : Option Addr) (cq204 : Nat) (lq208 : List Int) (sq208 : Bool) (Aq208 : Option Addr) (cq208 : Nat) (lq209 : List Int) (sq209 : Bool) (Aq209 : Option Addr) (cq209 : Nat) (lq213 : List Int) (sq213 : Bool) (Aq213 : Option Addr) (cq213 : Nat) (lq214 : List Int) (sq214 : Bool) (Aq214 : Option Addr) (cq214 : Nat) (lq218 : List Int) (sq218 : Bool) (Aq218 : Option Addr) (cq218 : Nat) (lq219 : List Int) (sq219 : Bool) (Aq219 : Option Addr) (cq219 : Nat) (lq223 : List Int) (sq223 : Bool) (Aq223 : Option Addr) (cq223 : Nat) (lq224 : List Int) (sq224 : Bool) (Aq224 : Option Addr) (cq224 : Nat) (lq228 : List Int) (sq228 : Bool) (Aq228 : Option Addr) (cq228 : Nat) (lq229 : List Int) (sq229 : Bool) (Aq229 : Option Addr) (cq229 : Nat) (lq233 : List Int) (sq233 : Bool) (Aq233 : Option Addr) (cq233 : Nat) (lq234 : List Int) (sq234 : Bool) (Aq234 : Option Addr) (cq234 : Nat) (lq238 : List Int) (sq238 : Bool) (Aq238 : Option Addr) (cq238 : Nat) (lq239 : List Int) (sq239 : Bool) (Aq239 : Option Addr) (cq239 : Nat) (lq243 : List Int) (sq243 : Bool) (Aq243 : Option Addr) (cq243 : Nat) (lq244 : List Int) (sq244 : Bool) (Aq244 : Option Addr) (cq244 : Nat) (lq248 : List Int) (sq248 : Bool) (Aq248 : Option Addr) (cq248 : Nat) (lq249 : List Int) (sq249 : Bool) (Aq249 : Option Addr) (cq249 : Nat) (lq253 : List Int) (sq253 : Bool) (Aq253 : Option Addr) (cq253 : Nat) (lq254 : List Int) (sq254 : Bool) (Aq254 : Option Addr) (cq254 : Nat) (lq258 : List Int) (sq258 : Bool) (Aq258 : Option Addr) (cq258 : Nat) (lq259 : List Int) (sq259 : Bool) (Aq259 : Option Addr) (cq259 : Nat) (_ : Kp [(200, .agg #[.slice Aq198 lq198.length cq198, .bool sq198, .slice Aq199 lq199.length cq199, .bool sq199]), (205, .agg #[.slice Aq203 lq203.length cq203, .bool sq203, .slice Aq204 lq204.length cq204, .bool sq204]), (210, .agg #[.slice Aq208 lq208.length cq208, .bool sq208, .slice Aq209 lq209.length cq209, .bool sq209]), (215, .agg #[.slice Aq213 lq213.length cq213, .bool sq213, .slice Aq214 lq214.length cq214, .bool sq214]), (220, .agg #[.slice Aq218 lq218.length cq218, .bool sq218, .slice Aq219 lq219.length cq219, .bool sq219]), (225, .agg #[.slice Aq223 lq223.length cq223, .bool sq223, .slice Aq224 lq224.length cq224, .bool sq224]), (230, .agg #[.slice Aq228 lq228.length cq228, .bool sq228, .slice Aq229 lq229.length cq229, .bool sq229]), (235, .agg #[.slice Aq233 lq233.length cq233, .bool sq233, .slice Aq234 lq234.length cq234, .bool sq234]), (240, .agg #[.slice Aq238 lq238.length cq238, .bool sq238, .slice Aq239 lq239.length cq239, .bool sq239]), (245, .agg #[.slice Aq243 lq243.length cq243, .bool sq243, .slice Aq244 lq244.length cq244, .bool sq244]), (250, .agg #[.slice Aq248 lq248.length cq248, .bool sq248, .slice Aq249 lq249.length cq249, .bool sq249]), (255, .agg #[.slice Aq253 lq253.length cq253, .bool sq253, .slice Aq254 lq254.length cq254, .bool sq254]), (260, .agg #[.slice Aq258 lq258.length cq258, .bool sq258, .slice Aq259 lq259.length cq259, .bool sq259])] E') (_ : Below w.heap.size w w') (_ : Hid (VL ((Aq259, lq259) :: (Aq258, lq258) :: (Aq254, lq254) :: (Aq253, lq253) :: (Aq249, lq249) :: (Aq248, lq248) :: (Aq244, lq244) :: (Aq243, lq243) :: (Aq239, lq239) :: (Aq238, lq238) :: (Aq234, lq234) :: (Aq233, lq233) :: (Aq229, lq229) :: (Aq228, lq228) :: (Aq224, lq224) :: (Aq223, lq223) :: (Aq219, lq219) :: (Aq218, lq218) :: (Aq214, lq214) :: (Aq213, lq213) :: (Aq209, lq209) :: (Aq208, lq208) :: (Aq204, lq204) :: (Aq203, lq203) :: (Aq199, lq199) :: (Aq198, lq198) :: VS) w')) (_ : Hid (Pr1 w')) (_ : Hid ((⟨lq198, sq198⟩ : Vc) = vPow ⟨ofB ⟨#[49, 49, 49, 49]⟩, true⟩ ⟨ofB ⟨#[49, 49]⟩, true⟩)) (_ : Hid ((⟨lq199, sq199⟩ : Vc) = ⟨ofB ⟨#[49, 49, 49, 49]⟩, true⟩)) (_ : Hid ((⟨lq203, sq203⟩ : Vc) = vPow ⟨ofB ⟨#[49, 49, 49, 49]⟩, true⟩ ⟨ofB ⟨#[49, 48]⟩, true⟩)) (_ : Hid ((⟨lq204, sq204⟩ : Vc) = ⟨ofB ⟨#[48, 48, 48, 49]⟩, true⟩)) (_ : Hid ((⟨lq208, sq208⟩ : Vc) = vPow ⟨ofB ⟨#[48, 48, 48, 49]⟩, true⟩ ⟨ofB ⟨#[49]⟩, true⟩)) (_ : Hid ((⟨lq209, sq209⟩ : Vc) = ⟨ofB ⟨#[48, 48, 48, 49]⟩, true⟩)) (_ : Hid ((⟨lq213, sq213⟩ : Vc) = vPow ⟨ofB ⟨#[49, 49, 49, 49]⟩, false⟩ ⟨ofB ⟨#[49]⟩, true⟩)) (_ : Hid ((⟨lq214, sq214⟩ : Vc) = ⟨ofB ⟨#[48, 48, 48, 48]⟩, false⟩)) (_ : Hid ((⟨lq218, sq218⟩ : Vc) = vPow ⟨ofB ⟨#[48, 48]⟩, true⟩ ⟨ofB ⟨#[49]⟩, true⟩)) (_ : Hid ((⟨lq219, sq219⟩ : Vc) = ⟨ofB ⟨#[120, 120]⟩, true⟩)) (_ : Hid ((⟨lq223, sq223⟩ : Vc) = vPow ⟨ofB ⟨#[48, 48]⟩, false⟩ ⟨ofB ⟨#[49]⟩, false⟩)) (_ : Hid ((⟨lq224, sq224⟩ : Vc) = ⟨ofB ⟨#[48, 48]⟩, false⟩)) (_ : Hid ((⟨lq228, sq228⟩ : Vc) = vPow ⟨ofB ⟨#[49, 48]⟩, false⟩ ⟨ofB ⟨#[120]⟩, false⟩)) (_ : Hid ((⟨lq229, sq229⟩ : Vc) = ⟨ofB ⟨#[120, 120]⟩, false⟩)) (_ : Hid ((⟨lq233, sq233⟩ : Vc) = shf mShl ⟨ofB ⟨#[48, 48, 49, 49]⟩, false⟩ ⟨ofB ⟨#[49, 48]⟩, false⟩)) (_ : Hid ((⟨lq234, sq234⟩ : Vc) = ⟨ofB ⟨#[49, 49, 48, 48]⟩, false⟩)) (_ : Hid ((⟨lq238, sq238⟩ : Vc) = shf mShl ⟨ofB ⟨#[48, 122, 49, 49]⟩, false⟩ ⟨ofB ⟨#[49]⟩, false⟩)) (_ : Hid ((⟨lq239, sq239⟩ : Vc) = ⟨ofB ⟨#[122, 49, 49, 48]⟩, false⟩)) (_ : Hid ((⟨lq243, sq243⟩ : Vc) = shf mShr ⟨ofB ⟨#[49, 48, 48, 48]⟩, true⟩ ⟨ofB ⟨#[49]⟩, false⟩)) (_ : Hid ((⟨lq244, sq244⟩ : Vc) = ⟨ofB ⟨#[48, 49, 48, 48]⟩, true⟩)) (_ : Hid ((⟨lq248, sq248⟩ : Vc) = shf mAShr ⟨ofB ⟨#[49, 48, 48, 48]⟩, false⟩ ⟨ofB ⟨#[49]⟩, false⟩)) (_ : Hid ((⟨lq249, sq249⟩ : Vc) = ⟨ofB ⟨#[48, 49, 48, 48]⟩, false⟩)) (_ : Hid ((⟨lq253, sq253⟩ : Vc) = shf mAShr ⟨ofB ⟨#[120, 48, 48, 48]⟩, true⟩ ⟨ofB ⟨#[49, 49]⟩, true⟩)) (_ : Hid ((⟨lq254, sq254⟩ : Vc) = ⟨ofB ⟨#[120, 120, 120, 120]⟩, true⟩)) (_ : Hid ((⟨lq258, sq258⟩ : Vc) = shf mShr ⟨ofB ⟨#[49, 49]⟩, false⟩ ⟨ql 128 fun _ => 1, false⟩)) (_ : Hid ((⟨lq259, sq259⟩ : Vc) = ⟨ofB ⟨#[48, 48]⟩, false⟩)) (_ : Hid (lq198.length ≤ 4096)) (_ : Hid (lq199.length ≤ 4096)) (_ : Hid (lq203.length ≤ 4096)) (_ : Hid (lq204.length ≤ 4096)) (_ : Hid (lq208.length ≤ 4096)) (_ : Hid (lq209.length ≤ 4096)) (_ : Hid (lq213.length ≤ 4096)) (_ : Hid (lq214.length ≤ 4096)) (_ : Hid (lq218.length ≤ 4096)) (_ : Hid (lq219.length ≤ 4096)) (_ : Hid (lq223.length ≤ 4096)) (_ : Hid (lq224.length ≤ 4096)) (_ : Hid (lq228.length ≤ 4096)) (_ : Hid (lq229.length ≤ 4096)) (_ : Hid (lq233.length ≤ 4096)) (_ : Hid (lq234.length ≤ 4096)) (_ : Hid (lq238.length ≤ 4096)) (_ : Hid (lq239.length ≤ 4096)) (_ : Hid (lq243.length ≤ 4096)) (_ : Hid (lq244.length ≤ 4096)) (_ : Hid (lq248.length ≤ 4096)) (_ : Hid (lq249.length ≤ 4096)) (_ : Hid (lq253.length ≤ 4096)) (_ : Hid (lq254.length ≤ 4096)) (_ : Hid (lq258.length ≤ 4096)) (_ : Hid (lq259.length ≤ 4096)), G E' w') := by
 refine fun F hQ hK => ?_
 refine zac (i := 49) (m' := 897227025082773292366518262096013308818644166382150252172254049000751103) rfl rfl ((vsof_any ⟨#[49, 49, 49, 49]⟩ _ (by decide)).mono ?_)
 rintro e w77 ⟨lq196, sq196, Aq196, cq196, Eq196, rfl, Cq196, Oq196, hb⟩
 refine ⟨_, rfl, hb, ?_⟩
 replace HC1 := zH HM1 HC1 hb
 replace HL := hide (VL.kept HL.out hb)
 replace Oq196 := hide Oq196.out.rd
 replace hU := zU hU hU.size hb
 clear hb
 obtain ⟨Lq196, Yq196⟩ := gly Eq196.out (gd_of (by decide +kernel))
 refine zac (i := 50) (m' := 897227025082773292366518262096013308818644166382150252173379948907593727) rfl rfl ((vsof_any ⟨#[49, 49]⟩ _ (by decide)).mono ?_)
 rintro e w78 ⟨lq197, sq197, Aq197, cq197, Eq197, rfl, Cq197, Oq197, hb⟩
 refine ⟨_, rfl, hb, ?_⟩
 replace HC1 := zH HM1 HC1 hb
 replace Oq196 := zQ Oq196 hb
 replace HL := hide (VL.kept HL.out hb)
 replace Oq197 := hide Oq197.out.rd
 replace hU := zU hU hU.size hb
 clear hb
 obtain ⟨Lq197, Yq197⟩ := gly Eq197.out (gd_of (by decide +kernel))
 refine zac (i := 51) (m' := 897227025082773292366518262096013308818644166382150252175631748721278975) rfl rfl ((vPow_any Aq196 Aq197 lq196 lq197 cq196 cq197 sq196 sq197 _ Lq196.out Lq197.out Cq196 Cq197 Oq196.out Oq197.out Yq196.out Yq197.out (HT.out.kept hU)).mono ?_)
 rintro e w79 ⟨lq198, sq198, Aq198, cq198, Eq198, rfl, Cq198, Oq198, hb⟩
 refine ⟨_, rfl, hb, ?_⟩
 replace HC1 := zH HM1 HC1 hb
 replace Oq196 := zQ Oq196 hb
 replace Oq197 := zQ Oq197 hb
 replace HL := hide (VL.kept HL.out hb)
 replace Oq198 := hide Oq198.out.rd
 replace hU := zU hU hU.size hb
 clear hb
 obtain ⟨Lq198, Yq198⟩ := gly Eq198.out ((by rw [Eq196.out, Eq197.out]; exact gd_of (by decide +kernel)))
 replace Eq198 := hide (show (⟨lq198, sq198⟩ : Vc) = vPow ⟨ofB ⟨#[49, 49, 49, 49]⟩, true⟩ ⟨ofB ⟨#[49, 49]⟩, true⟩ from Eq198.out.trans (by rw [Eq196.out, Eq197.out]))
 clear Oq196 Cq196 Lq196 Yq196 Oq197 Cq197 Lq197 Yq197
 refine zac (i := 52) (m' := 897227025082773292366518262096013308818644166382150252180135348348649471) rfl rfl ((vsof_any ⟨#[49, 49, 49, 49]⟩ _ (by decide)).mono ?_)
 rintro e w80 ⟨lq199, sq199, Aq199, cq199, Eq199, rfl, Cq199, Oq199, hb⟩
 refine ⟨_, rfl, hb, ?_⟩
 replace HC1 := zH HM1 HC1 hb
 replace Oq198 := zQ Oq198 hb
 replace HL := hide (VL.kept HL.out hb)
 replace Oq199 := hide Oq199.out.rd
 replace hU := zU hU hU.size hb
 clear hb
 obtain ⟨Lq199, Yq199⟩ := gly Eq199.out (gd_of (by decide +kernel))
 refine zav (i := 53) (m' := 897227025082773292366518262096013308818644166382150252189142547603390463) (v := .agg #[.slice Aq198 lq198.length cq198, .bool sq198, .slice Aq199 lq199.length cq199, .bool sq199]) F hQ rfl rfl ?_
 replace HL := hide (VL.cons Oq199.out (VL.cons Oq198.out HL.out))
 clear Oq198 Cq198 Yq198 Oq199 Cq199 Yq199
 refine zac (i := 54) (m' := 897227025082773292366518262096013308818644166382150252207156946112872447) rfl rfl ((vsof_any ⟨#[49, 49, 49, 49]⟩ _ (by decide)).mono ?_)
 rintro e w81 ⟨lq201, sq201, Aq201, cq201, Eq201, rfl, Cq201, Oq201, hb⟩
 refine ⟨_, rfl, hb, ?_⟩
 replace HC1 := zH HM1 HC1 hb
 replace HL := hide (VL.kept HL.out hb)
 replace Oq201 := hide Oq201.out.rd
 replace hU := zU hU hU.size hb
 clear hb
 obtain ⟨Lq201, Yq201⟩ := gly Eq201.out (gd_of (by decide +kernel))
 refine zac (i := 55) (m' := 897227025082773292366518262096013308818644166382150252243185743131836415) rfl rfl ((vsof_any ⟨#[49, 48]⟩ _ (by decide)).mono ?_)
 rintro e w82 ⟨lq202, sq202, Aq202, cq202, Eq202, rfl, Cq202, Oq202, hb⟩
 refine ⟨_, rfl, hb, ?_⟩
 replace HC1 := zH HM1 HC1 hb
 replace Oq201 := zQ Oq201 hb
 replace HL := hide (VL.kept HL.out hb)
 replace Oq202 := hide Oq202.out.rd
 replace hU := zU hU hU.size hb
 clear hb
 obtain ⟨Lq202, Yq202⟩ := gly Eq202.out (gd_of (by decide +kernel))
 refine zac (i := 56) (m' := 897227025082773292366518262096013308818644166382150252315243337169764351) rfl rfl ((vPow_any Aq201 Aq202 lq201 lq202 cq201 cq202 sq201 sq202 _ Lq201.out Lq202.out Cq201 Cq202 Oq201.out Oq202.out Yq201.out Yq202.out (HT.out.kept hU)).mono ?_)
 rintro e w83 ⟨lq203, sq203, Aq203, cq203, Eq203, rfl, Cq203, Oq203, hb⟩
 refine ⟨_, rfl, hb, ?_⟩
 replace HC1 := zH HM1 HC1 hb
 replace Oq201 := zQ Oq201 hb
 replace Oq202 := zQ Oq202 hb
 replace HL := hide (VL.kept HL.out hb)
 replace Oq203 := hide Oq203.out.rd
 replace hU := zU hU hU.size hb
 clear hb
 obtain ⟨Lq203, Yq203⟩ := gly Eq203.out ((by rw [Eq201.out, Eq202.out]; exact gd_of (by decide +kernel)))
 replace Eq203 := hide (show (⟨lq203, sq203⟩ : Vc) = vPow ⟨ofB ⟨#[49, 49, 49, 49]⟩, true⟩ ⟨ofB ⟨#[49, 48]⟩, true⟩ from Eq203.out.trans (by rw [Eq201.out, Eq202.out]))
 clear Oq201 Cq201 Lq201 Yq201 Oq202 Cq202 Lq202 Yq202
 refine zac (i := 57) (m' := 897227025082773292366518262096013308818644166382150252459358525245620223) rfl rfl ((vsof_any ⟨#[48, 48, 48, 49]⟩ _ (by decide)).mono ?_)
 rintro e w84 ⟨lq204, sq204, Aq204, cq204, Eq204, rfl, Cq204, Oq204, hb⟩
 refine ⟨_, rfl, hb, ?_⟩
 replace HC1 := zH HM1 HC1 hb
 replace Oq203 := zQ Oq203 hb
 replace HL := hide (VL.kept HL.out hb)
 replace Oq204 := hide Oq204.out.rd
 replace hU := zU hU hU.size hb
 clear hb
 obtain ⟨Lq204, Yq204⟩ := gly Eq204.out (gd_of (by decide +kernel))
 refine zav (i := 58) (m' := 897227025082773292366518262096013308818644166382150252747588901397331967) (v := .agg #[.slice Aq203 lq203.length cq203, .bool sq203, .slice Aq204 lq204.length cq204, .bool sq204]) F hQ rfl rfl ?_
 replace HL := hide (VL.cons Oq204.out (VL.cons Oq203.out HL.out))
 clear Oq203 Cq203 Yq203 Oq204 Cq204 Yq204
 refine zac (i := 59) (m' := 897227025082773292366518262096013308818644166382150253324049653700755455) rfl rfl ((vsof_any ⟨#[48, 48, 48, 49]⟩ _ (by decide)).mono ?_)
 rintro e w85 ⟨lq206, sq206, Aq206, cq206, Eq206, rfl, Cq206, Oq206, hb⟩
 refine ⟨_, rfl, hb, ?_⟩
 replace HC1 := zH HM1 HC1 hb
 replace HL := hide (VL.kept HL.out hb)
 replace Oq206 := hide Oq206.out.rd
 replace hU := zU hU hU.size hb
 clear hb
 obtain ⟨Lq206, Yq206⟩ := gly Eq206.out (gd_of (by decide +kernel))
 refine zac (i := 60) (m' := 897227025082773292366518262096013308818644166382150254476971158307602431) rfl rfl ((vsof_any ⟨#[49]⟩ _ (by decide)).mono ?_)
 rintro e w86 ⟨lq207, sq207, Aq207, cq207, Eq207, rfl, Cq207, Oq207, hb⟩
 refine ⟨_, rfl, hb, ?_⟩
 replace HC1 := zH HM1 HC1 hb
 replace Oq206 := zQ Oq206 hb
 replace HL := hide (VL.kept HL.out hb)
 replace Oq207 := hide Oq207.out.rd
 replace hU := zU hU hU.size hb
 clear hb
 obtain ⟨Lq207, Yq207⟩ := gly Eq207.out (gd_of (by decide +kernel))
 refine zac (i := 61) (m' := 897227025082773292366518262096013308818644166382150256782814167521296383) rfl rfl ((vPow_any Aq206 Aq207 lq206 lq207 cq206 cq207 sq206 sq207 _ Lq206.out Lq207.out Cq206 Cq207 Oq206.out Oq207.out Yq206.out Yq207.out (HT.out.kept hU)).mono ?_)
 rintro e w87 ⟨lq208, sq208, Aq208, cq208, Eq208, rfl, Cq208, Oq208, hb⟩
 refine ⟨_, rfl, hb, ?_⟩
 replace HC1 := zH HM1 HC1 hb
 replace Oq206 := zQ Oq206 hb
 replace Oq207 := zQ Oq207 hb
 replace HL := hide (VL.kept HL.out hb)
 replace Oq208 := hide Oq208.out.rd
 replace hU := zU hU hU.size hb
 clear hb
 obtain ⟨Lq208, Yq208⟩ := gly Eq208.out ((by rw [Eq206.out, Eq207.out]; exact gd_of (by decide +kernel)))
 replace Eq208 := hide (show (⟨lq208, sq208⟩ : Vc) = vPow ⟨ofB ⟨#[48, 48, 48, 49]⟩, true⟩ ⟨ofB ⟨#[49]⟩, true⟩ from Eq208.out.trans (by rw [Eq206.out, Eq207.out]))
 clear Oq206 Cq206 Lq206 Yq206 Oq207 Cq207 Lq207 Yq207
 refine zac (i := 62) (m' := 897227025082773292366518262096013308818644166382150261394500185948684287) rfl rfl ((vsof_any ⟨#[48, 48, 48, 49]⟩ _ (by decide)).mono ?_)
 rintro e w88 ⟨lq209, sq209, Aq209, cq209, Eq209, rfl, Cq209, Oq209, hb⟩
 refine ⟨_, rfl, hb, ?_⟩
 replace HC1 := zH HM1 HC1 hb
 replace Oq208 := zQ Oq208 hb
 replace HL := hide (VL.kept HL.out hb)
 replace Oq209 := hide Oq209.out.rd
 replace hU := zU hU hU.size hb
 clear hb
 obtain ⟨Lq209, Yq209⟩ := gly Eq209.out (gd_of (by decide +kernel))
 refine zav (i := 63) (m' := 897227025082773292366518262096013308818644166382150270617872222803460095) (v := .agg #[.slice Aq208 lq208.length cq208, .bool sq208, .slice Aq209 lq209.length cq209, .bool sq209]) F hQ rfl rfl ?_
 replace HL := hide (VL.cons Oq209.out (VL.cons Oq208.out HL.out))
 clear Oq208 Cq208 Yq208 Oq209 Cq209 Yq209
 refine zac (i := 64) (m' := 897227025082773292366518262096013308818644166382150289064616296513011711) rfl rfl ((vof_any ⟨#[49, 49, 49, 49]⟩ _ (by decide)).mono ?_)
 rintro e w89 ⟨lq211, sq211, Aq211, cq211, Eq211, rfl, Cq211, Oq211, hb⟩
 refine ⟨_, rfl, hb, ?_⟩
 replace HC1 := zH HM1 HC1 hb
 replace HL := hide (VL.kept HL.out hb)
 replace Oq211 := hide Oq211.out.rd
 replace hU := zU hU hU.size hb
 clear hb
 obtain ⟨Lq211, Yq211⟩ := gly Eq211.out (gd_of (by decide +kernel))
 refine zac (i := 65) (m' := 897227025082773292366518262096013308818644166382150325958104443932114943) rfl rfl ((vsof_any ⟨#[49]⟩ _ (by decide)).mono ?_)
 rintro e w90 ⟨lq212, sq212, Aq212, cq212, Eq212, rfl, Cq212, Oq212, hb⟩
 refine ⟨_, rfl, hb, ?_⟩
 replace HC1 := zH HM1 HC1 hb
 replace Oq211 := zQ Oq211 hb
 replace HL := hide (VL.kept HL.out hb)
 replace Oq212 := hide Oq212.out.rd
 replace hU := zU hU hU.size hb
 clear hb
 obtain ⟨Lq212, Yq212⟩ := gly Eq212.out (gd_of (by decide +kernel))
 refine zac (i := 66) (m' := 897227025082773292366518262096013308818644166382150399745080738770321407) rfl rfl ((vPow_any Aq211 Aq212 lq211 lq212 cq211 cq212 sq211 sq212 _ Lq211.out Lq212.out Cq211 Cq212 Oq211.out Oq212.out Yq211.out Yq212.out (HT.out.kept hU)).mono ?_)
 rintro e w91 ⟨lq213, sq213, Aq213, cq213, Eq213, rfl, Cq213, Oq213, hb⟩
 refine ⟨_, rfl, hb, ?_⟩
 replace HC1 := zH HM1 HC1 hb
 replace Oq211 := zQ Oq211 hb
 replace Oq212 := zQ Oq212 hb
 replace HL := hide (VL.kept HL.out hb)
 replace Oq213 := hide Oq213.out.rd
 replace hU := zU hU hU.size hb
 clear hb
 obtain ⟨Lq213, Yq213⟩ := gly Eq213.out ((by rw [Eq211.out, Eq212.out]; exact gd_of (by decide +kernel)))
 replace Eq213 := hide (show (⟨lq213, sq213⟩ : Vc) = vPow ⟨ofB ⟨#[49, 49, 49, 49]⟩, false⟩ ⟨ofB ⟨#[49]⟩, true⟩ from Eq213.out.trans (by rw [Eq211.out, Eq212.out]))
 clear Oq211 Cq211 Lq211 Yq211 Oq212 Cq212 Lq212 Yq212
 refine zac (i := 67) (m' := 897227025082773292366518262096013308818644166382150547319033328446734335) rfl rfl ((vof_any ⟨#[48, 48, 48, 48]⟩ _ (by decide)).mono ?_)
 rintro e w92 ⟨lq214, sq214, Aq214, cq214, Eq214, rfl, Cq214, Oq214, hb⟩
 refine ⟨_, rfl, hb, ?_⟩
 replace HC1 := zH HM1 HC1 hb
 replace Oq213 := zQ Oq213 hb
 replace HL := hide (VL.kept HL.out hb)
 replace Oq214 := hide Oq214.out.rd
 replace hU := zU hU hU.size hb
 clear hb
 obtain ⟨Lq214, Yq214⟩ := gly Eq214.out (gd_of (by decide +kernel))
 refine zav (i := 68) (m' := 897227025082773292366518262096013308818644166382150842466938507799560191) (v := .agg #[.slice Aq213 lq213.length cq213, .bool sq213, .slice Aq214 lq214.length cq214, .bool sq214]) F hQ rfl rfl ?_
 replace HL := hide (VL.cons Oq214.out (VL.cons Oq213.out HL.out))
 clear Oq213 Cq213 Yq213 Oq214 Cq214 Yq214
 refine zac (i := 69) (m' := 897227025082773292366518262096013308818644166382151432762748866505211903) rfl rfl ((vsof_any ⟨#[48, 48]⟩ _ (by decide)).mono ?_)
 rintro e w93 ⟨lq216, sq216, Aq216, cq216, Eq216, rfl, Cq216, Oq216, hb⟩
 refine ⟨_, rfl, hb, ?_⟩
 replace HC1 := zH HM1 HC1 hb
 replace HL := hide (VL.kept HL.out hb)
 replace Oq216 := hide Oq216.out.rd
 replace hU := zU hU hU.size hb
 clear hb
 obtain ⟨Lq216, Yq216⟩ := gly Eq216.out (gd_of (by decide +kernel))
 refine zac (i := 70) (m' := 897227025082773292366518262096013308818644166382152613354369583916515327) rfl rfl ((vsof_any ⟨#[49]⟩ _ (by decide)).mono ?_)
 rintro e w94 ⟨lq217, sq217, Aq217, cq217, Eq217, rfl, Cq217, Oq217, hb⟩
 refine ⟨_, rfl, hb, ?_⟩
 replace HC1 := zH HM1 HC1 hb
 replace Oq216 := zQ Oq216 hb
 replace HL := hide (VL.kept HL.out hb)
 replace Oq217 := hide Oq217.out.rd
 replace hU := zU hU hU.size hb
 clear hb
 obtain ⟨Lq217, Yq217⟩ := gly Eq217.out (gd_of (by decide +kernel))
 refine zac (i := 71) (m' := 897227025082773292366518262096013308818644166382154974537611018739122175) rfl rfl ((vPow_any Aq216 Aq217 lq216 lq217 cq216 cq217 sq216 sq217 _ Lq216.out Lq217.out Cq216 Cq217 Oq216.out Oq217.out Yq216.out Yq217.out (HT.out.kept hU)).mono ?_)
 rintro e w95 ⟨lq218, sq218, Aq218, cq218, Eq218, rfl, Cq218, Oq218, hb⟩
 refine ⟨_, rfl, hb, ?_⟩
 replace HC1 := zH HM1 HC1 hb
 replace Oq216 := zQ Oq216 hb
 replace Oq217 := zQ Oq217 hb
 replace HL := hide (VL.kept HL.out hb)
 replace Oq218 := hide Oq218.out.rd
 replace hU := zU hU hU.size hb
 clear hb
 obtain ⟨Lq218, Yq218⟩ := gly Eq218.out ((by rw [Eq216.out, Eq217.out]; exact gd_of (by decide +kernel)))
 replace Eq218 := hide (show (⟨lq218, sq218⟩ : Vc) = vPow ⟨ofB ⟨#[48, 48]⟩, true⟩ ⟨ofB ⟨#[49]⟩, true⟩ from Eq218.out.trans (by rw [Eq216.out, Eq217.out]))
 clear Oq216 Cq216 Lq216 Yq216 Oq217 Cq217 Lq217 Yq217
 refine zac (i := 72) (m' := 897227025082773292366518262096013308818644166382159696904093888384335871) rfl rfl ((vsof_any ⟨#[120, 120]⟩ _ (by decide)).mono ?_)
 rintro e w96 ⟨lq219, sq219, Aq219, cq219, Eq219, rfl, Cq219, Oq219, hb⟩
 refine ⟨_, rfl, hb, ?_⟩
 replace HC1 := zH HM1 HC1 hb
 replace Oq218 := zQ Oq218 hb
 replace HL := hide (VL.kept HL.out hb)
 replace Oq219 := hide Oq219.out.rd
 replace hU := zU hU hU.size hb
 clear hb
 obtain ⟨Lq219, Yq219⟩ := gly Eq219.out (gd_of (by decide +kernel))
 refine zav (i := 73) (m' := 897227025082773292366518262096013308818644166382169141637059627674763263) (v := .agg #[.slice Aq218 lq218.length cq218, .bool sq218, .slice Aq219 lq219.length cq219, .bool sq219]) F hQ rfl rfl ?_
 replace HL := hide (VL.cons Oq219.out (VL.cons Oq218.out HL.out))
 clear Oq218 Cq218 Yq218 Oq219 Cq219 Yq219
 refine zac (i := 74) (m' := 897227025082773292366518262096013308818644166382188031102991106255618047) rfl rfl ((vof_any ⟨#[48, 48]⟩ _ (by decide)).mono ?_)
 rintro e w97 ⟨lq221, sq221, Aq221, cq221, Eq221, rfl, Cq221, Oq221, hb⟩
 refine ⟨_, rfl, hb, ?_⟩
 replace HC1 := zH HM1 HC1 hb
 replace HL := hide (VL.kept HL.out hb)
 replace Oq221 := hide Oq221.out.rd
 replace hU := zU hU hU.size hb
 clear hb
 obtain ⟨Lq221, Yq221⟩ := gly Eq221.out (gd_of (by decide +kernel))
 refine zac (i := 75) (m' := 897227025082773292366518262096013308818644166382225810034854063417327615) rfl rfl ((vof_any ⟨#[49]⟩ _ (by decide)).mono ?_)
 rintro e w98 ⟨lq222, sq222, Aq222, cq222, Eq222, rfl, Cq222, Oq222, hb⟩
 refine ⟨_, rfl, hb, ?_⟩
 replace HC1 := zH HM1 HC1 hb
 replace Oq221 := zQ Oq221 hb
 replace HL := hide (VL.kept HL.out hb)
 replace Oq222 := hide Oq222.out.rd
 replace hU := zU hU hU.size hb
 clear hb
 obtain ⟨Lq222, Yq222⟩ := gly Eq222.out (gd_of (by decide +kernel))
 refine zac (i := 76) (m' := 897227025082773292366518262096013308818644166382301367898579977740746751) rfl rfl ((vPow_any Aq221 Aq222 lq221 lq222 cq221 cq222 sq221 sq222 _ Lq221.out Lq222.out Cq221 Cq222 Oq221.out Oq222.out Yq221.out Yq222.out (HT.out.kept hU)).mono ?_)
 rintro e w99 ⟨lq223, sq223, Aq223, cq223, Eq223, rfl, Cq223, Oq223, hb⟩
 refine ⟨_, rfl, hb, ?_⟩
 replace HC1 := zH HM1 HC1 hb
 replace Oq221 := zQ Oq221 hb
 replace Oq222 := zQ Oq222 hb
 replace HL := hide (VL.kept HL.out hb)
 replace Oq223 := hide Oq223.out.rd
 replace hU := zU hU hU.size hb
 clear hb
 obtain ⟨Lq223, Yq223⟩ := gly Eq223.out ((by rw [Eq221.out, Eq222.out]; exact gd_of (by decide +kernel)))
 replace Eq223 := hide (show (⟨lq223, sq223⟩ : Vc) = vPow ⟨ofB ⟨#[48, 48]⟩, false⟩ ⟨ofB ⟨#[49]⟩, false⟩ from Eq223.out.trans (by rw [Eq221.out, Eq222.out]))
 clear Oq221 Cq221 Lq221 Yq221 Oq222 Cq222 Lq222 Yq222
 refine zac (i := 77) (m' := 897227025082773292366518262096013308818644166382452483626031806387585023) rfl rfl ((vof_any ⟨#[48, 48]⟩ _ (by decide)).mono ?_)
 rintro e w100 ⟨lq224, sq224, Aq224, cq224, Eq224, rfl, Cq224, Oq224, hb⟩
 refine ⟨_, rfl, hb, ?_⟩
 replace HC1 := zH HM1 HC1 hb
 replace Oq223 := zQ Oq223 hb
 replace HL := hide (VL.kept HL.out hb)
 replace Oq224 := hide Oq224.out.rd
 replace hU := zU hU hU.size hb
 clear hb
 obtain ⟨Lq224, Yq224⟩ := gly Eq224.out (gd_of (by decide +kernel))
 refine zav (i := 78) (m' := 897227025082773292366518262096013308818644166382754715080935463681261567) (v := .agg #[.slice Aq223 lq223.length cq223, .bool sq223, .slice Aq224 lq224.length cq224, .bool sq224]) F hQ rfl rfl ?_
 replace HL := hide (VL.cons Oq224.out (VL.cons Oq223.out HL.out))
 clear Oq223 Cq223 Yq223 Oq224 Cq224 Yq224
 refine zac (i := 79) (m' := 897227025082773292366518262096013308818644166383359177990742778268614655) rfl rfl ((vof_any ⟨#[49, 48]⟩ _ (by decide)).mono ?_)
 rintro e w101 ⟨lq226, sq226, Aq226, cq226, Eq226, rfl, Cq226, Oq226, hb⟩
 refine ⟨_, rfl, hb, ?_⟩
 replace HC1 := zH HM1 HC1 hb
 replace HL := hide (VL.kept HL.out hb)
 replace Oq226 := hide Oq226.out.rd
 replace hU := zU hU hU.size hb
 clear hb
 obtain ⟨Lq226, Yq226⟩ := gly Eq226.out (gd_of (by decide +kernel))
 refine zac (i := 80) (m' := 897227025082773292366518262096013308818644166384568103810357407443320831) rfl rfl ((vof_any ⟨#[120]⟩ _ (by decide)).mono ?_)
 rintro e w102 ⟨lq227, sq227, Aq227, cq227, Eq227, rfl, Cq227, Oq227, hb⟩
 refine ⟨_, rfl, hb, ?_⟩
 replace HC1 := zH HM1 HC1 hb
 replace Oq226 := zQ Oq226 hb
 replace HL := hide (VL.kept HL.out hb)
 replace Oq227 := hide Oq227.out.rd
 replace hU := zU hU hU.size hb
 clear hb
 obtain ⟨Lq227, Yq227⟩ := gly Eq227.out (gd_of (by decide +kernel))
 refine zac (i := 81) (m' := 897227025082773292366518262096013308818644166386985955449586665792733183) rfl rfl ((vPow_any Aq226 Aq227 lq226 lq227 cq226 cq227 sq226 sq227 _ Lq226.out Lq227.out Cq226 Cq227 Oq226.out Oq227.out Yq226.out Yq227.out (HT.out.kept hU)).mono ?_)
 rintro e w103 ⟨lq228, sq228, Aq228, cq228, Eq228, rfl, Cq228, Oq228, hb⟩
 refine ⟨_, rfl, hb, ?_⟩
 replace HC1 := zH HM1 HC1 hb
 replace Oq226 := zQ Oq226 hb
 replace Oq227 := zQ Oq227 hb
 replace HL := hide (VL.kept HL.out hb)
 replace Oq228 := hide Oq228.out.rd
 replace hU := zU hU hU.size hb
 clear hb
 obtain ⟨Lq228, Yq228⟩ := gly Eq228.out ((by rw [Eq226.out, Eq227.out]; exact gd_of (by decide +kernel)))
 replace Eq228 := hide (show (⟨lq228, sq228⟩ : Vc) = vPow ⟨ofB ⟨#[49, 48]⟩, false⟩ ⟨ofB ⟨#[120]⟩, false⟩ from Eq228.out.trans (by rw [Eq226.out, Eq227.out]))
 clear Oq226 Cq226 Lq226 Yq226 Oq227 Cq227 Lq227 Yq227
 refine zac (i := 82) (m' := 897227025082773292366518262096013308818644166391821658728045182491557887) rfl rfl ((vof_any ⟨#[120, 120]⟩ _ (by decide)).mono ?_)
 rintro e w104 ⟨lq229, sq229, Aq229, cq229, Eq229, rfl, Cq229, Oq229, hb⟩
 refine ⟨_, rfl, hb, ?_⟩
 replace HC1 := zH HM1 HC1 hb
 replace Oq228 := zQ Oq228 hb
 replace HL := hide (VL.kept HL.out hb)
 replace Oq229 := hide Oq229.out.rd
 replace hU := zU hU hU.size hb
 clear hb
 obtain ⟨Lq229, Yq229⟩ := gly Eq229.out (gd_of (by decide +kernel))
 refine zav (i := 83) (m' := 897227025082773292366518262096013308818644166401493065284962215889207295) (v := .agg #[.slice Aq228 lq228.length cq228, .bool sq228, .slice Aq229 lq229.length cq229, .bool sq229]) F hQ rfl rfl ?_
 replace HL := hide (VL.cons Oq229.out (VL.cons Oq228.out HL.out))
 clear Oq228 Cq228 Yq228 Oq229 Cq229 Yq229
 refine zac (i := 84) (m' := 897227025082773292366518262096013308818644166420835878398796282684506111) rfl rfl ((vof_any ⟨#[48, 48, 49, 49]⟩ _ (by decide)).mono ?_)
 rintro e w105 ⟨lq231, sq231, Aq231, cq231, Eq231, rfl, Cq231, Oq231, hb⟩
 refine ⟨_, rfl, hb, ?_⟩
 replace HC1 := zH HM1 HC1 hb
 replace HL := hide (VL.kept HL.out hb)
 replace Oq231 := hide Oq231.out.rd
 replace hU := zU hU hU.size hb
 clear hb
 obtain ⟨Lq231, Yq231⟩ := gly Eq231.out (gd_of (by decide +kernel))
 refine zac (i := 85) (m' := 897227025082773292366518262096013308818644166459521504626464416275103743) rfl rfl ((vof_any ⟨#[49, 48]⟩ _ (by decide)).mono ?_)
 rintro e w106 ⟨lq232, sq232, Aq232, cq232, Eq232, rfl, Cq232, Oq232, hb⟩
 refine ⟨_, rfl, hb, ?_⟩
 replace HC1 := zH HM1 HC1 hb
 replace Oq231 := zQ Oq231 hb
 replace HL := hide (VL.kept HL.out hb)
 replace Oq232 := hide Oq232.out.rd
 replace hU := zU hU hU.size hb
 clear hb
 obtain ⟨Lq232, Yq232⟩ := gly Eq232.out (gd_of (by decide +kernel))
 refine zac (i := 86) (m' := 897227025082773292366518262096013308818644166536892757081800683456299007) rfl rfl ((vShl_any Aq231 Aq232 lq231 lq232 cq231 cq232 sq231 sq232 _ Lq231.out Lq232.out Cq231 Cq232 Oq231.out Oq232.out Yq231.out Yq232.out).mono ?_)
 rintro e w107 ⟨lq233, sq233, Aq233, cq233, Eq233, rfl, Cq233, Oq233, hb⟩
 refine ⟨_, rfl, hb, ?_⟩
 replace HC1 := zH HM1 HC1 hb
 replace Oq231 := zQ Oq231 hb
 replace Oq232 := zQ Oq232 hb
 replace HL := hide (VL.kept HL.out hb)
 replace Oq233 := hide Oq233.out.rd
 replace hU := zU hU hU.size hb
 clear hb
 obtain ⟨Lq233, Yq233⟩ := gly Eq233.out ((by rw [Eq231.out, Eq232.out]; exact gd_of (by decide +kernel)))
 replace Eq233 := hide (show (⟨lq233, sq233⟩ : Vc) = shf mShl ⟨ofB ⟨#[48, 48, 49, 49]⟩, false⟩ ⟨ofB ⟨#[49, 48]⟩, false⟩ from Eq233.out.trans (by rw [Eq231.out, Eq232.out]))
 clear Oq231 Cq231 Lq231 Yq231 Oq232 Cq232 Lq232 Yq232
 refine zac (i := 87) (m' := 897227025082773292366518262096013308818644166691635261992473217818689535) rfl rfl ((vof_any ⟨#[49, 49, 48, 48]⟩ _ (by decide)).mono ?_)
 rintro e w108 ⟨lq234, sq234, Aq234, cq234, Eq234, rfl, Cq234, Oq234, hb⟩
 refine ⟨_, rfl, hb, ?_⟩
 replace HC1 := zH HM1 HC1 hb
 replace Oq233 := zQ Oq233 hb
 replace HL := hide (VL.kept HL.out hb)
 replace Oq234 := hide Oq234.out.rd
 replace hU := zU hU hU.size hb
 clear hb
 obtain ⟨Lq234, Yq234⟩ := gly Eq234.out (gd_of (by decide +kernel))
 refine zav (i := 88) (m' := 897227025082773292366518262096013308818644167001120271813818286543470591) (v := .agg #[.slice Aq233 lq233.length cq233, .bool sq233, .slice Aq234 lq234.length cq234, .bool sq234]) F hQ rfl rfl ?_
 replace HL := hide (VL.cons Oq234.out (VL.cons Oq233.out HL.out))
 clear Oq233 Cq233 Yq233 Oq234 Cq234 Yq234
 refine zac (i := 89) (m' := 897227025082773292366518262096013308818644167620090291456508423993032703) rfl rfl ((vof_any ⟨#[48, 122, 49, 49]⟩ _ (by decide)).mono ?_)
 rintro e w109 ⟨lq236, sq236, Aq236, cq236, Eq236, rfl, Cq236, Oq236, hb⟩
 refine ⟨_, rfl, hb, ?_⟩
 replace HC1 := zH HM1 HC1 hb
 replace HL := hide (VL.kept HL.out hb)
 replace Oq236 := hide Oq236.out.rd
 replace hU := zU hU hU.size hb
 clear hb
 obtain ⟨Lq236, Yq236⟩ := gly Eq236.out (gd_of (by decide +kernel))
 refine zac (i := 90) (m' := 897227025082773292366518262096013308818644168858030330741888698892156927) rfl rfl ((vof_any ⟨#[49]⟩ _ (by decide)).mono ?_)
 rintro e w110 ⟨lq237, sq237, Aq237, cq237, Eq237, rfl, Cq237, Oq237, hb⟩
 refine ⟨_, rfl, hb, ?_⟩
 replace HC1 := zH HM1 HC1 hb
 replace Oq236 := zQ Oq236 hb
 replace HL := hide (VL.kept HL.out hb)
 replace Oq237 := hide Oq237.out.rd
 replace hU := zU hU hU.size hb
 clear hb
 obtain ⟨Lq237, Yq237⟩ := gly Eq237.out (gd_of (by decide +kernel))
 refine zac (i := 91) (m' := 897227025082773292366518262096013308818644171333910409312649248690405375) rfl rfl ((vShl_any Aq236 Aq237 lq236 lq237 cq236 cq237 sq236 sq237 _ Lq236.out Lq237.out Cq236 Cq237 Oq236.out Oq237.out Yq236.out Yq237.out).mono ?_)
 rintro e w111 ⟨lq238, sq238, Aq238, cq238, Eq238, rfl, Cq238, Oq238, hb⟩
 refine ⟨_, rfl, hb, ?_⟩
 replace HC1 := zH HM1 HC1 hb
 replace Oq236 := zQ Oq236 hb
 replace Oq237 := zQ Oq237 hb
 replace HL := hide (VL.kept HL.out hb)
 replace Oq238 := hide Oq238.out.rd
 replace hU := zU hU hU.size hb
 clear hb
 obtain ⟨Lq238, Yq238⟩ := gly Eq238.out ((by rw [Eq236.out, Eq237.out]; exact gd_of (by decide +kernel)))
 replace Eq238 := hide (show (⟨lq238, sq238⟩ : Vc) = shf mShl ⟨ofB ⟨#[48, 122, 49, 49]⟩, false⟩ ⟨ofB ⟨#[49]⟩, false⟩ from Eq238.out.trans (by rw [Eq236.out, Eq237.out]))
 clear Oq236 Cq236 Lq236 Yq236 Oq237 Cq237 Lq237 Yq237
 refine zac (i := 92) (m' := 897227025082773292366518262096013308818644176285670566454170348286902271) rfl rfl ((vof_any ⟨#[122, 49, 49, 48]⟩ _ (by decide)).mono ?_)
 rintro e w112 ⟨lq239, sq239, Aq239, cq239, Eq239, rfl, Cq239, Oq239, hb⟩
 refine ⟨_, rfl, hb, ?_⟩
 replace HC1 := zH HM1 HC1 hb
 replace Oq238 := zQ Oq238 hb
 replace HL := hide (VL.kept HL.out hb)
 replace Oq239 := hide Oq239.out.rd
 replace hU := zU hU hU.size hb
 clear hb
 obtain ⟨Lq239, Yq239⟩ := gly Eq239.out (gd_of (by decide +kernel))
 refine zav (i := 93) (m' := 897227025082773292366518262096013308818644186189190880737212547479896063) (v := .agg #[.slice Aq238 lq238.length cq238, .bool sq238, .slice Aq239 lq239.length cq239, .bool sq239]) F hQ rfl rfl ?_
 replace HL := hide (VL.cons Oq239.out (VL.cons Oq238.out HL.out))
 clear Oq238 Cq238 Yq238 Oq239 Cq239 Yq239
 refine zac (i := 94) (m' := 897227025082773292366518262096013308818644205996231509303296945865883647) rfl rfl ((vsof_any ⟨#[49, 48, 48, 48]⟩ _ (by decide)).mono ?_)
 rintro e w113 ⟨lq241, sq241, Aq241, cq241, Eq241, rfl, Cq241, Oq241, hb⟩
 refine ⟨_, rfl, hb, ?_⟩
 replace HC1 := zH HM1 HC1 hb
 replace HL := hide (VL.kept HL.out hb)
 replace Oq241 := hide Oq241.out.rd
 replace hU := zU hU hU.size hb
 clear hb
 obtain ⟨Lq241, Yq241⟩ := gly Eq241.out (gd_of (by decide +kernel))
 refine zac (i := 95) (m' := 897227025082773292366518262096013308818644245610312766435465742637858815) rfl rfl ((vof_any ⟨#[49]⟩ _ (by decide)).mono ?_)
 rintro e w114 ⟨lq242, sq242, Aq242, cq242, Eq242, rfl, Cq242, Oq242, hb⟩
 refine ⟨_, rfl, hb, ?_⟩
 replace HC1 := zH HM1 HC1 hb
 replace Oq241 := zQ Oq241 hb
 replace HL := hide (VL.kept HL.out hb)
 replace Oq242 := hide Oq242.out.rd
 replace hU := zU hU hU.size hb
 clear hb
 obtain ⟨Lq242, Yq242⟩ := gly Eq242.out (gd_of (by decide +kernel))
 refine zac (i := 96) (m' := 897227025082773292366518262096013308818644324838475280699803336181809151) rfl rfl ((vShr_any Aq241 Aq242 lq241 lq242 cq241 cq242 sq241 sq242 _ Lq241.out Lq242.out Cq241 Cq242 Oq241.out Oq242.out Yq241.out Yq242.out).mono ?_)
 rintro e w115 ⟨lq243, sq243, Aq243, cq243, Eq243, rfl, Cq243, Oq243, hb⟩
 refine ⟨_, rfl, hb, ?_⟩
 replace HC1 := zH HM1 HC1 hb
 replace Oq241 := zQ Oq241 hb
 replace Oq242 := zQ Oq242 hb
 replace HL := hide (VL.kept HL.out hb)
 replace Oq243 := hide Oq243.out.rd
 replace hU := zU hU hU.size hb
 clear hb
 obtain ⟨Lq243, Yq243⟩ := gly Eq243.out ((by rw [Eq241.out, Eq242.out]; exact gd_of (by decide +kernel)))
 replace Eq243 := hide (show (⟨lq243, sq243⟩ : Vc) = shf mShr ⟨ofB ⟨#[49, 48, 48, 48]⟩, true⟩ ⟨ofB ⟨#[49]⟩, false⟩ from Eq243.out.trans (by rw [Eq241.out, Eq242.out]))
 clear Oq241 Cq241 Lq241 Yq241 Oq242 Cq242 Lq242 Yq242
 refine zac (i := 97) (m' := 897227025082773292366518262096013308818644483294800309228478523269709823) rfl rfl ((vsof_any ⟨#[48, 49, 48, 48]⟩ _ (by decide)).mono ?_)
 rintro e w116 ⟨lq244, sq244, Aq244, cq244, Eq244, rfl, Cq244, Oq244, hb⟩
 refine ⟨_, rfl, hb, ?_⟩
 replace HC1 := zH HM1 HC1 hb
 replace Oq243 := zQ Oq243 hb
 replace HL := hide (VL.kept HL.out hb)
 replace Oq244 := hide Oq244.out.rd
 replace hU := zU hU hU.size hb
 clear hb
 obtain ⟨Lq244, Yq244⟩ := gly Eq244.out (gd_of (by decide +kernel))
 refine zav (i := 98) (m' := 897227025082773292366518262096013308818644800207450366285828897445511167) (v := .agg #[.slice Aq243 lq243.length cq243, .bool sq243, .slice Aq244 lq244.length cq244, .bool sq244]) F hQ rfl rfl ?_
 replace HL := hide (VL.cons Oq244.out (VL.cons Oq243.out HL.out))
 clear Oq243 Cq243 Yq243 Oq244 Cq244 Yq244
 refine zac (i := 99) (m' := 897227025082773292366518262096013308818645434032750480400529645797113855) rfl rfl ((vof_any ⟨#[49, 48, 48, 48]⟩ _ (by decide)).mono ?_)
 rintro e w117 ⟨lq246, sq246, Aq246, cq246, Eq246, rfl, Cq246, Oq246, hb⟩
 refine ⟨_, rfl, hb, ?_⟩
 replace HC1 := zH HM1 HC1 hb
 replace HL := hide (VL.kept HL.out hb)
 replace Oq246 := hide Oq246.out.rd
 replace hU := zU hU hU.size hb
 clear hb
 obtain ⟨Lq246, Yq246⟩ := gly Eq246.out (gd_of (by decide +kernel))
 refine zac (i := 100) (m' := 897227025082773292366518262096013308818646701683350708629931142500319231) rfl rfl ((vof_any ⟨#[49]⟩ _ (by decide)).mono ?_)
 rintro e w118 ⟨lq247, sq247, Aq247, cq247, Eq247, rfl, Cq247, Oq247, hb⟩
 refine ⟨_, rfl, hb, ?_⟩
 replace HC1 := zH HM1 HC1 hb
 replace Oq246 := zQ Oq246 hb
 replace HL := hide (VL.kept HL.out hb)
 replace Oq247 := hide Oq247.out.rd
 replace hU := zU hU hU.size hb
 clear hb
 obtain ⟨Lq247, Yq247⟩ := gly Eq247.out (gd_of (by decide +kernel))
 refine zac (i := 101) (m' := 897227025082773292366518262096013308818649236984551165088734135906729983) rfl rfl ((vAShr_any Aq246 Aq247 lq246 lq247 cq246 cq247 sq246 sq247 _ Lq246.out Lq247.out Cq246 Cq247 Oq246.out Oq247.out Yq246.out Yq247.out).mono ?_)
 rintro e w119 ⟨lq248, sq248, Aq248, cq248, Eq248, rfl, Cq248, Oq248, hb⟩
 refine ⟨_, rfl, hb, ?_⟩
 replace HC1 := zH HM1 HC1 hb
 replace Oq246 := zQ Oq246 hb
 replace Oq247 := zQ Oq247 hb
 replace HL := hide (VL.kept HL.out hb)
 replace Oq248 := hide Oq248.out.rd
 replace hU := zU hU hU.size hb
 clear hb
 obtain ⟨Lq248, Yq248⟩ := gly Eq248.out ((by rw [Eq246.out, Eq247.out]; exact gd_of (by decide +kernel)))
 replace Eq248 := hide (show (⟨lq248, sq248⟩ : Vc) = shf mAShr ⟨ofB ⟨#[49, 48, 48, 48]⟩, false⟩ ⟨ofB ⟨#[49]⟩, false⟩ from Eq248.out.trans (by rw [Eq246.out, Eq247.out]))
 clear Oq246 Cq246 Lq246 Yq246 Oq247 Cq247 Lq247 Yq247
 refine zac (i := 102) (m' := 897227025082773292366518262096013308818654307586952078006340122719551487) rfl rfl ((vof_any ⟨#[48, 49, 48, 48]⟩ _ (by decide)).mono ?_)
 rintro e w120 ⟨lq249, sq249, Aq249, cq249, Eq249, rfl, Cq249, Oq249, hb⟩
 refine ⟨_, rfl, hb, ?_⟩
 replace HC1 := zH HM1 HC1 hb
 replace Oq248 := zQ Oq248 hb
 replace HL := hide (VL.kept HL.out hb)
 replace Oq249 := hide Oq249.out.rd
 replace hU := zU hU hU.size hb
 clear hb
 obtain ⟨Lq249, Yq249⟩ := gly Eq249.out (gd_of (by decide +kernel))
 refine zav (i := 103) (m' := 897227025082773292366518262096013308818664448791753903841552096345194495) (v := .agg #[.slice Aq248 lq248.length cq248, .bool sq248, .slice Aq249 lq249.length cq249, .bool sq249]) F hQ rfl rfl ?_
 replace HL := hide (VL.cons Oq249.out (VL.cons Oq248.out HL.out))
 clear Oq248 Cq248 Yq248 Oq249 Cq249 Yq249
 refine zac (i := 104) (m' := 897227025082773292366518262096013308818684731201357555511976043596480511) rfl rfl ((vsof_any ⟨#[120, 48, 48, 48]⟩ _ (by decide)).mono ?_)
 rintro e w121 ⟨lq251, sq251, Aq251, cq251, Eq251, rfl, Cq251, Oq251, hb⟩
 refine ⟨_, rfl, hb, ?_⟩
 replace HC1 := zH HM1 HC1 hb
 replace HL := hide (VL.kept HL.out hb)
 replace Oq251 := hide Oq251.out.rd
 replace hU := zU hU hU.size hb
 clear hb
 obtain ⟨Lq251, Yq251⟩ := gly Eq251.out (gd_of (by decide +kernel))
 refine zac (i := 105) (m' := 897227025082773292366518262096013308818725296020564858852823938099052543) rfl rfl ((vsof_any ⟨#[49, 49]⟩ _ (by decide)).mono ?_)
 rintro e w122 ⟨lq252, sq252, Aq252, cq252, Eq252, rfl, Cq252, Oq252, hb⟩
 refine ⟨_, rfl, hb, ?_⟩
 replace HC1 := zH HM1 HC1 hb
 replace Oq251 := zQ Oq251 hb
 replace HL := hide (VL.kept HL.out hb)
 replace Oq252 := hide Oq252.out.rd
 replace hU := zU hU hU.size hb
 clear hb
 obtain ⟨Lq252, Yq252⟩ := gly Eq252.out (gd_of (by decide +kernel))
 refine zac (i := 106) (m' := 897227025082773292366518262096013308818806425658979465534519727104196607) rfl rfl ((vAShr_any Aq251 Aq252 lq251 lq252 cq251 cq252 sq251 sq252 _ Lq251.out Lq252.out Cq251 Cq252 Oq251.out Oq252.out Yq251.out Yq252.out).mono ?_)
 rintro e w123 ⟨lq253, sq253, Aq253, cq253, Eq253, rfl, Cq253, Oq253, hb⟩
 refine ⟨_, rfl, hb, ?_⟩
 replace HC1 := zH HM1 HC1 hb
 replace Oq251 := zQ Oq251 hb
 replace Oq252 := zQ Oq252 hb
 replace HL := hide (VL.kept HL.out hb)
 replace Oq253 := hide Oq253.out.rd
 replace hU := zU hU hU.size hb
 clear hb
 obtain ⟨Lq253, Yq253⟩ := gly Eq253.out ((by rw [Eq251.out, Eq252.out]; exact gd_of (by decide +kernel)))
 replace Eq253 := hide (show (⟨lq253, sq253⟩ : Vc) = shf mAShr ⟨ofB ⟨#[120, 48, 48, 48]⟩, true⟩ ⟨ofB ⟨#[49, 49]⟩, true⟩ from Eq253.out.trans (by rw [Eq251.out, Eq252.out]))
 clear Oq251 Cq251 Lq251 Yq251 Oq252 Cq252 Lq252 Yq252
 refine zac (i := 107) (m' := 897227025082773292366518262096013308818968684935808678897911305114484735) rfl rfl ((vsof_any ⟨#[120, 120, 120, 120]⟩ _ (by decide)).mono ?_)
 rintro e w124 ⟨lq254, sq254, Aq254, cq254, Eq254, rfl, Cq254, Oq254, hb⟩
 refine ⟨_, rfl, hb, ?_⟩
 replace HC1 := zH HM1 HC1 hb
 replace Oq253 := zQ Oq253 hb
 replace HL := hide (VL.kept HL.out hb)
 replace Oq254 := hide Oq254.out.rd
 replace hU := zU hU hU.size hb
 clear hb
 obtain ⟨Lq254, Yq254⟩ := gly Eq254.out (gd_of (by decide +kernel))
 refine zav (i := 108) (m' := 897227025082773292366518262096013308819293203489467105624694461135060991) (v := .agg #[.slice Aq253 lq253.length cq253, .bool sq253, .slice Aq254 lq254.length cq254, .bool sq254]) F hQ rfl rfl ?_
 replace HL := hide (VL.cons Oq254.out (VL.cons Oq253.out HL.out))
 clear Oq253 Cq253 Yq253 Oq254 Cq254 Yq254
 refine zac (i := 109) (m' := 897227025082773292366518262096013308819942240596783959078260773176213503) rfl rfl ((vof_any ⟨#[49, 49]⟩ _ (by decide)).mono ?_)
 rintro e w125 ⟨lq256, sq256, Aq256, cq256, Eq256, rfl, Cq256, Oq256, hb⟩
 refine ⟨_, rfl, hb, ?_⟩
 replace HC1 := zH HM1 HC1 hb
 replace HL := hide (VL.kept HL.out hb)
 replace Oq256 := hide Oq256.out.rd
 replace hU := zU hU hU.size hb
 clear hb
 obtain ⟨Lq256, Yq256⟩ := gly Eq256.out (gd_of (by decide +kernel))
 refine zac (i := 110) (m' := 897227025082773292366518262096013308821240314811417665985393397258518527) rfl rfl ((rfill_any 1 128 false _ (by decide)).mono ?_)
 rintro e w126 ⟨lq257, sq257, Aq257, cq257, Eq257, rfl, Cq257, Oq257, hb⟩
 refine ⟨_, rfl, hb, ?_⟩
 replace HC1 := zH HM1 HC1 hb
 replace Oq256 := zQ Oq256 hb
 replace HL := hide (VL.kept HL.out hb)
 replace Oq257 := hide Oq257.out.rd
 replace hU := zU hU hU.size hb
 clear hb
 obtain ⟨Lq257, Yq257⟩ := gly Eq257.out (gd_of (by decide +kernel))
 refine zac (i := 111) (m' := 897227025082773292366518262096013308823836463240685079799658645423128575) rfl rfl ((vShr_any Aq256 Aq257 lq256 lq257 cq256 cq257 sq256 sq257 _ Lq256.out Lq257.out Cq256 Cq257 Oq256.out Oq257.out Yq256.out Yq257.out).mono ?_)
 rintro e w127 ⟨lq258, sq258, Aq258, cq258, Eq258, rfl, Cq258, Oq258, hb⟩
 refine ⟨_, rfl, hb, ?_⟩
 replace HC1 := zH HM1 HC1 hb
 replace Oq256 := zQ Oq256 hb
 replace Oq257 := zQ Oq257 hb
 replace HL := hide (VL.kept HL.out hb)
 replace Oq258 := hide Oq258.out.rd
 replace hU := zU hU hU.size hb
 clear hb
 obtain ⟨Lq258, Yq258⟩ := gly Eq258.out ((by rw [Eq256.out, Eq257.out]; exact gd_of (by decide +kernel)))
 replace Eq258 := hide (show (⟨lq258, sq258⟩ : Vc) = shf mShr ⟨ofB ⟨#[49, 49]⟩, false⟩ ⟨ql 128 fun _ => 1, false⟩ from Eq258.out.trans (by rw [Eq256.out, Eq257.out]))
 clear Oq256 Cq256 Lq256 Yq256 Oq257 Cq257 Lq257 Yq257
 refine zac (i := 112) (m' := 897227025082773292366518262096013308829028760099219907428189141752348671) rfl rfl ((vof_any ⟨#[48, 48]⟩ _ (by decide)).mono ?_)
 rintro e w128 ⟨lq259, sq259, Aq259, cq259, Eq259, rfl, Cq259, Oq259, hb⟩
 refine ⟨_, rfl, hb, ?_⟩
 replace HC1 := zH HM1 HC1 hb
 replace Oq258 := zQ Oq258 hb
 replace HL := hide (VL.kept HL.out hb)
 replace Oq259 := hide Oq259.out.rd
 replace hU := zU hU hU.size hb
 clear hb
 obtain ⟨Lq259, Yq259⟩ := gly Eq259.out (gd_of (by decide +kernel))
 refine zav (i := 113) (m' := 897227025082773292366518262096013308839413353816289562685250134410788863) (v := .agg #[.slice Aq258 lq258.length cq258, .bool sq258, .slice Aq259 lq259.length cq259, .bool sq259]) F hQ rfl rfl ?_
 replace HL := hide (VL.cons Oq259.out (VL.cons Oq258.out HL.out))
 clear Oq258 Cq258 Yq258 Oq259 Cq259 Yq259
 exact hK _ _ (lk_drop 65 _ (by kernel_rfl)) lq198 sq198 Aq198 cq198 lq199 sq199 Aq199 cq199 lq203 sq203 Aq203 cq203 lq204 sq204 Aq204 cq204 lq208 sq208 Aq208 cq208 lq209 sq209 Aq209 cq209 lq213 sq213 Aq213 cq213 lq214 sq214 Aq214 cq214 lq218 sq218 Aq218 cq218 lq219 sq219 Aq219 cq219 lq223 sq223 Aq223 cq223 lq224 sq224 Aq224 cq224 lq228 sq228 Aq228 cq228 lq229 sq229 Aq229 cq229 lq233 sq233 Aq233 cq233 lq234 sq234 Aq234 cq234 lq238 sq238 Aq238 cq238 lq239 sq239 Aq239 cq239 lq243 sq243 Aq243 cq243 lq244 sq244 Aq244 cq244 lq248 sq248 Aq248 cq248 lq249 sq249 Aq249 cq249 lq253 sq253 Aq253 cq253 lq254 sq254 Aq254 cq254 lq258 sq258 Aq258 cq258 lq259 sq259 Aq259 cq259 (Kp_c (by kernel_rfl) (Kp_c (by kernel_rfl) (Kp_c (by kernel_rfl) (Kp_c (by kernel_rfl) (Kp_c (by kernel_rfl) (Kp_c (by kernel_rfl) (Kp_c (by kernel_rfl) (Kp_c (by kernel_rfl) (Kp_c (by kernel_rfl) (Kp_c (by kernel_rfl) (Kp_c (by kernel_rfl) (Kp_c (by kernel_rfl) (Kp_c (by kernel_rfl) (Kp_n)))))))))))))) hU HL HC1 Eq198 Eq199 Eq203 Eq204 Eq208 Eq209 Eq213 Eq214 Eq218 Eq219 Eq223 Eq224 Eq228 Eq229 Eq233 Eq234 Eq238 Eq239 Eq243 Eq244 Eq248 Eq249 Eq253 Eq254 Eq258 Eq259 Lq198 Lq199 Lq203 Lq204 Lq208 Lq209 Lq213 Lq214 Lq218 Lq219 Lq223 Lq224 Lq228 Lq229 Lq233 Lq234 Lq238 Lq239 Lq243 Lq244 Lq248 Lq249 Lq253 Lq254 Lq258 Lq259
set_option maxHeartbeats 64000000 in
theorem EX_c1 (Q : Exit → Act → World → Prop) (w W w128 : World) (E0 : Env) (VS : List (Option Addr × List Int)) (Akk : Option Addr) (lkk : List Int) (ckk : Nat) (skk : Bool) (Pr1 : World → Prop) (HT : Hid (Tabs w)) (hU : Below w.heap.size w w128) (HL : Hid (VL VS w128)) (HM1 : ∀ w w', Pr1 w → Below w.heap.size w w' → Pr1 w') (HC1 : Hid (Pr1 w128)) (p1_kk : ∀ W, Pr1 W → RQ W Akk lkk) (Ckk : Hid (lkk.length ≤ ckk ∧ ckk ≤ maxLen)) (Ekk : Hid ((⟨lkk, skk⟩ : Vc) = ⟨[0, 4], true⟩)) (Lkk : Hid (lkk.length ≤ 4096)) (Ykk : Hid (By lkk)) : CH rgEX 240 523 Q W 124 897227025082773292366518262096013308839413353816289562685250134410788863 68 897227025082773292368014839772640153406884739650851725983255824017915903 ([(380, .agg #[.slice Akk lkk.length ckk, .bool skk])] ++ E0) w128 (fun G => ∀ (E' : Env) (w' : World) (_ : ∀ i, outR 261 316 i = true → lk E' i = lk ([(380, .agg #[.slice Akk lkk.length ckk, .bool skk])] ++ E0) i) (lq263 : List Int) (sq263 : Bool) (Aq263 : Option Addr) (cq263 : Nat) (lq264 : List Int) (sq264 : Bool) (Aq264 : Option Addr) (cq264 : Nat) (lq268 : List Int) (sq268 : Bool) (Aq268 : Option Addr) (cq268 : Nat) (lq269 : List Int) (sq269 : Bool) (Aq269 : Option Addr) (cq269 : Nat) (lq272 : List Int) (sq272 : Bool) (Aq272 : Option Addr) (cq272 : Nat) (lq273 : List Int) (sq273 : Bool) (Aq273 : Option Addr) (cq273 : Nat) (lq276 : List Int) (sq276 : Bool) (Aq276 : Option Addr) (cq276 : Nat) (lq277 : List Int) (sq277 : Bool) (Aq277 : Option Addr) (cq277 : Nat) (lq280 : List Int) (sq280 : Bool) (Aq280 : Option Addr) (cq280 : Nat) (lq281 : List Int) (sq281 : Bool) (Aq281 : Option Addr) (cq281 : Nat) (lq284 : List Int) (sq284 : Bool) (Aq284 : Option Addr) (cq284 : Nat) (lq285 : List Int) (sq285 : Bool) (Aq285 : Option Addr) (cq285 : Nat) (lq288 : List Int) (sq288 : Bool) (Aq288 : Option Addr) (cq288 : Nat) (lq289 : List Int) (sq289 : Bool) (Aq289 : Option Addr) (cq289 : Nat) (lq292 : List Int) (sq292 : Bool) (Aq292 : Option Addr) (cq292 : Nat) (lq293 : List Int) (sq293 : Bool) (Aq293 : Option Addr) (cq293 : Nat) (lq296 : List Int) (sq296 : Bool) (Aq296 : Option Addr) (cq296 : Nat) (lq297 : List Int) (sq297 : Bool) (Aq297 : Option Addr) (cq297 : Nat) (lq301 : List Int) (sq301 : Bool) (Aq301 : Option Addr) (cq301 : Nat) (lq302 : List Int) (sq302 : Bool) (Aq302 : Option Addr) (cq302 : Nat) (lq306 : List Int) (sq306 : Bool) (Aq306 : Option Addr) (cq306 : Nat) (lq307 : List Int) (sq307 : Bool) (Aq307 : Option Addr) (cq307 : Nat) (lq310 : List Int) (sq310 : Bool) (Aq310 : Option Addr) (cq310 : Nat) (lq311 : List Int) (sq311 : Bool) (Aq311 : Option Addr) (cq311 : Nat) (lq314 : List Int) (sq314 : Bool) (Aq314 : Option Addr) (cq314 : Nat) (lq315 : List Int) (sq315 : Bool) (Aq315 : Option Addr) (cq315 : Nat) (_ : Kp [(265, .agg #[.slice Aq263 lq263.length cq263, .bool sq263, .slice Aq264 lq264.length cq264, .bool sq264]), (270, .agg #[.slice Aq268 lq268.length cq268, .bool sq268, .slice Aq269 lq269.length cq269, .bool sq269]), (274, .agg #[.slice Aq272 lq272.length cq272, .bool sq272, .slice Aq273 lq273.length cq273, .bool sq273]), (278, .agg #[.slice Aq276 lq276.length cq276, .bool sq276, .slice Aq277 lq277.length cq277, .bool sq277]), (282, .agg #[.slice Aq280 lq280.length cq280, .bool sq280, .slice Aq281 lq281.length cq281, .bool sq281]), (286, .agg #[.slice Aq284 lq284.length cq284, .bool sq284, .slice Aq285 lq285.length cq285, .bool sq285]), (290, .agg #[.slice Aq288 lq288.length cq288, .bool sq288, .slice Aq289 lq289.length cq289, .bool sq289]), (294, .agg #[.slice Aq292 lq292.length cq292, .bool sq292, .slice Aq293 lq293.length cq293, .bool sq293]), (298, .agg #[.slice Aq296 lq296.length cq296, .bool sq296, .slice Aq297 lq297.length cq297, .bool sq297]), (303, .agg #[.slice Aq301 lq301.length cq301, .bool sq301, .slice Aq302 lq302.length cq302, .bool sq302]), (308, .agg #[.slice Aq306 lq306.length cq306, .bool sq306, .slice Aq307 lq307.length cq307, .bool sq307]), (312, .agg #[.slice Aq310 lq310.length cq310, .bool sq310, .slice Aq311 lq311.length cq311, .bool sq311]), (316, .agg #[.slice Aq314 lq314.length cq314, .bool sq314, .slice Aq315 lq315.length cq315, .bool sq315])] E') (_ : Below w.heap.size w w') (_ : Hid (VL ((Aq315, lq315) :: (Aq314, lq314) :: (Aq311, lq311) :: (Aq310, lq310) :: (Aq307, lq307) :: (Aq306, lq306) :: (Aq302, lq302) :: (Aq301, lq301) :: (Aq297, lq297) :: (Aq296, lq296) :: (Aq293, lq293) :: (Aq292, lq292) :: (Aq289, lq289) :: (Aq288, lq288) :: (Aq285, lq285) :: (Aq284, lq284) :: (Aq281, lq281) :: (Aq280, lq280) :: (Aq277, lq277) :: (Aq276, lq276) :: (Aq273, lq273) :: (Aq272, lq272) :: (Aq269, lq269) :: (Aq268, lq268) :: (Aq264, lq264) :: (Aq263, lq263) :: VS) w')) (_ : Hid (Pr1 w')) (_ : Hid ((⟨lq263, sq263⟩ : Vc) = shf mShl ⟨ofB ⟨#[48, 49]⟩, false⟩ ⟨ofB ⟨#[122]⟩, false⟩)) (_ : Hid ((⟨lq264, sq264⟩ : Vc) = ⟨ofB ⟨#[120, 120]⟩, false⟩)) (_ : Hid ((⟨lq268, sq268⟩ : Vc) = shf mShl ⟨ofB ⟨#[48, 49, 48, 49]⟩, true⟩ ⟨ofB ⟨#[49]⟩, false⟩)) (_ : Hid ((⟨lq269, sq269⟩ : Vc) = ⟨ofB ⟨#[49, 48, 49, 48]⟩, true⟩)) (_ : Hid ((⟨lq272, sq272⟩ : Vc) = sgl (red mAnd ⟨ofB ⟨#[49, 120, 48]⟩, false⟩))) (_ : Hid ((⟨lq273, sq273⟩ : Vc) = ⟨ofB ⟨#[48]⟩, false⟩)) (_ : Hid ((⟨lq276, sq276⟩ : Vc) = sgl (red mOr ⟨ofB ⟨#[48, 120]⟩, false⟩))) (_ : Hid ((⟨lq277, sq277⟩ : Vc) = ⟨ofB ⟨#[120]⟩, false⟩)) (_ : Hid ((⟨lq280, sq280⟩ : Vc) = sgl (red mXor ⟨ofB ⟨#[49, 49, 49]⟩, false⟩))) (_ : Hid ((⟨lq281, sq281⟩ : Vc) = ⟨ofB ⟨#[49]⟩, false⟩)) (_ : Hid ((⟨lq284, sq284⟩ : Vc) = sgl (mNot (red mAnd ⟨ofB ⟨#[122]⟩, false⟩)))) (_ : Hid ((⟨lq285, sq285⟩ : Vc) = ⟨ofB ⟨#[120]⟩, false⟩)) (_ : Hid ((⟨lq288, sq288⟩ : Vc) = sgl (mNot (red mOr ⟨ofB ⟨#[48, 48]⟩, false⟩)))) (_ : Hid ((⟨lq289, sq289⟩ : Vc) = ⟨ofB ⟨#[49]⟩, false⟩)) (_ : Hid ((⟨lq292, sq292⟩ : Vc) = sgl (mNot (red mXor ⟨ofB ⟨#[49, 48]⟩, false⟩)))) (_ : Hid ((⟨lq293, sq293⟩ : Vc) = ⟨ofB ⟨#[48]⟩, false⟩)) (_ : Hid ((⟨lq296, sq296⟩ : Vc) = sgl (mNot (tr ⟨ofB ⟨#[120, 48]⟩, false⟩)))) (_ : Hid ((⟨lq297, sq297⟩ : Vc) = ⟨ofB ⟨#[120]⟩, false⟩)) (_ : Hid ((⟨lq301, sq301⟩ : Vc) = sgl (mAnd (tr ⟨ofB ⟨#[48]⟩, false⟩) (tr ⟨ofB ⟨#[120]⟩, false⟩)))) (_ : Hid ((⟨lq302, sq302⟩ : Vc) = ⟨ofB ⟨#[48]⟩, false⟩)) (_ : Hid ((⟨lq306, sq306⟩ : Vc) = sgl (mOr (tr ⟨ofB ⟨#[120, 49]⟩, false⟩) (tr ⟨ofB ⟨#[120]⟩, false⟩)))) (_ : Hid ((⟨lq307, sq307⟩ : Vc) = ⟨ofB ⟨#[49]⟩, false⟩)) (_ : Hid ((⟨lq310, sq310⟩ : Vc) = vNeg ⟨ofB ⟨#[48, 48, 49]⟩, true⟩)) (_ : Hid ((⟨lq311, sq311⟩ : Vc) = ⟨ofB ⟨#[49, 49, 49]⟩, true⟩)) (_ : Hid ((⟨lq314, sq314⟩ : Vc) = vNeg ⟨ofB ⟨#[120, 49]⟩, false⟩)) (_ : Hid ((⟨lq315, sq315⟩ : Vc) = ⟨ofB ⟨#[120, 120]⟩, false⟩)) (_ : Hid (lq263.length ≤ 4096)) (_ : Hid (lq264.length ≤ 4096)) (_ : Hid (lq268.length ≤ 4096)) (_ : Hid (lq269.length ≤ 4096)) (_ : Hid (lq272.length ≤ 4096)) (_ : Hid (lq273.length ≤ 4096)) (_ : Hid (lq276.length ≤ 4096)) (_ : Hid (lq277.length ≤ 4096)) (_ : Hid (lq280.length ≤ 4096)) (_ : Hid (lq281.length ≤ 4096)) (_ : Hid (lq284.length ≤ 4096)) (_ : Hid (lq285.length ≤ 4096)) (_ : Hid (lq288.length ≤ 4096)) (_ : Hid (lq289.length ≤ 4096)) (_ : Hid (lq292.length ≤ 4096)) (_ : Hid (lq293.length ≤ 4096)) (_ : Hid (lq296.length ≤ 4096)) (_ : Hid (lq297.length ≤ 4096)) (_ : Hid (lq301.length ≤ 4096)) (_ : Hid (lq302.length ≤ 4096)) (_ : Hid (lq306.length ≤ 4096)) (_ : Hid (lq307.length ≤ 4096)) (_ : Hid (lq310.length ≤ 4096)) (_ : Hid (lq311.length ≤ 4096)) (_ : Hid (lq314.length ≤ 4096)) (_ : Hid (lq315.length ≤ 4096)), G E' w') := by
 refine fun F hQ hK => ?_
 refine zac (i := 114) (m' := 897227025082773292366518262096013308860182541250428873199372119727669247) rfl rfl ((vof_any ⟨#[48, 49]⟩ _ (by decide)).mono ?_)
 rintro e w129 ⟨lq261, sq261, Aq261, cq261, Eq261, rfl, Cq261, Oq261, hb⟩
 refine ⟨_, rfl, hb, ?_⟩
 replace HC1 := zH HM1 HC1 hb
 replace HL := hide (VL.kept HL.out hb)
 replace Oq261 := hide Oq261.out.rd
 replace hU := zU hU hU.size hb
 clear hb
 obtain ⟨Lq261, Yq261⟩ := gly Eq261.out (gd_of (by decide +kernel))
 refine zac (i := 115) (m' := 897227025082773292366518262096013308901720916118707494227616090361430015) rfl rfl ((vof_any ⟨#[122]⟩ _ (by decide)).mono ?_)
 rintro e w130 ⟨lq262, sq262, Aq262, cq262, Eq262, rfl, Cq262, Oq262, hb⟩
 refine ⟨_, rfl, hb, ?_⟩
 replace HC1 := zH HM1 HC1 hb
 replace Oq261 := zQ Oq261 hb
 replace HL := hide (VL.kept HL.out hb)
 replace Oq262 := hide Oq262.out.rd
 replace hU := zU hU hU.size hb
 clear hb
 obtain ⟨Lq262, Yq262⟩ := gly Eq262.out (gd_of (by decide +kernel))
 refine zac (i := 116) (m' := 897227025082773292366518262096013308984797665855264736284104031628951551) rfl rfl ((vShl_any Aq261 Aq262 lq261 lq262 cq261 cq262 sq261 sq262 _ Lq261.out Lq262.out Cq261 Cq262 Oq261.out Oq262.out Yq261.out Yq262.out).mono ?_)
 rintro e w131 ⟨lq263, sq263, Aq263, cq263, Eq263, rfl, Cq263, Oq263, hb⟩
 refine ⟨_, rfl, hb, ?_⟩
 replace HC1 := zH HM1 HC1 hb
 replace Oq261 := zQ Oq261 hb
 replace Oq262 := zQ Oq262 hb
 replace HL := hide (VL.kept HL.out hb)
 replace Oq263 := hide Oq263.out.rd
 replace hU := zU hU hU.size hb
 clear hb
 obtain ⟨Lq263, Yq263⟩ := gly Eq263.out ((by rw [Eq261.out, Eq262.out]; exact gd_of (by decide +kernel)))
 replace Eq263 := hide (show (⟨lq263, sq263⟩ : Vc) = shf mShl ⟨ofB ⟨#[48, 49]⟩, false⟩ ⟨ofB ⟨#[122]⟩, false⟩ from Eq263.out.trans (by rw [Eq261.out, Eq262.out]))
 clear Oq261 Cq261 Lq261 Yq261 Oq262 Cq262 Lq262 Yq262
 refine zac (i := 117) (m' := 897227025082773292366518262096013309150951165328379220397079914163994623) rfl rfl ((vof_any ⟨#[120, 120]⟩ _ (by decide)).mono ?_)
 rintro e w132 ⟨lq264, sq264, Aq264, cq264, Eq264, rfl, Cq264, Oq264, hb⟩
 refine ⟨_, rfl, hb, ?_⟩
 replace HC1 := zH HM1 HC1 hb
 replace Oq263 := zQ Oq263 hb
 replace HL := hide (VL.kept HL.out hb)
 replace Oq264 := hide Oq264.out.rd
 replace hU := zU hU hU.size hb
 clear hb
 obtain ⟨Lq264, Yq264⟩ := gly Eq264.out (gd_of (by decide +kernel))
 refine zav (i := 118) (m' := 897227025082773292366518262096013309483258164274608188623031679234080767) (v := .agg #[.slice Aq263 lq263.length cq263, .bool sq263, .slice Aq264 lq264.length cq264, .bool sq264]) F hQ rfl rfl ?_
 replace HL := hide (VL.cons Oq264.out (VL.cons Oq263.out HL.out))
 clear Oq263 Cq263 Yq263 Oq264 Cq264 Yq264
 refine zac (i := 119) (m' := 897227025082773292366518262096013310147872162167066125074935209374253055) rfl rfl ((vsof_any ⟨#[48, 49, 48, 49]⟩ _ (by decide)).mono ?_)
 rintro e w133 ⟨lq266, sq266, Aq266, cq266, Eq266, rfl, Cq266, Oq266, hb⟩
 refine ⟨_, rfl, hb, ?_⟩
 replace HC1 := zH HM1 HC1 hb
 replace HL := hide (VL.kept HL.out hb)
 replace Oq266 := hide Oq266.out.rd
 replace hU := zU hU hU.size hb
 clear hb
 obtain ⟨Lq266, Yq266⟩ := gly Eq266.out (gd_of (by decide +kernel))
 refine zac (i := 120) (m' := 897227025082773292366518262096013311477100157951981997978742269654597631) rfl rfl ((vof_any ⟨#[49]⟩ _ (by decide)).mono ?_)
 rintro e w134 ⟨lq267, sq267, Aq267, cq267, Eq267, rfl, Cq267, Oq267, hb⟩
 refine ⟨_, rfl, hb, ?_⟩
 replace HC1 := zH HM1 HC1 hb
 replace Oq266 := zQ Oq266 hb
 replace HL := hide (VL.kept HL.out hb)
 replace Oq267 := hide Oq267.out.rd
 replace hU := zU hU hU.size hb
 clear hb
 obtain ⟨Lq267, Yq267⟩ := gly Eq267.out (gd_of (by decide +kernel))
 refine zac (i := 121) (m' := 897227025082773292366518262096013314135556149521813743786356390215286783) rfl rfl ((vAShl_any Aq266 Aq267 lq266 lq267 cq266 cq267 sq266 sq267 _ Lq266.out Lq267.out Cq266 Cq267 Oq266.out Oq267.out Yq266.out Yq267.out).mono ?_)
 rintro e w135 ⟨lq268, sq268, Aq268, cq268, Eq268, rfl, Cq268, Oq268, hb⟩
 refine ⟨_, rfl, hb, ?_⟩
 replace HC1 := zH HM1 HC1 hb
 replace Oq266 := zQ Oq266 hb
 replace Oq267 := zQ Oq267 hb
 replace HL := hide (VL.kept HL.out hb)
 replace Oq268 := hide Oq268.out.rd
 replace hU := zU hU hU.size hb
 clear hb
 obtain ⟨Lq268, Yq268⟩ := gly Eq268.out ((by rw [Eq266.out, Eq267.out]; exact gd_of (by decide +kernel)))
 replace Eq268 := hide (show (⟨lq268, sq268⟩ : Vc) = shf mShl ⟨ofB ⟨#[48, 49, 48, 49]⟩, true⟩ ⟨ofB ⟨#[49]⟩, false⟩ from Eq268.out.trans (by rw [Eq266.out, Eq267.out]))
 clear Oq266 Cq266 Lq266 Yq266 Oq267 Cq267 Lq267 Yq267
 refine zac (i := 122) (m' := 897227025082773292366518262096013319452468132661477235401584631336665087) rfl rfl ((vsof_any ⟨#[49, 48, 49, 48]⟩ _ (by decide)).mono ?_)
 rintro e w136 ⟨lq269, sq269, Aq269, cq269, Eq269, rfl, Cq269, Oq269, hb⟩
 refine ⟨_, rfl, hb, ?_⟩
 replace HC1 := zH HM1 HC1 hb
 replace Oq268 := zQ Oq268 hb
 replace HL := hide (VL.kept HL.out hb)
 replace Oq269 := hide Oq269.out.rd
 replace hU := zU hU hU.size hb
 clear hb
 obtain ⟨Lq269, Yq269⟩ := gly Eq269.out (gd_of (by decide +kernel))
 refine zav (i := 123) (m' := 897227025082773292366518262096013330086292098940804218632041113579421695) (v := .agg #[.slice Aq268 lq268.length cq268, .bool sq268, .slice Aq269 lq269.length cq269, .bool sq269]) F hQ rfl rfl ?_
 replace HL := hide (VL.cons Oq269.out (VL.cons Oq268.out HL.out))
 clear Oq268 Cq268 Yq268 Oq269 Cq269 Yq269
 refine zac (i := 124) (m' := 897227025082773292366518262096013351353940031499458185092954078064934911) rfl rfl ((vof_any ⟨#[49, 120, 48]⟩ _ (by decide)).mono ?_)
 rintro e w137 ⟨lq271, sq271, Aq271, cq271, Eq271, rfl, Cq271, Oq271, hb⟩
 refine ⟨_, rfl, hb, ?_⟩
 replace HC1 := zH HM1 HC1 hb
 replace HL := hide (VL.kept HL.out hb)
 replace Oq271 := hide Oq271.out.rd
 replace hU := zU hU hU.size hb
 clear hb
 obtain ⟨Lq271, Yq271⟩ := gly Eq271.out (gd_of (by decide +kernel))
 refine zac (i := 125) (m' := 897227025082773292366518262096013393889235896616766118014780007035961343) rfl rfl ((vRedAnd_any Aq271 lq271 cq271 sq271 _ Lq271.out Cq271 Oq271.out Yq271.out (HT.out.kept hU)).mono ?_)
 rintro e w138 ⟨lq272, sq272, Aq272, cq272, Eq272, rfl, Cq272, Oq272, hb⟩
 refine ⟨_, rfl, hb, ?_⟩
 replace HC1 := zH HM1 HC1 hb
 replace Oq271 := zQ Oq271 hb
 replace HL := hide (VL.kept HL.out hb)
 replace Oq272 := hide Oq272.out.rd
 replace hU := zU hU hU.size hb
 clear hb
 obtain ⟨Lq272, Yq272⟩ := gly Eq272.out ((by rw [Eq271.out]; exact gd_of (by decide +kernel)))
 replace Eq272 := hide (show (⟨lq272, sq272⟩ : Vc) = sgl (red mAnd ⟨ofB ⟨#[49, 120, 48]⟩, false⟩) from Eq272.out.trans (by rw [Eq271.out]))
 clear Oq271 Cq271 Lq271 Yq271
 refine zac (i := 126) (m' := 897227025082773292366518262096013478959827626851381983858431864978014207) rfl rfl ((vof_any ⟨#[48]⟩ _ (by decide)).mono ?_)
 rintro e w139 ⟨lq273, sq273, Aq273, cq273, Eq273, rfl, Cq273, Oq273, hb⟩
 refine ⟨_, rfl, hb, ?_⟩
 replace HC1 := zH HM1 HC1 hb
 replace Oq272 := zQ Oq272 hb
 replace HL := hide (VL.kept HL.out hb)
 replace Oq273 := hide Oq273.out.rd
 replace hU := zU hU hU.size hb
 clear hb
 obtain ⟨Lq273, Yq273⟩ := gly Eq273.out (gd_of (by decide +kernel))
 refine zav (i := 127) (m' := 897227025082773292366518262096013649101011087320613715545735580862119935) (v := .agg #[.slice Aq272 lq272.length cq272, .bool sq272, .slice Aq273 lq273.length cq273, .bool sq273]) F hQ rfl rfl ?_
 replace HL := hide (VL.cons Oq273.out (VL.cons Oq272.out HL.out))
 clear Oq272 Cq272 Yq272 Oq273 Cq273 Yq273
 refine zac (i := 128) (m' := 897227025082773292366518262096013989383378008259077178920343012630331391) rfl rfl ((vof_any ⟨#[48, 120]⟩ _ (by decide)).mono ?_)
 rintro e w140 ⟨lq275, sq275, Aq275, cq275, Eq275, rfl, Cq275, Oq275, hb⟩
 refine ⟨_, rfl, hb, ?_⟩
 replace HC1 := zH HM1 HC1 hb
 replace HL := hide (VL.kept HL.out hb)
 replace Oq275 := hide Oq275.out.rd
 replace hU := zU hU hU.size hb
 clear hb
 obtain ⟨Lq275, Yq275⟩ := gly Eq275.out (gd_of (by decide +kernel))
 refine zac (i := 129) (m' := 897227025082773292366518262096014669948111850136004105669557876166754303) rfl rfl ((vRedOr_any Aq275 lq275 cq275 sq275 _ Lq275.out Cq275 Oq275.out Yq275.out (HT.out.kept hU)).mono ?_)
 rintro e w141 ⟨lq276, sq276, Aq276, cq276, Eq276, rfl, Cq276, Oq276, hb⟩
 refine ⟨_, rfl, hb, ?_⟩
 replace HC1 := zH HM1 HC1 hb
 replace Oq275 := zQ Oq275 hb
 replace HL := hide (VL.kept HL.out hb)
 replace Oq276 := hide Oq276.out.rd
 replace hU := zU hU hU.size hb
 clear hb
 obtain ⟨Lq276, Yq276⟩ := gly Eq276.out ((by rw [Eq275.out]; exact gd_of (by decide +kernel)))
 replace Eq276 := hide (show (⟨lq276, sq276⟩ : Vc) = sgl (red mOr ⟨ofB ⟨#[48, 120]⟩, false⟩) from Eq276.out.trans (by rw [Eq275.out]))
 clear Oq275 Cq275 Lq275 Yq275
 refine zac (i := 130) (m' := 897227025082773292366518262096016031077579533889857959167987603239600127) rfl rfl ((vof_any ⟨#[120]⟩ _ (by decide)).mono ?_)
 rintro e w142 ⟨lq277, sq277, Aq277, cq277, Eq277, rfl, Cq277, Oq277, hb⟩
 refine ⟨_, rfl, hb, ?_⟩
 replace HC1 := zH HM1 HC1 hb
 replace Oq276 := zQ Oq276 hb
 replace HL := hide (VL.kept HL.out hb)
 replace Oq277 := hide Oq277.out.rd
 replace hU := zU hU hU.size hb
 clear hb
 obtain ⟨Lq277, Yq277⟩ := gly Eq277.out (gd_of (by decide +kernel))
 refine zav (i := 131) (m' := 897227025082773292366518262096018753336514901397565666164847057385291775) (v := .agg #[.slice Aq276 lq276.length cq276, .bool sq276, .slice Aq277 lq277.length cq277, .bool sq277]) F hQ rfl rfl ?_
 replace HL := hide (VL.cons Oq277.out (VL.cons Oq276.out HL.out))
 clear Oq276 Cq276 Yq276 Oq277 Cq277 Yq277
 refine zac (i := 132) (m' := 897227025082773292366518262096024197854385636412981080158565965676675071) rfl rfl ((vof_any ⟨#[49, 49, 49]⟩ _ (by decide)).mono ?_)
 rintro e w143 ⟨lq279, sq279, Aq279, cq279, Eq279, rfl, Cq279, Oq279, hb⟩
 refine ⟨_, rfl, hb, ?_⟩
 replace HC1 := zH HM1 HC1 hb
 replace HL := hide (VL.kept HL.out hb)
 replace Oq279 := hide Oq279.out.rd
 replace hU := zU hU hU.size hb
 clear hb
 obtain ⟨Lq279, Yq279⟩ := gly Eq279.out (gd_of (by decide +kernel))
 refine zac (i := 133) (m' := 897227025082773292366518262096035086890127106443811908146003782259441663) rfl rfl ((vRedXor_any Aq279 lq279 cq279 sq279 _ Lq279.out Cq279 Oq279.out Yq279.out (HT.out.kept hU)).mono ?_)
 rintro e w144 ⟨lq280, sq280, Aq280, cq280, Eq280, rfl, Cq280, Oq280, hb⟩
 refine ⟨_, rfl, hb, ?_⟩
 replace HC1 := zH HM1 HC1 hb
 replace Oq279 := zQ Oq279 hb
 replace HL := hide (VL.kept HL.out hb)
 replace Oq280 := hide Oq280.out.rd
 replace hU := zU hU hU.size hb
 clear hb
 obtain ⟨Lq280, Yq280⟩ := gly Eq280.out ((by rw [Eq279.out]; exact gd_of (by decide +kernel)))
 replace Eq280 := hide (show (⟨lq280, sq280⟩ : Vc) = sgl (red mXor ⟨ofB ⟨#[49, 49, 49]⟩, false⟩) from Eq280.out.trans (by rw [Eq279.out]))
 clear Oq279 Cq279 Lq279 Yq279
 refine zac (i := 134) (m' := 897227025082773292366518262096056864961610046505473564120879415424974847) rfl rfl ((vof_any ⟨#[49]⟩ _ (by decide)).mono ?_)
 rintro e w145 ⟨lq281, sq281, Aq281, cq281, Eq281, rfl, Cq281, Oq281, hb⟩
 refine ⟨_, rfl, hb, ?_⟩
 replace HC1 := zH HM1 HC1 hb
 replace Oq280 := zQ Oq280 hb
 replace HL := hide (VL.kept HL.out hb)
 replace Oq281 := hide Oq281.out.rd
 replace hU := zU hU hU.size hb
 clear hb
 obtain ⟨Lq281, Yq281⟩ := gly Eq281.out (gd_of (by decide +kernel))
 refine zav (i := 135) (m' := 897227025082773292366518262096100421104575926628796876070630681756041215) (v := .agg #[.slice Aq280 lq280.length cq280, .bool sq280, .slice Aq281 lq281.length cq281, .bool sq281]) F hQ rfl rfl ?_
 replace HL := hide (VL.cons Oq281.out (VL.cons Oq280.out HL.out))
 clear Oq280 Cq280 Yq280 Oq281 Cq281 Yq281
 refine zac (i := 136) (m' := 897227025082773292366518262096187533390507686875443499970133214418173951) rfl rfl ((vof_any ⟨#[122]⟩ _ (by decide)).mono ?_)
 rintro e w146 ⟨lq283, sq283, Aq283, cq283, Eq283, rfl, Cq283, Oq283, hb⟩
 refine ⟨_, rfl, hb, ?_⟩
 replace HC1 := zH HM1 HC1 hb
 replace HL := hide (VL.kept HL.out hb)
 replace Oq283 := hide Oq283.out.rd
 replace hU := zU hU hU.size hb
 clear hb
 obtain ⟨Lq283, Yq283⟩ := gly Eq283.out (gd_of (by decide +kernel))
 refine zac (i := 137) (m' := 897227025082773292366518262096361757962371207368736747769138279742439423) rfl rfl ((vRedNand_any Aq283 lq283 cq283 sq283 _ Lq283.out Cq283 Oq283.out Yq283.out (HT.out.kept hU)).mono ?_)
 rintro e w147 ⟨lq284, sq284, Aq284, cq284, Eq284, rfl, Cq284, Oq284, hb⟩
 refine ⟨_, rfl, hb, ?_⟩
 replace HC1 := zH HM1 HC1 hb
 replace Oq283 := zQ Oq283 hb
 replace HL := hide (VL.kept HL.out hb)
 replace Oq284 := hide Oq284.out.rd
 replace hU := zU hU hU.size hb
 clear hb
 obtain ⟨Lq284, Yq284⟩ := gly Eq284.out ((by rw [Eq283.out]; exact gd_of (by decide +kernel)))
 replace Eq284 := hide (show (⟨lq284, sq284⟩ : Vc) = sgl (mNot (red mAnd ⟨ofB ⟨#[122]⟩, false⟩)) from Eq284.out.trans (by rw [Eq283.out]))
 clear Oq283 Cq283 Lq283 Yq283
 refine zac (i := 138) (m' := 897227025082773292366518262096710207106098248355323243367148410390970367) rfl rfl ((vof_any ⟨#[120]⟩ _ (by decide)).mono ?_)
 rintro e w148 ⟨lq285, sq285, Aq285, cq285, Eq285, rfl, Cq285, Oq285, hb⟩
 refine ⟨_, rfl, hb, ?_⟩
 replace HC1 := zH HM1 HC1 hb
 replace Oq284 := zQ Oq284 hb
 replace HL := hide (VL.kept HL.out hb)
 replace Oq285 := hide Oq285.out.rd
 replace hU := zU hU hU.size hb
 clear hb
 obtain ⟨Lq285, Yq285⟩ := gly Eq285.out (gd_of (by decide +kernel))
 refine zav (i := 139) (m' := 897227025082773292366518262097407105393552330328496234563168671688032255) (v := .agg #[.slice Aq284 lq284.length cq284, .bool sq284, .slice Aq285 lq285.length cq285, .bool sq285]) F hQ rfl rfl ?_
 replace HL := hide (VL.cons Oq285.out (VL.cons Oq284.out HL.out))
 clear Oq284 Cq284 Yq284 Oq285 Cq285 Yq285
 refine zac (i := 140) (m' := 897227025082773292366518262098800901968460494274842216955209194282156031) rfl rfl ((vof_any ⟨#[48, 48]⟩ _ (by decide)).mono ?_)
 rintro e w149 ⟨lq287, sq287, Aq287, cq287, Eq287, rfl, Cq287, Oq287, hb⟩
 refine ⟨_, rfl, hb, ?_⟩
 replace HC1 := zH HM1 HC1 hb
 replace HL := hide (VL.kept HL.out hb)
 replace Oq287 := hide Oq287.out.rd
 replace hU := zU hU hU.size hb
 clear hb
 obtain ⟨Lq287, Yq287⟩ := gly Eq287.out (gd_of (by decide +kernel))
 refine zac (i := 141) (m' := 897227025082773292366518262101588495118276822167534181739290239470403583) rfl rfl ((vRedNor_any Aq287 lq287 cq287 sq287 _ Lq287.out Cq287 Oq287.out Yq287.out (HT.out.kept hU)).mono ?_)
 rintro e w150 ⟨lq288, sq288, Aq288, cq288, Eq288, rfl, Cq288, Oq288, hb⟩
 refine ⟨_, rfl, hb, ?_⟩
 replace HC1 := zH HM1 HC1 hb
 replace Oq287 := zQ Oq287 hb
 replace HL := hide (VL.kept HL.out hb)
 replace Oq288 := hide Oq288.out.rd
 replace hU := zU hU hU.size hb
 clear hb
 obtain ⟨Lq288, Yq288⟩ := gly Eq288.out ((by rw [Eq287.out]; exact gd_of (by decide +kernel)))
 replace Eq288 := hide (show (⟨lq288, sq288⟩ : Vc) = sgl (mNot (red mOr ⟨ofB ⟨#[48, 48]⟩, false⟩)) from Eq288.out.trans (by rw [Eq287.out]))
 clear Oq287 Cq287 Lq287 Yq287
 refine zac (i := 142) (m' := 897227025082773292366518262107163681417909477952918111307452329846898687) rfl rfl ((vof_any ⟨#[49]⟩ _ (by decide)).mono ?_)
 rintro e w151 ⟨lq289, sq289, Aq289, cq289, Eq289, rfl, Cq289, Oq289, hb⟩
 refine ⟨_, rfl, hb, ?_⟩
 replace HC1 := zH HM1 HC1 hb
 replace Oq288 := zQ Oq288 hb
 replace HL := hide (VL.kept HL.out hb)
 replace Oq289 := hide Oq289.out.rd
 replace hU := zU hU hU.size hb
 clear hb
 obtain ⟨Lq289, Yq289⟩ := gly Eq289.out (gd_of (by decide +kernel))
 refine zav (i := 143) (m' := 897227025082773292366518262118314054017174789523685970443776510599888895) (v := .agg #[.slice Aq288 lq288.length cq288, .bool sq288, .slice Aq289 lq289.length cq289, .bool sq289]) F hQ rfl rfl ?_
 replace HL := hide (VL.cons Oq289.out (VL.cons Oq288.out HL.out))
 clear Oq288 Cq288 Yq288 Oq289 Cq289 Yq289
 refine zac (i := 144) (m' := 897227025082773292366518262140614799215705412665221688716424872105869311) rfl rfl ((vof_any ⟨#[49, 48]⟩ _ (by decide)).mono ?_)
 rintro e w152 ⟨lq291, sq291, Aq291, cq291, Eq291, rfl, Cq291, Oq291, hb⟩
 refine ⟨_, rfl, hb, ?_⟩
 replace HC1 := zH HM1 HC1 hb
 replace HL := hide (VL.kept HL.out hb)
 replace Oq291 := hide Oq291.out.rd
 replace hU := zU hU hU.size hb
 clear hb
 obtain ⟨Lq291, Yq291⟩ := gly Eq291.out (gd_of (by decide +kernel))
 refine zac (i := 145) (m' := 897227025082773292366518262185216289612766658948293125261721595117830143) rfl rfl ((vRedXnor_any Aq291 lq291 cq291 sq291 _ Lq291.out Cq291 Oq291.out Yq291.out (HT.out.kept hU)).mono ?_)
 rintro e w153 ⟨lq292, sq292, Aq292, cq292, Eq292, rfl, Cq292, Oq292, hb⟩
 refine ⟨_, rfl, hb, ?_⟩
 replace HC1 := zH HM1 HC1 hb
 replace Oq291 := zQ Oq291 hb
 replace HL := hide (VL.kept HL.out hb)
 replace Oq292 := hide Oq292.out.rd
 replace hU := zU hU hU.size hb
 clear hb
 obtain ⟨Lq292, Yq292⟩ := gly Eq292.out ((by rw [Eq291.out]; exact gd_of (by decide +kernel)))
 replace Eq292 := hide (show (⟨lq292, sq292⟩ : Vc) = sgl (mNot (red mXor ⟨ofB ⟨#[49, 48]⟩, false⟩)) from Eq292.out.trans (by rw [Eq291.out]))
 clear Oq291 Cq291 Lq291 Yq291
 refine zac (i := 146) (m' := 897227025082773292366518262274419270406889151514435998352315041141751807) rfl rfl ((vof_any ⟨#[48]⟩ _ (by decide)).mono ?_)
 rintro e w154 ⟨lq293, sq293, Aq293, cq293, Eq293, rfl, Cq293, Oq293, hb⟩
 refine ⟨_, rfl, hb, ?_⟩
 replace HC1 := zH HM1 HC1 hb
 replace Oq292 := zQ Oq292 hb
 replace HL := hide (VL.kept HL.out hb)
 replace Oq293 := hide Oq293.out.rd
 replace hU := zU hU hU.size hb
 clear hb
 obtain ⟨Lq293, Yq293⟩ := gly Eq293.out (gd_of (by decide +kernel))
 refine zav (i := 147) (m' := 897227025082773292366518262452825231995134136646721744533501933189595135) (v := .agg #[.slice Aq292 lq292.length cq292, .bool sq292, .slice Aq293 lq293.length cq293, .bool sq293]) F hQ rfl rfl ?_
 replace HL := hide (VL.cons Oq293.out (VL.cons Oq292.out HL.out))
 clear Oq292 Cq292 Yq292 Oq293 Cq293 Yq293
 refine zac (i := 148) (m' := 897227025082773292366518262809637155171624106911293236895875717285281791) rfl rfl ((vof_any ⟨#[120, 48]⟩ _ (by decide)).mono ?_)
 rintro e w155 ⟨lq295, sq295, Aq295, cq295, Eq295, rfl, Cq295, Oq295, hb⟩
 refine ⟨_, rfl, hb, ?_⟩
 replace HC1 := zH HM1 HC1 hb
 replace HL := hide (VL.kept HL.out hb)
 replace Oq295 := hide Oq295.out.rd
 replace hU := zU hU hU.size hb
 clear hb
 obtain ⟨Lq295, Yq295⟩ := gly Eq295.out (gd_of (by decide +kernel))
 refine zac (i := 149) (m' := 897227025082773292366518263523261001524604047440436221620623285476655103) rfl rfl ((vLNot_any Aq295 lq295 cq295 sq295 _ Lq295.out Cq295 Oq295.out Yq295.out (HT.out.kept hU)).mono ?_)
 rintro e w156 ⟨lq296, sq296, Aq296, cq296, Eq296, rfl, Cq296, Oq296, hb⟩
 refine ⟨_, rfl, hb, ?_⟩
 replace HC1 := zH HM1 HC1 hb
 replace Oq295 := zQ Oq295 hb
 replace HL := hide (VL.kept HL.out hb)
 replace Oq296 := hide Oq296.out.rd
 replace hU := zU hU hU.size hb
 clear hb
 obtain ⟨Lq296, Yq296⟩ := gly Eq296.out ((by rw [Eq295.out]; exact gd_of (by decide +kernel)))
 replace Eq296 := hide (show (⟨lq296, sq296⟩ : Vc) = sgl (mNot (tr ⟨ofB ⟨#[120, 48]⟩, false⟩)) from Eq296.out.trans (by rw [Eq295.out]))
 clear Oq295 Cq295 Lq295 Yq295
 refine zac (i := 150) (m' := 897227025082773292366518264950508694230563928498722191070118421859401727) rfl rfl ((vof_any ⟨#[120]⟩ _ (by decide)).mono ?_)
 rintro e w157 ⟨lq297, sq297, Aq297, cq297, Eq297, rfl, Cq297, Oq297, hb⟩
 refine ⟨_, rfl, hb, ?_⟩
 replace HC1 := zH HM1 HC1 hb
 replace Oq296 := zQ Oq296 hb
 replace HL := hide (VL.kept HL.out hb)
 replace Oq297 := hide Oq297.out.rd
 replace hU := zU hU hU.size hb
 clear hb
 obtain ⟨Lq297, Yq297⟩ := gly Eq297.out (gd_of (by decide +kernel))
 refine zav (i := 151) (m' := 897227025082773292366518267805004079642483690615294129969108694624894975) (v := .agg #[.slice Aq296 lq296.length cq296, .bool sq296, .slice Aq297 lq297.length cq297, .bool sq297]) F hQ rfl rfl ?_
 replace HL := hide (VL.cons Oq297.out (VL.cons Oq296.out HL.out))
 clear Oq296 Cq296 Yq296 Oq297 Cq297 Yq297
 refine zac (i := 152) (m' := 897227025082773292366518273513994850466323214848438007767089240155881471) rfl rfl ((vof_any ⟨#[48]⟩ _ (by decide)).mono ?_)
 rintro e w158 ⟨lq299, sq299, Aq299, cq299, Eq299, rfl, Cq299, Oq299, hb⟩
 refine ⟨_, rfl, hb, ?_⟩
 replace HC1 := zH HM1 HC1 hb
 replace HL := hide (VL.kept HL.out hb)
 replace Oq299 := hide Oq299.out.rd
 replace hU := zU hU hU.size hb
 clear hb
 obtain ⟨Lq299, Yq299⟩ := gly Eq299.out (gd_of (by decide +kernel))
 refine zac (i := 153) (m' := 897227025082773292366518284931976392114002263314725763363050331217854463) rfl rfl ((vof_any ⟨#[120]⟩ _ (by decide)).mono ?_)
 rintro e w159 ⟨lq300, sq300, Aq300, cq300, Eq300, rfl, Cq300, Oq300, hb⟩
 refine ⟨_, rfl, hb, ?_⟩
 replace HC1 := zH HM1 HC1 hb
 replace Oq299 := zQ Oq299 hb
 replace HL := hide (VL.kept HL.out hb)
 replace Oq300 := hide Oq300.out.rd
 replace hU := zU hU hU.size hb
 clear hb
 obtain ⟨Lq300, Yq300⟩ := gly Eq300.out (gd_of (by decide +kernel))
 refine zac (i := 154) (m' := 897227025082773292366518307767939475409360360247301274554972513341800447) rfl rfl ((vLAnd_any Aq299 Aq300 lq299 lq300 cq299 cq300 sq299 sq300 _ Lq299.out Lq300.out Cq299 Cq300 Oq299.out Oq300.out Yq299.out Yq300.out (HT.out.kept hU)).mono ?_)
 rintro e w160 ⟨lq301, sq301, Aq301, cq301, Eq301, rfl, Cq301, Oq301, hb⟩
 refine ⟨_, rfl, hb, ?_⟩
 replace HC1 := zH HM1 HC1 hb
 replace Oq299 := zQ Oq299 hb
 replace Oq300 := zQ Oq300 hb
 replace HL := hide (VL.kept HL.out hb)
 replace Oq301 := hide Oq301.out.rd
 replace hU := zU hU hU.size hb
 clear hb
 obtain ⟨Lq301, Yq301⟩ := gly Eq301.out ((by rw [Eq299.out, Eq300.out]; exact gd_of (by decide +kernel)))
 replace Eq301 := hide (show (⟨lq301, sq301⟩ : Vc) = sgl (mAnd (tr ⟨ofB ⟨#[48]⟩, false⟩) (tr ⟨ofB ⟨#[120]⟩, false⟩)) from Eq301.out.trans (by rw [Eq299.out, Eq300.out]))
 clear Oq299 Cq299 Lq299 Yq299 Oq300 Cq300 Lq300 Yq300
 refine zac (i := 155) (m' := 897227025082773292366518353439865642000076554112452296938816877589692415) rfl rfl ((vof_any ⟨#[48]⟩ _ (by decide)).mono ?_)
 rintro e w161 ⟨lq302, sq302, Aq302, cq302, Eq302, rfl, Cq302, Oq302, hb⟩
 refine ⟨_, rfl, hb, ?_⟩
 replace HC1 := zH HM1 HC1 hb
 replace Oq301 := zQ Oq301 hb
 replace HL := hide (VL.kept HL.out hb)
 replace Oq302 := hide Oq302.out.rd
 replace hU := zU hU hU.size hb
 clear hb
 obtain ⟨Lq302, Yq302⟩ := gly Eq302.out (gd_of (by decide +kernel))
 refine zav (i := 156) (m' := 897227025082773292366518444783717975181508941842754341706505606085476351) (v := .agg #[.slice Aq301 lq301.length cq301, .bool sq301, .slice Aq302 lq302.length cq302, .bool sq302]) F hQ rfl rfl ?_
 replace HL := hide (VL.cons Oq302.out (VL.cons Oq301.out HL.out))
 clear Oq301 Cq301 Yq301 Oq302 Cq302 Yq302
 refine zac (i := 157) (m' := 897227025082773292366518627471422641544373717303358431241883063077044223) rfl rfl ((vof_any ⟨#[120, 49]⟩ _ (by decide)).mono ?_)
 rintro e w162 ⟨lq304, sq304, Aq304, cq304, Eq304, rfl, Cq304, Oq304, hb⟩
 refine ⟨_, rfl, hb, ?_⟩
 replace HC1 := zH HM1 HC1 hb
 replace HL := hide (VL.kept HL.out hb)
 replace Oq304 := hide Oq304.out.rd
 replace hU := zU hU hU.size hb
 clear hb
 obtain ⟨Lq304, Yq304⟩ := gly Eq304.out (gd_of (by decide +kernel))
 refine zac (i := 158) (m' := 897227025082773292366518992846831974270103268224566610312637977060179967) rfl rfl ((vof_any ⟨#[120]⟩ _ (by decide)).mono ?_)
 rintro e w163 ⟨lq305, sq305, Aq305, cq305, Eq305, rfl, Cq305, Oq305, hb⟩
 refine ⟨_, rfl, hb, ?_⟩
 replace HC1 := zH HM1 HC1 hb
 replace Oq304 := zQ Oq304 hb
 replace HL := hide (VL.kept HL.out hb)
 replace Oq305 := hide Oq305.out.rd
 replace hU := zU hU hU.size hb
 clear hb
 obtain ⟨Lq305, Yq305⟩ := gly Eq305.out (gd_of (by decide +kernel))
 refine zac (i := 159) (m' := 897227025082773292366519723597650639721562370066982968454147805026451455) rfl rfl ((vLOr_any Aq304 Aq305 lq304 lq305 cq304 cq305 sq304 sq305 _ Lq304.out Lq305.out Cq304 Cq305 Oq304.out Oq305.out Yq304.out Yq305.out (HT.out.kept hU)).mono ?_)
 rintro e w164 ⟨lq306, sq306, Aq306, cq306, Eq306, rfl, Cq306, Oq306, hb⟩
 refine ⟨_, rfl, hb, ?_⟩
 replace HC1 := zH HM1 HC1 hb
 replace Oq304 := zQ Oq304 hb
 replace Oq305 := zQ Oq305 hb
 replace HL := hide (VL.kept HL.out hb)
 replace Oq306 := hide Oq306.out.rd
 replace hU := zU hU hU.size hb
 clear hb
 obtain ⟨Lq306, Yq306⟩ := gly Eq306.out ((by rw [Eq304.out, Eq305.out]; exact gd_of (by decide +kernel)))
 replace Eq306 := hide (show (⟨lq306, sq306⟩ : Vc) = sgl (mOr (tr ⟨ofB ⟨#[120, 49]⟩, false⟩) (tr ⟨ofB ⟨#[120]⟩, false⟩)) from Eq306.out.trans (by rw [Eq304.out, Eq305.out]))
 clear Oq304 Cq304 Lq304 Yq304 Oq305 Cq305 Lq305 Yq305
 refine zac (i := 160) (m' := 897227025082773292366521185099287970624480573751815684737167460958994431) rfl rfl ((vof_any ⟨#[49]⟩ _ (by decide)).mono ?_)
 rintro e w165 ⟨lq307, sq307, Aq307, cq307, Eq307, rfl, Cq307, Oq307, hb⟩
 refine ⟨_, rfl, hb, ?_⟩
 replace HC1 := zH HM1 HC1 hb
 replace Oq306 := zQ Oq306 hb
 replace HL := hide (VL.kept HL.out hb)
 replace Oq307 := hide Oq307.out.rd
 replace hU := zU hU hU.size hb
 clear hb
 obtain ⟨Lq307, Yq307⟩ := gly Eq307.out (gd_of (by decide +kernel))
 refine zav (i := 161) (m' := 897227025082773292366524108102562632430316981121481117303206772824080383) (v := .agg #[.slice Aq306 lq306.length cq306, .bool sq306, .slice Aq307 lq307.length cq307, .bool sq307]) F hQ rfl rfl ?_
 replace HL := hide (VL.cons Oq307.out (VL.cons Oq306.out HL.out))
 clear Oq306 Cq306 Yq306 Oq307 Cq307 Yq307
 refine zac (i := 162) (m' := 897227025082773292366529954109111956041989795860811982435285396554252287) rfl rfl ((vsof_any ⟨#[48, 48, 49]⟩ _ (by decide)).mono ?_)
 rintro e w166 ⟨lq309, sq309, Aq309, cq309, Eq309, rfl, Cq309, Oq309, hb⟩
 refine ⟨_, rfl, hb, ?_⟩
 replace HC1 := zH HM1 HC1 hb
 replace HL := hide (VL.kept HL.out hb)
 replace Oq309 := hide Oq309.out.rd
 replace hU := zU hU hU.size hb
 clear hb
 obtain ⟨Lq309, Yq309⟩ := gly Eq309.out (gd_of (by decide +kernel))
 refine zac (i := 163) (m' := 897227025082773292366541646122210603265335425339473712699442644014596095) rfl rfl ((vNeg_any Aq309 lq309 cq309 sq309 _ Lq309.out Cq309 Oq309.out Yq309.out).mono ?_)
 rintro e w167 ⟨lq310, sq310, Aq310, cq310, Eq310, rfl, Cq310, Oq310, hb⟩
 refine ⟨_, rfl, hb, ?_⟩
 replace HC1 := zH HM1 HC1 hb
 replace Oq309 := zQ Oq309 hb
 replace HL := hide (VL.kept HL.out hb)
 replace Oq310 := hide Oq310.out.rd
 replace hU := zU hU hU.size hb
 clear hb
 obtain ⟨Lq310, Yq310⟩ := gly Eq310.out ((by rw [Eq309.out]; exact gd_of (by decide +kernel)))
 replace Eq310 := hide (show (⟨lq310, sq310⟩ : Vc) = vNeg ⟨ofB ⟨#[48, 48, 49]⟩, true⟩ from Eq310.out.trans (by rw [Eq309.out]))
 clear Oq309 Cq309 Lq309 Yq309
 refine zac (i := 164) (m' := 897227025082773292366565030148407897712026684296797173227757138935283711) rfl rfl ((vsof_any ⟨#[49, 49, 49]⟩ _ (by decide)).mono ?_)
 rintro e w168 ⟨lq311, sq311, Aq311, cq311, Eq311, rfl, Cq311, Oq311, hb⟩
 refine ⟨_, rfl, hb, ?_⟩
 replace HC1 := zH HM1 HC1 hb
 replace Oq310 := zQ Oq310 hb
 replace HL := hide (VL.kept HL.out hb)
 replace Oq311 := hide Oq311.out.rd
 replace hU := zU hU hU.size hb
 clear hb
 obtain ⟨Lq311, Yq311⟩ := gly Eq311.out (gd_of (by decide +kernel))
 refine zav (i := 165) (m' := 897227025082773292366611798200802486605409202211444094284386128776658943) (v := .agg #[.slice Aq310 lq310.length cq310, .bool sq310, .slice Aq311 lq311.length cq311, .bool sq311]) F hQ rfl rfl ?_
 replace HL := hide (VL.cons Oq311.out (VL.cons Oq310.out HL.out))
 clear Oq310 Cq310 Yq310 Oq311 Cq311 Yq311
 refine zac (i := 166) (m' := 897227025082773292366705334305591664392174238040737936397644108459409407) rfl rfl ((vof_any ⟨#[120, 49]⟩ _ (by decide)).mono ?_)
 rintro e w169 ⟨lq313, sq313, Aq313, cq313, Eq313, rfl, Cq313, Oq313, hb⟩
 refine ⟨_, rfl, hb, ?_⟩
 replace HC1 := zH HM1 HC1 hb
 replace HL := hide (VL.kept HL.out hb)
 replace Oq313 := hide Oq313.out.rd
 replace hU := zU hU hU.size hb
 clear hb
 obtain ⟨Lq313, Yq313⟩ := gly Eq313.out (gd_of (by decide +kernel))
 refine zac (i := 167) (m' := 897227025082773292366892406515170019965704309699325620624160067824910335) rfl rfl ((vNeg_any Aq313 lq313 cq313 sq313 _ Lq313.out Cq313 Oq313.out Yq313.out).mono ?_)
 rintro e w170 ⟨lq314, sq314, Aq314, cq314, Eq314, rfl, Cq314, Oq314, hb⟩
 refine ⟨_, rfl, hb, ?_⟩
 replace HC1 := zH HM1 HC1 hb
 replace Oq313 := zQ Oq313 hb
 replace HL := hide (VL.kept HL.out hb)
 replace Oq314 := hide Oq314.out.rd
 replace hU := zU hU hU.size hb
 clear hb
 obtain ⟨Lq314, Yq314⟩ := gly Eq314.out ((by rw [Eq313.out]; exact gd_of (by decide +kernel)))
 replace Eq314 := hide (show (⟨lq314, sq314⟩ : Vc) = vNeg ⟨ofB ⟨#[120, 49]⟩, false⟩ from Eq314.out.trans (by rw [Eq313.out]))
 clear Oq313 Cq313 Lq313 Yq313
 refine zac (i := 168) (m' := 897227025082773292367266550934326731112764453016500989077191986555912191) rfl rfl ((vof_any ⟨#[120, 120]⟩ _ (by decide)).mono ?_)
 rintro e w171 ⟨lq315, sq315, Aq315, cq315, Eq315, rfl, Cq315, Oq315, hb⟩
 refine ⟨_, rfl, hb, ?_⟩
 replace HC1 := zH HM1 HC1 hb
 replace Oq314 := zQ Oq314 hb
 replace HL := hide (VL.kept HL.out hb)
 replace Oq315 := hide Oq315.out.rd
 replace hU := zU hU hU.size hb
 clear hb
 obtain ⟨Lq315, Yq315⟩ := gly Eq315.out (gd_of (by decide +kernel))
 refine zav (i := 169) (m' := 897227025082773292368014839772640153406884739650851725983255824017915903) (v := .agg #[.slice Aq314 lq314.length cq314, .bool sq314, .slice Aq315 lq315.length cq315, .bool sq315]) F hQ rfl rfl ?_
 replace HL := hide (VL.cons Oq315.out (VL.cons Oq314.out HL.out))
 clear Oq314 Cq314 Yq314 Oq315 Cq315 Yq315
 exact hK _ _ (lk_drop 56 _ (by kernel_rfl)) lq263 sq263 Aq263 cq263 lq264 sq264 Aq264 cq264 lq268 sq268 Aq268 cq268 lq269 sq269 Aq269 cq269 lq272 sq272 Aq272 cq272 lq273 sq273 Aq273 cq273 lq276 sq276 Aq276 cq276 lq277 sq277 Aq277 cq277 lq280 sq280 Aq280 cq280 lq281 sq281 Aq281 cq281 lq284 sq284 Aq284 cq284 lq285 sq285 Aq285 cq285 lq288 sq288 Aq288 cq288 lq289 sq289 Aq289 cq289 lq292 sq292 Aq292 cq292 lq293 sq293 Aq293 cq293 lq296 sq296 Aq296 cq296 lq297 sq297 Aq297 cq297 lq301 sq301 Aq301 cq301 lq302 sq302 Aq302 cq302 lq306 sq306 Aq306 cq306 lq307 sq307 Aq307 cq307 lq310 sq310 Aq310 cq310 lq311 sq311 Aq311 cq311 lq314 sq314 Aq314 cq314 lq315 sq315 Aq315 cq315 (Kp_c (by kernel_rfl) (Kp_c (by kernel_rfl) (Kp_c (by kernel_rfl) (Kp_c (by kernel_rfl) (Kp_c (by kernel_rfl) (Kp_c (by kernel_rfl) (Kp_c (by kernel_rfl) (Kp_c (by kernel_rfl) (Kp_c (by kernel_rfl) (Kp_c (by kernel_rfl) (Kp_c (by kernel_rfl) (Kp_c (by kernel_rfl) (Kp_c (by kernel_rfl) (Kp_n)))))))))))))) hU HL HC1 Eq263 Eq264 Eq268 Eq269 Eq272 Eq273 Eq276 Eq277 Eq280 Eq281 Eq284 Eq285 Eq288 Eq289 Eq292 Eq293 Eq296 Eq297 Eq301 Eq302 Eq306 Eq307 Eq310 Eq311 Eq314 Eq315 Lq263 Lq264 Lq268 Lq269 Lq272 Lq273 Lq276 Lq277 Lq280 Lq281 Lq284 Lq285 Lq288 Lq289 Lq292 Lq293 Lq296 Lq297 Lq301 Lq302 Lq306 Lq307 Lq310 Lq311 Lq314 Lq315
set_option maxHeartbeats 64000000 in
theorem EX_c2 (Q : Exit → Act → World → Prop) (w W w171 : World) (E0 : Env) (VS : List (Option Addr × List Int)) (Akk : Option Addr) (lkk : List Int) (ckk : Nat) (skk : Bool) (Pr1 : World → Prop) (HT : Hid (Tabs w)) (hU : Below w.heap.size w w171) (HL : Hid (VL VS w171)) (HM1 : ∀ w w', Pr1 w → Below w.heap.size w w' → Pr1 w') (HC1 : Hid (Pr1 w171)) (p1_kk : ∀ W, Pr1 W → RQ W Akk lkk) (Ckk : Hid (lkk.length ≤ ckk ∧ ckk ≤ maxLen)) (Ekk : Hid ((⟨lkk, skk⟩ : Vc) = ⟨[0, 4], true⟩)) (Lkk : Hid (lkk.length ≤ 4096)) (Ykk : Hid (By lkk)) : CH rgEX 240 523 Q W 68 897227025082773292368014839772640153406884739650851725983255824017915903 2 1104279415486490205989560937964324072392177435547261848826003875807887359 ([(380, .agg #[.slice Akk lkk.length ckk, .bool skk])] ++ E0) w171 (fun G => ∀ (E' : Env) (w' : World) (_ : ∀ i, outR 317 383 i = true → lk E' i = lk ([(380, .agg #[.slice Akk lkk.length ckk, .bool skk])] ++ E0) i) (lq319 : List Int) (sq319 : Bool) (Aq319 : Option Addr) (cq319 : Nat) (lq320 : List Int) (sq320 : Bool) (Aq320 : Option Addr) (cq320 : Nat) (lq324 : List Int) (sq324 : Bool) (Aq324 : Option Addr) (cq324 : Nat) (lq325 : List Int) (sq325 : Bool) (Aq325 : Option Addr) (cq325 : Nat) (lq329 : List Int) (sq329 : Bool) (Aq329 : Option Addr) (cq329 : Nat) (lq330 : List Int) (sq330 : Bool) (Aq330 : Option Addr) (cq330 : Nat) (lq334 : List Int) (sq334 : Bool) (Aq334 : Option Addr) (cq334 : Nat) (lq335 : List Int) (sq335 : Bool) (Aq335 : Option Addr) (cq335 : Nat) (lq339 : List Int) (sq339 : Bool) (Aq339 : Option Addr) (cq339 : Nat) (lq340 : List Int) (sq340 : Bool) (Aq340 : Option Addr) (cq340 : Nat) (lq344 : List Int) (sq344 : Bool) (Aq344 : Option Addr) (cq344 : Nat) (lq345 : List Int) (sq345 : Bool) (Aq345 : Option Addr) (cq345 : Nat) (lq349 : List Int) (sq349 : Bool) (Aq349 : Option Addr) (cq349 : Nat) (lq350 : List Int) (sq350 : Bool) (Aq350 : Option Addr) (cq350 : Nat) (lq354 : List Int) (sq354 : Bool) (Aq354 : Option Addr) (cq354 : Nat) (lq355 : List Int) (sq355 : Bool) (Aq355 : Option Addr) (cq355 : Nat) (lq359 : List Int) (sq359 : Bool) (Aq359 : Option Addr) (cq359 : Nat) (lq360 : List Int) (sq360 : Bool) (Aq360 : Option Addr) (cq360 : Nat) (lq365 : List Int) (sq365 : Bool) (Aq365 : Option Addr) (cq365 : Nat) (lq366 : List Int) (sq366 : Bool) (Aq366 : Option Addr) (cq366 : Nat) (lq371 : List Int) (sq371 : Bool) (Aq371 : Option Addr) (cq371 : Nat) (lq372 : List Int) (sq372 : Bool) (Aq372 : Option Addr) (cq372 : Nat) (lq377 : List Int) (sq377 : Bool) (Aq377 : Option Addr) (cq377 : Nat) (lq378 : List Int) (sq378 : Bool) (Aq378 : Option Addr) (cq378 : Nat) (lq381 : List Int) (sq381 : Bool) (Aq381 : Option Addr) (cq381 : Nat) (lq382 : List Int) (sq382 : Bool) (Aq382 : Option Addr) (cq382 : Nat) (_ : Kp [(321, .agg #[.slice Aq319 lq319.length cq319, .bool sq319, .slice Aq320 lq320.length cq320, .bool sq320]), (326, .agg #[.slice Aq324 lq324.length cq324, .bool sq324, .slice Aq325 lq325.length cq325, .bool sq325]), (331, .agg #[.slice Aq329 lq329.length cq329, .bool sq329, .slice Aq330 lq330.length cq330, .bool sq330]), (336, .agg #[.slice Aq334 lq334.length cq334, .bool sq334, .slice Aq335 lq335.length cq335, .bool sq335]), (341, .agg #[.slice Aq339 lq339.length cq339, .bool sq339, .slice Aq340 lq340.length cq340, .bool sq340]), (346, .agg #[.slice Aq344 lq344.length cq344, .bool sq344, .slice Aq345 lq345.length cq345, .bool sq345]), (351, .agg #[.slice Aq349 lq349.length cq349, .bool sq349, .slice Aq350 lq350.length cq350, .bool sq350]), (356, .agg #[.slice Aq354 lq354.length cq354, .bool sq354, .slice Aq355 lq355.length cq355, .bool sq355]), (361, .agg #[.slice Aq359 lq359.length cq359, .bool sq359, .slice Aq360 lq360.length cq360, .bool sq360]), (367, .agg #[.slice Aq365 lq365.length cq365, .bool sq365, .slice Aq366 lq366.length cq366, .bool sq366]), (373, .agg #[.slice Aq371 lq371.length cq371, .bool sq371, .slice Aq372 lq372.length cq372, .bool sq372]), (379, .agg #[.slice Aq377 lq377.length cq377, .bool sq377, .slice Aq378 lq378.length cq378, .bool sq378]), (383, .agg #[.slice Aq381 lq381.length cq381, .bool sq381, .slice Aq382 lq382.length cq382, .bool sq382])] E') (_ : Below w.heap.size w w') (_ : Hid (VL ((Aq382, lq382) :: (Aq381, lq381) :: (Aq378, lq378) :: (Aq377, lq377) :: (Aq372, lq372) :: (Aq371, lq371) :: (Aq366, lq366) :: (Aq365, lq365) :: (Aq360, lq360) :: (Aq359, lq359) :: (Aq355, lq355) :: (Aq354, lq354) :: (Aq350, lq350) :: (Aq349, lq349) :: (Aq345, lq345) :: (Aq344, lq344) :: (Aq340, lq340) :: (Aq339, lq339) :: (Aq335, lq335) :: (Aq334, lq334) :: (Aq330, lq330) :: (Aq329, lq329) :: (Aq325, lq325) :: (Aq324, lq324) :: (Aq320, lq320) :: (Aq319, lq319) :: VS) w')) (_ : Hid (Pr1 w')) (_ : Hid ((⟨lq319, sq319⟩ : Vc) = vCmp (fun z => decide (z < 0)) ⟨ofB ⟨#[49, 49]⟩, true⟩ ⟨ofB ⟨#[48, 48, 49]⟩, true⟩)) (_ : Hid ((⟨lq320, sq320⟩ : Vc) = ⟨ofB ⟨#[49]⟩, false⟩)) (_ : Hid ((⟨lq324, sq324⟩ : Vc) = vCmp (fun z => decide (z < 0)) ⟨ofB ⟨#[49, 49]⟩, false⟩ ⟨ofB ⟨#[48, 48, 49]⟩, true⟩)) (_ : Hid ((⟨lq325, sq325⟩ : Vc) = ⟨ofB ⟨#[48]⟩, false⟩)) (_ : Hid ((⟨lq329, sq329⟩ : Vc) = vCmp (fun z => decide (0 ≤ z)) ⟨ofB ⟨#[49, 120]⟩, false⟩ ⟨ofB ⟨#[48, 48]⟩, false⟩)) (_ : Hid ((⟨lq330, sq330⟩ : Vc) = ⟨ofB ⟨#[120]⟩, false⟩)) (_ : Hid ((⟨lq334, sq334⟩ : Vc) = vCmp (fun z => decide (z ≤ 0)) ⟨ofB ⟨#[48, 49]⟩, false⟩ ⟨ofB ⟨#[49]⟩, false⟩)) (_ : Hid ((⟨lq335, sq335⟩ : Vc) = ⟨ofB ⟨#[49]⟩, false⟩)) (_ : Hid ((⟨lq339, sq339⟩ : Vc) = vCmp (fun z => decide (0 < z)) ⟨ofB ⟨#[48]⟩, true⟩ ⟨ofB ⟨#[49]⟩, true⟩)) (_ : Hid ((⟨lq340, sq340⟩ : Vc) = ⟨ofB ⟨#[49]⟩, false⟩)) (_ : Hid ((⟨lq344, sq344⟩ : Vc) = sgl (mNot (red mAnd (btw mEq ⟨ofB ⟨#[49, 120]⟩, false⟩ ⟨ofB ⟨#[48, 120]⟩, false⟩))))) (_ : Hid ((⟨lq345, sq345⟩ : Vc) = ⟨ofB ⟨#[49]⟩, false⟩)) (_ : Hid ((⟨lq349, sq349⟩ : Vc) = vCase ⟨ofB ⟨#[120]⟩, false⟩ ⟨ofB ⟨#[122]⟩, false⟩)) (_ : Hid ((⟨lq350, sq350⟩ : Vc) = ⟨ofB ⟨#[48]⟩, false⟩)) (_ : Hid ((⟨lq354, sq354⟩ : Vc) = sgl (mNot (mFrom (mtc mSame ⟨ofB ⟨#[122]⟩, true⟩ ⟨ofB ⟨#[122, 122]⟩, true⟩))))) (_ : Hid ((⟨lq355, sq355⟩ : Vc) = ⟨ofB ⟨#[48]⟩, false⟩)) (_ : Hid ((⟨lq359, sq359⟩ : Vc) = vCase ⟨ofB ⟨#[122]⟩, false⟩ ⟨ofB ⟨#[122, 122]⟩, true⟩)) (_ : Hid ((⟨lq360, sq360⟩ : Vc) = ⟨ofB ⟨#[48]⟩, false⟩)) (_ : Hid ((⟨lq365, sq365⟩ : Vc) = vCond ⟨ofB ⟨#[48, 120]⟩, false⟩ ⟨ofB ⟨#[122, 49]⟩, true⟩ ⟨ofB ⟨#[48]⟩, true⟩)) (_ : Hid ((⟨lq366, sq366⟩ : Vc) = ⟨ofB ⟨#[120, 120]⟩, true⟩)) (_ : Hid ((⟨lq371, sq371⟩ : Vc) = vCond ⟨ofB ⟨#[49, 120]⟩, false⟩ ⟨ofB ⟨#[122, 49]⟩, false⟩ ⟨ofB ⟨#[48, 48, 48]⟩, false⟩)) (_ : Hid ((⟨lq372, sq372⟩ : Vc) = ⟨ofB ⟨#[48, 122, 49]⟩, false⟩)) (_ : Hid ((⟨lq377, sq377⟩ : Vc) = vCond ⟨ofB ⟨#[48]⟩, false⟩ ⟨ofB ⟨#[49, 49]⟩, false⟩ ⟨ofB ⟨#[49]⟩, true⟩)) (_ : Hid ((⟨lq378, sq378⟩ : Vc) = ⟨ofB ⟨#[48, 49]⟩, false⟩)) (_ : Hid ((⟨lq381, sq381⟩ : Vc) = ⟨(cnt ⟨[0, 4], true⟩).b, true⟩)) (_ : Hid ((⟨lq382, sq382⟩ : Vc) = ⟨ofB ⟨#[120]⟩, true⟩)) (_ : Hid (lq319.length ≤ 4096)) (_ : Hid (lq320.length ≤ 4096)) (_ : Hid (lq324.length ≤ 4096)) (_ : Hid (lq325.length ≤ 4096)) (_ : Hid (lq329.length ≤ 4096)) (_ : Hid (lq330.length ≤ 4096)) (_ : Hid (lq334.length ≤ 4096)) (_ : Hid (lq335.length ≤ 4096)) (_ : Hid (lq339.length ≤ 4096)) (_ : Hid (lq340.length ≤ 4096)) (_ : Hid (lq344.length ≤ 4096)) (_ : Hid (lq345.length ≤ 4096)) (_ : Hid (lq349.length ≤ 4096)) (_ : Hid (lq350.length ≤ 4096)) (_ : Hid (lq354.length ≤ 4096)) (_ : Hid (lq355.length ≤ 4096)) (_ : Hid (lq359.length ≤ 4096)) (_ : Hid (lq360.length ≤ 4096)) (_ : Hid (lq365.length ≤ 4096)) (_ : Hid (lq366.length ≤ 4096)) (_ : Hid (lq371.length ≤ 4096)) (_ : Hid (lq372.length ≤ 4096)) (_ : Hid (lq377.length ≤ 4096)) (_ : Hid (lq378.length ≤ 4096)) (_ : Hid (lq381.length ≤ 4096)) (_ : Hid (lq382.length ≤ 4096)), G E' w') := by
 refine fun F hQ hK => ?_
 refine zac (i := 170) (m' := 897227025082773292369511417449266997995125312919553199795383498941923327) rfl rfl ((vsof_any ⟨#[49, 49]⟩ _ (by decide)).mono ?_)
 rintro e w172 ⟨lq317, sq317, Aq317, cq317, Eq317, rfl, Cq317, Oq317, hb⟩
 refine ⟨_, rfl, hb, ?_⟩
 replace HC1 := zH HM1 HC1 hb
 replace HL := hide (VL.kept HL.out hb)
 replace Oq317 := hide Oq317.out.rd
 replace hU := zU hU hU.size hb
 clear hb
 obtain ⟨Lq317, Yq317⟩ := gly Eq317.out (gd_of (by decide +kernel))
 refine zac (i := 171) (m' := 897227025082773292372504572802520687171606459456956147419638848789938175) rfl rfl ((vsof_any ⟨#[48, 48, 49]⟩ _ (by decide)).mono ?_)
 rintro e w173 ⟨lq318, sq318, Aq318, cq318, Eq318, rfl, Cq318, Oq318, hb⟩
 refine ⟨_, rfl, hb, ?_⟩
 replace HC1 := zH HM1 HC1 hb
 replace Oq317 := zQ Oq317 hb
 replace HL := hide (VL.kept HL.out hb)
 replace Oq318 := hide Oq318.out.rd
 replace hU := zU hU hU.size hb
 clear hb
 obtain ⟨Lq318, Yq318⟩ := gly Eq318.out (gd_of (by decide +kernel))
 refine zac (i := 172) (m' := 897227025082773292378490883509028065524568752531762042668149548485967871) rfl rfl ((vLt_any Aq317 Aq318 lq317 lq318 cq317 cq318 sq317 sq318 _ Lq317.out Lq318.out Cq317 Cq318 Oq317.out Oq318.out Yq317.out Yq318.out).mono ?_)
 rintro e w174 ⟨lq319, sq319, Aq319, cq319, Eq319, rfl, Cq319, Oq319, hb⟩
 refine ⟨_, rfl, hb, ?_⟩
 replace HC1 := zH HM1 HC1 hb
 replace Oq317 := zQ Oq317 hb
 replace Oq318 := zQ Oq318 hb
 replace HL := hide (VL.kept HL.out hb)
 replace Oq319 := hide Oq319.out.rd
 replace hU := zU hU hU.size hb
 clear hb
 obtain ⟨Lq319, Yq319⟩ := gly Eq319.out ((by rw [Eq317.out, Eq318.out]; exact gd_of (by decide +kernel)))
 replace Eq319 := hide (show (⟨lq319, sq319⟩ : Vc) = vCmp (fun z => decide (z < 0)) ⟨ofB ⟨#[49, 49]⟩, true⟩ ⟨ofB ⟨#[48, 48, 49]⟩, true⟩ from Eq319.out.trans (by rw [Eq317.out, Eq318.out]))
 clear Oq317 Cq317 Lq317 Yq317 Oq318 Cq318 Lq318 Yq318
 refine zac (i := 173) (m' := 897227025082773292390463504922042822230493338681373833165170947878027263) rfl rfl ((vof_any ⟨#[49]⟩ _ (by decide)).mono ?_)
 rintro e w175 ⟨lq320, sq320, Aq320, cq320, Eq320, rfl, Cq320, Oq320, hb⟩
 refine ⟨_, rfl, hb, ?_⟩
 replace HC1 := zH HM1 HC1 hb
 replace Oq319 := zQ Oq319 hb
 replace HL := hide (VL.kept HL.out hb)
 replace Oq320 := hide Oq320.out.rd
 replace hU := zU hU hU.size hb
 clear hb
 obtain ⟨Lq320, Yq320⟩ := gly Eq320.out (gd_of (by decide +kernel))
 refine zav (i := 174) (m' := 897227025082773292414408747748072335642342510980597414159213746662146047) (v := .agg #[.slice Aq319 lq319.length cq319, .bool sq319, .slice Aq320 lq320.length cq320, .bool sq320]) F hQ rfl rfl ?_
 replace HL := hide (VL.cons Oq320.out (VL.cons Oq319.out HL.out))
 clear Oq319 Cq319 Yq319 Oq320 Cq320 Yq320
 refine zac (i := 175) (m' := 897227025082773292462299233400131362466040855579044576147299344230383615) rfl rfl ((vof_any ⟨#[49, 49]⟩ _ (by decide)).mono ?_)
 rintro e w176 ⟨lq322, sq322, Aq322, cq322, Eq322, rfl, Cq322, Oq322, hb⟩
 refine ⟨_, rfl, hb, ?_⟩
 replace HC1 := zH HM1 HC1 hb
 replace HL := hide (VL.kept HL.out hb)
 replace Oq322 := hide Oq322.out.rd
 replace hU := zU hU hU.size hb
 clear hb
 obtain ⟨Lq322, Yq322⟩ := gly Eq322.out (gd_of (by decide +kernel))
 refine zac (i := 176) (m' := 897227025082773292558080204704249416113437544775938900123470539366858751) rfl rfl ((vsof_any ⟨#[48, 48, 49]⟩ _ (by decide)).mono ?_)
 rintro e w177 ⟨lq323, sq323, Aq323, cq323, Eq323, rfl, Cq323, Oq323, hb⟩
 refine ⟨_, rfl, hb, ?_⟩
 replace HC1 := zH HM1 HC1 hb
 replace Oq322 := zQ Oq322 hb
 replace HL := hide (VL.kept HL.out hb)
 replace Oq323 := hide Oq323.out.rd
 replace hU := zU hU hU.size hb
 clear hb
 obtain ⟨Lq323, Yq323⟩ := gly Eq323.out (gd_of (by decide +kernel))
 refine zac (i := 177) (m' := 897227025082773292749642147312485523408230923169727548075812929639809023) rfl rfl ((vLt_any Aq322 Aq323 lq322 lq323 cq322 cq323 sq322 sq323 _ Lq322.out Lq323.out Cq322 Cq323 Oq322.out Oq323.out Yq322.out Yq323.out).mono ?_)
 rintro e w178 ⟨lq324, sq324, Aq324, cq324, Eq324, rfl, Cq324, Oq324, hb⟩
 refine ⟨_, rfl, hb, ?_⟩
 replace HC1 := zH HM1 HC1 hb
 replace Oq322 := zQ Oq322 hb
 replace Oq323 := zQ Oq323 hb
 replace HL := hide (VL.kept HL.out hb)
 replace Oq324 := hide Oq324.out.rd
 replace hU := zU hU hU.size hb
 clear hb
 obtain ⟨Lq324, Yq324⟩ := gly Eq324.out ((by rw [Eq322.out, Eq323.out]; exact gd_of (by decide +kernel)))
 replace Eq324 := hide (show (⟨lq324, sq324⟩ : Vc) = vCmp (fun z => decide (z < 0)) ⟨ofB ⟨#[49, 49]⟩, false⟩ ⟨ofB ⟨#[48, 48, 49]⟩, true⟩ from Eq324.out.trans (by rw [Eq322.out, Eq323.out]))
 clear Oq322 Cq322 Lq322 Yq322 Oq323 Cq323 Lq323 Yq323
 refine zac (i := 178) (m' := 897227025082773293132766032528957737997817679957304843980497710185709567) rfl rfl ((vof_any ⟨#[48]⟩ _ (by decide)).mono ?_)
 rintro e w179 ⟨lq325, sq325, Aq325, cq325, Eq325, rfl, Cq325, Oq325, hb⟩
 refine ⟨_, rfl, hb, ?_⟩
 replace HC1 := zH HM1 HC1 hb
 replace Oq324 := zQ Oq324 hb
 replace HL := hide (VL.kept HL.out hb)
 replace Oq325 := hide Oq325.out.rd
 replace hU := zU hU hU.size hb
 clear hb
 obtain ⟨Lq325, Yq325⟩ := gly Eq325.out (gd_of (by decide +kernel))
 refine zav (i := 179) (m' := 897227025082773293899013802961902167176991193532459435789867271277510655) (v := .agg #[.slice Aq324 lq324.length cq324, .bool sq324, .slice Aq325 lq325.length cq325, .bool sq325]) F hQ rfl rfl ?_
 replace HL := hide (VL.cons Oq325.out (VL.cons Oq324.out HL.out))
 clear Oq324 Cq324 Yq324 Oq325 Cq325 Yq325
 refine zac (i := 180) (m' := 897227025082773295431509343827791025535338220682768619408606393461112831) rfl rfl ((vof_any ⟨#[49, 120]⟩ _ (by decide)).mono ?_)
 rintro e w180 ⟨lq327, sq327, Aq327, cq327, Eq327, rfl, Cq327, Oq327, hb⟩
 refine ⟨_, rfl, hb, ?_⟩
 replace HC1 := zH HM1 HC1 hb
 replace HL := hide (VL.kept HL.out hb)
 replace Oq327 := hide Oq327.out.rd
 replace hU := zU hU hU.size hb
 clear hb
 obtain ⟨Lq327, Yq327⟩ := gly Eq327.out (gd_of (by decide +kernel))
 refine zac (i := 181) (m' := 897227025082773298496500425559568742252032274983386986646084637828317183) rfl rfl ((vof_any ⟨#[48, 48]⟩ _ (by decide)).mono ?_)
 rintro e w181 ⟨lq328, sq328, Aq328, cq328, Eq328, rfl, Cq328, Oq328, hb⟩
 refine ⟨_, rfl, hb, ?_⟩
 replace HC1 := zH HM1 HC1 hb
 replace Oq327 := zQ Oq327 hb
 replace HL := hide (VL.kept HL.out hb)
 replace Oq328 := hide Oq328.out.rd
 replace hU := zU hU hU.size hb
 clear hb
 obtain ⟨Lq328, Yq328⟩ := gly Eq328.out (gd_of (by decide +kernel))
 refine zac (i := 182) (m' := 897227025082773304626482589023124175685420383584623721121041126562725887) rfl rfl ((vGe_any Aq327 Aq328 lq327 lq328 cq327 cq328 sq327 sq328 _ Lq327.out Lq328.out Cq327 Cq328 Oq327.out Oq328.out Yq327.out Yq328.out).mono ?_)
 rintro e w182 ⟨lq329, sq329, Aq329, cq329, Eq329, rfl, Cq329, Oq329, hb⟩
 refine ⟨_, rfl, hb, ?_⟩
 replace HC1 := zH HM1 HC1 hb
 replace Oq327 := zQ Oq327 hb
 replace Oq328 := zQ Oq328 hb
 replace HL := hide (VL.kept HL.out hb)
 replace Oq329 := hide Oq329.out.rd
 replace hU := zU hU hU.size hb
 clear hb
 obtain ⟨Lq329, Yq329⟩ := gly Eq329.out ((by rw [Eq327.out, Eq328.out]; exact gd_of (by decide +kernel)))
 replace Eq329 := hide (show (⟨lq329, sq329⟩ : Vc) = vCmp (fun z => decide (0 ≤ z)) ⟨ofB ⟨#[49, 120]⟩, false⟩ ⟨ofB ⟨#[48, 48]⟩, false⟩ from Eq329.out.trans (by rw [Eq327.out, Eq328.out]))
 clear Oq327 Cq327 Lq327 Yq327 Oq328 Cq328 Lq328 Yq328
 refine zac (i := 183) (m' := 897227025082773316886446915950235042552196600787097190070954104031543295) rfl rfl ((vof_any ⟨#[120]⟩ _ (by decide)).mono ?_)
 rintro e w183 ⟨lq330, sq330, Aq330, cq330, Eq330, rfl, Cq330, Oq330, hb⟩
 refine ⟨_, rfl, hb, ?_⟩
 replace HC1 := zH HM1 HC1 hb
 replace Oq329 := zQ Oq329 hb
 replace HL := hide (VL.kept HL.out hb)
 replace Oq330 := hide Oq330.out.rd
 replace hU := zU hU hU.size hb
 clear hb
 obtain ⟨Lq330, Yq330⟩ := gly Eq330.out (gd_of (by decide +kernel))
 refine zav (i := 184) (m' := 897227025082773341406375569804456776285749035192044127970780058969178111) (v := .agg #[.slice Aq329 lq329.length cq329, .bool sq329, .slice Aq330 lq330.length cq330, .bool sq330]) F hQ rfl rfl ?_
 replace HL := hide (VL.cons Oq330.out (VL.cons Oq329.out HL.out))
 clear Oq329 Cq329 Yq329 Oq330 Cq330 Yq330
 refine zac (i := 185) (m' := 897227025082773390446232877512900243752853904001938003770431968844447743) rfl rfl ((vof_any ⟨#[48, 49]⟩ _ (by decide)).mono ?_)
 rintro e w184 ⟨lq332, sq332, Aq332, cq332, Eq332, rfl, Cq332, Oq332, hb⟩
 refine ⟨_, rfl, hb, ?_⟩
 replace HC1 := zH HM1 HC1 hb
 replace HL := hide (VL.kept HL.out hb)
 replace Oq332 := hide Oq332.out.rd
 replace hU := zU hU hU.size hb
 clear hb
 obtain ⟨Lq332, Yq332⟩ := gly Eq332.out (gd_of (by decide +kernel))
 refine zac (i := 186) (m' := 897227025082773488525947492929787178687063641621725755369735788594987007) rfl rfl ((vof_any ⟨#[49]⟩ _ (by decide)).mono ?_)
 rintro e w185 ⟨lq333, sq333, Aq333, cq333, Eq333, rfl, Cq333, Oq333, hb⟩
 refine ⟨_, rfl, hb, ?_⟩
 replace HC1 := zH HM1 HC1 hb
 replace Oq332 := zQ Oq332 hb
 replace HL := hide (VL.kept HL.out hb)
 replace Oq333 := hide Oq333.out.rd
 replace hU := zU hU hU.size hb
 clear hb
 obtain ⟨Lq333, Yq333⟩ := gly Eq333.out (gd_of (by decide +kernel))
 refine zac (i := 187) (m' := 897227025082773684685376723763561048555483116861301258568343428096065535) rfl rfl ((vLe_any Aq332 Aq333 lq332 lq333 cq332 cq333 sq332 sq333 _ Lq332.out Lq333.out Cq332 Cq333 Oq332.out Oq333.out Yq332.out Yq333.out).mono ?_)
 rintro e w186 ⟨lq334, sq334, Aq334, cq334, Eq334, rfl, Cq334, Oq334, hb⟩
 refine ⟨_, rfl, hb, ?_⟩
 replace HC1 := zH HM1 HC1 hb
 replace Oq332 := zQ Oq332 hb
 replace Oq333 := zQ Oq333 hb
 replace HL := hide (VL.kept HL.out hb)
 replace Oq334 := hide Oq334.out.rd
 replace hU := zU hU hU.size hb
 clear hb
 obtain ⟨Lq334, Yq334⟩ := gly Eq334.out ((by rw [Eq332.out, Eq333.out]; exact gd_of (by decide +kernel)))
 replace Eq334 := hide (show (⟨lq334, sq334⟩ : Vc) = vCmp (fun z => decide (z ≤ 0)) ⟨ofB ⟨#[48, 49]⟩, false⟩ ⟨ofB ⟨#[49]⟩, false⟩ from Eq334.out.trans (by rw [Eq332.out, Eq333.out]))
 clear Oq332 Cq332 Lq332 Yq332 Oq333 Cq333 Lq333 Yq333
 refine zac (i := 188) (m' := 897227025082774077004235185431108788292322067340452264965558707098222591) rfl rfl ((vof_any ⟨#[49]⟩ _ (by decide)).mono ?_)
 rintro e w187 ⟨lq335, sq335, Aq335, cq335, Eq335, rfl, Cq335, Oq335, hb⟩
 refine ⟨_, rfl, hb, ?_⟩
 replace HC1 := zH HM1 HC1 hb
 replace Oq334 := zQ Oq334 hb
 replace HL := hide (VL.kept HL.out hb)
 replace Oq335 := hide Oq335.out.rd
 replace hU := zU hU hU.size hb
 clear hb
 obtain ⟨Lq335, Yq335⟩ := gly Eq335.out (gd_of (by decide +kernel))
 refine zav (i := 189) (m' := 897227025082774861641952108766204267765999968298754277759989265102536703) (v := .agg #[.slice Aq334 lq334.length cq334, .bool sq334, .slice Aq335 lq335.length cq335, .bool sq335]) F hQ rfl rfl ?_
 replace HL := hide (VL.cons Oq335.out (VL.cons Oq334.out HL.out))
 clear Oq334 Cq334 Yq334 Oq335 Cq335 Yq335
 refine zac (i := 190) (m' := 897227025082776430917385955436395226713355770215358303348850381111164927) rfl rfl ((vsof_any ⟨#[48]⟩ _ (by decide)).mono ?_)
 rintro e w188 ⟨lq337, sq337, Aq337, cq337, Eq337, rfl, Cq337, Oq337, hb⟩
 refine ⟨_, rfl, hb, ?_⟩
 replace HC1 := zH HM1 HC1 hb
 replace HL := hide (VL.kept HL.out hb)
 replace Oq337 := hide Oq337.out.rd
 replace hU := zU hU hU.size hb
 clear hb
 obtain ⟨Lq337, Yq337⟩ := gly Eq337.out (gd_of (by decide +kernel))
 refine zac (i := 191) (m' := 897227025082779569468253648776777144608067374048566354526572613128421375) rfl rfl ((vsof_any ⟨#[49]⟩ _ (by decide)).mono ?_)
 rintro e w189 ⟨lq338, sq338, Aq338, cq338, Eq338, rfl, Cq338, Oq338, hb⟩
 refine ⟨_, rfl, hb, ?_⟩
 replace HC1 := zH HM1 HC1 hb
 replace Oq337 := zQ Oq337 hb
 replace HL := hide (VL.kept HL.out hb)
 replace Oq338 := hide Oq338.out.rd
 replace hU := zU hU hU.size hb
 clear hb
 obtain ⟨Lq338, Yq338⟩ := gly Eq338.out (gd_of (by decide +kernel))
 refine zac (i := 192) (m' := 897227025082785846569989035457540980397490581714982456882017077162934271) rfl rfl ((vGt_any Aq337 Aq338 lq337 lq338 cq337 cq338 sq337 sq338 _ Lq337.out Lq338.out Cq337 Cq338 Oq337.out Oq338.out Yq337.out Yq338.out).mono ?_)
 rintro e w190 ⟨lq339, sq339, Aq339, cq339, Eq339, rfl, Cq339, Oq339, hb⟩
 refine ⟨_, rfl, hb, ?_⟩
 replace HC1 := zH HM1 HC1 hb
 replace Oq337 := zQ Oq337 hb
 replace Oq338 := zQ Oq338 hb
 replace HL := hide (VL.kept HL.out hb)
 replace Oq339 := hide Oq339.out.rd
 replace hU := zU hU hU.size hb
 clear hb
 obtain ⟨Lq339, Yq339⟩ := gly Eq339.out ((by rw [Eq337.out, Eq338.out]; exact gd_of (by decide +kernel)))
 replace Eq339 := hide (show (⟨lq339, sq339⟩ : Vc) = vCmp (fun z => decide (0 < z)) ⟨ofB ⟨#[48]⟩, true⟩ ⟨ofB ⟨#[49]⟩, true⟩ from Eq339.out.trans (by rw [Eq337.out, Eq338.out]))
 clear Oq337 Cq337 Lq337 Yq337 Oq338 Cq338 Lq338 Yq338
 refine zac (i := 193) (m' := 897227025082798400773459808819068651976336997047814661592906005231960063) rfl rfl ((vof_any ⟨#[49]⟩ _ (by decide)).mono ?_)
 rintro e w191 ⟨lq340, sq340, Aq340, cq340, Eq340, rfl, Cq340, Oq340, hb⟩
 refine ⟨_, rfl, hb, ?_⟩
 replace HC1 := zH HM1 HC1 hb
 replace Oq339 := zQ Oq339 hb
 replace HL := hide (VL.kept HL.out hb)
 replace Oq340 := hide Oq340.out.rd
 replace hU := zU hU hU.size hb
 clear hb
 obtain ⟨Lq340, Yq340⟩ := gly Eq340.out (gd_of (by decide +kernel))
 refine zav (i := 194) (m' := 897227025082823509180401355542123995134029827713479071014683861370011647) (v := .agg #[.slice Aq339 lq339.length cq339, .bool sq339, .slice Aq340 lq340.length cq340, .bool sq340]) F hQ rfl rfl ?_
 replace HL := hide (VL.cons Oq340.out (VL.cons Oq339.out HL.out))
 clear Oq339 Cq339 Yq339 Oq340 Cq340 Yq340
 refine zac (i := 195) (m' := 897227025082873725994284448988234681449415489044807889858239573646114815) rfl rfl ((vof_any ⟨#[49, 120]⟩ _ (by decide)).mono ?_)
 rintro e w192 ⟨lq342, sq342, Aq342, cq342, Eq342, rfl, Cq342, Oq342, hb⟩
 refine ⟨_, rfl, hb, ?_⟩
 replace HC1 := zH HM1 HC1 hb
 replace HL := hide (VL.kept HL.out hb)
 replace Oq342 := hide Oq342.out.rd
 replace hU := zU hU hU.size hb
 clear hb
 obtain ⟨Lq342, Yq342⟩ := gly Eq342.out (gd_of (by decide +kernel))
 refine zac (i := 196) (m' := 897227025082974159622050635880456054080186811707465527545350998198321151) rfl rfl ((vof_any ⟨#[48, 120]⟩ _ (by decide)).mono ?_)
 rintro e w193 ⟨lq343, sq343, Aq343, cq343, Eq343, rfl, Cq343, Oq343, hb⟩
 refine ⟨_, rfl, hb, ?_⟩
 replace HC1 := zH HM1 HC1 hb
 replace Oq342 := zQ Oq342 hb
 replace HL := hide (VL.kept HL.out hb)
 replace Oq343 := hide Oq343.out.rd
 replace hU := zU hU hU.size hb
 clear hb
 obtain ⟨Lq343, Yq343⟩ := gly Eq343.out (gd_of (by decide +kernel))
 refine zac (i := 197) (m' := 897227025083175026877583009664898799341729457032780802919573847302733823) rfl rfl ((vNe_any Aq342 Aq343 lq342 lq343 cq342 cq343 sq342 sq343 _ Lq342.out Lq343.out Cq342 Cq343 Oq342.out Oq343.out Yq342.out Yq343.out (HT.out.kept hU)).mono ?_)
 rintro e w194 ⟨lq344, sq344, Aq344, cq344, Eq344, rfl, Cq344, Oq344, hb⟩
 refine ⟨_, rfl, hb, ?_⟩
 replace HC1 := zH HM1 HC1 hb
 replace Oq342 := zQ Oq342 hb
 replace Oq343 := zQ Oq343 hb
 replace HL := hide (VL.kept HL.out hb)
 replace Oq344 := hide Oq344.out.rd
 replace hU := zU hU hU.size hb
 clear hb
 obtain ⟨Lq344, Yq344⟩ := gly Eq344.out ((by rw [Eq342.out, Eq343.out]; exact gd_of (by decide +kernel)))
 replace Eq344 := hide (show (⟨lq344, sq344⟩ : Vc) = sgl (mNot (red mAnd (btw mEq ⟨ofB ⟨#[49, 120]⟩, false⟩ ⟨ofB ⟨#[48, 120]⟩, false⟩))) from Eq344.out.trans (by rw [Eq342.out, Eq343.out]))
 clear Oq342 Cq342 Lq342 Yq342 Oq343 Cq343 Lq343 Yq343
 refine zac (i := 198) (m' := 897227025083576761388647757233784289864814747683411353668019545511559167) rfl rfl ((vof_any ⟨#[49]⟩ _ (by decide)).mono ?_)
 rintro e w195 ⟨lq345, sq345, Aq345, cq345, Eq345, rfl, Cq345, Oq345, hb⟩
 refine ⟨_, rfl, hb, ?_⟩
 replace HC1 := zH HM1 HC1 hb
 replace Oq344 := zQ Oq344 hb
 replace HL := hide (VL.kept HL.out hb)
 replace Oq345 := hide Oq345.out.rd
 replace hU := zU hU hU.size hb
 clear hb
 obtain ⟨Lq345, Yq345⟩ := gly Eq345.out (gd_of (by decide +kernel))
 refine zav (i := 199) (m' := 897227025084380230410777252371555270910985328984672455164910941929209855) (v := .agg #[.slice Aq344 lq344.length cq344, .bool sq344, .slice Aq345 lq345.length cq345, .bool sq345]) F hQ rfl rfl ?_
 replace HL := hide (VL.cons Oq345.out (VL.cons Oq344.out HL.out))
 clear Oq344 Cq344 Yq344 Oq345 Cq345 Yq345
 refine zac (i := 200) (m' := 897227025085987168455036242647097233003326491587194658158693734764511231) rfl rfl ((vof_any ⟨#[120]⟩ _ (by decide)).mono ?_)
 rintro e w196 ⟨lq347, sq347, Aq347, cq347, Eq347, rfl, Cq347, Oq347, hb⟩
 refine ⟨_, rfl, hb, ?_⟩
 replace HC1 := zH HM1 HC1 hb
 replace HL := hide (VL.kept HL.out hb)
 replace Oq347 := hide Oq347.out.rd
 replace hU := zU hU hU.size hb
 clear hb
 obtain ⟨Lq347, Yq347⟩ := gly Eq347.out (gd_of (by decide +kernel))
 refine zac (i := 201) (m' := 897227025089201044543554223198181157188008816792239064146259320435113983) rfl rfl ((vof_any ⟨#[122]⟩ _ (by decide)).mono ?_)
 rintro e w197 ⟨lq348, sq348, Aq348, cq348, Eq348, rfl, Cq348, Oq348, hb⟩
 refine ⟨_, rfl, hb, ?_⟩
 replace HC1 := zH HM1 HC1 hb
 replace Oq347 := zQ Oq347 hb
 replace HL := hide (VL.kept HL.out hb)
 replace Oq348 := hide Oq348.out.rd
 replace hU := zU hU hU.size hb
 clear hb
 obtain ⟨Lq348, Yq348⟩ := gly Eq348.out (gd_of (by decide +kernel))
 refine zac (i := 202) (m' := 897227025095628796720590184300349005557373467202327876121390491776319487) rfl rfl ((vCaseEq_any Aq347 Aq348 lq347 lq348 cq347 cq348 sq347 sq348 _ Lq347.out Lq348.out Cq347 Cq348 Oq347.out Oq348.out Yq347.out Yq348.out).mono ?_)
 rintro e w198 ⟨lq349, sq349, Aq349, cq349, Eq349, rfl, Cq349, Oq349, hb⟩
 refine ⟨_, rfl, hb, ?_⟩
 replace HC1 := zH HM1 HC1 hb
 replace Oq347 := zQ Oq347 hb
 replace Oq348 := zQ Oq348 hb
 replace HL := hide (VL.kept HL.out hb)
 replace Oq349 := hide Oq349.out.rd
 replace hU := zU hU hU.size hb
 clear hb
 obtain ⟨Lq349, Yq349⟩ := gly Eq349.out ((by rw [Eq347.out, Eq348.out]; exact gd_of (by decide +kernel)))
 replace Eq349 := hide (show (⟨lq349, sq349⟩ : Vc) = vCase ⟨ofB ⟨#[120]⟩, false⟩ ⟨ofB ⟨#[122]⟩, false⟩ from Eq349.out.trans (by rw [Eq347.out, Eq348.out]))
 clear Oq347 Cq347 Lq347 Yq347 Oq348 Cq348 Lq348 Yq348
 refine zac (i := 203) (m' := 897227025108484301074662106504684702296102768022505500071652834458730495) rfl rfl ((vof_any ⟨#[48]⟩ _ (by decide)).mono ?_)
 rintro e w199 ⟨lq350, sq350, Aq350, cq350, Eq350, rfl, Cq350, Oq350, hb⟩
 refine ⟨_, rfl, hb, ?_⟩
 replace HC1 := zH HM1 HC1 hb
 replace Oq349 := zQ Oq349 hb
 replace HL := hide (VL.kept HL.out hb)
 replace Oq350 := hide Oq350.out.rd
 replace hU := zU hU hU.size hb
 clear hb
 obtain ⟨Lq350, Yq350⟩ := gly Eq350.out (gd_of (by decide +kernel))
 refine zav (i := 204) (m' := 897227025134195309782805950913356095773561369662860747972177519823552511) (v := .agg #[.slice Aq349 lq349.length cq349, .bool sq349, .slice Aq350 lq350.length cq350, .bool sq350]) F hQ rfl rfl ?_
 replace HL := hide (VL.cons Oq350.out (VL.cons Oq349.out HL.out))
 clear Oq349 Cq349 Yq349 Oq350 Cq350 Yq350
 refine zac (i := 205) (m' := 897227025185617327199093639730698882728478572943571243773226890553196543) rfl rfl ((vsof_any ⟨#[122]⟩ _ (by decide)).mono ?_)
 rintro e w200 ⟨lq352, sq352, Aq352, cq352, Eq352, rfl, Cq352, Oq352, hb⟩
 refine ⟨_, rfl, hb, ?_⟩
 replace HC1 := zH HM1 HC1 hb
 replace HL := hide (VL.kept HL.out hb)
 replace Oq352 := hide Oq352.out.rd
 replace hU := zU hU hU.size hb
 clear hb
 obtain ⟨Lq352, Yq352⟩ := gly Eq352.out (gd_of (by decide +kernel))
 refine zac (i := 206) (m' := 897227025288461362031669017365384456638312979504992235375325632012484607) rfl rfl ((vsof_any ⟨#[122, 122]⟩ _ (by decide)).mono ?_)
 rintro e w201 ⟨lq353, sq353, Aq353, cq353, Eq353, rfl, Cq353, Oq353, hb⟩
 refine ⟨_, rfl, hb, ?_⟩
 replace HC1 := zH HM1 HC1 hb
 replace Oq352 := zQ Oq352 hb
 replace HL := hide (VL.kept HL.out hb)
 replace Oq353 := hide Oq353.out.rd
 replace hU := zU hU hU.size hb
 clear hb
 obtain ⟨Lq353, Yq353⟩ := gly Eq353.out (gd_of (by decide +kernel))
 refine zac (i := 207) (m' := 897227025494149431696819772634755604457981792627834218579523114931060735) rfl rfl ((vCaseNe_any Aq352 Aq353 lq352 lq353 cq352 cq353 sq352 sq353 _ Lq352.out Lq353.out Cq352 Cq353 Oq352.out Oq353.out Yq352.out Yq353.out (HT.out.kept hU)).mono ?_)
 rintro e w202 ⟨lq354, sq354, Aq354, cq354, Eq354, rfl, Cq354, Oq354, hb⟩
 refine ⟨_, rfl, hb, ?_⟩
 replace HC1 := zH HM1 HC1 hb
 replace Oq352 := zQ Oq352 hb
 replace Oq353 := zQ Oq353 hb
 replace HL := hide (VL.kept HL.out hb)
 replace Oq354 := hide Oq354.out.rd
 replace hU := zU hU hU.size hb
 clear hb
 obtain ⟨Lq354, Yq354⟩ := gly Eq354.out ((by rw [Eq352.out, Eq353.out]; exact gd_of (by decide +kernel)))
 replace Eq354 := hide (show (⟨lq354, sq354⟩ : Vc) = sgl (mNot (mFrom (mtc mSame ⟨ofB ⟨#[122]⟩, true⟩ ⟨ofB ⟨#[122, 122]⟩, true⟩))) from Eq354.out.trans (by rw [Eq352.out, Eq353.out]))
 clear Oq352 Cq352 Lq352 Yq352 Oq353 Cq353 Lq353 Yq353
 refine zac (i := 208) (m' := 897227025905525571027121283173497900097319418873518184987918080768212991) rfl rfl ((vof_any ⟨#[48]⟩ _ (by decide)).mono ?_)
 rintro e w203 ⟨lq355, sq355, Aq355, cq355, Eq355, rfl, Cq355, Oq355, hb⟩
 refine ⟨_, rfl, hb, ?_⟩
 replace HC1 := zH HM1 HC1 hb
 replace Oq354 := zQ Oq354 hb
 replace HL := hide (VL.kept HL.out hb)
 replace Oq355 := hide Oq355.out.rd
 replace hU := zU hU hU.size hb
 clear hb
 obtain ⟨Lq355, Yq355⟩ := gly Eq355.out (gd_of (by decide +kernel))
 refine zav (i := 209) (m' := 897227026728277849687724304250982491375994671364886117804708012442517503) (v := .agg #[.slice Aq354 lq354.length cq354, .bool sq354, .slice Aq355 lq355.length cq355, .bool sq355]) F hQ rfl rfl ?_
 replace HL := hide (VL.cons Oq355.out (VL.cons Oq354.out HL.out))
 clear Oq354 Cq354 Yq354 Oq355 Cq355 Yq355
 refine zac (i := 210) (m' := 897227028373782407008930346405951673933345176347621983438287875791126527) rfl rfl ((vof_any ⟨#[122]⟩ _ (by decide)).mono ?_)
 rintro e w204 ⟨lq357, sq357, Aq357, cq357, Eq357, rfl, Cq357, Oq357, hb⟩
 refine ⟨_, rfl, hb, ?_⟩
 replace HC1 := zH HM1 HC1 hb
 replace HL := hide (VL.kept HL.out hb)
 replace Oq357 := hide Oq357.out.rd
 replace hU := zU hU hU.size hb
 clear hb
 obtain ⟨Lq357, Yq357⟩ := gly Eq357.out (gd_of (by decide +kernel))
 refine zac (i := 211) (m' := 897227031664791521651342430715890039048046186313093714705447602488344575) rfl rfl ((vsof_any ⟨#[122, 122]⟩ _ (by decide)).mono ?_)
 rintro e w205 ⟨lq358, sq358, Aq358, cq358, Eq358, rfl, Cq358, Oq358, hb⟩
 refine ⟨_, rfl, hb, ?_⟩
 replace HC1 := zH HM1 HC1 hb
 replace Oq357 := zQ Oq357 hb
 replace HL := hide (VL.kept HL.out hb)
 replace Oq358 := hide Oq358.out.rd
 replace hU := zU hU hU.size hb
 clear hb
 obtain ⟨Lq358, Yq358⟩ := gly Eq358.out (gd_of (by decide +kernel))
 refine zac (i := 212) (m' := 897227038246809750936166599335766769277448206244037177239767055882780671) rfl rfl ((vCaseEq_any Aq357 Aq358 lq357 lq358 cq357 cq358 sq357 sq358 _ Lq357.out Lq358.out Cq357 Cq358 Oq357.out Oq358.out Yq357.out Yq358.out).mono ?_)
 rintro e w206 ⟨lq359, sq359, Aq359, cq359, Eq359, rfl, Cq359, Oq359, hb⟩
 refine ⟨_, rfl, hb, ?_⟩
 replace HC1 := zH HM1 HC1 hb
 replace Oq357 := zQ Oq357 hb
 replace Oq358 := zQ Oq358 hb
 replace HL := hide (VL.kept HL.out hb)
 replace Oq359 := hide Oq359.out.rd
 replace hU := zU hU hU.size hb
 clear hb
 obtain ⟨Lq359, Yq359⟩ := gly Eq359.out ((by rw [Eq357.out, Eq358.out]; exact gd_of (by decide +kernel)))
 replace Eq359 := hide (show (⟨lq359, sq359⟩ : Vc) = vCase ⟨ofB ⟨#[122]⟩, false⟩ ⟨ofB ⟨#[122, 122]⟩, true⟩ from Eq359.out.trans (by rw [Eq357.out, Eq358.out]))
 clear Oq357 Cq357 Lq357 Yq357 Oq358 Cq358 Lq358 Yq358
 refine zac (i := 213) (m' := 897227051410846209505814936575520229736252246105924102308405962671652863) rfl rfl ((vof_any ⟨#[48]⟩ _ (by decide)).mono ?_)
 rintro e w207 ⟨lq360, sq360, Aq360, cq360, Eq360, rfl, Cq360, Oq360, hb⟩
 refine ⟨_, rfl, hb, ?_⟩
 replace HC1 := zH HM1 HC1 hb
 replace Oq359 := zQ Oq359 hb
 replace HL := hide (VL.kept HL.out hb)
 replace Oq360 := hide Oq360.out.rd
 replace hU := zU hU hU.size hb
 clear hb
 obtain ⟨Lq360, Yq360⟩ := gly Eq360.out (gd_of (by decide +kernel))
 refine zav (i := 214) (m' := 897227077738919126645111611055027150653860325829697952445683776249397247) (v := .agg #[.slice Aq359 lq359.length cq359, .bool sq359, .slice Aq360 lq360.length cq360, .bool sq360]) F hQ rfl rfl ?_
 replace HL := hide (VL.cons Oq360.out (VL.cons Oq359.out HL.out))
 clear Oq359 Cq359 Yq359 Oq360 Cq360 Yq360
 refine zac (i := 215) (m' := 897227130395064960923704960014040992489076485277245652720239403404886015) rfl rfl ((vof_any ⟨#[48, 120]⟩ _ (by decide)).mono ?_)
 rintro e w208 ⟨lq362, sq362, Aq362, cq362, Eq362, rfl, Cq362, Oq362, hb⟩
 refine ⟨_, rfl, hb, ?_⟩
 replace HC1 := zH HM1 HC1 hb
 replace HL := hide (VL.kept HL.out hb)
 replace Oq362 := hide Oq362.out.rd
 replace hU := zU hU hU.size hb
 clear hb
 obtain ⟨Lq362, Yq362⟩ := gly Eq362.out (gd_of (by decide +kernel))
 refine zac (i := 216) (m' := 897227235707356629480891657932068676159508804172341053269350657715863551) rfl rfl ((vsof_any ⟨#[122, 49]⟩ _ (by decide)).mono ?_)
 rintro e w209 ⟨lq363, sq363, Aq363, cq363, Eq363, rfl, Cq363, Oq363, hb⟩
 refine ⟨_, rfl, hb, ?_⟩
 replace HC1 := zH HM1 HC1 hb
 replace Oq362 := zQ Oq362 hb
 replace HL := hide (VL.kept HL.out hb)
 replace Oq363 := hide Oq363.out.rd
 replace hU := zU hU hU.size hb
 clear hb
 obtain ⟨Lq363, Yq363⟩ := gly Eq363.out (gd_of (by decide +kernel))
 refine zac (i := 217) (m' := 897227446331939966595265053768124043500373441962531854367573166337818623) rfl rfl ((vsof_any ⟨#[48]⟩ _ (by decide)).mono ?_)
 rintro e w210 ⟨lq364, sq364, Aq364, cq364, Eq364, rfl, Cq364, Oq364, hb⟩
 refine ⟨_, rfl, hb, ?_⟩
 replace HC1 := zH HM1 HC1 hb
 replace Oq362 := zQ Oq362 hb
 replace Oq363 := zQ Oq363 hb
 replace HL := hide (VL.kept HL.out hb)
 replace Oq364 := hide Oq364.out.rd
 replace hU := zU hU hU.size hb
 clear hb
 obtain ⟨Lq364, Yq364⟩ := gly Eq364.out (gd_of (by decide +kernel))
 refine zac (i := 218) (m' := 897227867581106640824011845440234778182102717542913456564018183581728767) rfl rfl ((vCond_any Aq362 lq362 cq362 sq362 Aq363 Aq364 lq363 lq364 cq363 cq364 sq363 sq364 _ Lq363.out Lq364.out Cq363 Cq364 Oq363.out Oq364.out Yq363.out Yq364.out Lq362.out Cq362 Oq362.out Yq362.out (HT.out.kept hU)).mono ?_)
 rintro e w211 ⟨lq365, sq365, Aq365, cq365, Eq365, rfl, Cq365, Oq365, hb⟩
 refine ⟨_, rfl, hb, ?_⟩
 replace HC1 := zH HM1 HC1 hb
 replace Oq362 := zQ Oq362 hb
 replace Oq363 := zQ Oq363 hb
 replace Oq364 := zQ Oq364 hb
 replace HL := hide (VL.kept HL.out hb)
 replace Oq365 := hide Oq365.out.rd
 replace hU := zU hU hU.size hb
 clear hb
 obtain ⟨Lq365, Yq365⟩ := gly Eq365.out ((by rw [Eq362.out, Eq363.out, Eq364.out]; exact gd_of (by decide +kernel)))
 replace Eq365 := hide (show (⟨lq365, sq365⟩ : Vc) = vCond ⟨ofB ⟨#[48, 120]⟩, false⟩ ⟨ofB ⟨#[122, 49]⟩, true⟩ ⟨ofB ⟨#[48]⟩, true⟩ from Eq365.out.trans (by rw [Eq362.out, Eq363.out, Eq364.out]))
 clear Oq362 Cq362 Lq362 Yq362 Oq363 Cq363 Lq363 Yq363
 clear Oq364 Cq364 Lq364 Yq364
 refine zac (i := 219) (m' := 897228710079439989281505428784456247545561268703676660956908218069549055) rfl rfl ((vsof_any ⟨#[120, 120]⟩ _ (by decide)).mono ?_)
 rintro e w212 ⟨lq366, sq366, Aq366, cq366, Eq366, rfl, Cq366, Oq366, hb⟩
 refine ⟨_, rfl, hb, ?_⟩
 replace HC1 := zH HM1 HC1 hb
 replace Oq365 := zQ Oq365 hb
 replace HL := hide (VL.kept HL.out hb)
 replace Oq366 := hide Oq366.out.rd
 replace hU := zU hU hU.size hb
 clear hb
 obtain ⟨Lq366, Yq366⟩ := gly Eq366.out (gd_of (by decide +kernel))
 refine zav (i := 220) (m' := 897230395076106686196492595472899186272478371025203069742688287045189631) (v := .agg #[.slice Aq365 lq365.length cq365, .bool sq365, .slice Aq366 lq366.length cq366, .bool sq366]) F hQ rfl rfl ?_
 replace HL := hide (VL.cons Oq366.out (VL.cons Oq365.out HL.out))
 clear Oq365 Cq365 Yq365 Oq366 Cq366 Yq366
 refine zac (i := 221) (m' := 897233765069440080026466928849785063726312575668255887314248424996470783) rfl rfl ((vof_any ⟨#[49, 120]⟩ _ (by decide)).mono ?_)
 rintro e w213 ⟨lq368, sq368, Aq368, cq368, Eq368, rfl, Cq368, Oq368, hb⟩
 refine ⟨_, rfl, hb, ?_⟩
 replace HC1 := zH HM1 HC1 hb
 replace HL := hide (VL.kept HL.out hb)
 replace Oq368 := hide Oq368.out.rd
 replace hU := zU hU hU.size hb
 clear hb
 obtain ⟨Lq368, Yq368⟩ := gly Eq368.out (gd_of (by decide +kernel))
 refine zac (i := 222) (m' := 897240505056106867686415595603556818633980984954361522457368700899033087) rfl rfl ((vof_any ⟨#[122, 49]⟩ _ (by decide)).mono ?_)
 rintro e w214 ⟨lq369, sq369, Aq369, cq369, Eq369, rfl, Cq369, Oq369, hb⟩
 refine ⟨_, rfl, hb, ?_⟩
 replace HC1 := zH HM1 HC1 hb
 replace Oq368 := zQ Oq368 hb
 replace HL := hide (VL.kept HL.out hb)
 replace Oq369 := hide Oq369.out.rd
 replace hU := zU hU hU.size hb
 clear hb
 obtain ⟨Lq369, Yq369⟩ := gly Eq369.out (gd_of (by decide +kernel))
 refine zac (i := 223) (m' := 897253985029440443006312929111100328449317803526572792743609252704157695) rfl rfl ((vof_any ⟨#[48, 48, 48]⟩ _ (by decide)).mono ?_)
 rintro e w215 ⟨lq370, sq370, Aq370, cq370, Eq370, rfl, Cq370, Oq370, hb⟩
 refine ⟨_, rfl, hb, ?_⟩
 replace HC1 := zH HM1 HC1 hb
 replace Oq368 := zQ Oq368 hb
 replace Oq369 := zQ Oq369 hb
 replace HL := hide (VL.kept HL.out hb)
 replace Oq370 := hide Oq370.out.rd
 replace hU := zU hU hU.size hb
 clear hb
 obtain ⟨Lq370, Yq370⟩ := gly Eq370.out (gd_of (by decide +kernel))
 refine zac (i := 224) (m' := 897280944976107593646107596126187348079991440670995333316090356314406911) rfl rfl ((vCond_any Aq368 lq368 cq368 sq368 Aq369 Aq370 lq369 lq370 cq369 cq370 sq369 sq370 _ Lq369.out Lq370.out Cq369 Cq370 Oq369.out Oq370.out Yq369.out Yq370.out Lq368.out Cq368 Oq368.out Yq368.out (HT.out.kept hU)).mono ?_)
 rintro e w216 ⟨lq371, sq371, Aq371, cq371, Eq371, rfl, Cq371, Oq371, hb⟩
 refine ⟨_, rfl, hb, ?_⟩
 replace HC1 := zH HM1 HC1 hb
 replace Oq368 := zQ Oq368 hb
 replace Oq369 := zQ Oq369 hb
 replace Oq370 := zQ Oq370 hb
 replace HL := hide (VL.kept HL.out hb)
 replace Oq371 := hide Oq371.out.rd
 replace hU := zU hU hU.size hb
 clear hb
 obtain ⟨Lq371, Yq371⟩ := gly Eq371.out ((by rw [Eq368.out, Eq369.out, Eq370.out]; exact gd_of (by decide +kernel)))
 replace Eq371 := hide (show (⟨lq371, sq371⟩ : Vc) = vCond ⟨ofB ⟨#[49, 120]⟩, false⟩ ⟨ofB ⟨#[122, 49]⟩, false⟩ ⟨ofB ⟨#[48, 48, 48]⟩, false⟩ from Eq371.out.trans (by rw [Eq368.out, Eq369.out, Eq370.out]))
 clear Oq368 Cq368 Lq368 Yq368 Oq369 Cq369 Lq369 Yq369
 clear Oq370 Cq370 Lq370 Yq370
 refine zac (i := 225) (m' := 897334864869441894925696930156361387341338714959840414461052563534905343) rfl rfl ((vof_any ⟨#[48, 122, 49]⟩ _ (by decide)).mono ?_)
 rintro e w217 ⟨lq372, sq372, Aq372, cq372, Eq372, rfl, Cq372, Oq372, hb⟩
 refine ⟨_, rfl, hb, ?_⟩
 replace HC1 := zH HM1 HC1 hb
 replace Oq371 := zQ Oq371 hb
 replace HL := hide (VL.kept HL.out hb)
 replace Oq372 := hide Oq372.out.rd
 replace hU := zU hU hU.size hb
 clear hb
 obtain ⟨Lq372, Yq372⟩ := gly Eq372.out (gd_of (by decide +kernel))
 refine zav (i := 226) (m' := 897442704656110497484875598216709465864033263537530576750976977975902207) (v := .agg #[.slice Aq371 lq371.length cq371, .bool sq371, .slice Aq372 lq372.length cq372, .bool sq372]) F hQ rfl rfl ?_
 replace HL := hide (VL.cons Oq372.out (VL.cons Oq371.out HL.out))
 clear Oq371 Cq371 Yq371 Oq372 Cq372 Yq372
 refine zac (i := 227) (m' := 897658384229447702603232934337405622909422360692910901330825806857895935) rfl rfl ((vof_any ⟨#[48]⟩ _ (by decide)).mono ?_)
 rintro e w218 ⟨lq374, sq374, Aq374, cq374, Eq374, rfl, Cq374, Oq374, hb⟩
 refine ⟨_, rfl, hb, ?_⟩
 replace HC1 := zH HM1 HC1 hb
 replace HL := hide (VL.kept HL.out hb)
 replace Oq374 := hide Oq374.out.rd
 replace hU := zU hU hU.size hb
 clear hb
 obtain ⟨Lq374, Yq374⟩ := gly Eq374.out (gd_of (by decide +kernel))
 refine zac (i := 228) (m' := 898089743376122112839947606578797937000200555003671550490523464621883391) rfl rfl ((vof_any ⟨#[49, 49]⟩ _ (by decide)).mono ?_)
 rintro e w219 ⟨lq375, sq375, Aq375, cq375, Eq375, rfl, Cq375, Oq375, hb⟩
 refine ⟨_, rfl, hb, ?_⟩
 replace HC1 := zH HM1 HC1 hb
 replace Oq374 := zQ Oq374 hb
 replace HL := hide (VL.kept HL.out hb)
 replace Oq375 := hide Oq375.out.rd
 replace hU := zU hU hU.size hb
 clear hb
 obtain ⟨Lq375, Yq375⟩ := gly Eq375.out (gd_of (by decide +kernel))
 refine zac (i := 229) (m' := 898952461669470933313376951061582565181756943625192848809918780149858303) rfl rfl ((vsof_any ⟨#[49]⟩ _ (by decide)).mono ?_)
 rintro e w220 ⟨lq376, sq376, Aq376, cq376, Eq376, rfl, Cq376, Oq376, hb⟩
 refine ⟨_, rfl, hb, ?_⟩
 replace HC1 := zH HM1 HC1 hb
 replace Oq374 := zQ Oq374 hb
 replace Oq375 := zQ Oq375 hb
 replace HL := hide (VL.kept HL.out hb)
 replace Oq376 := hide Oq376.out.rd
 replace hU := zU hU hU.size hb
 clear hb
 obtain ⟨Lq376, Yq376⟩ := gly Eq376.out (gd_of (by decide +kernel))
 refine zac (i := 230) (m' := 900677898256168574260235640027151821544869720868235445448709411205808127) rfl rfl ((vCond_any Aq374 lq374 cq374 sq374 Aq375 Aq376 lq375 lq376 cq375 cq376 sq375 sq376 _ Lq375.out Lq376.out Cq375 Cq376 Oq375.out Oq376.out Yq375.out Yq376.out Lq374.out Cq374 Oq374.out Yq374.out (HT.out.kept hU)).mono ?_)
 rintro e w221 ⟨lq377, sq377, Aq377, cq377, Eq377, rfl, Cq377, Oq377, hb⟩
 refine ⟨_, rfl, hb, ?_⟩
 replace HC1 := zH HM1 HC1 hb
 replace Oq374 := zQ Oq374 hb
 replace Oq375 := zQ Oq375 hb
 replace Oq376 := zQ Oq376 hb
 replace HL := hide (VL.kept HL.out hb)
 replace Oq377 := hide Oq377.out.rd
 replace hU := zU hU hU.size hb
 clear hb
 obtain ⟨Lq377, Yq377⟩ := gly Eq377.out ((by rw [Eq374.out, Eq375.out, Eq376.out]; exact gd_of (by decide +kernel)))
 replace Eq377 := hide (show (⟨lq377, sq377⟩ : Vc) = vCond ⟨ofB ⟨#[48]⟩, false⟩ ⟨ofB ⟨#[49, 49]⟩, false⟩ ⟨ofB ⟨#[49]⟩, true⟩ from Eq377.out.trans (by rw [Eq374.out, Eq375.out, Eq376.out]))
 clear Oq374 Cq374 Lq374 Yq374 Oq375 Cq375 Lq375 Yq375
 clear Oq376 Cq376 Lq376 Yq376
 refine zac (i := 231) (m' := 904128771429563856153953017958290334271095275354320638726290673317707775) rfl rfl ((vof_any ⟨#[48, 49]⟩ _ (by decide)).mono ?_)
 rintro e w222 ⟨lq378, sq378, Aq378, cq378, Eq378, rfl, Cq378, Oq378, hb⟩
 refine ⟨_, rfl, hb, ?_⟩
 replace HC1 := zH HM1 HC1 hb
 replace Oq377 := zQ Oq377 hb
 replace HL := hide (VL.kept HL.out hb)
 replace Oq378 := hide Oq378.out.rd
 replace hU := zU hU hU.size hb
 clear hb
 obtain ⟨Lq378, Yq378⟩ := gly Eq378.out (gd_of (by decide +kernel))
 refine zav (i := 232) (m' := 911030517776354419941387773820567359723546384326491025281453197541507071) (v := .agg #[.slice Aq377 lq377.length cq377, .bool sq377, .slice Aq378 lq378.length cq378, .bool sq378]) F hQ rfl rfl ?_
 replace HL := hide (VL.cons Oq378.out (VL.cons Oq377.out HL.out))
 clear Oq377 Cq377 Yq377 Oq378 Cq378 Yq378
 refine zac (i := 234) (m' := 938637503163516675091126797269675461533350820215172571502103294436704255) rfl rfl ((vWithSign_any true Akk lkk ckk skk _ Lkk.out Ckk (p1_kk w222 HC1.out) Ykk.out).mono ?_)
 rintro e w223 ⟨lq381, sq381, Aq381, cq381, Eq381, rfl, Cq381, Oq381, hb⟩
 refine ⟨_, rfl, hb, ?_⟩
 replace HC1 := zH HM1 HC1 hb
 replace HL := hide (VL.kept HL.out hb)
 replace Oq381 := hide Oq381.out.rd
 replace hU := zU hU hU.size hb
 clear hb
 obtain ⟨Lq381, Yq381⟩ := gly Eq381.out ((by rw [Ekk.out]; exact gd_of (by decide +kernel)))
 replace Eq381 := hide (show (⟨lq381, sq381⟩ : Vc) = ⟨(cnt ⟨[0, 4], true⟩).b, true⟩ from Eq381.out.trans (by rw [Ekk.out]))
 refine zac (i := 235) (m' := 993851473937841185390604844167891665152959691992535663943403488227098623) rfl rfl ((vsof_any ⟨#[120]⟩ _ (by decide)).mono ?_)
 rintro e w224 ⟨lq382, sq382, Aq382, cq382, Eq382, rfl, Cq382, Oq382, hb⟩
 refine ⟨_, rfl, hb, ?_⟩
 replace HC1 := zH HM1 HC1 hb
 replace Oq381 := zQ Oq381 hb
 replace HL := hide (VL.kept HL.out hb)
 replace Oq382 := hide Oq382.out.rd
 replace hU := zU hU hU.size hb
 clear hb
 obtain ⟨Lq382, Yq382⟩ := gly Eq382.out (gd_of (by decide +kernel))
 refine zav (i := 236) (m' := 1104279415486490205989560937964324072392177435547261848826003875807887359) (v := .agg #[.slice Aq381 lq381.length cq381, .bool sq381, .slice Aq382 lq382.length cq382, .bool sq382]) F hQ rfl rfl ?_
 replace HL := hide (VL.cons Oq382.out (VL.cons Oq381.out HL.out))
 clear Oq381 Cq381 Yq381 Oq382 Cq382 Yq382
 exact hK _ _ (lk_drop 66 _ (by kernel_rfl)) lq319 sq319 Aq319 cq319 lq320 sq320 Aq320 cq320 lq324 sq324 Aq324 cq324 lq325 sq325 Aq325 cq325 lq329 sq329 Aq329 cq329 lq330 sq330 Aq330 cq330 lq334 sq334 Aq334 cq334 lq335 sq335 Aq335 cq335 lq339 sq339 Aq339 cq339 lq340 sq340 Aq340 cq340 lq344 sq344 Aq344 cq344 lq345 sq345 Aq345 cq345 lq349 sq349 Aq349 cq349 lq350 sq350 Aq350 cq350 lq354 sq354 Aq354 cq354 lq355 sq355 Aq355 cq355 lq359 sq359 Aq359 cq359 lq360 sq360 Aq360 cq360 lq365 sq365 Aq365 cq365 lq366 sq366 Aq366 cq366 lq371 sq371 Aq371 cq371 lq372 sq372 Aq372 cq372 lq377 sq377 Aq377 cq377 lq378 sq378 Aq378 cq378 lq381 sq381 Aq381 cq381 lq382 sq382 Aq382 cq382 (Kp_c (by kernel_rfl) (Kp_c (by kernel_rfl) (Kp_c (by kernel_rfl) (Kp_c (by kernel_rfl) (Kp_c (by kernel_rfl) (Kp_c (by kernel_rfl) (Kp_c (by kernel_rfl) (Kp_c (by kernel_rfl) (Kp_c (by kernel_rfl) (Kp_c (by kernel_rfl) (Kp_c (by kernel_rfl) (Kp_c (by kernel_rfl) (Kp_c (by kernel_rfl) (Kp_n)))))))))))))) hU HL HC1 Eq319 Eq320 Eq324 Eq325 Eq329 Eq330 Eq334 Eq335 Eq339 Eq340 Eq344 Eq345 Eq349 Eq350 Eq354 Eq355 Eq359 Eq360 Eq365 Eq366 Eq371 Eq372 Eq377 Eq378 Eq381 Eq382 Lq319 Lq320 Lq324 Lq325 Lq329 Lq330 Lq334 Lq335 Lq339 Lq340 Lq344 Lq345 Lq349 Lq350 Lq354 Lq355 Lq359 Lq360 Lq365 Lq366 Lq371 Lq372 Lq377 Lq378 Lq381 Lq382
end Go.Proofs.YtpiakebbndoecaaGreatDoor
