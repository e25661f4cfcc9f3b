/-
  VecED.
-/
import Derived.Test.YtpiakebbndoecaaGreatDoorMEVecEC
set_option linter.unusedVariables false
set_option linter.unusedSimpArgs false
set_option linter.unusedSectionVars false
namespace Go.Proofs.YtpiakebbndoecaaGreatDoor
open Go.RowKit
set_option maxRecDepth 100000
set_option linter.unusedSimpArgs false
set_option linter.unusedVariables false
set_option maxHeartbeats 64000000 in
theorem VecExamples_walk (w : World) (tn : Tab1 2 mNot w) (tb : Tab1 5 mBuf w) (ta : Tab2 3 mAnd w) (tO : Tab2 0 mOr w) (tx : Tab2 4 mXor w) (tg : Tab2 1 mAgree w) : Calls Tryz.prog 7 #[] w (Mk (.bool true) w) := by
 have HT := hide (show Tabs w from ⟨tn, tb, ta, tO, tx, tg⟩)
 clear tn tb ta tO tx tg
 have hU : Below w.heap.size w w := Below.refl _ _
 refine calls_sl (l := []) 523 Tryz.func7 rfl (by kernel_rfl) (by simp) (zs (z1 [(0, z_f)] (ze (wp_seq (wp_seq ?_)))))
 refine reg_lit ?_
 refine zc rfl ((vawake_any _ (HT.out.kept hU)).mono ?_)
 rintro e w1 ⟨rfl, hb⟩
 refine ⟨_, rfl, ?_⟩
 replace hU := zU hU hU.size hb
 clear hb
 refine z3 [(40, z_f), (39, z_f), (38, z_f)] (ze (zif (wp_skip (then_normal (zs ?_)))))
 refine zc rfl ((rfill_any 1 129 false _ (by decide)).mono ?_)
 rintro e w2 ⟨lq41, sq41, Aq41, cq41, Eq41, rfl, Cq41, Oq41, hb⟩
 refine ⟨_, rfl, ?_⟩
 replace Oq41 := hide Oq41.out.rd
 replace hU := zU hU hU.size hb
 clear hb
 have g : By lq41 ∧ lq41.length ≤ 4096 := by have h := congrArg Vc.b Eq41.out; dsimp only at h; rw [h]; exact (by_of (by decide +kernel))
 have Lq41 := hide g.2
 have Yq41 := hide g.1
 clear g
 refine wpl_bsq2 0 4 rfl (by kernel_rfl) rfl (by kernel_rfl) (by kernel_rfl) ?_
 intro w3 Akk lkk ckk El Ckk Okk hb
 replace Okk := hide Okk
 replace Oq41 := zQ Oq41 hb
 replace hU := zU hU hU.size hb
 clear hb
 obtain ⟨skk, hsk⟩ : ∃ s, s = true := ⟨_, rfl⟩
 have Ekk := hide (show (⟨lkk, skk⟩ : Vc) = ⟨[0, 4], true⟩ by rw [El.out, hsk])
 have g : By lkk ∧ lkk.length ≤ 4096 := by rw [El.out]; exact (by_of (by decide +kernel))
 have Lkk := hide g.2
 have Ykk := hide g.1
 clear g El
 refine z1 [(43, .agg #[.slice Akk lkk.length ckk, .bool true])] (wpl_al rfl (by kernel_rfl) rfl ?_)
 intro w4 Nwi Bwi hNwi hb
 replace Bwi := hide Bwi
 replace Oq41 := zQ Oq41 hb
 replace Okk := zQ Okk hb
 have hzwi : w.heap.size ≤ Nwi := Nat.le_trans hU.size hNwi
 clear hNwi
 replace hU := zU hU hU.size hb
 clear hb
 refine wpl_al rfl (by kernel_rfl) rfl ?_
 intro w5 Nba Bba hNba hb
 replace Bba := hide Bba
 have newiba : Nwi ≠ Nba := by have := Bwi.out.lt; omega
 replace Oq41 := zQ Oq41 hb
 replace Okk := zQ Okk hb
 replace Bwi := zX Bwi hb
 have hzba : w.heap.size ≤ Nba := Nat.le_trans hU.size hNba
 clear hNba
 replace hU := zU hU hU.size hb
 clear hb
 refine wpl_st Bwi.out rfl (by kernel_rfl) rfl (by kernel_rfl) (A2 := Aq41) (m2 := lq41.length) (c2 := cq41) (s2 := sq41) (by kernel_rfl) ?_
 intro w6 hst
 replace Oq41 := hide (hst.rq Oq41.out)
 replace Okk := hide (hst.rq Okk.out)
 replace Bba := hide (hst.ne Bba.out (by first | exact nebawi | exact (Ne.symm newiba) | assumption | (exact Ne.symm (by assumption)) | omega))
 replace Bwi := hide hst.box
 replace hU := hU.trans (hst.bel hzwi)
 clear hst
 refine wpl_st Bba.out rfl (by kernel_rfl) rfl (by kernel_rfl) (A2 := Akk) (m2 := lkk.length) (c2 := ckk) (s2 := true) (by kernel_rfl) ?_
 intro w7 hst
 replace Oq41 := hide (hst.rq Oq41.out)
 replace Okk := hide (hst.rq Okk.out)
 replace Bwi := hide (hst.ne Bwi.out (by first | exact newiba | exact (Ne.symm nebawi) | assumption | (exact Ne.symm (by assumption)) | omega))
 replace Bba := hide hst.box
 replace hU := hU.trans (hst.bel hzba)
 clear hst
 refine ze (wp_seq ?_)
 replace Bba := hide (show Box Nba Akk lkk.length ckk skk w7 by rw [hsk]; exact Bba.out)
 refine reg_lit ?_
 refine zc rfl ((xFromE 1 0 false _ (by decide) (by decide) (by decide)).mono ?_)
 rintro e w8 ⟨lq45, sq45, Aq45, cq45, Eq45, rfl, Cq45, Oq45, hb⟩
 refine ⟨_, rfl, ?_⟩
 replace Oq41 := zQ Oq41 hb
 replace Okk := zQ Okk hb
 replace Bwi := zX Bwi hb
 replace Bba := zX Bba hb
 replace Oq45 := hide Oq45.out.rd
 replace hU := zU hU hU.size hb
 clear hb
 refine z3 [(47, .int .i64 12), (46, .agg #[.slice Aq45 lq45.length cq45, .bool sq45]), (44, .tuple #[.agg #[.slice Aq45 lq45.length cq45, .bool sq45], .int .i64 12])] (zm (A := Aq45) (m := lq45.length) (c := cq45) (s := sq45) rfl rfl rfl ?_)
 intro w9 Nq45 Bq45 hNq45 hb
 replace Bq45 := hide Bq45
 replace Oq41 := zQ Oq41 hb
 replace Okk := zQ Okk hb
 replace Oq45 := zQ Oq45 hb
 replace Bwi := zX Bwi hb
 replace Bba := zX Bba hb
 have hzq45 : w.heap.size ≤ Nq45 := Nat.le_trans hU.size hNq45
 clear hNq45
 replace hU := zU hU hU.size hb
 clear hb
 refine z1 [(4, .int .i64 12)] (ze (wp_seq ?_))
 clear Bq45 Oq45 Cq45 Eq45
 refine reg_lit ?_
 refine zc rfl ((xUnknownE 129 false _ (by decide)).mono ?_)
 rintro e w10 ⟨lq49, sq49, Aq49, cq49, Eq49, rfl, Cq49, Oq49, hb⟩
 refine ⟨_, rfl, ?_⟩
 replace Oq41 := zQ Oq41 hb
 replace Okk := zQ Okk hb
 replace Bwi := zX Bwi hb
 replace Bba := zX Bba hb
 replace Oq49 := hide Oq49.out.rd
 replace hU := zU hU hU.size hb
 clear hb
 refine z3 [(51, .int .i64 12), (50, .agg #[.slice Aq49 lq49.length cq49, .bool sq49]), (48, .tuple #[.agg #[.slice Aq49 lq49.length cq49, .bool sq49], .int .i64 12])] (zm (A := Aq49) (m := lq49.length) (c := cq49) (s := sq49) rfl rfl rfl ?_)
 intro w11 Nq49 Bq49 hNq49 hb
 replace Bq49 := hide Bq49
 replace Oq41 := zQ Oq41 hb
 replace Okk := zQ Okk hb
 replace Oq49 := zQ Oq49 hb
 replace Bwi := zX Bwi hb
 replace Bba := zX Bba hb
 have hzq49 : w.heap.size ≤ Nq49 := Nat.le_trans hU.size hNq49
 clear hNq49
 replace hU := zU hU hU.size hb
 clear hb
 refine z1 [(6, .int .i64 12)] (ze (wp_seq ?_))
 clear Bq49 Oq49 Cq49 Eq49
 refine reg_lit ?_
 refine zc rfl ((vof_any ⟨#[49]⟩ _ (by decide)).mono ?_)
 rintro e w12 ⟨lq53, sq53, Aq53, cq53, Eq53, rfl, Cq53, Oq53, hb⟩
 refine ⟨_, rfl, ?_⟩
 replace Oq41 := zQ Oq41 hb
 replace Okk := zQ Okk hb
 replace Bwi := zX Bwi hb
 replace Bba := zX Bba hb
 replace Oq53 := hide Oq53.out.rd
 replace hU := zU hU hU.size hb
 clear hb
 obtain ⟨Lq53, Yq53⟩ := gly Eq53.out (gd_of (by decide +kernel))
 refine zc rfl ((xResize 12 0 Aq53 lq53 cq53 sq53 _ Lq53.out Cq53 Oq53.out Yq53.out (by decide)).mono ?_)
 rintro e w13 ⟨lq54, sq54, Aq54, cq54, Eq54, rfl, Cq54, Oq54, hb⟩
 refine ⟨_, rfl, ?_⟩
 replace Oq41 := zQ Oq41 hb
 replace Okk := zQ Okk hb
 replace Oq53 := zQ Oq53 hb
 replace Bwi := zX Bwi hb
 replace Bba := zX Bba hb
 replace Oq54 := hide Oq54.out.rd
 replace hU := zU hU hU.size hb
 clear hb Oq53 Cq53 Lq53 Yq53
 refine z3 [(56, .int .i64 12), (55, .agg #[.slice Aq54 lq54.length cq54, .bool sq54]), (52, .tuple #[.agg #[.slice Aq54 lq54.length cq54, .bool sq54], .int .i64 12])] (zm (A := Aq54) (m := lq54.length) (c := cq54) (s := sq54) rfl rfl rfl ?_)
 intro w14 Nq54 Bq54 hNq54 hb
 replace Bq54 := hide Bq54
 replace Oq41 := zQ Oq41 hb
 replace Okk := zQ Okk hb
 replace Oq54 := zQ Oq54 hb
 replace Bwi := zX Bwi hb
 replace Bba := zX Bba hb
 have hzq54 : w.heap.size ≤ Nq54 := Nat.le_trans hU.size hNq54
 clear hNq54
 replace hU := zU hU hU.size hb
 clear hb
 refine z1 [(8, .int .i64 12)] (ze (wp_seq ?_))
 clear Bq54 Oq54 Cq54 Eq54
 refine reg_lit ?_
 refine zc rfl ((vConcat_nil 0 _).mono ?_)
 rintro e w15 ⟨lq58, sq58, Aq58, cq58, Eq58, rfl, Cq58, Oq58, hb⟩
 refine ⟨_, rfl, ?_⟩
 replace Oq41 := zQ Oq41 hb
 replace Okk := zQ Okk hb
 replace Bwi := zX Bwi hb
 replace Bba := zX Bba hb
 replace Oq58 := hide Oq58.out.rd
 replace hU := zU hU hU.size hb
 clear hb
 refine z3 [(60, .int .i64 4), (59, .agg #[.slice Aq58 lq58.length cq58, .bool sq58]), (57, .tuple #[.agg #[.slice Aq58 lq58.length cq58, .bool sq58], .int .i64 4])] (zm (A := Aq58) (m := lq58.length) (c := cq58) (s := sq58) rfl rfl rfl ?_)
 intro w16 Nq58 Bq58 hNq58 hb
 replace Bq58 := hide Bq58
 replace Oq41 := zQ Oq41 hb
 replace Okk := zQ Okk hb
 replace Oq58 := zQ Oq58 hb
 replace Bwi := zX Bwi hb
 replace Bba := zX Bba hb
 have hzq58 : w.heap.size ≤ Nq58 := Nat.le_trans hU.size hNq58
 clear hNq58
 replace hU := zU hU hU.size hb
 clear hb
 refine z1 [(10, .int .i64 4)] (ze (wp_seq ?_))
 clear Bq58 Oq58 Cq58 Eq58
 refine reg_lit ?_
 refine zc rfl ((rfill_any 1 128 false _ (by decide)).mono ?_)
 rintro e w17 ⟨lq62, sq62, Aq62, cq62, Eq62, rfl, Cq62, Oq62, hb⟩
 refine ⟨_, rfl, ?_⟩
 replace Oq41 := zQ Oq41 hb
 replace Okk := zQ Okk hb
 replace Bwi := zX Bwi hb
 replace Bba := zX Bba hb
 replace Oq62 := hide Oq62.out.rd
 replace hU := zU hU hU.size hb
 clear hb
 obtain ⟨Lq62, Yq62⟩ := gly Eq62.out (gd_of (by decide +kernel))
 refine zc rfl ((vof_any ⟨#[49]⟩ _ (by decide)).mono ?_)
 rintro e w18 ⟨lq63, sq63, Aq63, cq63, Eq63, rfl, Cq63, Oq63, hb⟩
 refine ⟨_, rfl, ?_⟩
 replace Oq41 := zQ Oq41 hb
 replace Okk := zQ Okk hb
 replace Oq62 := zQ Oq62 hb
 replace Bwi := zX Bwi hb
 replace Bba := zX Bba hb
 replace Oq63 := hide Oq63.out.rd
 replace hU := zU hU hU.size hb
 clear hb
 obtain ⟨Lq63, Yq63⟩ := gly Eq63.out (gd_of (by decide +kernel))
 refine wpl_bs2 rfl (by kernel_rfl) rfl (A0 := Aq62) (l0 := lq62) (c0 := cq62) (s0 := sq62) (A1 := Aq63) (l1 := lq63) (c1 := cq63) (s1 := sq63) (by kernel_rfl) (by kernel_rfl) Oq62.out Yq62.out Lq62.out Cq62 Oq63.out Yq63.out Lq63.out Cq63 ?_
 intro w19 NV19 RV19 hlV19 hNV19 hb
 replace RV19 := hide RV19
 replace Oq41 := zQ Oq41 hb
 replace Okk := zQ Okk hb
 replace Oq62 := zQ Oq62 hb
 replace Oq63 := zQ Oq63 hb
 replace Bwi := zX Bwi hb
 replace Bba := zX Bba hb
 replace hU := zU hU hU.size hb
 clear hb hNV19
 refine zc rfl ((xConcat 12 NV19 2 [(Aq62, lq62, cq62, sq62), (Aq63, lq63, cq63, sq63)] _ hlV19 (by simp) (by simp) RV19.out (by show cte [⟨lq62, sq62⟩, ⟨lq63, sq63⟩] = 12; rw [Eq62.out, Eq63.out]; decide +kernel)).mono ?_)
 rintro e w20 ⟨lq65, sq65, Aq65, cq65, Eq65, rfl, Cq65, Oq65, hb⟩
 refine ⟨_, rfl, ?_⟩
 replace Oq41 := zQ Oq41 hb
 replace Okk := zQ Okk hb
 replace Oq62 := zQ Oq62 hb
 replace Oq63 := zQ Oq63 hb
 replace Bwi := zX Bwi hb
 replace Bba := zX Bba hb
 replace Oq65 := hide Oq65.out.rd
 replace hU := zU hU hU.size hb
 clear hb RV19 hlV19
 clear Oq62 Cq62 Lq62 Yq62 Oq63 Cq63 Lq63 Yq63
 refine z3 [(67, .int .i64 12), (66, .agg #[.slice Aq65 lq65.length cq65, .bool sq65]), (61, .tuple #[.agg #[.slice Aq65 lq65.length cq65, .bool sq65], .int .i64 12])] (zm (A := Aq65) (m := lq65.length) (c := cq65) (s := sq65) rfl rfl rfl ?_)
 intro w21 Nq65 Bq65 hNq65 hb
 replace Bq65 := hide Bq65
 replace Oq41 := zQ Oq41 hb
 replace Okk := zQ Okk hb
 replace Oq65 := zQ Oq65 hb
 replace Bwi := zX Bwi hb
 replace Bba := zX Bba hb
 have hzq65 : w.heap.size ≤ Nq65 := Nat.le_trans hU.size hNq65
 clear hNq65
 replace hU := zU hU hU.size hb
 clear hb
 refine z1 [(12, .int .i64 12)] (ze (wp_seq ?_))
 clear Bq65 Oq65 Cq65 Eq65
 refine reg_lit ?_
 refine zc rfl ((vof_any ⟨#[49, 48]⟩ _ (by decide)).mono ?_)
 rintro e w22 ⟨lq69, sq69, Aq69, cq69, Eq69, rfl, Cq69, Oq69, hb⟩
 refine ⟨_, rfl, ?_⟩
 replace Oq41 := zQ Oq41 hb
 replace Okk := zQ Okk hb
 replace Bwi := zX Bwi hb
 replace Bba := zX Bba hb
 replace Oq69 := hide Oq69.out.rd
 replace hU := zU hU hU.size hb
 clear hb
 obtain ⟨Lq69, Yq69⟩ := gly Eq69.out (gd_of (by decide +kernel))
 refine zc rfl ((xRepeat 1 0 Aq69 lq69 cq69 sq69 _ Lq69.out Cq69 Oq69.out Yq69.out (by rw [Eq69.out]; decide +kernel)).mono ?_)
 rintro e w23 ⟨lq70, sq70, Aq70, cq70, Eq70, rfl, Cq70, Oq70, hb⟩
 refine ⟨_, rfl, ?_⟩
 replace Oq41 := zQ Oq41 hb
 replace Okk := zQ Okk hb
 replace Oq69 := zQ Oq69 hb
 replace Bwi := zX Bwi hb
 replace Bba := zX Bba hb
 replace Oq70 := hide Oq70.out.rd
 replace hU := zU hU hU.size hb
 clear hb Oq69 Cq69 Lq69 Yq69
 refine z3 [(72, .int .i64 1), (71, .agg #[.slice Aq70 lq70.length cq70, .bool sq70]), (68, .tuple #[.agg #[.slice Aq70 lq70.length cq70, .bool sq70], .int .i64 1])] (zm (A := Aq70) (m := lq70.length) (c := cq70) (s := sq70) rfl rfl rfl ?_)
 intro w24 Nq70 Bq70 hNq70 hb
 replace Bq70 := hide Bq70
 replace Oq41 := zQ Oq41 hb
 replace Okk := zQ Okk hb
 replace Oq70 := zQ Oq70 hb
 replace Bwi := zX Bwi hb
 replace Bba := zX Bba hb
 have hzq70 : w.heap.size ≤ Nq70 := Nat.le_trans hU.size hNq70
 clear hNq70
 replace hU := zU hU hU.size hb
 clear hb
 refine z1 [(14, .int .i64 1)] (ze (wp_seq ?_))
 clear Bq70 Oq70 Cq70 Eq70
 refine reg_lit ?_
 refine zc rfl ((vof_any ⟨#[49, 48]⟩ _ (by decide)).mono ?_)
 rintro e w25 ⟨lq74, sq74, Aq74, cq74, Eq74, rfl, Cq74, Oq74, hb⟩
 refine ⟨_, rfl, ?_⟩
 replace Oq41 := zQ Oq41 hb
 replace Okk := zQ Okk hb
 replace Bwi := zX Bwi hb
 replace Bba := zX Bba hb
 replace Oq74 := hide Oq74.out.rd
 replace hU := zU hU hU.size hb
 clear hb
 obtain ⟨Lq74, Yq74⟩ := gly Eq74.out (gd_of (by decide +kernel))
 refine zc rfl ((xRepeat 12 65 Aq74 lq74 cq74 sq74 _ Lq74.out Cq74 Oq74.out Yq74.out (by rw [Eq74.out]; decide +kernel)).mono ?_)
 rintro e w26 ⟨lq75, sq75, Aq75, cq75, Eq75, rfl, Cq75, Oq75, hb⟩
 refine ⟨_, rfl, ?_⟩
 replace Oq41 := zQ Oq41 hb
 replace Okk := zQ Okk hb
 replace Oq74 := zQ Oq74 hb
 replace Bwi := zX Bwi hb
 replace Bba := zX Bba hb
 replace Oq75 := hide Oq75.out.rd
 replace hU := zU hU hU.size hb
 clear hb Oq74 Cq74 Lq74 Yq74
 refine z3 [(77, .int .i64 12), (76, .agg #[.slice Aq75 lq75.length cq75, .bool sq75]), (73, .tuple #[.agg #[.slice Aq75 lq75.length cq75, .bool sq75], .int .i64 12])] (zm (A := Aq75) (m := lq75.length) (c := cq75) (s := sq75) rfl rfl rfl ?_)
 intro w27 Nq75 Bq75 hNq75 hb
 replace Bq75 := hide Bq75
 replace Oq41 := zQ Oq41 hb
 replace Okk := zQ Okk hb
 replace Oq75 := zQ Oq75 hb
 replace Bwi := zX Bwi hb
 replace Bba := zX Bba hb
 have hzq75 : w.heap.size ≤ Nq75 := Nat.le_trans hU.size hNq75
 clear hNq75
 replace hU := zU hU hU.size hb
 clear hb
 refine z1 [(16, .int .i64 12)] (ze (wp_seq ?_))
 clear Bq75 Oq75 Cq75 Eq75
 refine reg_lit ?_
 refine zc rfl ((vof_any ⟨#[49, 48]⟩ _ (by decide)).mono ?_)
 rintro e w28 ⟨lq79, sq79, Aq79, cq79, Eq79, rfl, Cq79, Oq79, hb⟩
 refine ⟨_, rfl, ?_⟩
 replace Oq41 := zQ Oq41 hb
 replace Okk := zQ Okk hb
 replace Bwi := zX Bwi hb
 replace Bba := zX Bba hb
 replace Oq79 := hide Oq79.out.rd
 replace hU := zU hU hU.size hb
 clear hb
 obtain ⟨Lq79, Yq79⟩ := gly Eq79.out (gd_of (by decide +kernel))
 refine zc rfl ((xSlice 1 0 1 Aq79 lq79 cq79 sq79 _ Lq79.out Cq79 Oq79.out Yq79.out (by decide) (by decide) (by decide) (by decide) (by decide)).mono ?_)
 rintro e w29 ⟨lq80, sq80, Aq80, cq80, Eq80, rfl, Cq80, Oq80, hb⟩
 refine ⟨_, rfl, ?_⟩
 replace Oq41 := zQ Oq41 hb
 replace Okk := zQ Okk hb
 replace Oq79 := zQ Oq79 hb
 replace Bwi := zX Bwi hb
 replace Bba := zX Bba hb
 replace Oq80 := hide Oq80.out.rd
 replace hU := zU hU hU.size hb
 clear hb Oq79 Cq79 Lq79 Yq79
 refine z3 [(82, .int .i64 1), (81, .agg #[.slice Aq80 lq80.length cq80, .bool sq80]), (78, .tuple #[.agg #[.slice Aq80 lq80.length cq80, .bool sq80], .int .i64 1])] (zm (A := Aq80) (m := lq80.length) (c := cq80) (s := sq80) rfl rfl rfl ?_)
 intro w30 Nq80 Bq80 hNq80 hb
 replace Bq80 := hide Bq80
 replace Oq41 := zQ Oq41 hb
 replace Okk := zQ Okk hb
 replace Oq80 := zQ Oq80 hb
 replace Bwi := zX Bwi hb
 replace Bba := zX Bba hb
 have hzq80 : w.heap.size ≤ Nq80 := Nat.le_trans hU.size hNq80
 clear hNq80
 replace hU := zU hU hU.size hb
 clear hb
 refine z1 [(18, .int .i64 1)] (ze (wp_seq ?_))
 clear Bq80 Oq80 Cq80 Eq80
 refine reg_lit ?_
 refine zc rfl ((vof_any ⟨#[49, 48]⟩ _ (by decide)).mono ?_)
 rintro e w31 ⟨lq84, sq84, Aq84, cq84, Eq84, rfl, Cq84, Oq84, hb⟩
 refine ⟨_, rfl, ?_⟩
 replace Oq41 := zQ Oq41 hb
 replace Okk := zQ Okk hb
 replace Bwi := zX Bwi hb
 replace Bba := zX Bba hb
 replace Oq84 := hide Oq84.out.rd
 replace hU := zU hU hU.size hb
 clear hb
 obtain ⟨Lq84, Yq84⟩ := gly Eq84.out (gd_of (by decide +kernel))
 refine zc rfl ((xSlice 12 4611686018427387904 (-4611686018427387904) Aq84 lq84 cq84 sq84 _ Lq84.out Cq84 Oq84.out Yq84.out (by decide) (by decide) (by decide) (by decide) (by decide)).mono ?_)
 rintro e w32 ⟨lq85, sq85, Aq85, cq85, Eq85, rfl, Cq85, Oq85, hb⟩
 refine ⟨_, rfl, ?_⟩
 replace Oq41 := zQ Oq41 hb
 replace Okk := zQ Okk hb
 replace Oq84 := zQ Oq84 hb
 replace Bwi := zX Bwi hb
 replace Bba := zX Bba hb
 replace Oq85 := hide Oq85.out.rd
 replace hU := zU hU hU.size hb
 clear hb Oq84 Cq84 Lq84 Yq84
 refine z3 [(87, .int .i64 12), (86, .agg #[.slice Aq85 lq85.length cq85, .bool sq85]), (83, .tuple #[.agg #[.slice Aq85 lq85.length cq85, .bool sq85], .int .i64 12])] (zm (A := Aq85) (m := lq85.length) (c := cq85) (s := sq85) rfl rfl rfl ?_)
 intro w33 Nq85 Bq85 hNq85 hb
 replace Bq85 := hide Bq85
 replace Oq41 := zQ Oq41 hb
 replace Okk := zQ Okk hb
 replace Oq85 := zQ Oq85 hb
 replace Bwi := zX Bwi hb
 replace Bba := zX Bba hb
 have hzq85 : w.heap.size ≤ Nq85 := Nat.le_trans hU.size hNq85
 clear hNq85
 replace hU := zU hU hU.size hb
 clear hb
 refine z1 [(20, .int .i64 12)] (ze (wp_seq ?_))
 clear Bq85 Oq85 Cq85 Eq85
 refine reg_lit ?_
 refine zc rfl ((vof_any ⟨#[49, 48]⟩ _ (by decide)).mono ?_)
 rintro e w34 ⟨lq89, sq89, Aq89, cq89, Eq89, rfl, Cq89, Oq89, hb⟩
 refine ⟨_, rfl, ?_⟩
 replace Oq41 := zQ Oq41 hb
 replace Okk := zQ Okk hb
 replace Bwi := zX Bwi hb
 replace Bba := zX Bba hb
 replace Oq89 := hide Oq89.out.rd
 replace hU := zU hU hU.size hb
 clear hb
 obtain ⟨Lq89, Yq89⟩ := gly Eq89.out (gd_of (by decide +kernel))
 refine zc rfl ((vof_any ⟨#[49]⟩ _ (by decide)).mono ?_)
 rintro e w35 ⟨lq90, sq90, Aq90, cq90, Eq90, rfl, Cq90, Oq90, hb⟩
 refine ⟨_, rfl, ?_⟩
 replace Oq41 := zQ Oq41 hb
 replace Okk := zQ Okk hb
 replace Oq89 := zQ Oq89 hb
 replace Bwi := zX Bwi hb
 replace Bba := zX Bba hb
 replace Oq90 := hide Oq90.out.rd
 replace hU := zU hU hU.size hb
 clear hb
 obtain ⟨Lq90, Yq90⟩ := gly Eq90.out (gd_of (by decide +kernel))
 refine zc rfl ((xPut 12 128 0 Aq89 Aq90 lq89 lq90 cq89 cq90 sq89 sq90 _ Lq89.out Lq90.out Cq89 Cq90 Oq89.out Oq90.out Yq89.out Yq90.out (by decide) (by decide) (by decide) (by decide) (by decide)).mono ?_)
 rintro e w36 ⟨lq91, sq91, Aq91, cq91, Eq91, rfl, Cq91, Oq91, hb⟩
 refine ⟨_, rfl, ?_⟩
 replace Oq41 := zQ Oq41 hb
 replace Okk := zQ Okk hb
 replace Oq89 := zQ Oq89 hb
 replace Oq90 := zQ Oq90 hb
 replace Bwi := zX Bwi hb
 replace Bba := zX Bba hb
 replace Oq91 := hide Oq91.out.rd
 replace hU := zU hU hU.size hb
 clear hb Oq89 Cq89 Lq89 Yq89
 clear Oq90 Cq90 Lq90 Yq90
 refine z3 [(93, .int .i64 12), (92, .agg #[.slice Aq91 lq91.length cq91, .bool sq91]), (88, .tuple #[.agg #[.slice Aq91 lq91.length cq91, .bool sq91], .int .i64 12])] (zm (A := Aq91) (m := lq91.length) (c := cq91) (s := sq91) rfl rfl rfl ?_)
 intro w37 Nq91 Bq91 hNq91 hb
 replace Bq91 := hide Bq91
 replace Oq41 := zQ Oq41 hb
 replace Okk := zQ Okk hb
 replace Oq91 := zQ Oq91 hb
 replace Bwi := zX Bwi hb
 replace Bba := zX Bba hb
 have hzq91 : w.heap.size ≤ Nq91 := Nat.le_trans hU.size hNq91
 clear hNq91
 replace hU := zU hU hU.size hb
 clear hb
 refine z1 [(22, .int .i64 12)] (ze (wp_seq (wp_seq ?_)))
 clear Bq91 Oq91 Cq91 Eq91
 obtain ⟨Pr1, HM1, HC1, p1_q41, p1_kk, q1_wi, q1_ba⟩ : ∃ Pr : World → Prop, (∀ w w', Pr w → Below w.heap.size w w' → Pr w') ∧ Hid (Pr w37) ∧ (∀ W, Pr W → RQ W Aq41 lq41) ∧ (∀ W, Pr W → RQ W Akk lkk) ∧ (∀ W, Pr W → Box Nwi Aq41 lq41.length cq41 sq41 W) ∧ (∀ W, Pr W → Box Nba Akk lkk.length ckk skk W) := ⟨fun W => RQ W Aq41 lq41 ∧ RQ W Akk lkk ∧ Box Nwi Aq41 lq41.length cq41 sq41 W ∧ Box Nba Akk lkk.length ckk skk W, fun _ _ h hb => ⟨RQ.below h.1 hb, RQ.below h.2.1 hb, Box.kept h.2.2.1 hb, Box.kept h.2.2.2 hb⟩, hide ⟨Oq41.out, Okk.out, Bwi.out, Bba.out⟩, fun _ h => h.1, fun _ h => h.2.1, fun _ h => h.2.2.1, fun _ h => h.2.2.2⟩
 clear Oq41 Okk Bwi Bba
 refine reg_lit (wpl_r16 [(109, .int .i64 12), (108, z_f), (107, z_f), (106, z_f), (105, .int .i64 4), (104, z_f), (103, z_f), (102, z_f), (101, .int .i64 12), (100, z_f), (99, z_f), (98, z_f), (97, .int .i64 12), (96, z_f), (95, z_f), (94, .int .i64 12)] (by kernel_rfl) (wpl_r16 [(125, .int .i64 12), (124, z_f), (123, z_f), (122, z_f), (121, .int .i64 1), (120, z_f), (119, z_f), (118, z_f), (117, .int .i64 12), (116, z_f), (115, z_f), (114, z_f), (113, .int .i64 1), (112, z_f), (111, z_f), (110, z_f)] (by kernel_rfl) (z8 [(133, .agg #[.slice none 0 0, .bool false]), (132, z_f), (131, z_f), (130, z_f), (129, .int .i64 12), (128, z_f), (127, z_f), (126, z_f)] ?_)))
 refine zc rfl ((xCheck 4 none [] 0 false _ (by simp) (rq_nil _) (by decide)).mono ?_)
 rintro e w38 ⟨rfl, hb⟩
 refine ⟨_, rfl, ?_⟩
 replace HC1 := zH HM1 HC1 hb
 replace hU := zU hU hU.size hb
 clear hb
 refine z3 [(137, z_f), (136, z_f), (135, z_f)] (zv (q1_wi _ HC1.out) rfl rfl ?_)
 refine zc rfl ((xCheck 5 Aq41 lq41 cq41 sq41 _ Lq41.out (p1_q41 w38 HC1.out) (by have h := congrArg (fun v : Vc => chk v.b) Eq41.out; exact h.trans (by decide +kernel))).mono ?_)
 rintro e w39 ⟨rfl, hb⟩
 refine ⟨_, rfl, ?_⟩
 replace HC1 := zH HM1 HC1 hb
 replace hU := zU hU hU.size hb
 clear hb
 refine z3 [(142, z_f), (141, z_f), (140, z_f)] (zv (q1_ba _ HC1.out) rfl rfl ?_)
 refine zc rfl ((xCheck 1 Akk lkk ckk skk _ Lkk.out (p1_kk w39 HC1.out) (by have h := congrArg (fun v : Vc => chk v.b) Ekk.out; exact h.trans (by decide +kernel))).mono ?_)
 rintro e w40 ⟨rfl, hb⟩
 refine ⟨_, rfl, ?_⟩
 replace HC1 := zH HM1 HC1 hb
 replace hU := zU hU hU.size hb
 clear hb
 refine z2 [(146, z_f), (145, z_f)] (ze (zif (wp_skip (then_normal (wp_seq (wp_seq ?_))))))
 have HL := hide (VL.nil w40)
 refine region_RA (N := 240) (by kernel_rfl) (by kernel_rfl) (by kernel_rfl) (fun _ _ _ _ _ h => h) ?_
 intro F hQ
 have HC0 := HC1
 refine anyR_ldvec (i := 0) (m' := 1) (q1_ba _ HC0.out) F hQ rfl rfl (by kernel_rfl) (by kernel_rfl) (by kernel_rfl) (by kernel_rfl) (by kernel_rfl) rfl (by kernel_rfl) (anyR_ldvec (i := 4) (m' := 17) (q1_wi _ HC0.out) F hQ rfl rfl (by kernel_rfl) (by kernel_rfl) (by kernel_rfl) (by kernel_rfl) (by kernel_rfl) rfl (by kernel_rfl) (zav (i := 9) (m' := 529) (v := .agg #[.slice none 0 0, .bool false]) F hQ rfl rfl (anyR_ldvec (i := 233) (m' := 13803492693581127574869511724554050904902217944340773110325048447599121) (q1_ba _ HC0.out) F hQ rfl rfl (by kernel_rfl) (by kernel_rfl) (by kernel_rfl) (by kernel_rfl) (by kernel_rfl) rfl (by kernel_rfl) (zav (i := 239) (m' := 897227025082773292366518262096013308818644166382150252171128149093909009) (v := .int .i64 0) F hQ rfl rfl ?_))))
 refine zac (i := 1) (m' := 897227025082773292366518262096013308818644166382150252171128149093909011) rfl rfl ((vNot_any Akk lkk ckk skk _ Lkk.out Ckk (by exact (p1_kk w40 HC1.out)) Ykk.out (HT.out.kept (Below.drew hU))).mono ?_)
 rintro e w41 ⟨lq148, sq148, Aq148, cq148, Eq148, rfl, Cq148, Oq148, hb⟩
 refine ⟨_, rfl, hb, ?_⟩
 replace hb : Below w40.heap.size w40 w41 := Below.trans ((Below.refl _ _).drew) hb
 replace HC1 := zH HM1 HC1 hb
 replace HL := hide (VL.kept HL.out hb)
 replace Oq148 := hide Oq148.out.rd
 replace hU := zU hU hU.size hb
 clear hb
 obtain ⟨Lq148, Yq148⟩ := gly Eq148.out ((by rw [Ekk.out]; exact gd_of (by decide +kernel)))
 replace Eq148 := hide (show (⟨lq148, sq148⟩ : Vc) = vNot ⟨[0, 4], true⟩ from Eq148.out.trans (by rw [Ekk.out]))
 refine zac (i := 2) (m' := 897227025082773292366518262096013308818644166382150252171128149093909015) rfl rfl ((vof_any ⟨#[120]⟩ _ (by decide)).mono ?_)
 rintro e w42 ⟨lq149, sq149, Aq149, cq149, Eq149, rfl, Cq149, Oq149, hb⟩
 refine ⟨_, rfl, hb, ?_⟩
 replace HC1 := zH HM1 HC1 hb
 replace Oq148 := zQ Oq148 hb
 replace HL := hide (VL.kept HL.out hb)
 replace Oq149 := hide Oq149.out.rd
 replace hU := zU hU hU.size hb
 clear hb
 obtain ⟨Lq149, Yq149⟩ := gly Eq149.out (gd_of (by decide +kernel))
 refine zav (i := 3) (m' := 897227025082773292366518262096013308818644166382150252171128149093909023) (v := .agg #[.slice Aq148 lq148.length cq148, .bool sq148, .slice Aq149 lq149.length cq149, .bool sq149]) F hQ rfl rfl ?_
 replace HL := hide (VL.cons Oq149.out (VL.cons Oq148.out HL.out))
 clear Oq148 Cq148 Yq148 Oq149 Cq149 Yq149
 refine zac (i := 5) (m' := 897227025082773292366518262096013308818644166382150252171128149093909055) rfl rfl ((vof_any ⟨#[48, 49]⟩ _ (by decide)).mono ?_)
 rintro e w43 ⟨lq152, sq152, Aq152, cq152, Eq152, rfl, Cq152, Oq152, hb⟩
 refine ⟨_, rfl, hb, ?_⟩
 replace HC1 := zH HM1 HC1 hb
 replace HL := hide (VL.kept HL.out hb)
 replace Oq152 := hide Oq152.out.rd
 replace hU := zU hU hU.size hb
 clear hb
 obtain ⟨Lq152, Yq152⟩ := gly Eq152.out (gd_of (by decide +kernel))
 refine zac (i := 6) (m' := 897227025082773292366518262096013308818644166382150252171128149093909119) rfl rfl ((vAdd_any Aq41 Aq152 lq41 lq152 cq41 cq152 sq41 sq152 _ Lq41.out Lq152.out Cq41 Cq152 (p1_q41 w43 HC1.out) Oq152.out Yq41.out Yq152.out).mono ?_)
 rintro e w44 ⟨lq153, sq153, Aq153, cq153, Eq153, rfl, Cq153, Oq153, hb⟩
 refine ⟨_, rfl, hb, ?_⟩
 replace HC1 := zH HM1 HC1 hb
 replace Oq152 := zQ Oq152 hb
 replace HL := hide (VL.kept HL.out hb)
 replace Oq153 := hide Oq153.out.rd
 replace hU := zU hU hU.size hb
 clear hb
 obtain ⟨Lq153, Yq153⟩ := gly Eq153.out ((by rw [Eq41.out, Eq152.out]; exact gd_of (by decide +kernel)))
 replace Eq153 := hide (show (⟨lq153, sq153⟩ : Vc) = vAdd ⟨ql 129 fun _ => 1, false⟩ ⟨ofB ⟨#[48, 49]⟩, false⟩ from Eq153.out.trans (by rw [Eq41.out, Eq152.out]))
 clear Oq152 Cq152 Lq152 Yq152
 refine zac (i := 7) (m' := 897227025082773292366518262096013308818644166382150252171128149093909247) rfl rfl ((vof_any ⟨#[120, 120]⟩ _ (by decide)).mono ?_)
 rintro e w45 ⟨lq154, sq154, Aq154, cq154, Eq154, rfl, Cq154, Oq154, hb⟩
 refine ⟨_, rfl, hb, ?_⟩
 replace HC1 := zH HM1 HC1 hb
 replace Oq153 := zQ Oq153 hb
 replace HL := hide (VL.kept HL.out hb)
 replace Oq154 := hide Oq154.out.rd
 replace hU := zU hU hU.size hb
 clear hb
 obtain ⟨Lq154, Yq154⟩ := gly Eq154.out (gd_of (by decide +kernel))
 refine zav (i := 8) (m' := 897227025082773292366518262096013308818644166382150252171128149093909503) (v := .agg #[.slice Aq153 lq153.length cq153, .bool sq153, .slice Aq154 lq154.length cq154, .bool sq154]) F hQ rfl rfl ?_
 replace HL := hide (VL.cons Oq154.out (VL.cons Oq153.out HL.out))
 clear Oq153 Cq153 Yq153 Oq154 Cq154 Yq154
 refine zac (i := 10) (m' := 897227025082773292366518262096013308818644166382150252171128149093910527) rfl rfl ((vof_any ⟨#[49]⟩ _ (by decide)).mono ?_)
 rintro e w46 ⟨lq157, sq157, Aq157, cq157, Eq157, rfl, Cq157, Oq157, hb⟩
 refine ⟨_, rfl, hb, ?_⟩
 replace HC1 := zH HM1 HC1 hb
 replace HL := hide (VL.kept HL.out hb)
 replace Oq157 := hide Oq157.out.rd
 replace hU := zU hU hU.size hb
 clear hb
 obtain ⟨Lq157, Yq157⟩ := gly Eq157.out (gd_of (by decide +kernel))
 refine zac (i := 11) (m' := 897227025082773292366518262096013308818644166382150252171128149093912575) rfl rfl ((vOr_any none Aq157 [] lq157 0 cq157 false sq157 _ (by simp) Lq157.out (hide ⟨by simp, by simp [maxLen]⟩) Cq157 (rq_nil _) Oq157.out (by_of (by decide +kernel)).1 Yq157.out (HT.out.kept hU)).mono ?_)
 rintro e w47 ⟨lq158, sq158, Aq158, cq158, Eq158, rfl, Cq158, Oq158, hb⟩
 refine ⟨_, rfl, hb, ?_⟩
 replace HC1 := zH HM1 HC1 hb
 replace Oq157 := zQ Oq157 hb
 replace HL := hide (VL.kept HL.out hb)
 replace Oq158 := hide Oq158.out.rd
 replace hU := zU hU hU.size hb
 clear hb
 obtain ⟨Lq158, Yq158⟩ := gly Eq158.out ((by rw [Eq157.out]; exact gd_of (by decide +kernel)))
 replace Eq158 := hide (show (⟨lq158, sq158⟩ : Vc) = btw mOr ⟨[], false⟩ ⟨ofB ⟨#[49]⟩, false⟩ from Eq158.out.trans (by rw [Eq157.out]))
 clear Oq157 Cq157 Lq157 Yq157
 refine zac (i := 12) (m' := 897227025082773292366518262096013308818644166382150252171128149093916671) rfl rfl ((vof_any ⟨#[49]⟩ _ (by decide)).mono ?_)
 rintro e w48 ⟨lq159, sq159, Aq159, cq159, Eq159, rfl, Cq159, Oq159, hb⟩
 refine ⟨_, rfl, hb, ?_⟩
 replace HC1 := zH HM1 HC1 hb
 replace Oq158 := zQ Oq158 hb
 replace HL := hide (VL.kept HL.out hb)
 replace Oq159 := hide Oq159.out.rd
 replace hU := zU hU hU.size hb
 clear hb
 obtain ⟨Lq159, Yq159⟩ := gly Eq159.out (gd_of (by decide +kernel))
 refine zav (i := 13) (m' := 897227025082773292366518262096013308818644166382150252171128149093924863) (v := .agg #[.slice Aq158 lq158.length cq158, .bool sq158, .slice Aq159 lq159.length cq159, .bool sq159]) F hQ rfl rfl ?_
 replace HL := hide (VL.cons Oq159.out (VL.cons Oq158.out HL.out))
 clear Oq158 Cq158 Yq158 Oq159 Cq159 Yq159
 refine zac (i := 14) (m' := 897227025082773292366518262096013308818644166382150252171128149093941247) rfl rfl ((vsof_any ⟨#[49, 48, 48, 49]⟩ _ (by decide)).mono ?_)
 rintro e w49 ⟨lq161, sq161, Aq161, cq161, Eq161, rfl, Cq161, Oq161, hb⟩
 refine ⟨_, rfl, hb, ?_⟩
 replace HC1 := zH HM1 HC1 hb
 replace HL := hide (VL.kept HL.out hb)
 replace Oq161 := hide Oq161.out.rd
 replace hU := zU hU hU.size hb
 clear hb
 obtain ⟨Lq161, Yq161⟩ := gly Eq161.out (gd_of (by decide +kernel))
 refine zac (i := 15) (m' := 897227025082773292366518262096013308818644166382150252171128149093974015) rfl rfl ((vsof_any ⟨#[48, 48, 49, 48]⟩ _ (by decide)).mono ?_)
 rintro e w50 ⟨lq162, sq162, Aq162, cq162, Eq162, rfl, Cq162, Oq162, hb⟩
 refine ⟨_, rfl, hb, ?_⟩
 replace HC1 := zH HM1 HC1 hb
 replace Oq161 := zQ Oq161 hb
 replace HL := hide (VL.kept HL.out hb)
 replace Oq162 := hide Oq162.out.rd
 replace hU := zU hU hU.size hb
 clear hb
 obtain ⟨Lq162, Yq162⟩ := gly Eq162.out (gd_of (by decide +kernel))
 refine zac (i := 16) (m' := 897227025082773292366518262096013308818644166382150252171128149094039551) rfl rfl ((vDiv_any Aq161 Aq162 lq161 lq162 cq161 cq162 sq161 sq162 _ Lq161.out Lq162.out Cq161 Cq162 Oq161.out Oq162.out Yq161.out Yq162.out).mono ?_)
 rintro e w51 ⟨lq163, sq163, Aq163, cq163, Eq163, rfl, Cq163, Oq163, hb⟩
 refine ⟨_, rfl, hb, ?_⟩
 replace HC1 := zH HM1 HC1 hb
 replace Oq161 := zQ Oq161 hb
 replace Oq162 := zQ Oq162 hb
 replace HL := hide (VL.kept HL.out hb)
 replace Oq163 := hide Oq163.out.rd
 replace hU := zU hU hU.size hb
 clear hb
 obtain ⟨Lq163, Yq163⟩ := gly Eq163.out ((by rw [Eq161.out, Eq162.out]; exact gd_of (by decide +kernel)))
 replace Eq163 := hide (show (⟨lq163, sq163⟩ : Vc) = vDiv ⟨ofB ⟨#[49, 48, 48, 49]⟩, true⟩ ⟨ofB ⟨#[48, 48, 49, 48]⟩, true⟩ from Eq163.out.trans (by rw [Eq161.out, Eq162.out]))
 clear Oq161 Cq161 Lq161 Yq161 Oq162 Cq162 Lq162 Yq162
 refine zac (i := 17) (m' := 897227025082773292366518262096013308818644166382150252171128149094170623) rfl rfl ((vsof_any ⟨#[49, 49, 48, 49]⟩ _ (by decide)).mono ?_)
 rintro e w52 ⟨lq164, sq164, Aq164, cq164, Eq164, rfl, Cq164, Oq164, hb⟩
 refine ⟨_, rfl, hb, ?_⟩
 replace HC1 := zH HM1 HC1 hb
 replace Oq163 := zQ Oq163 hb
 replace HL := hide (VL.kept HL.out hb)
 replace Oq164 := hide Oq164.out.rd
 replace hU := zU hU hU.size hb
 clear hb
 obtain ⟨Lq164, Yq164⟩ := gly Eq164.out (gd_of (by decide +kernel))
 refine zav (i := 18) (m' := 897227025082773292366518262096013308818644166382150252171128149094432767) (v := .agg #[.slice Aq163 lq163.length cq163, .bool sq163, .slice Aq164 lq164.length cq164, .bool sq164]) F hQ rfl rfl ?_
 replace HL := hide (VL.cons Oq164.out (VL.cons Oq163.out HL.out))
 clear Oq163 Cq163 Yq163 Oq164 Cq164 Yq164
 refine zac (i := 19) (m' := 897227025082773292366518262096013308818644166382150252171128149094957055) rfl rfl ((vsof_any ⟨#[49, 48, 48, 49]⟩ _ (by decide)).mono ?_)
 rintro e w53 ⟨lq166, sq166, Aq166, cq166, Eq166, rfl, Cq166, Oq166, hb⟩
 refine ⟨_, rfl, hb, ?_⟩
 replace HC1 := zH HM1 HC1 hb
 replace HL := hide (VL.kept HL.out hb)
 replace Oq166 := hide Oq166.out.rd
 replace hU := zU hU hU.size hb
 clear hb
 obtain ⟨Lq166, Yq166⟩ := gly Eq166.out (gd_of (by decide +kernel))
 refine zac (i := 20) (m' := 897227025082773292366518262096013308818644166382150252171128149096005631) rfl rfl ((vsof_any ⟨#[48, 48, 49, 48]⟩ _ (by decide)).mono ?_)
 rintro e w54 ⟨lq167, sq167, Aq167, cq167, Eq167, rfl, Cq167, Oq167, hb⟩
 refine ⟨_, rfl, hb, ?_⟩
 replace HC1 := zH HM1 HC1 hb
 replace Oq166 := zQ Oq166 hb
 replace HL := hide (VL.kept HL.out hb)
 replace Oq167 := hide Oq167.out.rd
 replace hU := zU hU hU.size hb
 clear hb
 obtain ⟨Lq167, Yq167⟩ := gly Eq167.out (gd_of (by decide +kernel))
 refine zac (i := 21) (m' := 897227025082773292366518262096013308818644166382150252171128149098102783) rfl rfl ((vMod_any Aq166 Aq167 lq166 lq167 cq166 cq167 sq166 sq167 _ Lq166.out Lq167.out Cq166 Cq167 Oq166.out Oq167.out Yq166.out Yq167.out).mono ?_)
 rintro e w55 ⟨lq168, sq168, Aq168, cq168, Eq168, rfl, Cq168, Oq168, hb⟩
 refine ⟨_, rfl, hb, ?_⟩
 replace HC1 := zH HM1 HC1 hb
 replace Oq166 := zQ Oq166 hb
 replace Oq167 := zQ Oq167 hb
 replace HL := hide (VL.kept HL.out hb)
 replace Oq168 := hide Oq168.out.rd
 replace hU := zU hU hU.size hb
 clear hb
 obtain ⟨Lq168, Yq168⟩ := gly Eq168.out ((by rw [Eq166.out, Eq167.out]; exact gd_of (by decide +kernel)))
 replace Eq168 := hide (show (⟨lq168, sq168⟩ : Vc) = vMod ⟨ofB ⟨#[49, 48, 48, 49]⟩, true⟩ ⟨ofB ⟨#[48, 48, 49, 48]⟩, true⟩ from Eq168.out.trans (by rw [Eq166.out, Eq167.out]))
 clear Oq166 Cq166 Lq166 Yq166 Oq167 Cq167 Lq167 Yq167
 refine zac (i := 22) (m' := 897227025082773292366518262096013308818644166382150252171128149102297087) rfl rfl ((vsof_any ⟨#[49, 49, 49, 49]⟩ _ (by decide)).mono ?_)
 rintro e w56 ⟨lq169, sq169, Aq169, cq169, Eq169, rfl, Cq169, Oq169, hb⟩
 refine ⟨_, rfl, hb, ?_⟩
 replace HC1 := zH HM1 HC1 hb
 replace Oq168 := zQ Oq168 hb
 replace HL := hide (VL.kept HL.out hb)
 replace Oq169 := hide Oq169.out.rd
 replace hU := zU hU hU.size hb
 clear hb
 obtain ⟨Lq169, Yq169⟩ := gly Eq169.out (gd_of (by decide +kernel))
 refine zav (i := 23) (m' := 897227025082773292366518262096013308818644166382150252171128149110685695) (v := .agg #[.slice Aq168 lq168.length cq168, .bool sq168, .slice Aq169 lq169.length cq169, .bool sq169]) F hQ rfl rfl ?_
 replace HL := hide (VL.cons Oq169.out (VL.cons Oq168.out HL.out))
 clear Oq168 Cq168 Yq168 Oq169 Cq169 Yq169
 refine zac (i := 24) (m' := 897227025082773292366518262096013308818644166382150252171128149127462911) rfl rfl ((vof_any ⟨#[49, 48, 48, 49]⟩ _ (by decide)).mono ?_)
 rintro e w57 ⟨lq171, sq171, Aq171, cq171, Eq171, rfl, Cq171, Oq171, hb⟩
 refine ⟨_, rfl, hb, ?_⟩
 replace HC1 := zH HM1 HC1 hb
 replace HL := hide (VL.kept HL.out hb)
 replace Oq171 := hide Oq171.out.rd
 replace hU := zU hU hU.size hb
 clear hb
 obtain ⟨Lq171, Yq171⟩ := gly Eq171.out (gd_of (by decide +kernel))
 refine zac (i := 25) (m' := 897227025082773292366518262096013308818644166382150252171128149161017343) rfl rfl ((vsof_any ⟨#[48, 48, 49, 48]⟩ _ (by decide)).mono ?_)
 rintro e w58 ⟨lq172, sq172, Aq172, cq172, Eq172, rfl, Cq172, Oq172, hb⟩
 refine ⟨_, rfl, hb, ?_⟩
 replace HC1 := zH HM1 HC1 hb
 replace Oq171 := zQ Oq171 hb
 replace HL := hide (VL.kept HL.out hb)
 replace Oq172 := hide Oq172.out.rd
 replace hU := zU hU hU.size hb
 clear hb
 obtain ⟨Lq172, Yq172⟩ := gly Eq172.out (gd_of (by decide +kernel))
 refine zac (i := 26) (m' := 897227025082773292366518262096013308818644166382150252171128149228126207) rfl rfl ((vDiv_any Aq171 Aq172 lq171 lq172 cq171 cq172 sq171 sq172 _ Lq171.out Lq172.out Cq171 Cq172 Oq171.out Oq172.out Yq171.out Yq172.out).mono ?_)
 rintro e w59 ⟨lq173, sq173, Aq173, cq173, Eq173, rfl, Cq173, Oq173, hb⟩
 refine ⟨_, rfl, hb, ?_⟩
 replace HC1 := zH HM1 HC1 hb
 replace Oq171 := zQ Oq171 hb
 replace Oq172 := zQ Oq172 hb
 replace HL := hide (VL.kept HL.out hb)
 replace Oq173 := hide Oq173.out.rd
 replace hU := zU hU hU.size hb
 clear hb
 obtain ⟨Lq173, Yq173⟩ := gly Eq173.out ((by rw [Eq171.out, Eq172.out]; exact gd_of (by decide +kernel)))
 replace Eq173 := hide (show (⟨lq173, sq173⟩ : Vc) = vDiv ⟨ofB ⟨#[49, 48, 48, 49]⟩, false⟩ ⟨ofB ⟨#[48, 48, 49, 48]⟩, true⟩ from Eq173.out.trans (by rw [Eq171.out, Eq172.out]))
 clear Oq171 Cq171 Lq171 Yq171 Oq172 Cq172 Lq172 Yq172
 refine zac (i := 27) (m' := 897227025082773292366518262096013308818644166382150252171128149362343935) rfl rfl ((vof_any ⟨#[48, 49, 48, 48]⟩ _ (by decide)).mono ?_)
 rintro e w60 ⟨lq174, sq174, Aq174, cq174, Eq174, rfl, Cq174, Oq174, hb⟩
 refine ⟨_, rfl, hb, ?_⟩
 replace HC1 := zH HM1 HC1 hb
 replace Oq173 := zQ Oq173 hb
 replace HL := hide (VL.kept HL.out hb)
 replace Oq174 := hide Oq174.out.rd
 replace hU := zU hU hU.size hb
 clear hb
 obtain ⟨Lq174, Yq174⟩ := gly Eq174.out (gd_of (by decide +kernel))
 refine zav (i := 28) (m' := 897227025082773292366518262096013308818644166382150252171128149630779391) (v := .agg #[.slice Aq173 lq173.length cq173, .bool sq173, .slice Aq174 lq174.length cq174, .bool sq174]) F hQ rfl rfl ?_
 replace HL := hide (VL.cons Oq174.out (VL.cons Oq173.out HL.out))
 clear Oq173 Cq173 Yq173 Oq174 Cq174 Yq174
 refine zac (i := 29) (m' := 897227025082773292366518262096013308818644166382150252171128150167650303) rfl rfl ((vof_any ⟨#[49]⟩ _ (by decide)).mono ?_)
 rintro e w61 ⟨lq176, sq176, Aq176, cq176, Eq176, rfl, Cq176, Oq176, hb⟩
 refine ⟨_, rfl, hb, ?_⟩
 replace HC1 := zH HM1 HC1 hb
 replace HL := hide (VL.kept HL.out hb)
 replace Oq176 := hide Oq176.out.rd
 replace hU := zU hU hU.size hb
 clear hb
 obtain ⟨Lq176, Yq176⟩ := gly Eq176.out (gd_of (by decide +kernel))
 refine zac (i := 30) (m' := 897227025082773292366518262096013308818644166382150252171128151241392127) rfl rfl ((vof_any ⟨#[48]⟩ _ (by decide)).mono ?_)
 rintro e w62 ⟨lq177, sq177, Aq177, cq177, Eq177, rfl, Cq177, Oq177, hb⟩
 refine ⟨_, rfl, hb, ?_⟩
 replace HC1 := zH HM1 HC1 hb
 replace Oq176 := zQ Oq176 hb
 replace HL := hide (VL.kept HL.out hb)
 replace Oq177 := hide Oq177.out.rd
 replace hU := zU hU hU.size hb
 clear hb
 obtain ⟨Lq177, Yq177⟩ := gly Eq177.out (gd_of (by decide +kernel))
 refine zac (i := 31) (m' := 897227025082773292366518262096013308818644166382150252171128153388875775) rfl rfl ((vDiv_any Aq176 Aq177 lq176 lq177 cq176 cq177 sq176 sq177 _ Lq176.out Lq177.out Cq176 Cq177 Oq176.out Oq177.out Yq176.out Yq177.out).mono ?_)
 rintro e w63 ⟨lq178, sq178, Aq178, cq178, Eq178, rfl, Cq178, Oq178, hb⟩
 refine ⟨_, rfl, hb, ?_⟩
 replace HC1 := zH HM1 HC1 hb
 replace Oq176 := zQ Oq176 hb
 replace Oq177 := zQ Oq177 hb
 replace HL := hide (VL.kept HL.out hb)
 replace Oq178 := hide Oq178.out.rd
 replace hU := zU hU hU.size hb
 clear hb
 obtain ⟨Lq178, Yq178⟩ := gly Eq178.out ((by rw [Eq176.out, Eq177.out]; exact gd_of (by decide +kernel)))
 replace Eq178 := hide (show (⟨lq178, sq178⟩ : Vc) = vDiv ⟨ofB ⟨#[49]⟩, false⟩ ⟨ofB ⟨#[48]⟩, false⟩ from Eq178.out.trans (by rw [Eq176.out, Eq177.out]))
 clear Oq176 Cq176 Lq176 Yq176 Oq177 Cq177 Lq177 Yq177
 refine zac (i := 32) (m' := 897227025082773292366518262096013308818644166382150252171128157683843071) rfl rfl ((vof_any ⟨#[120]⟩ _ (by decide)).mono ?_)
 rintro e w64 ⟨lq179, sq179, Aq179, cq179, Eq179, rfl, Cq179, Oq179, hb⟩
 refine ⟨_, rfl, hb, ?_⟩
 replace HC1 := zH HM1 HC1 hb
 replace Oq178 := zQ Oq178 hb
 replace HL := hide (VL.kept HL.out hb)
 replace Oq179 := hide Oq179.out.rd
 replace hU := zU hU hU.size hb
 clear hb
 obtain ⟨Lq179, Yq179⟩ := gly Eq179.out (gd_of (by decide +kernel))
 refine zav (i := 33) (m' := 897227025082773292366518262096013308818644166382150252171128166273777663) (v := .agg #[.slice Aq178 lq178.length cq178, .bool sq178, .slice Aq179 lq179.length cq179, .bool sq179]) F hQ rfl rfl ?_
 replace HL := hide (VL.cons Oq179.out (VL.cons Oq178.out HL.out))
 clear Oq178 Cq178 Yq178 Oq179 Cq179 Yq179
 refine zac (i := 34) (m' := 897227025082773292366518262096013308818644166382150252171128183453646847) rfl rfl ((vsof_any ⟨#[48, 49]⟩ _ (by decide)).mono ?_)
 rintro e w65 ⟨lq181, sq181, Aq181, cq181, Eq181, rfl, Cq181, Oq181, hb⟩
 refine ⟨_, rfl, hb, ?_⟩
 replace HC1 := zH HM1 HC1 hb
 replace HL := hide (VL.kept HL.out hb)
 replace Oq181 := hide Oq181.out.rd
 replace hU := zU hU hU.size hb
 clear hb
 obtain ⟨Lq181, Yq181⟩ := gly Eq181.out (gd_of (by decide +kernel))
 refine zac (i := 35) (m' := 897227025082773292366518262096013308818644166382150252171128217813385215) rfl rfl ((vsof_any ⟨#[48, 48, 48]⟩ _ (by decide)).mono ?_)
 rintro e w66 ⟨lq182, sq182, Aq182, cq182, Eq182, rfl, Cq182, Oq182, hb⟩
 refine ⟨_, rfl, hb, ?_⟩
 replace HC1 := zH HM1 HC1 hb
 replace Oq181 := zQ Oq181 hb
 replace HL := hide (VL.kept HL.out hb)
 replace Oq182 := hide Oq182.out.rd
 replace hU := zU hU hU.size hb
 clear hb
 obtain ⟨Lq182, Yq182⟩ := gly Eq182.out (gd_of (by decide +kernel))
 refine zac (i := 36) (m' := 897227025082773292366518262096013308818644166382150252171128286532861951) rfl rfl ((vMod_any Aq181 Aq182 lq181 lq182 cq181 cq182 sq181 sq182 _ Lq181.out Lq182.out Cq181 Cq182 Oq181.out Oq182.out Yq181.out Yq182.out).mono ?_)
 rintro e w67 ⟨lq183, sq183, Aq183, cq183, Eq183, rfl, Cq183, Oq183, hb⟩
 refine ⟨_, rfl, hb, ?_⟩
 replace HC1 := zH HM1 HC1 hb
 replace Oq181 := zQ Oq181 hb
 replace Oq182 := zQ Oq182 hb
 replace HL := hide (VL.kept HL.out hb)
 replace Oq183 := hide Oq183.out.rd
 replace hU := zU hU hU.size hb
 clear hb
 obtain ⟨Lq183, Yq183⟩ := gly Eq183.out ((by rw [Eq181.out, Eq182.out]; exact gd_of (by decide +kernel)))
 replace Eq183 := hide (show (⟨lq183, sq183⟩ : Vc) = vMod ⟨ofB ⟨#[48, 49]⟩, true⟩ ⟨ofB ⟨#[48, 48, 48]⟩, true⟩ from Eq183.out.trans (by rw [Eq181.out, Eq182.out]))
 clear Oq181 Cq181 Lq181 Yq181 Oq182 Cq182 Lq182 Yq182
 refine zac (i := 37) (m' := 897227025082773292366518262096013308818644166382150252171128423971815423) rfl rfl ((vsof_any ⟨#[120, 120, 120]⟩ _ (by decide)).mono ?_)
 rintro e w68 ⟨lq184, sq184, Aq184, cq184, Eq184, rfl, Cq184, Oq184, hb⟩
 refine ⟨_, rfl, hb, ?_⟩
 replace HC1 := zH HM1 HC1 hb
 replace Oq183 := zQ Oq183 hb
 replace HL := hide (VL.kept HL.out hb)
 replace Oq184 := hide Oq184.out.rd
 replace hU := zU hU hU.size hb
 clear hb
 obtain ⟨Lq184, Yq184⟩ := gly Eq184.out (gd_of (by decide +kernel))
 refine zav (i := 38) (m' := 897227025082773292366518262096013308818644166382150252171128698849722367) (v := .agg #[.slice Aq183 lq183.length cq183, .bool sq183, .slice Aq184 lq184.length cq184, .bool sq184]) F hQ rfl rfl ?_
 replace HL := hide (VL.cons Oq184.out (VL.cons Oq183.out HL.out))
 clear Oq183 Cq183 Yq183 Oq184 Cq184 Yq184
 refine zac (i := 39) (m' := 897227025082773292366518262096013308818644166382150252171129248605536255) rfl rfl ((vof_any ⟨#[49, 120]⟩ _ (by decide)).mono ?_)
 rintro e w69 ⟨lq186, sq186, Aq186, cq186, Eq186, rfl, Cq186, Oq186, hb⟩
 refine ⟨_, rfl, hb, ?_⟩
 replace HC1 := zH HM1 HC1 hb
 replace HL := hide (VL.kept HL.out hb)
 replace Oq186 := hide Oq186.out.rd
 replace hU := zU hU hU.size hb
 clear hb
 obtain ⟨Lq186, Yq186⟩ := gly Eq186.out (gd_of (by decide +kernel))
 refine zac (i := 40) (m' := 897227025082773292366518262096013308818644166382150252171130348117164031) rfl rfl ((vof_any ⟨#[48, 49]⟩ _ (by decide)).mono ?_)
 rintro e w70 ⟨lq187, sq187, Aq187, cq187, Eq187, rfl, Cq187, Oq187, hb⟩
 refine ⟨_, rfl, hb, ?_⟩
 replace HC1 := zH HM1 HC1 hb
 replace Oq186 := zQ Oq186 hb
 replace HL := hide (VL.kept HL.out hb)
 replace Oq187 := hide Oq187.out.rd
 replace hU := zU hU hU.size hb
 clear hb
 obtain ⟨Lq187, Yq187⟩ := gly Eq187.out (gd_of (by decide +kernel))
 refine zac (i := 41) (m' := 897227025082773292366518262096013308818644166382150252171132547140419583) rfl rfl ((vDiv_any Aq186 Aq187 lq186 lq187 cq186 cq187 sq186 sq187 _ Lq186.out Lq187.out Cq186 Cq187 Oq186.out Oq187.out Yq186.out Yq187.out).mono ?_)
 rintro e w71 ⟨lq188, sq188, Aq188, cq188, Eq188, rfl, Cq188, Oq188, hb⟩
 refine ⟨_, rfl, hb, ?_⟩
 replace HC1 := zH HM1 HC1 hb
 replace Oq186 := zQ Oq186 hb
 replace Oq187 := zQ Oq187 hb
 replace HL := hide (VL.kept HL.out hb)
 replace Oq188 := hide Oq188.out.rd
 replace hU := zU hU hU.size hb
 clear hb
 obtain ⟨Lq188, Yq188⟩ := gly Eq188.out ((by rw [Eq186.out, Eq187.out]; exact gd_of (by decide +kernel)))
 replace Eq188 := hide (show (⟨lq188, sq188⟩ : Vc) = vDiv ⟨ofB ⟨#[49, 120]⟩, false⟩ ⟨ofB ⟨#[48, 49]⟩, false⟩ from Eq188.out.trans (by rw [Eq186.out, Eq187.out]))
 clear Oq186 Cq186 Lq186 Yq186 Oq187 Cq187 Lq187 Yq187
 refine zac (i := 42) (m' := 897227025082773292366518262096013308818644166382150252171136945186930687) rfl rfl ((vof_any ⟨#[120, 120]⟩ _ (by decide)).mono ?_)
 rintro e w72 ⟨lq189, sq189, Aq189, cq189, Eq189, rfl, Cq189, Oq189, hb⟩
 refine ⟨_, rfl, hb, ?_⟩
 replace HC1 := zH HM1 HC1 hb
 replace Oq188 := zQ Oq188 hb
 replace HL := hide (VL.kept HL.out hb)
 replace Oq189 := hide Oq189.out.rd
 replace hU := zU hU hU.size hb
 clear hb
 obtain ⟨Lq189, Yq189⟩ := gly Eq189.out (gd_of (by decide +kernel))
 refine zav (i := 43) (m' := 897227025082773292366518262096013308818644166382150252171145741279952895) (v := .agg #[.slice Aq188 lq188.length cq188, .bool sq188, .slice Aq189 lq189.length cq189, .bool sq189]) F hQ rfl rfl ?_
 replace HL := hide (VL.cons Oq189.out (VL.cons Oq188.out HL.out))
 clear Oq188 Cq188 Yq188 Oq189 Cq189 Yq189
 refine zac (i := 44) (m' := 897227025082773292366518262096013308818644166382150252171163333465997311) rfl rfl ((vof_any ⟨#[48, 48, 49, 49]⟩ _ (by decide)).mono ?_)
 rintro e w73 ⟨lq191, sq191, Aq191, cq191, Eq191, rfl, Cq191, Oq191, hb⟩
 refine ⟨_, rfl, hb, ?_⟩
 replace HC1 := zH HM1 HC1 hb
 replace HL := hide (VL.kept HL.out hb)
 replace Oq191 := hide Oq191.out.rd
 replace hU := zU hU hU.size hb
 clear hb
 obtain ⟨Lq191, Yq191⟩ := gly Eq191.out (gd_of (by decide +kernel))
 refine zac (i := 45) (m' := 897227025082773292366518262096013308818644166382150252171198517838086143) rfl rfl ((vof_any ⟨#[49, 48, 49]⟩ _ (by decide)).mono ?_)
 rintro e w74 ⟨lq192, sq192, Aq192, cq192, Eq192, rfl, Cq192, Oq192, hb⟩
 refine ⟨_, rfl, hb, ?_⟩
 replace HC1 := zH HM1 HC1 hb
 replace Oq191 := zQ Oq191 hb
 replace HL := hide (VL.kept HL.out hb)
 replace Oq192 := hide Oq192.out.rd
 replace hU := zU hU hU.size hb
 clear hb
 obtain ⟨Lq192, Yq192⟩ := gly Eq192.out (gd_of (by decide +kernel))
 refine zac (i := 46) (m' := 897227025082773292366518262096013308818644166382150252171268886582263807) rfl rfl ((vPow_any Aq191 Aq192 lq191 lq192 cq191 cq192 sq191 sq192 _ Lq191.out Lq192.out Cq191 Cq192 Oq191.out Oq192.out Yq191.out Yq192.out (HT.out.kept hU)).mono ?_)
 rintro e w75 ⟨lq193, sq193, Aq193, cq193, Eq193, rfl, Cq193, Oq193, hb⟩
 refine ⟨_, rfl, hb, ?_⟩
 replace HC1 := zH HM1 HC1 hb
 replace Oq191 := zQ Oq191 hb
 replace Oq192 := zQ Oq192 hb
 replace HL := hide (VL.kept HL.out hb)
 replace Oq193 := hide Oq193.out.rd
 replace hU := zU hU hU.size hb
 clear hb
 obtain ⟨Lq193, Yq193⟩ := gly Eq193.out ((by rw [Eq191.out, Eq192.out]; exact gd_of (by decide +kernel)))
 replace Eq193 := hide (show (⟨lq193, sq193⟩ : Vc) = vPow ⟨ofB ⟨#[48, 48, 49, 49]⟩, false⟩ ⟨ofB ⟨#[49, 48, 49]⟩, false⟩ from Eq193.out.trans (by rw [Eq191.out, Eq192.out]))
 clear Oq191 Cq191 Lq191 Yq191 Oq192 Cq192 Lq192 Yq192
 refine zac (i := 47) (m' := 897227025082773292366518262096013308818644166382150252171409624070619135) rfl rfl ((vof_any ⟨#[48, 48, 49, 49]⟩ _ (by decide)).mono ?_)
 rintro e w76 ⟨lq194, sq194, Aq194, cq194, Eq194, rfl, Cq194, Oq194, hb⟩
 refine ⟨_, rfl, hb, ?_⟩
 replace HC1 := zH HM1 HC1 hb
 replace Oq193 := zQ Oq193 hb
 replace HL := hide (VL.kept HL.out hb)
 replace Oq194 := hide Oq194.out.rd
 replace hU := zU hU hU.size hb
 clear hb
 obtain ⟨Lq194, Yq194⟩ := gly Eq194.out (gd_of (by decide +kernel))
 refine zav (i := 48) (m' := 897227025082773292366518262096013308818644166382150252171691099047329791) (v := .agg #[.slice Aq193 lq193.length cq193, .bool sq193, .slice Aq194 lq194.length cq194, .bool sq194]) F hQ rfl rfl ?_
 replace HL := hide (VL.cons Oq194.out (VL.cons Oq193.out HL.out))
 clear Oq193 Cq193 Yq193 Oq194 Cq194 Yq194
 refine anyR_keep [(380, .agg #[.slice Akk lkk.length ckk, .bool skk])] (Kp_c (by kernel_rfl) (Kp_n)) ?_
 refine EX_c0 _ w w40 w76 _ _ Akk lkk ckk skk Pr1 HT hU HL HM1 HC1 p1_kk Ckk Ekk Lkk Ykk F hQ (fun E0 w128 hold lq198 sq198 Aq198 cq198 lq199 sq199 Aq199 cq199 lq203 sq203 Aq203 cq203 lq204 sq204 Aq204 cq204 lq208 sq208 Aq208 cq208 lq209 sq209 Aq209 cq209 lq213 sq213 Aq213 cq213 lq214 sq214 Aq214 cq214 lq218 sq218 Aq218 cq218 lq219 sq219 Aq219 cq219 lq223 sq223 Aq223 cq223 lq224 sq224 Aq224 cq224 lq228 sq228 Aq228 cq228 lq229 sq229 Aq229 cq229 lq233 sq233 Aq233 cq233 lq234 sq234 Aq234 cq234 lq238 sq238 Aq238 cq238 lq239 sq239 Aq239 cq239 lq243 sq243 Aq243 cq243 lq244 sq244 Aq244 cq244 lq248 sq248 Aq248 cq248 lq249 sq249 Aq249 cq249 lq253 sq253 Aq253 cq253 lq254 sq254 Aq254 cq254 lq258 sq258 Aq258 cq258 lq259 sq259 Aq259 cq259 hKp hU HL HC1 Eq198 Eq199 Eq203 Eq204 Eq208 Eq209 Eq213 Eq214 Eq218 Eq219 Eq223 Eq224 Eq228 Eq229 Eq233 Eq234 Eq238 Eq239 Eq243 Eq244 Eq248 Eq249 Eq253 Eq254 Eq258 Eq259 Lq198 Lq199 Lq203 Lq204 Lq208 Lq209 Lq213 Lq214 Lq218 Lq219 Lq223 Lq224 Lq228 Lq229 Lq233 Lq234 Lq238 Lq239 Lq243 Lq244 Lq248 Lq249 Lq253 Lq254 Lq258 Lq259 => ?_)
 refine anyR_keep ([(200, .agg #[.slice Aq198 lq198.length cq198, .bool sq198, .slice Aq199 lq199.length cq199, .bool sq199]), (205, .agg #[.slice Aq203 lq203.length cq203, .bool sq203, .slice Aq204 lq204.length cq204, .bool sq204]), (210, .agg #[.slice Aq208 lq208.length cq208, .bool sq208, .slice Aq209 lq209.length cq209, .bool sq209]), (215, .agg #[.slice Aq213 lq213.length cq213, .bool sq213, .slice Aq214 lq214.length cq214, .bool sq214]), (220, .agg #[.slice Aq218 lq218.length cq218, .bool sq218, .slice Aq219 lq219.length cq219, .bool sq219]), (225, .agg #[.slice Aq223 lq223.length cq223, .bool sq223, .slice Aq224 lq224.length cq224, .bool sq224]), (230, .agg #[.slice Aq228 lq228.length cq228, .bool sq228, .slice Aq229 lq229.length cq229, .bool sq229]), (235, .agg #[.slice Aq233 lq233.length cq233, .bool sq233, .slice Aq234 lq234.length cq234, .bool sq234]), (240, .agg #[.slice Aq238 lq238.length cq238, .bool sq238, .slice Aq239 lq239.length cq239, .bool sq239]), (245, .agg #[.slice Aq243 lq243.length cq243, .bool sq243, .slice Aq244 lq244.length cq244, .bool sq244]), (250, .agg #[.slice Aq248 lq248.length cq248, .bool sq248, .slice Aq249 lq249.length cq249, .bool sq249]), (255, .agg #[.slice Aq253 lq253.length cq253, .bool sq253, .slice Aq254 lq254.length cq254, .bool sq254]), (260, .agg #[.slice Aq258 lq258.length cq258, .bool sq258, .slice Aq259 lq259.length cq259, .bool sq259])] ++ [(380, .agg #[.slice Akk lkk.length ckk, .bool skk]), (386, .int .i64 0), (150, .agg #[.slice Aq148 lq148.length cq148, .bool sq148, .slice Aq149 lq149.length cq149, .bool sq149]), (155, .agg #[.slice Aq153 lq153.length cq153, .bool sq153, .slice Aq154 lq154.length cq154, .bool sq154]), (160, .agg #[.slice Aq158 lq158.length cq158, .bool sq158, .slice Aq159 lq159.length cq159, .bool sq159]), (165, .agg #[.slice Aq163 lq163.length cq163, .bool sq163, .slice Aq164 lq164.length cq164, .bool sq164]), (170, .agg #[.slice Aq168 lq168.length cq168, .bool sq168, .slice Aq169 lq169.length cq169, .bool sq169]), (175, .agg #[.slice Aq173 lq173.length cq173, .bool sq173, .slice Aq174 lq174.length cq174, .bool sq174]), (180, .agg #[.slice Aq178 lq178.length cq178, .bool sq178, .slice Aq179 lq179.length cq179, .bool sq179]), (185, .agg #[.slice Aq183 lq183.length cq183, .bool sq183, .slice Aq184 lq184.length cq184, .bool sq184]), (190, .agg #[.slice Aq188 lq188.length cq188, .bool sq188, .slice Aq189 lq189.length cq189, .bool sq189]), (195, .agg #[.slice Aq193 lq193.length cq193, .bool sq193, .slice Aq194 lq194.length cq194, .bool sq194])]) (Kp_app hKp (Kp_hold hold (by kernel_rfl) (Kp_c (by kernel_rfl) (Kp_c (by kernel_rfl) (Kp_c (by kernel_rfl) (Kp_c (by kernel_rfl) (Kp_c (by kernel_rfl) (Kp_c (by kernel_rfl) (Kp_c (by kernel_rfl) (Kp_c (by kernel_rfl) (Kp_c (by kernel_rfl) (Kp_c (by kernel_rfl) (Kp_c (by kernel_rfl) (Kp_c (by kernel_rfl) (Kp_n))))))))))))))) ?_
 clear hKp hold
 refine anyR_keep [(380, .agg #[.slice Akk lkk.length ckk, .bool skk])] (Kp_c (by kernel_rfl) (Kp_n)) ?_
 refine EX_c1 _ w w40 w128 _ _ Akk lkk ckk skk Pr1 HT hU HL HM1 HC1 p1_kk Ckk Ekk Lkk Ykk F hQ (fun E1 w171 hold lq263 sq263 Aq263 cq263 lq264 sq264 Aq264 cq264 lq268 sq268 Aq268 cq268 lq269 sq269 Aq269 cq269 lq272 sq272 Aq272 cq272 lq273 sq273 Aq273 cq273 lq276 sq276 Aq276 cq276 lq277 sq277 Aq277 cq277 lq280 sq280 Aq280 cq280 lq281 sq281 Aq281 cq281 lq284 sq284 Aq284 cq284 lq285 sq285 Aq285 cq285 lq288 sq288 Aq288 cq288 lq289 sq289 Aq289 cq289 lq292 sq292 Aq292 cq292 lq293 sq293 Aq293 cq293 lq296 sq296 Aq296 cq296 lq297 sq297 Aq297 cq297 lq301 sq301 Aq301 cq301 lq302 sq302 Aq302 cq302 lq306 sq306 Aq306 cq306 lq307 sq307 Aq307 cq307 lq310 sq310 Aq310 cq310 lq311 sq311 Aq311 cq311 lq314 sq314 Aq314 cq314 lq315 sq315 Aq315 cq315 hKp hU HL HC1 Eq263 Eq264 Eq268 Eq269 Eq272 Eq273 Eq276 Eq277 Eq280 Eq281 Eq284 Eq285 Eq288 Eq289 Eq292 Eq293 Eq296 Eq297 Eq301 Eq302 Eq306 Eq307 Eq310 Eq311 Eq314 Eq315 Lq263 Lq264 Lq268 Lq269 Lq272 Lq273 Lq276 Lq277 Lq280 Lq281 Lq284 Lq285 Lq288 Lq289 Lq292 Lq293 Lq296 Lq297 Lq301 Lq302 Lq306 Lq307 Lq310 Lq311 Lq314 Lq315 => ?_)
 refine anyR_keep ([(265, .agg #[.slice Aq263 lq263.length cq263, .bool sq263, .slice Aq264 lq264.length cq264, .bool sq264]), (270, .agg #[.slice Aq268 lq268.length cq268, .bool sq268, .slice Aq269 lq269.length cq269, .bool sq269]), (274, .agg #[.slice Aq272 lq272.length cq272, .bool sq272, .slice Aq273 lq273.length cq273, .bool sq273]), (278, .agg #[.slice Aq276 lq276.length cq276, .bool sq276, .slice Aq277 lq277.length cq277, .bool sq277]), (282, .agg #[.slice Aq280 lq280.length cq280, .bool sq280, .slice Aq281 lq281.length cq281, .bool sq281]), (286, .agg #[.slice Aq284 lq284.length cq284, .bool sq284, .slice Aq285 lq285.length cq285, .bool sq285]), (290, .agg #[.slice Aq288 lq288.length cq288, .bool sq288, .slice Aq289 lq289.length cq289, .bool sq289]), (294, .agg #[.slice Aq292 lq292.length cq292, .bool sq292, .slice Aq293 lq293.length cq293, .bool sq293]), (298, .agg #[.slice Aq296 lq296.length cq296, .bool sq296, .slice Aq297 lq297.length cq297, .bool sq297]), (303, .agg #[.slice Aq301 lq301.length cq301, .bool sq301, .slice Aq302 lq302.length cq302, .bool sq302]), (308, .agg #[.slice Aq306 lq306.length cq306, .bool sq306, .slice Aq307 lq307.length cq307, .bool sq307]), (312, .agg #[.slice Aq310 lq310.length cq310, .bool sq310, .slice Aq311 lq311.length cq311, .bool sq311]), (316, .agg #[.slice Aq314 lq314.length cq314, .bool sq314, .slice Aq315 lq315.length cq315, .bool sq315])] ++ [(200, .agg #[.slice Aq198 lq198.length cq198, .bool sq198, .slice Aq199 lq199.length cq199, .bool sq199]), (205, .agg #[.slice Aq203 lq203.length cq203, .bool sq203, .slice Aq204 lq204.length cq204, .bool sq204]), (210, .agg #[.slice Aq208 lq208.length cq208, .bool sq208, .slice Aq209 lq209.length cq209, .bool sq209]), (215, .agg #[.slice Aq213 lq213.length cq213, .bool sq213, .slice Aq214 lq214.length cq214, .bool sq214]), (220, .agg #[.slice Aq218 lq218.length cq218, .bool sq218, .slice Aq219 lq219.length cq219, .bool sq219]), (225, .agg #[.slice Aq223 lq223.length cq223, .bool sq223, .slice Aq224 lq224.length cq224, .bool sq224]), (230, .agg #[.slice Aq228 lq228.length cq228, .bool sq228, .slice Aq229 lq229.length cq229, .bool sq229]), (235, .agg #[.slice Aq233 lq233.length cq233, .bool sq233, .slice Aq234 lq234.length cq234, .bool sq234]), (240, .agg #[.slice Aq238 lq238.length cq238, .bool sq238, .slice Aq239 lq239.length cq239, .bool sq239]), (245, .agg #[.slice Aq243 lq243.length cq243, .bool sq243, .slice Aq244 lq244.length cq244, .bool sq244]), (250, .agg #[.slice Aq248 lq248.length cq248, .bool sq248, .slice Aq249 lq249.length cq249, .bool sq249]), (255, .agg #[.slice Aq253 lq253.length cq253, .bool sq253, .slice Aq254 lq254.length cq254, .bool sq254]), (260, .agg #[.slice Aq258 lq258.length cq258, .bool sq258, .slice Aq259 lq259.length cq259, .bool sq259]), (380, .agg #[.slice Akk lkk.length ckk, .bool skk]), (386, .int .i64 0), (150, .agg #[.slice Aq148 lq148.length cq148, .bool sq148, .slice Aq149 lq149.length cq149, .bool sq149]), (155, .agg #[.slice Aq153 lq153.length cq153, .bool sq153, .slice Aq154 lq154.length cq154, .bool sq154]), (160, .agg #[.slice Aq158 lq158.length cq158, .bool sq158, .slice Aq159 lq159.length cq159, .bool sq159]), (165, .agg #[.slice Aq163 lq163.length cq163, .bool sq163, .slice Aq164 lq164.length cq164, .bool sq164]), (170, .agg #[.slice Aq168 lq168.length cq168, .bool sq168, .slice Aq169 lq169.length cq169, .bool sq169]), (175, .agg #[.slice Aq173 lq173.length cq173, .bool sq173, .slice Aq174 lq174.length cq174, .bool sq174]), (180, .agg #[.slice Aq178 lq178.length cq178, .bool sq178, .slice Aq179 lq179.length cq179, .bool sq179]), (185, .agg #[.slice Aq183 lq183.length cq183, .bool sq183, .slice Aq184 lq184.length cq184, .bool sq184]), (190, .agg #[.slice Aq188 lq188.length cq188, .bool sq188, .slice Aq189 lq189.length cq189, .bool sq189]), (195, .agg #[.slice Aq193 lq193.length cq193, .bool sq193, .slice Aq194 lq194.length cq194, .bool sq194])]) (Kp_app hKp (Kp_hold hold (by kernel_rfl) (Kp_c (by kernel_rfl) (Kp_c (by kernel_rfl) (Kp_c (by kernel_rfl) (Kp_c (by kernel_rfl) (Kp_c (by kernel_rfl) (Kp_c (by kernel_rfl) (Kp_c (by kernel_rfl) (Kp_c (by kernel_rfl) (Kp_c (by kernel_rfl) (Kp_c (by kernel_rfl) (Kp_c (by kernel_rfl) (Kp_c (by kernel_rfl) (Kp_c (by kernel_rfl) (Kp_c (by kernel_rfl) (Kp_c (by kernel_rfl) (Kp_c (by kernel_rfl) (Kp_c (by kernel_rfl) (Kp_c (by kernel_rfl) (Kp_c (by kernel_rfl) (Kp_c (by kernel_rfl) (Kp_c (by kernel_rfl) (Kp_c (by kernel_rfl) (Kp_c (by kernel_rfl) (Kp_c (by kernel_rfl) (Kp_c (by kernel_rfl) (Kp_n)))))))))))))))))))))))))))) ?_
 clear hKp hold
 refine anyR_keep [(380, .agg #[.slice Akk lkk.length ckk, .bool skk])] (Kp_c (by kernel_rfl) (Kp_n)) ?_
 refine EX_c2 _ w w40 w171 _ _ Akk lkk ckk skk Pr1 HT hU HL HM1 HC1 p1_kk Ckk Ekk Lkk Ykk F hQ (fun E2 w224 hold lq319 sq319 Aq319 cq319 lq320 sq320 Aq320 cq320 lq324 sq324 Aq324 cq324 lq325 sq325 Aq325 cq325 lq329 sq329 Aq329 cq329 lq330 sq330 Aq330 cq330 lq334 sq334 Aq334 cq334 lq335 sq335 Aq335 cq335 lq339 sq339 Aq339 cq339 lq340 sq340 Aq340 cq340 lq344 sq344 Aq344 cq344 lq345 sq345 Aq345 cq345 lq349 sq349 Aq349 cq349 lq350 sq350 Aq350 cq350 lq354 sq354 Aq354 cq354 lq355 sq355 Aq355 cq355 lq359 sq359 Aq359 cq359 lq360 sq360 Aq360 cq360 lq365 sq365 Aq365 cq365 lq366 sq366 Aq366 cq366 lq371 sq371 Aq371 cq371 lq372 sq372 Aq372 cq372 lq377 sq377 Aq377 cq377 lq378 sq378 Aq378 cq378 lq381 sq381 Aq381 cq381 lq382 sq382 Aq382 cq382 hKp hU HL HC1 Eq319 Eq320 Eq324 Eq325 Eq329 Eq330 Eq334 Eq335 Eq339 Eq340 Eq344 Eq345 Eq349 Eq350 Eq354 Eq355 Eq359 Eq360 Eq365 Eq366 Eq371 Eq372 Eq377 Eq378 Eq381 Eq382 Lq319 Lq320 Lq324 Lq325 Lq329 Lq330 Lq334 Lq335 Lq339 Lq340 Lq344 Lq345 Lq349 Lq350 Lq354 Lq355 Lq359 Lq360 Lq365 Lq366 Lq371 Lq372 Lq377 Lq378 Lq381 Lq382 => ?_)
 refine anyR_keep ([(321, .agg #[.slice Aq319 lq319.length cq319, .bool sq319, .slice Aq320 lq320.length cq320, .bool sq320]), (326, .agg #[.slice Aq324 lq324.length cq324, .bool sq324, .slice Aq325 lq325.length cq325, .bool sq325]), (331, .agg #[.slice Aq329 lq329.length cq329, .bool sq329, .slice Aq330 lq330.length cq330, .bool sq330]), (336, .agg #[.slice Aq334 lq334.length cq334, .bool sq334, .slice Aq335 lq335.length cq335, .bool sq335]), (341, .agg #[.slice Aq339 lq339.length cq339, .bool sq339, .slice Aq340 lq340.length cq340, .bool sq340]), (346, .agg #[.slice Aq344 lq344.length cq344, .bool sq344, .slice Aq345 lq345.length cq345, .bool sq345]), (351, .agg #[.slice Aq349 lq349.length cq349, .bool sq349, .slice Aq350 lq350.length cq350, .bool sq350]), (356, .agg #[.slice Aq354 lq354.length cq354, .bool sq354, .slice Aq355 lq355.length cq355, .bool sq355]), (361, .agg #[.slice Aq359 lq359.length cq359, .bool sq359, .slice Aq360 lq360.length cq360, .bool sq360]), (367, .agg #[.slice Aq365 lq365.length cq365, .bool sq365, .slice Aq366 lq366.length cq366, .bool sq366]), (373, .agg #[.slice Aq371 lq371.length cq371, .bool sq371, .slice Aq372 lq372.length cq372, .bool sq372]), (379, .agg #[.slice Aq377 lq377.length cq377, .bool sq377, .slice Aq378 lq378.length cq378, .bool sq378]), (383, .agg #[.slice Aq381 lq381.length cq381, .bool sq381, .slice Aq382 lq382.length cq382, .bool sq382])] ++ [(265, .agg #[.slice Aq263 lq263.length cq263, .bool sq263, .slice Aq264 lq264.length cq264, .bool sq264]), (270, .agg #[.slice Aq268 lq268.length cq268, .bool sq268, .slice Aq269 lq269.length cq269, .bool sq269]), (274, .agg #[.slice Aq272 lq272.length cq272, .bool sq272, .slice Aq273 lq273.length cq273, .bool sq273]), (278, .agg #[.slice Aq276 lq276.length cq276, .bool sq276, .slice Aq277 lq277.length cq277, .bool sq277]), (282, .agg #[.slice Aq280 lq280.length cq280, .bool sq280, .slice Aq281 lq281.length cq281, .bool sq281]), (286, .agg #[.slice Aq284 lq284.length cq284, .bool sq284, .slice Aq285 lq285.length cq285, .bool sq285]), (290, .agg #[.slice Aq288 lq288.length cq288, .bool sq288, .slice Aq289 lq289.length cq289, .bool sq289]), (294, .agg #[.slice Aq292 lq292.length cq292, .bool sq292, .slice Aq293 lq293.length cq293, .bool sq293]), (298, .agg #[.slice Aq296 lq296.length cq296, .bool sq296, .slice Aq297 lq297.length cq297, .bool sq297]), (303, .agg #[.slice Aq301 lq301.length cq301, .bool sq301, .slice Aq302 lq302.length cq302, .bool sq302]), (308, .agg #[.slice Aq306 lq306.length cq306, .bool sq306, .slice Aq307 lq307.length cq307, .bool sq307]), (312, .agg #[.slice Aq310 lq310.length cq310, .bool sq310, .slice Aq311 lq311.length cq311, .bool sq311]), (316, .agg #[.slice Aq314 lq314.length cq314, .bool sq314, .slice Aq315 lq315.length cq315, .bool sq315]), (200, .agg #[.slice Aq198 lq198.length cq198, .bool sq198, .slice Aq199 lq199.length cq199, .bool sq199]), (205, .agg #[.slice Aq203 lq203.length cq203, .bool sq203, .slice Aq204 lq204.length cq204, .bool sq204]), (210, .agg #[.slice Aq208 lq208.length cq208, .bool sq208, .slice Aq209 lq209.length cq209, .bool sq209]), (215, .agg #[.slice Aq213 lq213.length cq213, .bool sq213, .slice Aq214 lq214.length cq214, .bool sq214]), (220, .agg #[.slice Aq218 lq218.length cq218, .bool sq218, .slice Aq219 lq219.length cq219, .bool sq219]), (225, .agg #[.slice Aq223 lq223.length cq223, .bool sq223, .slice Aq224 lq224.length cq224, .bool sq224]), (230, .agg #[.slice Aq228 lq228.length cq228, .bool sq228, .slice Aq229 lq229.length cq229, .bool sq229]), (235, .agg #[.slice Aq233 lq233.length cq233, .bool sq233, .slice Aq234 lq234.length cq234, .bool sq234]), (240, .agg #[.slice Aq238 lq238.length cq238, .bool sq238, .slice Aq239 lq239.length cq239, .bool sq239]), (245, .agg #[.slice Aq243 lq243.length cq243, .bool sq243, .slice Aq244 lq244.length cq244, .bool sq244]), (250, .agg #[.slice Aq248 lq248.length cq248, .bool sq248, .slice Aq249 lq249.length cq249, .bool sq249]), (255, .agg #[.slice Aq253 lq253.length cq253, .bool sq253, .slice Aq254 lq254.length cq254, .bool sq254]), (260, .agg #[.slice Aq258 lq258.length cq258, .bool sq258, .slice Aq259 lq259.length cq259, .bool sq259]), (386, .int .i64 0), (150, .agg #[.slice Aq148 lq148.length cq148, .bool sq148, .slice Aq149 lq149.length cq149, .bool sq149]), (155, .agg #[.slice Aq153 lq153.length cq153, .bool sq153, .slice Aq154 lq154.length cq154, .bool sq154]), (160, .agg #[.slice Aq158 lq158.length cq158, .bool sq158, .slice Aq159 lq159.length cq159, .bool sq159]), (165, .agg #[.slice Aq163 lq163.length cq163, .bool sq163, .slice Aq164 lq164.length cq164, .bool sq164]), (170, .agg #[.slice Aq168 lq168.length cq168, .bool sq168, .slice Aq169 lq169.length cq169, .bool sq169]), (175, .agg #[.slice Aq173 lq173.length cq173, .bool sq173, .slice Aq174 lq174.length cq174, .bool sq174]), (180, .agg #[.slice Aq178 lq178.length cq178, .bool sq178, .slice Aq179 lq179.length cq179, .bool sq179]), (185, .agg #[.slice Aq183 lq183.length cq183, .bool sq183, .slice Aq184 lq184.length cq184, .bool sq184]), (190, .agg #[.slice Aq188 lq188.length cq188, .bool sq188, .slice Aq189 lq189.length cq189, .bool sq189]), (195, .agg #[.slice Aq193 lq193.length cq193, .bool sq193, .slice Aq194 lq194.length cq194, .bool sq194])]) (Kp_app hKp (Kp_hold hold (by kernel_rfl) (Kp_c (by kernel_rfl) (Kp_c (by kernel_rfl) (Kp_c (by kernel_rfl) (Kp_c (by kernel_rfl) (Kp_c (by kernel_rfl) (Kp_c (by kernel_rfl) (Kp_c (by kernel_rfl) (Kp_c (by kernel_rfl) (Kp_c (by kernel_rfl) (Kp_c (by kernel_rfl) (Kp_c (by kernel_rfl) (Kp_c (by kernel_rfl) (Kp_c (by kernel_rfl) (Kp_c (by kernel_rfl) (Kp_c (by kernel_rfl) (Kp_c (by kernel_rfl) (Kp_c (by kernel_rfl) (Kp_c (by kernel_rfl) (Kp_c (by kernel_rfl) (Kp_c (by kernel_rfl) (Kp_c (by kernel_rfl) (Kp_c (by kernel_rfl) (Kp_c (by kernel_rfl) (Kp_c (by kernel_rfl) (Kp_c (by kernel_rfl) (Kp_c (by kernel_rfl) (Kp_c (by kernel_rfl) (Kp_c (by kernel_rfl) (Kp_c (by kernel_rfl) (Kp_c (by kernel_rfl) (Kp_c (by kernel_rfl) (Kp_c (by kernel_rfl) (Kp_c (by kernel_rfl) (Kp_c (by kernel_rfl) (Kp_c (by kernel_rfl) (Kp_c (by kernel_rfl) (Kp_c (by kernel_rfl) (Kp_n)))))))))))))))))))))))))))))))))))))))) ?_
 clear hKp hold
 refine anyR_split [237] (by kernel_rfl) rfl ⟨?_, trivial⟩
 refine stepR_bsrow (i := 237) (m' := 1325135298583788247187473125557188886870612922656714218591204650969464831) (T := 66) 49 [.slice Aq148 lq148.length cq148, .bool sq148, .slice Aq149 lq149.length cq149, .bool sq149, .slice Aq153 lq153.length cq153, .bool sq153, .slice Aq154 lq154.length cq154, .bool sq154, .slice Aq158 lq158.length cq158, .bool sq158, .slice Aq159 lq159.length cq159, .bool sq159, .slice Aq163 lq163.length cq163, .bool sq163, .slice Aq164 lq164.length cq164, .bool sq164, .slice Aq168 lq168.length cq168, .bool sq168, .slice Aq169 lq169.length cq169, .bool sq169, .slice Aq173 lq173.length cq173, .bool sq173, .slice Aq174 lq174.length cq174, .bool sq174, .slice Aq178 lq178.length cq178, .bool sq178, .slice Aq179 lq179.length cq179, .bool sq179, .slice Aq183 lq183.length cq183, .bool sq183, .slice Aq184 lq184.length cq184, .bool sq184, .slice Aq188 lq188.length cq188, .bool sq188, .slice Aq189 lq189.length cq189, .bool sq189, .slice Aq193 lq193.length cq193, .bool sq193, .slice Aq194 lq194.length cq194, .bool sq194, .slice Aq198 lq198.length cq198, .bool sq198, .slice Aq199 lq199.length cq199, .bool sq199, .slice Aq203 lq203.length cq203, .bool sq203, .slice Aq204 lq204.length cq204, .bool sq204, .slice Aq208 lq208.length cq208, .bool sq208, .slice Aq209 lq209.length cq209, .bool sq209, .slice Aq213 lq213.length cq213, .bool sq213, .slice Aq214 lq214.length cq214, .bool sq214, .slice Aq218 lq218.length cq218, .bool sq218, .slice Aq219 lq219.length cq219, .bool sq219, .slice Aq223 lq223.length cq223, .bool sq223, .slice Aq224 lq224.length cq224, .bool sq224, .slice Aq228 lq228.length cq228, .bool sq228, .slice Aq229 lq229.length cq229, .bool sq229, .slice Aq233 lq233.length cq233, .bool sq233, .slice Aq234 lq234.length cq234, .bool sq234, .slice Aq238 lq238.length cq238, .bool sq238, .slice Aq239 lq239.length cq239, .bool sq239, .slice Aq243 lq243.length cq243, .bool sq243, .slice Aq244 lq244.length cq244, .bool sq244, .slice Aq248 lq248.length cq248, .bool sq248, .slice Aq249 lq249.length cq249, .bool sq249, .slice Aq253 lq253.length cq253, .bool sq253, .slice Aq254 lq254.length cq254, .bool sq254, .slice Aq258 lq258.length cq258, .bool sq258, .slice Aq259 lq259.length cq259, .bool sq259, .slice Aq263 lq263.length cq263, .bool sq263, .slice Aq264 lq264.length cq264, .bool sq264, .slice Aq268 lq268.length cq268, .bool sq268, .slice Aq269 lq269.length cq269, .bool sq269, .slice Aq272 lq272.length cq272, .bool sq272, .slice Aq273 lq273.length cq273, .bool sq273, .slice Aq276 lq276.length cq276, .bool sq276, .slice Aq277 lq277.length cq277, .bool sq277, .slice Aq280 lq280.length cq280, .bool sq280, .slice Aq281 lq281.length cq281, .bool sq281, .slice Aq284 lq284.length cq284, .bool sq284, .slice Aq285 lq285.length cq285, .bool sq285, .slice Aq288 lq288.length cq288, .bool sq288, .slice Aq289 lq289.length cq289, .bool sq289, .slice Aq292 lq292.length cq292, .bool sq292, .slice Aq293 lq293.length cq293, .bool sq293, .slice Aq296 lq296.length cq296, .bool sq296, .slice Aq297 lq297.length cq297, .bool sq297, .slice Aq301 lq301.length cq301, .bool sq301, .slice Aq302 lq302.length cq302, .bool sq302, .slice Aq306 lq306.length cq306, .bool sq306, .slice Aq307 lq307.length cq307, .bool sq307, .slice Aq310 lq310.length cq310, .bool sq310, .slice Aq311 lq311.length cq311, .bool sq311, .slice Aq314 lq314.length cq314, .bool sq314, .slice Aq315 lq315.length cq315, .bool sq315, .slice Aq319 lq319.length cq319, .bool sq319, .slice Aq320 lq320.length cq320, .bool sq320, .slice Aq324 lq324.length cq324, .bool sq324, .slice Aq325 lq325.length cq325, .bool sq325, .slice Aq329 lq329.length cq329, .bool sq329, .slice Aq330 lq330.length cq330, .bool sq330, .slice Aq334 lq334.length cq334, .bool sq334, .slice Aq335 lq335.length cq335, .bool sq335, .slice Aq339 lq339.length cq339, .bool sq339, .slice Aq340 lq340.length cq340, .bool sq340, .slice Aq344 lq344.length cq344, .bool sq344, .slice Aq345 lq345.length cq345, .bool sq345, .slice Aq349 lq349.length cq349, .bool sq349, .slice Aq350 lq350.length cq350, .bool sq350, .slice Aq354 lq354.length cq354, .bool sq354, .slice Aq355 lq355.length cq355, .bool sq355, .slice Aq359 lq359.length cq359, .bool sq359, .slice Aq360 lq360.length cq360, .bool sq360, .slice Aq365 lq365.length cq365, .bool sq365, .slice Aq366 lq366.length cq366, .bool sq366, .slice Aq371 lq371.length cq371, .bool sq371, .slice Aq372 lq372.length cq372, .bool sq372, .slice Aq377 lq377.length cq377, .bool sq377, .slice Aq378 lq378.length cq378, .bool sq378, .slice Aq381 lq381.length cq381, .bool sq381, .slice Aq382 lq382.length cq382, .bool sq382] rfl rfl (by kernel_rfl) (by kernel_rfl) (by kernel_rfl) (by kernel_rfl) ?_
 intro w225 NR ZR hb
 replace ZR := hide ZR
 replace HC1 := zH HM1 HC1 hb
 replace HL := hide (VL.kept HL.out hb)
 replace hU := zU hU hU.size hb
 clear hb
 refine zav (i := 238) (m' := 1766847064778384329583297500742918515827483896875618958121606201292619775) (v := .int .i64 49) F hQ rfl rfl (anyR_e (anyE_done (by kernel_rfl) ?_))
 clear F hQ HC0
 refine then_normal (wp_block (loop_r 50 (round_s (zs (z1 [(387, z_t)] (wpl_end ?_))))))
 refine then_normal (wp_seq (zit (wp_skip (then_normal (wp_seq (wp_block (wp_seq ?_)))))))
 refine reg_lit (z1 [(388, pt NR 0)] (wpl_val rfl (by kernel_rfl) (run_ldrow (j := 0) (A := Aq148) (m := lq148.length) (c := cq148) (s := sq148) (B := Aq149) (m2 := lq149.length) (c2 := cq149) (t := sq149) rfl (by kernel_rfl) ZR.out rfl rfl rfl rfl) (wpl_mkrow (A := Aq148) (m := lq148.length) (c := cq148) (s := sq148) (B := Aq149) (m2 := lq149.length) (c2 := cq149) (t := sq149) rfl rfl rfl rfl rfl rfl (fun _ => by kernel_rfl) (fun _ => by kernel_rfl) ?_)))
 intro w226 ND ZD hb
 replace ZD := hide ZD
 replace HC1 := zH HM1 HC1 hb
 replace HL := hide (VL.kept HL.out hb)
 replace ZR := hide (Arr.kept ZR.out hb)
 replace hU := zU hU hU.size hb
 clear hb
 refine sx_n (z1 [(390, pt ND 0)] (wpl_val rfl (by kernel_rfl) (run_ldarr (j := 0) (A := Aq148) (m := lq148.length) (c := cq148) (s := sq148) rfl (by kernel_rfl) ZD.out rfl rfl) (z1 [(392, pt ND 2)] (wpl_val rfl (by kernel_rfl) (run_ldarr (j := 2) (A := Aq149) (m := lq149.length) (c := cq149) (s := sq149) rfl (by kernel_rfl) ZD.out rfl rfl) ?_))))
 refine zc rfl ((rsame_yes Aq148 Aq149 lq148 lq149 cq148 cq149 sq148 sq149 _ Lq148.out Lq149.out (VL.at_ HL.out 97 rfl) (VL.at_ HL.out 96 rfl) (by rw [Eq148.out, Eq149.out]; exact (sm_iff _ _).1 (by decide +kernel))).mono ?_)
 rintro e w227 ⟨rfl, hb⟩
 refine ⟨_, rfl, ?_⟩
 replace HC1 := zH HM1 HC1 hb
 replace HL := hide (VL.kept HL.out hb)
 replace ZR := hide (Arr.kept ZR.out hb)
 replace ZD := hide (Arr.kept ZD.out hb)
 replace hU := zU hU hU.size hb
 clear hb
 refine z1 [(395, z_f)] (ze (zif (wp_skip (block_normal (then_normal (reg_lit ?_))))))
 refine z2 [(386, .int .i64 1), (396, .int .i64 1)] (ze ?_)
 clear ZD
 refine zk [(384, .slice (some ⟨NR, 0, none⟩) 49 49), (385, .int .i64 49), (386, .int .i64 1)] (fun X => ?_)
 refine round_s (zs (z1 [(387, z_t)] (ze (wp_seq (zit ?_)))))
 refine wp_skip (then_normal (wp_seq (wp_block (zs (z1 [(388, pt NR 4)] (wpl_val rfl (by kernel_rfl) (run_ldrow (j := 4) (A := Aq153) (m := lq153.length) (c := cq153) (s := sq153) (B := Aq154) (m2 := lq154.length) (c2 := cq154) (t := sq154) rfl (by kernel_rfl) ZR.out rfl rfl rfl rfl) ?_))))))
 refine wpl_mkrow (A := Aq153) (m := lq153.length) (c := cq153) (s := sq153) (B := Aq154) (m2 := lq154.length) (c2 := cq154) (t := sq154) rfl rfl rfl rfl rfl rfl (fun _ => by kernel_rfl) (fun _ => by kernel_rfl) ?_
 intro w228 ND ZD hb
 replace ZD := hide ZD
 replace HC1 := zH HM1 HC1 hb
 replace HL := hide (VL.kept HL.out hb)
 replace ZR := hide (Arr.kept ZR.out hb)
 replace hU := zU hU hU.size hb
 clear hb
 refine sx_n (z1 [(390, pt ND 0)] (wpl_val rfl (by kernel_rfl) (run_ldarr (j := 0) (A := Aq153) (m := lq153.length) (c := cq153) (s := sq153) rfl (by kernel_rfl) ZD.out rfl rfl) (z1 [(392, pt ND 2)] (wpl_val rfl (by kernel_rfl) (run_ldarr (j := 2) (A := Aq154) (m := lq154.length) (c := cq154) (s := sq154) rfl (by kernel_rfl) ZD.out rfl rfl) ?_))))
 refine zc rfl ((rsame_yes Aq153 Aq154 lq153 lq154 cq153 cq154 sq153 sq154 _ Lq153.out Lq154.out (VL.at_ HL.out 95 rfl) (VL.at_ HL.out 94 rfl) (by rw [Eq153.out, Eq154.out]; exact (sm_iff _ _).1 (by decide +kernel))).mono ?_)
 rintro e w229 ⟨rfl, hb⟩
 refine ⟨_, rfl, ?_⟩
 replace HC1 := zH HM1 HC1 hb
 replace HL := hide (VL.kept HL.out hb)
 replace ZR := hide (Arr.kept ZR.out hb)
 replace ZD := hide (Arr.kept ZD.out hb)
 replace hU := zU hU hU.size hb
 clear hb
 refine z1 [(395, z_f)] (ze (zif (wp_skip (block_normal (then_normal (reg_lit ?_))))))
 refine z2 [(386, .int .i64 2), (396, .int .i64 2)] (ze ?_)
 clear ZD
 refine zk [(384, .slice (some ⟨NR, 0, none⟩) 49 49), (385, .int .i64 49), (386, .int .i64 2)] (fun X => ?_)
 refine round_s (zs (z1 [(387, z_t)] (ze (wp_seq (zit ?_)))))
 refine wp_skip (then_normal (wp_seq (wp_block (zs (z1 [(388, pt NR 8)] (wpl_val rfl (by kernel_rfl) (run_ldrow (j := 8) (A := Aq158) (m := lq158.length) (c := cq158) (s := sq158) (B := Aq159) (m2 := lq159.length) (c2 := cq159) (t := sq159) rfl (by kernel_rfl) ZR.out rfl rfl rfl rfl) ?_))))))
 refine wpl_mkrow (A := Aq158) (m := lq158.length) (c := cq158) (s := sq158) (B := Aq159) (m2 := lq159.length) (c2 := cq159) (t := sq159) rfl rfl rfl rfl rfl rfl (fun _ => by kernel_rfl) (fun _ => by kernel_rfl) ?_
 intro w230 ND ZD hb
 replace ZD := hide ZD
 replace HC1 := zH HM1 HC1 hb
 replace HL := hide (VL.kept HL.out hb)
 replace ZR := hide (Arr.kept ZR.out hb)
 replace hU := zU hU hU.size hb
 clear hb
 refine sx_n (z1 [(390, pt ND 0)] (wpl_val rfl (by kernel_rfl) (run_ldarr (j := 0) (A := Aq158) (m := lq158.length) (c := cq158) (s := sq158) rfl (by kernel_rfl) ZD.out rfl rfl) (z1 [(392, pt ND 2)] (wpl_val rfl (by kernel_rfl) (run_ldarr (j := 2) (A := Aq159) (m := lq159.length) (c := cq159) (s := sq159) rfl (by kernel_rfl) ZD.out rfl rfl) ?_))))
 refine zc rfl ((rsame_yes Aq158 Aq159 lq158 lq159 cq158 cq159 sq158 sq159 _ Lq158.out Lq159.out (VL.at_ HL.out 93 rfl) (VL.at_ HL.out 92 rfl) (by rw [Eq158.out, Eq159.out]; exact (sm_iff _ _).1 (by decide +kernel))).mono ?_)
 rintro e w231 ⟨rfl, hb⟩
 refine ⟨_, rfl, ?_⟩
 replace HC1 := zH HM1 HC1 hb
 replace HL := hide (VL.kept HL.out hb)
 replace ZR := hide (Arr.kept ZR.out hb)
 replace ZD := hide (Arr.kept ZD.out hb)
 replace hU := zU hU hU.size hb
 clear hb
 refine z1 [(395, z_f)] (ze (zif (wp_skip (block_normal (then_normal (reg_lit ?_))))))
 refine z2 [(386, .int .i64 3), (396, .int .i64 3)] (ze ?_)
 clear ZD
 refine zk [(384, .slice (some ⟨NR, 0, none⟩) 49 49), (385, .int .i64 49), (386, .int .i64 3)] (fun X => ?_)
 refine round_s (zs (z1 [(387, z_t)] (ze (wp_seq (zit ?_)))))
 refine wp_skip (then_normal (wp_seq (wp_block (zs (z1 [(388, pt NR 12)] (wpl_val rfl (by kernel_rfl) (run_ldrow (j := 12) (A := Aq163) (m := lq163.length) (c := cq163) (s := sq163) (B := Aq164) (m2 := lq164.length) (c2 := cq164) (t := sq164) rfl (by kernel_rfl) ZR.out rfl rfl rfl rfl) ?_))))))
 refine wpl_mkrow (A := Aq163) (m := lq163.length) (c := cq163) (s := sq163) (B := Aq164) (m2 := lq164.length) (c2 := cq164) (t := sq164) rfl rfl rfl rfl rfl rfl (fun _ => by kernel_rfl) (fun _ => by kernel_rfl) ?_
 intro w232 ND ZD hb
 replace ZD := hide ZD
 replace HC1 := zH HM1 HC1 hb
 replace HL := hide (VL.kept HL.out hb)
 replace ZR := hide (Arr.kept ZR.out hb)
 replace hU := zU hU hU.size hb
 clear hb
 refine sx_n (z1 [(390, pt ND 0)] (wpl_val rfl (by kernel_rfl) (run_ldarr (j := 0) (A := Aq163) (m := lq163.length) (c := cq163) (s := sq163) rfl (by kernel_rfl) ZD.out rfl rfl) (z1 [(392, pt ND 2)] (wpl_val rfl (by kernel_rfl) (run_ldarr (j := 2) (A := Aq164) (m := lq164.length) (c := cq164) (s := sq164) rfl (by kernel_rfl) ZD.out rfl rfl) ?_))))
 refine zc rfl ((rsame_yes Aq163 Aq164 lq163 lq164 cq163 cq164 sq163 sq164 _ Lq163.out Lq164.out (VL.at_ HL.out 91 rfl) (VL.at_ HL.out 90 rfl) (by rw [Eq163.out, Eq164.out]; exact (sm_iff _ _).1 (by decide +kernel))).mono ?_)
 rintro e w233 ⟨rfl, hb⟩
 refine ⟨_, rfl, ?_⟩
 replace HC1 := zH HM1 HC1 hb
 replace HL := hide (VL.kept HL.out hb)
 replace ZR := hide (Arr.kept ZR.out hb)
 replace ZD := hide (Arr.kept ZD.out hb)
 replace hU := zU hU hU.size hb
 clear hb
 refine z1 [(395, z_f)] (ze (zif (wp_skip (block_normal (then_normal (reg_lit ?_))))))
 refine z2 [(386, .int .i64 4), (396, .int .i64 4)] (ze ?_)
 clear ZD
 refine zk [(384, .slice (some ⟨NR, 0, none⟩) 49 49), (385, .int .i64 49), (386, .int .i64 4)] (fun X => ?_)
 refine round_s (zs (z1 [(387, z_t)] (ze (wp_seq (zit ?_)))))
 refine wp_skip (then_normal (wp_seq (wp_block (zs (z1 [(388, pt NR 16)] (wpl_val rfl (by kernel_rfl) (run_ldrow (j := 16) (A := Aq168) (m := lq168.length) (c := cq168) (s := sq168) (B := Aq169) (m2 := lq169.length) (c2 := cq169) (t := sq169) rfl (by kernel_rfl) ZR.out rfl rfl rfl rfl) ?_))))))
 refine wpl_mkrow (A := Aq168) (m := lq168.length) (c := cq168) (s := sq168) (B := Aq169) (m2 := lq169.length) (c2 := cq169) (t := sq169) rfl rfl rfl rfl rfl rfl (fun _ => by kernel_rfl) (fun _ => by kernel_rfl) ?_
 intro w234 ND ZD hb
 replace ZD := hide ZD
 replace HC1 := zH HM1 HC1 hb
 replace HL := hide (VL.kept HL.out hb)
 replace ZR := hide (Arr.kept ZR.out hb)
 replace hU := zU hU hU.size hb
 clear hb
 refine sx_n (z1 [(390, pt ND 0)] (wpl_val rfl (by kernel_rfl) (run_ldarr (j := 0) (A := Aq168) (m := lq168.length) (c := cq168) (s := sq168) rfl (by kernel_rfl) ZD.out rfl rfl) (z1 [(392, pt ND 2)] (wpl_val rfl (by kernel_rfl) (run_ldarr (j := 2) (A := Aq169) (m := lq169.length) (c := cq169) (s := sq169) rfl (by kernel_rfl) ZD.out rfl rfl) ?_))))
 refine zc rfl ((rsame_yes Aq168 Aq169 lq168 lq169 cq168 cq169 sq168 sq169 _ Lq168.out Lq169.out (VL.at_ HL.out 89 rfl) (VL.at_ HL.out 88 rfl) (by rw [Eq168.out, Eq169.out]; exact (sm_iff _ _).1 (by decide +kernel))).mono ?_)
 rintro e w235 ⟨rfl, hb⟩
 refine ⟨_, rfl, ?_⟩
 replace HC1 := zH HM1 HC1 hb
 replace HL := hide (VL.kept HL.out hb)
 replace ZR := hide (Arr.kept ZR.out hb)
 replace ZD := hide (Arr.kept ZD.out hb)
 replace hU := zU hU hU.size hb
 clear hb
 refine z1 [(395, z_f)] (ze (zif (wp_skip (block_normal (then_normal (reg_lit ?_))))))
 refine z2 [(386, .int .i64 5), (396, .int .i64 5)] (ze ?_)
 clear ZD
 refine zk [(384, .slice (some ⟨NR, 0, none⟩) 49 49), (385, .int .i64 49), (386, .int .i64 5)] (fun X => ?_)
 refine round_s (zs (z1 [(387, z_t)] (ze (wp_seq (zit ?_)))))
 refine wp_skip (then_normal (wp_seq (wp_block (zs (z1 [(388, pt NR 20)] (wpl_val rfl (by kernel_rfl) (run_ldrow (j := 20) (A := Aq173) (m := lq173.length) (c := cq173) (s := sq173) (B := Aq174) (m2 := lq174.length) (c2 := cq174) (t := sq174) rfl (by kernel_rfl) ZR.out rfl rfl rfl rfl) ?_))))))
 refine wpl_mkrow (A := Aq173) (m := lq173.length) (c := cq173) (s := sq173) (B := Aq174) (m2 := lq174.length) (c2 := cq174) (t := sq174) rfl rfl rfl rfl rfl rfl (fun _ => by kernel_rfl) (fun _ => by kernel_rfl) ?_
 intro w236 ND ZD hb
 replace ZD := hide ZD
 replace HC1 := zH HM1 HC1 hb
 replace HL := hide (VL.kept HL.out hb)
 replace ZR := hide (Arr.kept ZR.out hb)
 replace hU := zU hU hU.size hb
 clear hb
 refine sx_n (z1 [(390, pt ND 0)] (wpl_val rfl (by kernel_rfl) (run_ldarr (j := 0) (A := Aq173) (m := lq173.length) (c := cq173) (s := sq173) rfl (by kernel_rfl) ZD.out rfl rfl) (z1 [(392, pt ND 2)] (wpl_val rfl (by kernel_rfl) (run_ldarr (j := 2) (A := Aq174) (m := lq174.length) (c := cq174) (s := sq174) rfl (by kernel_rfl) ZD.out rfl rfl) ?_))))
 refine zc rfl ((rsame_yes Aq173 Aq174 lq173 lq174 cq173 cq174 sq173 sq174 _ Lq173.out Lq174.out (VL.at_ HL.out 87 rfl) (VL.at_ HL.out 86 rfl) (by rw [Eq173.out, Eq174.out]; exact (sm_iff _ _).1 (by decide +kernel))).mono ?_)
 rintro e w237 ⟨rfl, hb⟩
 refine ⟨_, rfl, ?_⟩
 replace HC1 := zH HM1 HC1 hb
 replace HL := hide (VL.kept HL.out hb)
 replace ZR := hide (Arr.kept ZR.out hb)
 replace ZD := hide (Arr.kept ZD.out hb)
 replace hU := zU hU hU.size hb
 clear hb
 refine z1 [(395, z_f)] (ze (zif (wp_skip (block_normal (then_normal (reg_lit ?_))))))
 refine z2 [(386, .int .i64 6), (396, .int .i64 6)] (ze ?_)
 clear ZD
 refine zk [(384, .slice (some ⟨NR, 0, none⟩) 49 49), (385, .int .i64 49), (386, .int .i64 6)] (fun X => ?_)
 refine round_s (zs (z1 [(387, z_t)] (ze (wp_seq (zit ?_)))))
 refine wp_skip (then_normal (wp_seq (wp_block (zs (z1 [(388, pt NR 24)] (wpl_val rfl (by kernel_rfl) (run_ldrow (j := 24) (A := Aq178) (m := lq178.length) (c := cq178) (s := sq178) (B := Aq179) (m2 := lq179.length) (c2 := cq179) (t := sq179) rfl (by kernel_rfl) ZR.out rfl rfl rfl rfl) ?_))))))
 refine wpl_mkrow (A := Aq178) (m := lq178.length) (c := cq178) (s := sq178) (B := Aq179) (m2 := lq179.length) (c2 := cq179) (t := sq179) rfl rfl rfl rfl rfl rfl (fun _ => by kernel_rfl) (fun _ => by kernel_rfl) ?_
 intro w238 ND ZD hb
 replace ZD := hide ZD
 replace HC1 := zH HM1 HC1 hb
 replace HL := hide (VL.kept HL.out hb)
 replace ZR := hide (Arr.kept ZR.out hb)
 replace hU := zU hU hU.size hb
 clear hb
 refine sx_n (z1 [(390, pt ND 0)] (wpl_val rfl (by kernel_rfl) (run_ldarr (j := 0) (A := Aq178) (m := lq178.length) (c := cq178) (s := sq178) rfl (by kernel_rfl) ZD.out rfl rfl) (z1 [(392, pt ND 2)] (wpl_val rfl (by kernel_rfl) (run_ldarr (j := 2) (A := Aq179) (m := lq179.length) (c := cq179) (s := sq179) rfl (by kernel_rfl) ZD.out rfl rfl) ?_))))
 refine zc rfl ((rsame_yes Aq178 Aq179 lq178 lq179 cq178 cq179 sq178 sq179 _ Lq178.out Lq179.out (VL.at_ HL.out 85 rfl) (VL.at_ HL.out 84 rfl) (by rw [Eq178.out, Eq179.out]; exact (sm_iff _ _).1 (by decide +kernel))).mono ?_)
 rintro e w239 ⟨rfl, hb⟩
 refine ⟨_, rfl, ?_⟩
 replace HC1 := zH HM1 HC1 hb
 replace HL := hide (VL.kept HL.out hb)
 replace ZR := hide (Arr.kept ZR.out hb)
 replace ZD := hide (Arr.kept ZD.out hb)
 replace hU := zU hU hU.size hb
 clear hb
 refine z1 [(395, z_f)] (ze (zif (wp_skip (block_normal (then_normal (reg_lit ?_))))))
 refine z2 [(386, .int .i64 7), (396, .int .i64 7)] (ze ?_)
 clear ZD
 refine zk [(384, .slice (some ⟨NR, 0, none⟩) 49 49), (385, .int .i64 49), (386, .int .i64 7)] (fun X => ?_)
 refine round_s (zs (z1 [(387, z_t)] (ze (wp_seq (zit ?_)))))
 refine wp_skip (then_normal (wp_seq (wp_block (zs (z1 [(388, pt NR 28)] (wpl_val rfl (by kernel_rfl) (run_ldrow (j := 28) (A := Aq183) (m := lq183.length) (c := cq183) (s := sq183) (B := Aq184) (m2 := lq184.length) (c2 := cq184) (t := sq184) rfl (by kernel_rfl) ZR.out rfl rfl rfl rfl) ?_))))))
 refine wpl_mkrow (A := Aq183) (m := lq183.length) (c := cq183) (s := sq183) (B := Aq184) (m2 := lq184.length) (c2 := cq184) (t := sq184) rfl rfl rfl rfl rfl rfl (fun _ => by kernel_rfl) (fun _ => by kernel_rfl) ?_
 intro w240 ND ZD hb
 replace ZD := hide ZD
 replace HC1 := zH HM1 HC1 hb
 replace HL := hide (VL.kept HL.out hb)
 replace ZR := hide (Arr.kept ZR.out hb)
 replace hU := zU hU hU.size hb
 clear hb
 refine sx_n (z1 [(390, pt ND 0)] (wpl_val rfl (by kernel_rfl) (run_ldarr (j := 0) (A := Aq183) (m := lq183.length) (c := cq183) (s := sq183) rfl (by kernel_rfl) ZD.out rfl rfl) (z1 [(392, pt ND 2)] (wpl_val rfl (by kernel_rfl) (run_ldarr (j := 2) (A := Aq184) (m := lq184.length) (c := cq184) (s := sq184) rfl (by kernel_rfl) ZD.out rfl rfl) ?_))))
 refine zc rfl ((rsame_yes Aq183 Aq184 lq183 lq184 cq183 cq184 sq183 sq184 _ Lq183.out Lq184.out (VL.at_ HL.out 83 rfl) (VL.at_ HL.out 82 rfl) (by rw [Eq183.out, Eq184.out]; exact (sm_iff _ _).1 (by decide +kernel))).mono ?_)
 rintro e w241 ⟨rfl, hb⟩
 refine ⟨_, rfl, ?_⟩
 replace HC1 := zH HM1 HC1 hb
 replace HL := hide (VL.kept HL.out hb)
 replace ZR := hide (Arr.kept ZR.out hb)
 replace ZD := hide (Arr.kept ZD.out hb)
 replace hU := zU hU hU.size hb
 clear hb
 refine z1 [(395, z_f)] (ze (zif (wp_skip (block_normal (then_normal (reg_lit ?_))))))
 refine z2 [(386, .int .i64 8), (396, .int .i64 8)] (ze ?_)
 clear ZD
 refine zk [(384, .slice (some ⟨NR, 0, none⟩) 49 49), (385, .int .i64 49), (386, .int .i64 8)] (fun X => ?_)
 refine round_s (zs (z1 [(387, z_t)] (ze (wp_seq (zit ?_)))))
 refine wp_skip (then_normal (wp_seq (wp_block (zs (z1 [(388, pt NR 32)] (wpl_val rfl (by kernel_rfl) (run_ldrow (j := 32) (A := Aq188) (m := lq188.length) (c := cq188) (s := sq188) (B := Aq189) (m2 := lq189.length) (c2 := cq189) (t := sq189) rfl (by kernel_rfl) ZR.out rfl rfl rfl rfl) ?_))))))
 refine wpl_mkrow (A := Aq188) (m := lq188.length) (c := cq188) (s := sq188) (B := Aq189) (m2 := lq189.length) (c2 := cq189) (t := sq189) rfl rfl rfl rfl rfl rfl (fun _ => by kernel_rfl) (fun _ => by kernel_rfl) ?_
 intro w242 ND ZD hb
 replace ZD := hide ZD
 replace HC1 := zH HM1 HC1 hb
 replace HL := hide (VL.kept HL.out hb)
 replace ZR := hide (Arr.kept ZR.out hb)
 replace hU := zU hU hU.size hb
 clear hb
 refine sx_n (z1 [(390, pt ND 0)] (wpl_val rfl (by kernel_rfl) (run_ldarr (j := 0) (A := Aq188) (m := lq188.length) (c := cq188) (s := sq188) rfl (by kernel_rfl) ZD.out rfl rfl) (z1 [(392, pt ND 2)] (wpl_val rfl (by kernel_rfl) (run_ldarr (j := 2) (A := Aq189) (m := lq189.length) (c := cq189) (s := sq189) rfl (by kernel_rfl) ZD.out rfl rfl) ?_))))
 refine zc rfl ((rsame_yes Aq188 Aq189 lq188 lq189 cq188 cq189 sq188 sq189 _ Lq188.out Lq189.out (VL.at_ HL.out 81 rfl) (VL.at_ HL.out 80 rfl) (by rw [Eq188.out, Eq189.out]; exact (sm_iff _ _).1 (by decide +kernel))).mono ?_)
 rintro e w243 ⟨rfl, hb⟩
 refine ⟨_, rfl, ?_⟩
 replace HC1 := zH HM1 HC1 hb
 replace HL := hide (VL.kept HL.out hb)
 replace ZR := hide (Arr.kept ZR.out hb)
 replace ZD := hide (Arr.kept ZD.out hb)
 replace hU := zU hU hU.size hb
 clear hb
 refine z1 [(395, z_f)] (ze (zif (wp_skip (block_normal (then_normal (reg_lit ?_))))))
 refine z2 [(386, .int .i64 9), (396, .int .i64 9)] (ze ?_)
 clear ZD
 refine zk [(384, .slice (some ⟨NR, 0, none⟩) 49 49), (385, .int .i64 49), (386, .int .i64 9)] (fun X => ?_)
 refine round_s (zs (z1 [(387, z_t)] (ze (wp_seq (zit ?_)))))
 refine wp_skip (then_normal (wp_seq (wp_block (zs (z1 [(388, pt NR 36)] (wpl_val rfl (by kernel_rfl) (run_ldrow (j := 36) (A := Aq193) (m := lq193.length) (c := cq193) (s := sq193) (B := Aq194) (m2 := lq194.length) (c2 := cq194) (t := sq194) rfl (by kernel_rfl) ZR.out rfl rfl rfl rfl) ?_))))))
 refine wpl_mkrow (A := Aq193) (m := lq193.length) (c := cq193) (s := sq193) (B := Aq194) (m2 := lq194.length) (c2 := cq194) (t := sq194) rfl rfl rfl rfl rfl rfl (fun _ => by kernel_rfl) (fun _ => by kernel_rfl) ?_
 intro w244 ND ZD hb
 replace ZD := hide ZD
 replace HC1 := zH HM1 HC1 hb
 replace HL := hide (VL.kept HL.out hb)
 replace ZR := hide (Arr.kept ZR.out hb)
 replace hU := zU hU hU.size hb
 clear hb
 refine sx_n (z1 [(390, pt ND 0)] (wpl_val rfl (by kernel_rfl) (run_ldarr (j := 0) (A := Aq193) (m := lq193.length) (c := cq193) (s := sq193) rfl (by kernel_rfl) ZD.out rfl rfl) (z1 [(392, pt ND 2)] (wpl_val rfl (by kernel_rfl) (run_ldarr (j := 2) (A := Aq194) (m := lq194.length) (c := cq194) (s := sq194) rfl (by kernel_rfl) ZD.out rfl rfl) ?_))))
 refine zc rfl ((rsame_yes Aq193 Aq194 lq193 lq194 cq193 cq194 sq193 sq194 _ Lq193.out Lq194.out (VL.at_ HL.out 79 rfl) (VL.at_ HL.out 78 rfl) (by rw [Eq193.out, Eq194.out]; exact (sm_iff _ _).1 (by decide +kernel))).mono ?_)
 rintro e w245 ⟨rfl, hb⟩
 refine ⟨_, rfl, ?_⟩
 replace HC1 := zH HM1 HC1 hb
 replace HL := hide (VL.kept HL.out hb)
 replace ZR := hide (Arr.kept ZR.out hb)
 replace ZD := hide (Arr.kept ZD.out hb)
 replace hU := zU hU hU.size hb
 clear hb
 refine z1 [(395, z_f)] (ze (zif (wp_skip (block_normal (then_normal (reg_lit ?_))))))
 refine z2 [(386, .int .i64 10), (396, .int .i64 10)] (ze ?_)
 clear ZD
 refine zk [(384, .slice (some ⟨NR, 0, none⟩) 49 49), (385, .int .i64 49), (386, .int .i64 10)] (fun X => ?_)
 refine round_s (zs (z1 [(387, z_t)] (ze (wp_seq (zit ?_)))))
 refine wp_skip (then_normal (wp_seq (wp_block (zs (z1 [(388, pt NR 40)] (wpl_val rfl (by kernel_rfl) (run_ldrow (j := 40) (A := Aq198) (m := lq198.length) (c := cq198) (s := sq198) (B := Aq199) (m2 := lq199.length) (c2 := cq199) (t := sq199) rfl (by kernel_rfl) ZR.out rfl rfl rfl rfl) ?_))))))
 refine wpl_mkrow (A := Aq198) (m := lq198.length) (c := cq198) (s := sq198) (B := Aq199) (m2 := lq199.length) (c2 := cq199) (t := sq199) rfl rfl rfl rfl rfl rfl (fun _ => by kernel_rfl) (fun _ => by kernel_rfl) ?_
 intro w246 ND ZD hb
 replace ZD := hide ZD
 replace HC1 := zH HM1 HC1 hb
 replace HL := hide (VL.kept HL.out hb)
 replace ZR := hide (Arr.kept ZR.out hb)
 replace hU := zU hU hU.size hb
 clear hb
 refine sx_n (z1 [(390, pt ND 0)] (wpl_val rfl (by kernel_rfl) (run_ldarr (j := 0) (A := Aq198) (m := lq198.length) (c := cq198) (s := sq198) rfl (by kernel_rfl) ZD.out rfl rfl) (z1 [(392, pt ND 2)] (wpl_val rfl (by kernel_rfl) (run_ldarr (j := 2) (A := Aq199) (m := lq199.length) (c := cq199) (s := sq199) rfl (by kernel_rfl) ZD.out rfl rfl) ?_))))
 refine zc rfl ((rsame_yes Aq198 Aq199 lq198 lq199 cq198 cq199 sq198 sq199 _ Lq198.out Lq199.out (VL.at_ HL.out 77 rfl) (VL.at_ HL.out 76 rfl) (by rw [Eq198.out, Eq199.out]; exact (sm_iff _ _).1 (by decide +kernel))).mono ?_)
 rintro e w247 ⟨rfl, hb⟩
 refine ⟨_, rfl, ?_⟩
 replace HC1 := zH HM1 HC1 hb
 replace HL := hide (VL.kept HL.out hb)
 replace ZR := hide (Arr.kept ZR.out hb)
 replace ZD := hide (Arr.kept ZD.out hb)
 replace hU := zU hU hU.size hb
 clear hb
 refine z1 [(395, z_f)] (ze (zif (wp_skip (block_normal (then_normal (reg_lit ?_))))))
 refine z2 [(386, .int .i64 11), (396, .int .i64 11)] (ze ?_)
 clear ZD
 refine zk [(384, .slice (some ⟨NR, 0, none⟩) 49 49), (385, .int .i64 49), (386, .int .i64 11)] (fun X => ?_)
 refine round_s (zs (z1 [(387, z_t)] (ze (wp_seq (zit ?_)))))
 refine wp_skip (then_normal (wp_seq (wp_block (zs (z1 [(388, pt NR 44)] (wpl_val rfl (by kernel_rfl) (run_ldrow (j := 44) (A := Aq203) (m := lq203.length) (c := cq203) (s := sq203) (B := Aq204) (m2 := lq204.length) (c2 := cq204) (t := sq204) rfl (by kernel_rfl) ZR.out rfl rfl rfl rfl) ?_))))))
 refine wpl_mkrow (A := Aq203) (m := lq203.length) (c := cq203) (s := sq203) (B := Aq204) (m2 := lq204.length) (c2 := cq204) (t := sq204) rfl rfl rfl rfl rfl rfl (fun _ => by kernel_rfl) (fun _ => by kernel_rfl) ?_
 intro w248 ND ZD hb
 replace ZD := hide ZD
 replace HC1 := zH HM1 HC1 hb
 replace HL := hide (VL.kept HL.out hb)
 replace ZR := hide (Arr.kept ZR.out hb)
 replace hU := zU hU hU.size hb
 clear hb
 refine sx_n (z1 [(390, pt ND 0)] (wpl_val rfl (by kernel_rfl) (run_ldarr (j := 0) (A := Aq203) (m := lq203.length) (c := cq203) (s := sq203) rfl (by kernel_rfl) ZD.out rfl rfl) (z1 [(392, pt ND 2)] (wpl_val rfl (by kernel_rfl) (run_ldarr (j := 2) (A := Aq204) (m := lq204.length) (c := cq204) (s := sq204) rfl (by kernel_rfl) ZD.out rfl rfl) ?_))))
 refine zc rfl ((rsame_yes Aq203 Aq204 lq203 lq204 cq203 cq204 sq203 sq204 _ Lq203.out Lq204.out (VL.at_ HL.out 75 rfl) (VL.at_ HL.out 74 rfl) (by rw [Eq203.out, Eq204.out]; exact (sm_iff _ _).1 (by decide +kernel))).mono ?_)
 rintro e w249 ⟨rfl, hb⟩
 refine ⟨_, rfl, ?_⟩
 replace HC1 := zH HM1 HC1 hb
 replace HL := hide (VL.kept HL.out hb)
 replace ZR := hide (Arr.kept ZR.out hb)
 replace ZD := hide (Arr.kept ZD.out hb)
 replace hU := zU hU hU.size hb
 clear hb
 refine z1 [(395, z_f)] (ze (zif (wp_skip (block_normal (then_normal (reg_lit ?_))))))
 refine z2 [(386, .int .i64 12), (396, .int .i64 12)] (ze ?_)
 clear ZD
 refine zk [(384, .slice (some ⟨NR, 0, none⟩) 49 49), (385, .int .i64 49), (386, .int .i64 12)] (fun X => ?_)
 refine round_s (zs (z1 [(387, z_t)] (ze (wp_seq (zit ?_)))))
 refine wp_skip (then_normal (wp_seq (wp_block (zs (z1 [(388, pt NR 48)] (wpl_val rfl (by kernel_rfl) (run_ldrow (j := 48) (A := Aq208) (m := lq208.length) (c := cq208) (s := sq208) (B := Aq209) (m2 := lq209.length) (c2 := cq209) (t := sq209) rfl (by kernel_rfl) ZR.out rfl rfl rfl rfl) ?_))))))
 refine wpl_mkrow (A := Aq208) (m := lq208.length) (c := cq208) (s := sq208) (B := Aq209) (m2 := lq209.length) (c2 := cq209) (t := sq209) rfl rfl rfl rfl rfl rfl (fun _ => by kernel_rfl) (fun _ => by kernel_rfl) ?_
 intro w250 ND ZD hb
 replace ZD := hide ZD
 replace HC1 := zH HM1 HC1 hb
 replace HL := hide (VL.kept HL.out hb)
 replace ZR := hide (Arr.kept ZR.out hb)
 replace hU := zU hU hU.size hb
 clear hb
 refine sx_n (z1 [(390, pt ND 0)] (wpl_val rfl (by kernel_rfl) (run_ldarr (j := 0) (A := Aq208) (m := lq208.length) (c := cq208) (s := sq208) rfl (by kernel_rfl) ZD.out rfl rfl) (z1 [(392, pt ND 2)] (wpl_val rfl (by kernel_rfl) (run_ldarr (j := 2) (A := Aq209) (m := lq209.length) (c := cq209) (s := sq209) rfl (by kernel_rfl) ZD.out rfl rfl) ?_))))
 refine zc rfl ((rsame_yes Aq208 Aq209 lq208 lq209 cq208 cq209 sq208 sq209 _ Lq208.out Lq209.out (VL.at_ HL.out 73 rfl) (VL.at_ HL.out 72 rfl) (by rw [Eq208.out, Eq209.out]; exact (sm_iff _ _).1 (by decide +kernel))).mono ?_)
 rintro e w251 ⟨rfl, hb⟩
 refine ⟨_, rfl, ?_⟩
 replace HC1 := zH HM1 HC1 hb
 replace HL := hide (VL.kept HL.out hb)
 replace ZR := hide (Arr.kept ZR.out hb)
 replace ZD := hide (Arr.kept ZD.out hb)
 replace hU := zU hU hU.size hb
 clear hb
 refine z1 [(395, z_f)] (ze (zif (wp_skip (block_normal (then_normal (reg_lit ?_))))))
 refine z2 [(386, .int .i64 13), (396, .int .i64 13)] (ze ?_)
 clear ZD
 refine zk [(384, .slice (some ⟨NR, 0, none⟩) 49 49), (385, .int .i64 49), (386, .int .i64 13)] (fun X => ?_)
 refine round_s (zs (z1 [(387, z_t)] (ze (wp_seq (zit ?_)))))
 refine wp_skip (then_normal (wp_seq (wp_block (zs (z1 [(388, pt NR 52)] (wpl_val rfl (by kernel_rfl) (run_ldrow (j := 52) (A := Aq213) (m := lq213.length) (c := cq213) (s := sq213) (B := Aq214) (m2 := lq214.length) (c2 := cq214) (t := sq214) rfl (by kernel_rfl) ZR.out rfl rfl rfl rfl) ?_))))))
 refine wpl_mkrow (A := Aq213) (m := lq213.length) (c := cq213) (s := sq213) (B := Aq214) (m2 := lq214.length) (c2 := cq214) (t := sq214) rfl rfl rfl rfl rfl rfl (fun _ => by kernel_rfl) (fun _ => by kernel_rfl) ?_
 intro w252 ND ZD hb
 replace ZD := hide ZD
 replace HC1 := zH HM1 HC1 hb
 replace HL := hide (VL.kept HL.out hb)
 replace ZR := hide (Arr.kept ZR.out hb)
 replace hU := zU hU hU.size hb
 clear hb
 refine sx_n (z1 [(390, pt ND 0)] (wpl_val rfl (by kernel_rfl) (run_ldarr (j := 0) (A := Aq213) (m := lq213.length) (c := cq213) (s := sq213) rfl (by kernel_rfl) ZD.out rfl rfl) (z1 [(392, pt ND 2)] (wpl_val rfl (by kernel_rfl) (run_ldarr (j := 2) (A := Aq214) (m := lq214.length) (c := cq214) (s := sq214) rfl (by kernel_rfl) ZD.out rfl rfl) ?_))))
 refine zc rfl ((rsame_yes Aq213 Aq214 lq213 lq214 cq213 cq214 sq213 sq214 _ Lq213.out Lq214.out (VL.at_ HL.out 71 rfl) (VL.at_ HL.out 70 rfl) (by rw [Eq213.out, Eq214.out]; exact (sm_iff _ _).1 (by decide +kernel))).mono ?_)
 rintro e w253 ⟨rfl, hb⟩
 refine ⟨_, rfl, ?_⟩
 replace HC1 := zH HM1 HC1 hb
 replace HL := hide (VL.kept HL.out hb)
 replace ZR := hide (Arr.kept ZR.out hb)
 replace ZD := hide (Arr.kept ZD.out hb)
 replace hU := zU hU hU.size hb
 clear hb
 refine z1 [(395, z_f)] (ze (zif (wp_skip (block_normal (then_normal (reg_lit ?_))))))
 refine z2 [(386, .int .i64 14), (396, .int .i64 14)] (ze ?_)
 clear ZD
 refine zk [(384, .slice (some ⟨NR, 0, none⟩) 49 49), (385, .int .i64 49), (386, .int .i64 14)] (fun X => ?_)
 refine round_s (zs (z1 [(387, z_t)] (ze (wp_seq (zit ?_)))))
 refine wp_skip (then_normal (wp_seq (wp_block (zs (z1 [(388, pt NR 56)] (wpl_val rfl (by kernel_rfl) (run_ldrow (j := 56) (A := Aq218) (m := lq218.length) (c := cq218) (s := sq218) (B := Aq219) (m2 := lq219.length) (c2 := cq219) (t := sq219) rfl (by kernel_rfl) ZR.out rfl rfl rfl rfl) ?_))))))
 refine wpl_mkrow (A := Aq218) (m := lq218.length) (c := cq218) (s := sq218) (B := Aq219) (m2 := lq219.length) (c2 := cq219) (t := sq219) rfl rfl rfl rfl rfl rfl (fun _ => by kernel_rfl) (fun _ => by kernel_rfl) ?_
 intro w254 ND ZD hb
 replace ZD := hide ZD
 replace HC1 := zH HM1 HC1 hb
 replace HL := hide (VL.kept HL.out hb)
 replace ZR := hide (Arr.kept ZR.out hb)
 replace hU := zU hU hU.size hb
 clear hb
 refine sx_n (z1 [(390, pt ND 0)] (wpl_val rfl (by kernel_rfl) (run_ldarr (j := 0) (A := Aq218) (m := lq218.length) (c := cq218) (s := sq218) rfl (by kernel_rfl) ZD.out rfl rfl) (z1 [(392, pt ND 2)] (wpl_val rfl (by kernel_rfl) (run_ldarr (j := 2) (A := Aq219) (m := lq219.length) (c := cq219) (s := sq219) rfl (by kernel_rfl) ZD.out rfl rfl) ?_))))
 refine zc rfl ((rsame_yes Aq218 Aq219 lq218 lq219 cq218 cq219 sq218 sq219 _ Lq218.out Lq219.out (VL.at_ HL.out 69 rfl) (VL.at_ HL.out 68 rfl) (by rw [Eq218.out, Eq219.out]; exact (sm_iff _ _).1 (by decide +kernel))).mono ?_)
 rintro e w255 ⟨rfl, hb⟩
 refine ⟨_, rfl, ?_⟩
 replace HC1 := zH HM1 HC1 hb
 replace HL := hide (VL.kept HL.out hb)
 replace ZR := hide (Arr.kept ZR.out hb)
 replace ZD := hide (Arr.kept ZD.out hb)
 replace hU := zU hU hU.size hb
 clear hb
 refine z1 [(395, z_f)] (ze (zif (wp_skip (block_normal (then_normal (reg_lit ?_))))))
 refine z2 [(386, .int .i64 15), (396, .int .i64 15)] (ze ?_)
 clear ZD
 refine zk [(384, .slice (some ⟨NR, 0, none⟩) 49 49), (385, .int .i64 49), (386, .int .i64 15)] (fun X => ?_)
 refine round_s (zs (z1 [(387, z_t)] (ze (wp_seq (zit ?_)))))
 refine wp_skip (then_normal (wp_seq (wp_block (zs (z1 [(388, pt NR 60)] (wpl_val rfl (by kernel_rfl) (run_ldrow (j := 60) (A := Aq223) (m := lq223.length) (c := cq223) (s := sq223) (B := Aq224) (m2 := lq224.length) (c2 := cq224) (t := sq224) rfl (by kernel_rfl) ZR.out rfl rfl rfl rfl) ?_))))))
 refine wpl_mkrow (A := Aq223) (m := lq223.length) (c := cq223) (s := sq223) (B := Aq224) (m2 := lq224.length) (c2 := cq224) (t := sq224) rfl rfl rfl rfl rfl rfl (fun _ => by kernel_rfl) (fun _ => by kernel_rfl) ?_
 intro w256 ND ZD hb
 replace ZD := hide ZD
 replace HC1 := zH HM1 HC1 hb
 replace HL := hide (VL.kept HL.out hb)
 replace ZR := hide (Arr.kept ZR.out hb)
 replace hU := zU hU hU.size hb
 clear hb
 refine sx_n (z1 [(390, pt ND 0)] (wpl_val rfl (by kernel_rfl) (run_ldarr (j := 0) (A := Aq223) (m := lq223.length) (c := cq223) (s := sq223) rfl (by kernel_rfl) ZD.out rfl rfl) (z1 [(392, pt ND 2)] (wpl_val rfl (by kernel_rfl) (run_ldarr (j := 2) (A := Aq224) (m := lq224.length) (c := cq224) (s := sq224) rfl (by kernel_rfl) ZD.out rfl rfl) ?_))))
 refine zc rfl ((rsame_yes Aq223 Aq224 lq223 lq224 cq223 cq224 sq223 sq224 _ Lq223.out Lq224.out (VL.at_ HL.out 67 rfl) (VL.at_ HL.out 66 rfl) (by rw [Eq223.out, Eq224.out]; exact (sm_iff _ _).1 (by decide +kernel))).mono ?_)
 rintro e w257 ⟨rfl, hb⟩
 refine ⟨_, rfl, ?_⟩
 replace HC1 := zH HM1 HC1 hb
 replace HL := hide (VL.kept HL.out hb)
 replace ZR := hide (Arr.kept ZR.out hb)
 replace ZD := hide (Arr.kept ZD.out hb)
 replace hU := zU hU hU.size hb
 clear hb
 refine z1 [(395, z_f)] (ze (zif (wp_skip (block_normal (then_normal (reg_lit ?_))))))
 refine z2 [(386, .int .i64 16), (396, .int .i64 16)] (ze ?_)
 clear ZD
 refine zk [(384, .slice (some ⟨NR, 0, none⟩) 49 49), (385, .int .i64 49), (386, .int .i64 16)] (fun X => ?_)
 refine round_s (zs (z1 [(387, z_t)] (ze (wp_seq (zit ?_)))))
 refine wp_skip (then_normal (wp_seq (wp_block (zs (z1 [(388, pt NR 64)] (wpl_val rfl (by kernel_rfl) (run_ldrow (j := 64) (A := Aq228) (m := lq228.length) (c := cq228) (s := sq228) (B := Aq229) (m2 := lq229.length) (c2 := cq229) (t := sq229) rfl (by kernel_rfl) ZR.out rfl rfl rfl rfl) ?_))))))
 refine wpl_mkrow (A := Aq228) (m := lq228.length) (c := cq228) (s := sq228) (B := Aq229) (m2 := lq229.length) (c2 := cq229) (t := sq229) rfl rfl rfl rfl rfl rfl (fun _ => by kernel_rfl) (fun _ => by kernel_rfl) ?_
 intro w258 ND ZD hb
 replace ZD := hide ZD
 replace HC1 := zH HM1 HC1 hb
 replace HL := hide (VL.kept HL.out hb)
 replace ZR := hide (Arr.kept ZR.out hb)
 replace hU := zU hU hU.size hb
 clear hb
 refine sx_n (z1 [(390, pt ND 0)] (wpl_val rfl (by kernel_rfl) (run_ldarr (j := 0) (A := Aq228) (m := lq228.length) (c := cq228) (s := sq228) rfl (by kernel_rfl) ZD.out rfl rfl) (z1 [(392, pt ND 2)] (wpl_val rfl (by kernel_rfl) (run_ldarr (j := 2) (A := Aq229) (m := lq229.length) (c := cq229) (s := sq229) rfl (by kernel_rfl) ZD.out rfl rfl) ?_))))
 refine zc rfl ((rsame_yes Aq228 Aq229 lq228 lq229 cq228 cq229 sq228 sq229 _ Lq228.out Lq229.out (VL.at_ HL.out 65 rfl) (VL.at_ HL.out 64 rfl) (by rw [Eq228.out, Eq229.out]; exact (sm_iff _ _).1 (by decide +kernel))).mono ?_)
 rintro e w259 ⟨rfl, hb⟩
 refine ⟨_, rfl, ?_⟩
 replace HC1 := zH HM1 HC1 hb
 replace HL := hide (VL.kept HL.out hb)
 replace ZR := hide (Arr.kept ZR.out hb)
 replace ZD := hide (Arr.kept ZD.out hb)
 replace hU := zU hU hU.size hb
 clear hb
 refine z1 [(395, z_f)] (ze (zif (wp_skip (block_normal (then_normal (reg_lit ?_))))))
 refine z2 [(386, .int .i64 17), (396, .int .i64 17)] (ze ?_)
 clear ZD
 refine zk [(384, .slice (some ⟨NR, 0, none⟩) 49 49), (385, .int .i64 49), (386, .int .i64 17)] (fun X => ?_)
 refine round_s (zs (z1 [(387, z_t)] (ze (wp_seq (zit ?_)))))
 refine wp_skip (then_normal (wp_seq (wp_block (zs (z1 [(388, pt NR 68)] (wpl_val rfl (by kernel_rfl) (run_ldrow (j := 68) (A := Aq233) (m := lq233.length) (c := cq233) (s := sq233) (B := Aq234) (m2 := lq234.length) (c2 := cq234) (t := sq234) rfl (by kernel_rfl) ZR.out rfl rfl rfl rfl) ?_))))))
 refine wpl_mkrow (A := Aq233) (m := lq233.length) (c := cq233) (s := sq233) (B := Aq234) (m2 := lq234.length) (c2 := cq234) (t := sq234) rfl rfl rfl rfl rfl rfl (fun _ => by kernel_rfl) (fun _ => by kernel_rfl) ?_
 intro w260 ND ZD hb
 replace ZD := hide ZD
 replace HC1 := zH HM1 HC1 hb
 replace HL := hide (VL.kept HL.out hb)
 replace ZR := hide (Arr.kept ZR.out hb)
 replace hU := zU hU hU.size hb
 clear hb
 refine sx_n (z1 [(390, pt ND 0)] (wpl_val rfl (by kernel_rfl) (run_ldarr (j := 0) (A := Aq233) (m := lq233.length) (c := cq233) (s := sq233) rfl (by kernel_rfl) ZD.out rfl rfl) (z1 [(392, pt ND 2)] (wpl_val rfl (by kernel_rfl) (run_ldarr (j := 2) (A := Aq234) (m := lq234.length) (c := cq234) (s := sq234) rfl (by kernel_rfl) ZD.out rfl rfl) ?_))))
 refine zc rfl ((rsame_yes Aq233 Aq234 lq233 lq234 cq233 cq234 sq233 sq234 _ Lq233.out Lq234.out (VL.at_ HL.out 63 rfl) (VL.at_ HL.out 62 rfl) (by rw [Eq233.out, Eq234.out]; exact (sm_iff _ _).1 (by decide +kernel))).mono ?_)
 rintro e w261 ⟨rfl, hb⟩
 refine ⟨_, rfl, ?_⟩
 replace HC1 := zH HM1 HC1 hb
 replace HL := hide (VL.kept HL.out hb)
 replace ZR := hide (Arr.kept ZR.out hb)
 replace ZD := hide (Arr.kept ZD.out hb)
 replace hU := zU hU hU.size hb
 clear hb
 refine z1 [(395, z_f)] (ze (zif (wp_skip (block_normal (then_normal (reg_lit ?_))))))
 refine z2 [(386, .int .i64 18), (396, .int .i64 18)] (ze ?_)
 clear ZD
 refine zk [(384, .slice (some ⟨NR, 0, none⟩) 49 49), (385, .int .i64 49), (386, .int .i64 18)] (fun X => ?_)
 refine round_s (zs (z1 [(387, z_t)] (ze (wp_seq (zit ?_)))))
 refine wp_skip (then_normal (wp_seq (wp_block (zs (z1 [(388, pt NR 72)] (wpl_val rfl (by kernel_rfl) (run_ldrow (j := 72) (A := Aq238) (m := lq238.length) (c := cq238) (s := sq238) (B := Aq239) (m2 := lq239.length) (c2 := cq239) (t := sq239) rfl (by kernel_rfl) ZR.out rfl rfl rfl rfl) ?_))))))
 refine wpl_mkrow (A := Aq238) (m := lq238.length) (c := cq238) (s := sq238) (B := Aq239) (m2 := lq239.length) (c2 := cq239) (t := sq239) rfl rfl rfl rfl rfl rfl (fun _ => by kernel_rfl) (fun _ => by kernel_rfl) ?_
 intro w262 ND ZD hb
 replace ZD := hide ZD
 replace HC1 := zH HM1 HC1 hb
 replace HL := hide (VL.kept HL.out hb)
 replace ZR := hide (Arr.kept ZR.out hb)
 replace hU := zU hU hU.size hb
 clear hb
 refine sx_n (z1 [(390, pt ND 0)] (wpl_val rfl (by kernel_rfl) (run_ldarr (j := 0) (A := Aq238) (m := lq238.length) (c := cq238) (s := sq238) rfl (by kernel_rfl) ZD.out rfl rfl) (z1 [(392, pt ND 2)] (wpl_val rfl (by kernel_rfl) (run_ldarr (j := 2) (A := Aq239) (m := lq239.length) (c := cq239) (s := sq239) rfl (by kernel_rfl) ZD.out rfl rfl) ?_))))
 refine zc rfl ((rsame_yes Aq238 Aq239 lq238 lq239 cq238 cq239 sq238 sq239 _ Lq238.out Lq239.out (VL.at_ HL.out 61 rfl) (VL.at_ HL.out 60 rfl) (by rw [Eq238.out, Eq239.out]; exact (sm_iff _ _).1 (by decide +kernel))).mono ?_)
 rintro e w263 ⟨rfl, hb⟩
 refine ⟨_, rfl, ?_⟩
 replace HC1 := zH HM1 HC1 hb
 replace HL := hide (VL.kept HL.out hb)
 replace ZR := hide (Arr.kept ZR.out hb)
 replace ZD := hide (Arr.kept ZD.out hb)
 replace hU := zU hU hU.size hb
 clear hb
 refine z1 [(395, z_f)] (ze (zif (wp_skip (block_normal (then_normal (reg_lit ?_))))))
 refine z2 [(386, .int .i64 19), (396, .int .i64 19)] (ze ?_)
 clear ZD
 refine zk [(384, .slice (some ⟨NR, 0, none⟩) 49 49), (385, .int .i64 49), (386, .int .i64 19)] (fun X => ?_)
 refine round_s (zs (z1 [(387, z_t)] (ze (wp_seq (zit ?_)))))
 refine wp_skip (then_normal (wp_seq (wp_block (zs (z1 [(388, pt NR 76)] (wpl_val rfl (by kernel_rfl) (run_ldrow (j := 76) (A := Aq243) (m := lq243.length) (c := cq243) (s := sq243) (B := Aq244) (m2 := lq244.length) (c2 := cq244) (t := sq244) rfl (by kernel_rfl) ZR.out rfl rfl rfl rfl) ?_))))))
 refine wpl_mkrow (A := Aq243) (m := lq243.length) (c := cq243) (s := sq243) (B := Aq244) (m2 := lq244.length) (c2 := cq244) (t := sq244) rfl rfl rfl rfl rfl rfl (fun _ => by kernel_rfl) (fun _ => by kernel_rfl) ?_
 intro w264 ND ZD hb
 replace ZD := hide ZD
 replace HC1 := zH HM1 HC1 hb
 replace HL := hide (VL.kept HL.out hb)
 replace ZR := hide (Arr.kept ZR.out hb)
 replace hU := zU hU hU.size hb
 clear hb
 refine sx_n (z1 [(390, pt ND 0)] (wpl_val rfl (by kernel_rfl) (run_ldarr (j := 0) (A := Aq243) (m := lq243.length) (c := cq243) (s := sq243) rfl (by kernel_rfl) ZD.out rfl rfl) (z1 [(392, pt ND 2)] (wpl_val rfl (by kernel_rfl) (run_ldarr (j := 2) (A := Aq244) (m := lq244.length) (c := cq244) (s := sq244) rfl (by kernel_rfl) ZD.out rfl rfl) ?_))))
 refine zc rfl ((rsame_yes Aq243 Aq244 lq243 lq244 cq243 cq244 sq243 sq244 _ Lq243.out Lq244.out (VL.at_ HL.out 59 rfl) (VL.at_ HL.out 58 rfl) (by rw [Eq243.out, Eq244.out]; exact (sm_iff _ _).1 (by decide +kernel))).mono ?_)
 rintro e w265 ⟨rfl, hb⟩
 refine ⟨_, rfl, ?_⟩
 replace HC1 := zH HM1 HC1 hb
 replace HL := hide (VL.kept HL.out hb)
 replace ZR := hide (Arr.kept ZR.out hb)
 replace ZD := hide (Arr.kept ZD.out hb)
 replace hU := zU hU hU.size hb
 clear hb
 refine z1 [(395, z_f)] (ze (zif (wp_skip (block_normal (then_normal (reg_lit ?_))))))
 refine z2 [(386, .int .i64 20), (396, .int .i64 20)] (ze ?_)
 clear ZD
 refine zk [(384, .slice (some ⟨NR, 0, none⟩) 49 49), (385, .int .i64 49), (386, .int .i64 20)] (fun X => ?_)
 refine round_s (zs (z1 [(387, z_t)] (ze (wp_seq (zit ?_)))))
 refine wp_skip (then_normal (wp_seq (wp_block (zs (z1 [(388, pt NR 80)] (wpl_val rfl (by kernel_rfl) (run_ldrow (j := 80) (A := Aq248) (m := lq248.length) (c := cq248) (s := sq248) (B := Aq249) (m2 := lq249.length) (c2 := cq249) (t := sq249) rfl (by kernel_rfl) ZR.out rfl rfl rfl rfl) ?_))))))
 refine wpl_mkrow (A := Aq248) (m := lq248.length) (c := cq248) (s := sq248) (B := Aq249) (m2 := lq249.length) (c2 := cq249) (t := sq249) rfl rfl rfl rfl rfl rfl (fun _ => by kernel_rfl) (fun _ => by kernel_rfl) ?_
 intro w266 ND ZD hb
 replace ZD := hide ZD
 replace HC1 := zH HM1 HC1 hb
 replace HL := hide (VL.kept HL.out hb)
 replace ZR := hide (Arr.kept ZR.out hb)
 replace hU := zU hU hU.size hb
 clear hb
 refine sx_n (z1 [(390, pt ND 0)] (wpl_val rfl (by kernel_rfl) (run_ldarr (j := 0) (A := Aq248) (m := lq248.length) (c := cq248) (s := sq248) rfl (by kernel_rfl) ZD.out rfl rfl) (z1 [(392, pt ND 2)] (wpl_val rfl (by kernel_rfl) (run_ldarr (j := 2) (A := Aq249) (m := lq249.length) (c := cq249) (s := sq249) rfl (by kernel_rfl) ZD.out rfl rfl) ?_))))
 refine zc rfl ((rsame_yes Aq248 Aq249 lq248 lq249 cq248 cq249 sq248 sq249 _ Lq248.out Lq249.out (VL.at_ HL.out 57 rfl) (VL.at_ HL.out 56 rfl) (by rw [Eq248.out, Eq249.out]; exact (sm_iff _ _).1 (by decide +kernel))).mono ?_)
 rintro e w267 ⟨rfl, hb⟩
 refine ⟨_, rfl, ?_⟩
 replace HC1 := zH HM1 HC1 hb
 replace HL := hide (VL.kept HL.out hb)
 replace ZR := hide (Arr.kept ZR.out hb)
 replace ZD := hide (Arr.kept ZD.out hb)
 replace hU := zU hU hU.size hb
 clear hb
 refine z1 [(395, z_f)] (ze (zif (wp_skip (block_normal (then_normal (reg_lit ?_))))))
 refine z2 [(386, .int .i64 21), (396, .int .i64 21)] (ze ?_)
 clear ZD
 refine zk [(384, .slice (some ⟨NR, 0, none⟩) 49 49), (385, .int .i64 49), (386, .int .i64 21)] (fun X => ?_)
 refine round_s (zs (z1 [(387, z_t)] (ze (wp_seq (zit ?_)))))
 refine wp_skip (then_normal (wp_seq (wp_block (zs (z1 [(388, pt NR 84)] (wpl_val rfl (by kernel_rfl) (run_ldrow (j := 84) (A := Aq253) (m := lq253.length) (c := cq253) (s := sq253) (B := Aq254) (m2 := lq254.length) (c2 := cq254) (t := sq254) rfl (by kernel_rfl) ZR.out rfl rfl rfl rfl) ?_))))))
 refine wpl_mkrow (A := Aq253) (m := lq253.length) (c := cq253) (s := sq253) (B := Aq254) (m2 := lq254.length) (c2 := cq254) (t := sq254) rfl rfl rfl rfl rfl rfl (fun _ => by kernel_rfl) (fun _ => by kernel_rfl) ?_
 intro w268 ND ZD hb
 replace ZD := hide ZD
 replace HC1 := zH HM1 HC1 hb
 replace HL := hide (VL.kept HL.out hb)
 replace ZR := hide (Arr.kept ZR.out hb)
 replace hU := zU hU hU.size hb
 clear hb
 refine sx_n (z1 [(390, pt ND 0)] (wpl_val rfl (by kernel_rfl) (run_ldarr (j := 0) (A := Aq253) (m := lq253.length) (c := cq253) (s := sq253) rfl (by kernel_rfl) ZD.out rfl rfl) (z1 [(392, pt ND 2)] (wpl_val rfl (by kernel_rfl) (run_ldarr (j := 2) (A := Aq254) (m := lq254.length) (c := cq254) (s := sq254) rfl (by kernel_rfl) ZD.out rfl rfl) ?_))))
 refine zc rfl ((rsame_yes Aq253 Aq254 lq253 lq254 cq253 cq254 sq253 sq254 _ Lq253.out Lq254.out (VL.at_ HL.out 55 rfl) (VL.at_ HL.out 54 rfl) (by rw [Eq253.out, Eq254.out]; exact (sm_iff _ _).1 (by decide +kernel))).mono ?_)
 rintro e w269 ⟨rfl, hb⟩
 refine ⟨_, rfl, ?_⟩
 replace HC1 := zH HM1 HC1 hb
 replace HL := hide (VL.kept HL.out hb)
 replace ZR := hide (Arr.kept ZR.out hb)
 replace ZD := hide (Arr.kept ZD.out hb)
 replace hU := zU hU hU.size hb
 clear hb
 refine z1 [(395, z_f)] (ze (zif (wp_skip (block_normal (then_normal (reg_lit ?_))))))
 refine z2 [(386, .int .i64 22), (396, .int .i64 22)] (ze ?_)
 clear ZD
 refine zk [(384, .slice (some ⟨NR, 0, none⟩) 49 49), (385, .int .i64 49), (386, .int .i64 22)] (fun X => ?_)
 refine round_s (zs (z1 [(387, z_t)] (ze (wp_seq (zit ?_)))))
 refine wp_skip (then_normal (wp_seq (wp_block (zs (z1 [(388, pt NR 88)] (wpl_val rfl (by kernel_rfl) (run_ldrow (j := 88) (A := Aq258) (m := lq258.length) (c := cq258) (s := sq258) (B := Aq259) (m2 := lq259.length) (c2 := cq259) (t := sq259) rfl (by kernel_rfl) ZR.out rfl rfl rfl rfl) ?_))))))
 refine wpl_mkrow (A := Aq258) (m := lq258.length) (c := cq258) (s := sq258) (B := Aq259) (m2 := lq259.length) (c2 := cq259) (t := sq259) rfl rfl rfl rfl rfl rfl (fun _ => by kernel_rfl) (fun _ => by kernel_rfl) ?_
 intro w270 ND ZD hb
 replace ZD := hide ZD
 replace HC1 := zH HM1 HC1 hb
 replace HL := hide (VL.kept HL.out hb)
 replace ZR := hide (Arr.kept ZR.out hb)
 replace hU := zU hU hU.size hb
 clear hb
 refine sx_n (z1 [(390, pt ND 0)] (wpl_val rfl (by kernel_rfl) (run_ldarr (j := 0) (A := Aq258) (m := lq258.length) (c := cq258) (s := sq258) rfl (by kernel_rfl) ZD.out rfl rfl) (z1 [(392, pt ND 2)] (wpl_val rfl (by kernel_rfl) (run_ldarr (j := 2) (A := Aq259) (m := lq259.length) (c := cq259) (s := sq259) rfl (by kernel_rfl) ZD.out rfl rfl) ?_))))
 refine zc rfl ((rsame_yes Aq258 Aq259 lq258 lq259 cq258 cq259 sq258 sq259 _ Lq258.out Lq259.out (VL.at_ HL.out 53 rfl) (VL.at_ HL.out 52 rfl) (by rw [Eq258.out, Eq259.out]; exact (sm_iff _ _).1 (by decide +kernel))).mono ?_)
 rintro e w271 ⟨rfl, hb⟩
 refine ⟨_, rfl, ?_⟩
 replace HC1 := zH HM1 HC1 hb
 replace HL := hide (VL.kept HL.out hb)
 replace ZR := hide (Arr.kept ZR.out hb)
 replace ZD := hide (Arr.kept ZD.out hb)
 replace hU := zU hU hU.size hb
 clear hb
 refine z1 [(395, z_f)] (ze (zif (wp_skip (block_normal (then_normal (reg_lit ?_))))))
 refine z2 [(386, .int .i64 23), (396, .int .i64 23)] (ze ?_)
 clear ZD
 refine zk [(384, .slice (some ⟨NR, 0, none⟩) 49 49), (385, .int .i64 49), (386, .int .i64 23)] (fun X => ?_)
 refine round_s (zs (z1 [(387, z_t)] (ze (wp_seq (zit ?_)))))
 refine wp_skip (then_normal (wp_seq (wp_block (zs (z1 [(388, pt NR 92)] (wpl_val rfl (by kernel_rfl) (run_ldrow (j := 92) (A := Aq263) (m := lq263.length) (c := cq263) (s := sq263) (B := Aq264) (m2 := lq264.length) (c2 := cq264) (t := sq264) rfl (by kernel_rfl) ZR.out rfl rfl rfl rfl) ?_))))))
 refine wpl_mkrow (A := Aq263) (m := lq263.length) (c := cq263) (s := sq263) (B := Aq264) (m2 := lq264.length) (c2 := cq264) (t := sq264) rfl rfl rfl rfl rfl rfl (fun _ => by kernel_rfl) (fun _ => by kernel_rfl) ?_
 intro w272 ND ZD hb
 replace ZD := hide ZD
 replace HC1 := zH HM1 HC1 hb
 replace HL := hide (VL.kept HL.out hb)
 replace ZR := hide (Arr.kept ZR.out hb)
 replace hU := zU hU hU.size hb
 clear hb
 refine sx_n (z1 [(390, pt ND 0)] (wpl_val rfl (by kernel_rfl) (run_ldarr (j := 0) (A := Aq263) (m := lq263.length) (c := cq263) (s := sq263) rfl (by kernel_rfl) ZD.out rfl rfl) (z1 [(392, pt ND 2)] (wpl_val rfl (by kernel_rfl) (run_ldarr (j := 2) (A := Aq264) (m := lq264.length) (c := cq264) (s := sq264) rfl (by kernel_rfl) ZD.out rfl rfl) ?_))))
 refine zc rfl ((rsame_yes Aq263 Aq264 lq263 lq264 cq263 cq264 sq263 sq264 _ Lq263.out Lq264.out (VL.at_ HL.out 51 rfl) (VL.at_ HL.out 50 rfl) (by rw [Eq263.out, Eq264.out]; exact (sm_iff _ _).1 (by decide +kernel))).mono ?_)
 rintro e w273 ⟨rfl, hb⟩
 refine ⟨_, rfl, ?_⟩
 replace HC1 := zH HM1 HC1 hb
 replace HL := hide (VL.kept HL.out hb)
 replace ZR := hide (Arr.kept ZR.out hb)
 replace ZD := hide (Arr.kept ZD.out hb)
 replace hU := zU hU hU.size hb
 clear hb
 refine z1 [(395, z_f)] (ze (zif (wp_skip (block_normal (then_normal (reg_lit ?_))))))
 refine z2 [(386, .int .i64 24), (396, .int .i64 24)] (ze ?_)
 clear ZD
 refine zk [(384, .slice (some ⟨NR, 0, none⟩) 49 49), (385, .int .i64 49), (386, .int .i64 24)] (fun X => ?_)
 refine round_s (zs (z1 [(387, z_t)] (ze (wp_seq (zit ?_)))))
 refine wp_skip (then_normal (wp_seq (wp_block (zs (z1 [(388, pt NR 96)] (wpl_val rfl (by kernel_rfl) (run_ldrow (j := 96) (A := Aq268) (m := lq268.length) (c := cq268) (s := sq268) (B := Aq269) (m2 := lq269.length) (c2 := cq269) (t := sq269) rfl (by kernel_rfl) ZR.out rfl rfl rfl rfl) ?_))))))
 refine wpl_mkrow (A := Aq268) (m := lq268.length) (c := cq268) (s := sq268) (B := Aq269) (m2 := lq269.length) (c2 := cq269) (t := sq269) rfl rfl rfl rfl rfl rfl (fun _ => by kernel_rfl) (fun _ => by kernel_rfl) ?_
 intro w274 ND ZD hb
 replace ZD := hide ZD
 replace HC1 := zH HM1 HC1 hb
 replace HL := hide (VL.kept HL.out hb)
 replace ZR := hide (Arr.kept ZR.out hb)
 replace hU := zU hU hU.size hb
 clear hb
 refine sx_n (z1 [(390, pt ND 0)] (wpl_val rfl (by kernel_rfl) (run_ldarr (j := 0) (A := Aq268) (m := lq268.length) (c := cq268) (s := sq268) rfl (by kernel_rfl) ZD.out rfl rfl) (z1 [(392, pt ND 2)] (wpl_val rfl (by kernel_rfl) (run_ldarr (j := 2) (A := Aq269) (m := lq269.length) (c := cq269) (s := sq269) rfl (by kernel_rfl) ZD.out rfl rfl) ?_))))
 refine zc rfl ((rsame_yes Aq268 Aq269 lq268 lq269 cq268 cq269 sq268 sq269 _ Lq268.out Lq269.out (VL.at_ HL.out 49 rfl) (VL.at_ HL.out 48 rfl) (by rw [Eq268.out, Eq269.out]; exact (sm_iff _ _).1 (by decide +kernel))).mono ?_)
 rintro e w275 ⟨rfl, hb⟩
 refine ⟨_, rfl, ?_⟩
 replace HC1 := zH HM1 HC1 hb
 replace HL := hide (VL.kept HL.out hb)
 replace ZR := hide (Arr.kept ZR.out hb)
 replace ZD := hide (Arr.kept ZD.out hb)
 replace hU := zU hU hU.size hb
 clear hb
 refine z1 [(395, z_f)] (ze (zif (wp_skip (block_normal (then_normal (reg_lit ?_))))))
 refine z2 [(386, .int .i64 25), (396, .int .i64 25)] (ze ?_)
 clear ZD
 refine zk [(384, .slice (some ⟨NR, 0, none⟩) 49 49), (385, .int .i64 49), (386, .int .i64 25)] (fun X => ?_)
 refine round_s (zs (z1 [(387, z_t)] (ze (wp_seq (zit ?_)))))
 refine wp_skip (then_normal (wp_seq (wp_block (zs (z1 [(388, pt NR 100)] (wpl_val rfl (by kernel_rfl) (run_ldrow (j := 100) (A := Aq272) (m := lq272.length) (c := cq272) (s := sq272) (B := Aq273) (m2 := lq273.length) (c2 := cq273) (t := sq273) rfl (by kernel_rfl) ZR.out rfl rfl rfl rfl) ?_))))))
 refine wpl_mkrow (A := Aq272) (m := lq272.length) (c := cq272) (s := sq272) (B := Aq273) (m2 := lq273.length) (c2 := cq273) (t := sq273) rfl rfl rfl rfl rfl rfl (fun _ => by kernel_rfl) (fun _ => by kernel_rfl) ?_
 intro w276 ND ZD hb
 replace ZD := hide ZD
 replace HC1 := zH HM1 HC1 hb
 replace HL := hide (VL.kept HL.out hb)
 replace ZR := hide (Arr.kept ZR.out hb)
 replace hU := zU hU hU.size hb
 clear hb
 refine sx_n (z1 [(390, pt ND 0)] (wpl_val rfl (by kernel_rfl) (run_ldarr (j := 0) (A := Aq272) (m := lq272.length) (c := cq272) (s := sq272) rfl (by kernel_rfl) ZD.out rfl rfl) (z1 [(392, pt ND 2)] (wpl_val rfl (by kernel_rfl) (run_ldarr (j := 2) (A := Aq273) (m := lq273.length) (c := cq273) (s := sq273) rfl (by kernel_rfl) ZD.out rfl rfl) ?_))))
 refine zc rfl ((rsame_yes Aq272 Aq273 lq272 lq273 cq272 cq273 sq272 sq273 _ Lq272.out Lq273.out (VL.at_ HL.out 47 rfl) (VL.at_ HL.out 46 rfl) (by rw [Eq272.out, Eq273.out]; exact (sm_iff _ _).1 (by decide +kernel))).mono ?_)
 rintro e w277 ⟨rfl, hb⟩
 refine ⟨_, rfl, ?_⟩
 replace HC1 := zH HM1 HC1 hb
 replace HL := hide (VL.kept HL.out hb)
 replace ZR := hide (Arr.kept ZR.out hb)
 replace ZD := hide (Arr.kept ZD.out hb)
 replace hU := zU hU hU.size hb
 clear hb
 refine z1 [(395, z_f)] (ze (zif (wp_skip (block_normal (then_normal (reg_lit ?_))))))
 refine z2 [(386, .int .i64 26), (396, .int .i64 26)] (ze ?_)
 clear ZD
 refine zk [(384, .slice (some ⟨NR, 0, none⟩) 49 49), (385, .int .i64 49), (386, .int .i64 26)] (fun X => ?_)
 refine round_s (zs (z1 [(387, z_t)] (ze (wp_seq (zit ?_)))))
 refine wp_skip (then_normal (wp_seq (wp_block (zs (z1 [(388, pt NR 104)] (wpl_val rfl (by kernel_rfl) (run_ldrow (j := 104) (A := Aq276) (m := lq276.length) (c := cq276) (s := sq276) (B := Aq277) (m2 := lq277.length) (c2 := cq277) (t := sq277) rfl (by kernel_rfl) ZR.out rfl rfl rfl rfl) ?_))))))
 refine wpl_mkrow (A := Aq276) (m := lq276.length) (c := cq276) (s := sq276) (B := Aq277) (m2 := lq277.length) (c2 := cq277) (t := sq277) rfl rfl rfl rfl rfl rfl (fun _ => by kernel_rfl) (fun _ => by kernel_rfl) ?_
 intro w278 ND ZD hb
 replace ZD := hide ZD
 replace HC1 := zH HM1 HC1 hb
 replace HL := hide (VL.kept HL.out hb)
 replace ZR := hide (Arr.kept ZR.out hb)
 replace hU := zU hU hU.size hb
 clear hb
 refine sx_n (z1 [(390, pt ND 0)] (wpl_val rfl (by kernel_rfl) (run_ldarr (j := 0) (A := Aq276) (m := lq276.length) (c := cq276) (s := sq276) rfl (by kernel_rfl) ZD.out rfl rfl) (z1 [(392, pt ND 2)] (wpl_val rfl (by kernel_rfl) (run_ldarr (j := 2) (A := Aq277) (m := lq277.length) (c := cq277) (s := sq277) rfl (by kernel_rfl) ZD.out rfl rfl) ?_))))
 refine zc rfl ((rsame_yes Aq276 Aq277 lq276 lq277 cq276 cq277 sq276 sq277 _ Lq276.out Lq277.out (VL.at_ HL.out 45 rfl) (VL.at_ HL.out 44 rfl) (by rw [Eq276.out, Eq277.out]; exact (sm_iff _ _).1 (by decide +kernel))).mono ?_)
 rintro e w279 ⟨rfl, hb⟩
 refine ⟨_, rfl, ?_⟩
 replace HC1 := zH HM1 HC1 hb
 replace HL := hide (VL.kept HL.out hb)
 replace ZR := hide (Arr.kept ZR.out hb)
 replace ZD := hide (Arr.kept ZD.out hb)
 replace hU := zU hU hU.size hb
 clear hb
 refine z1 [(395, z_f)] (ze (zif (wp_skip (block_normal (then_normal (reg_lit ?_))))))
 refine z2 [(386, .int .i64 27), (396, .int .i64 27)] (ze ?_)
 clear ZD
 refine zk [(384, .slice (some ⟨NR, 0, none⟩) 49 49), (385, .int .i64 49), (386, .int .i64 27)] (fun X => ?_)
 refine round_s (zs (z1 [(387, z_t)] (ze (wp_seq (zit ?_)))))
 refine wp_skip (then_normal (wp_seq (wp_block (zs (z1 [(388, pt NR 108)] (wpl_val rfl (by kernel_rfl) (run_ldrow (j := 108) (A := Aq280) (m := lq280.length) (c := cq280) (s := sq280) (B := Aq281) (m2 := lq281.length) (c2 := cq281) (t := sq281) rfl (by kernel_rfl) ZR.out rfl rfl rfl rfl) ?_))))))
 refine wpl_mkrow (A := Aq280) (m := lq280.length) (c := cq280) (s := sq280) (B := Aq281) (m2 := lq281.length) (c2 := cq281) (t := sq281) rfl rfl rfl rfl rfl rfl (fun _ => by kernel_rfl) (fun _ => by kernel_rfl) ?_
 intro w280 ND ZD hb
 replace ZD := hide ZD
 replace HC1 := zH HM1 HC1 hb
 replace HL := hide (VL.kept HL.out hb)
 replace ZR := hide (Arr.kept ZR.out hb)
 replace hU := zU hU hU.size hb
 clear hb
 refine sx_n (z1 [(390, pt ND 0)] (wpl_val rfl (by kernel_rfl) (run_ldarr (j := 0) (A := Aq280) (m := lq280.length) (c := cq280) (s := sq280) rfl (by kernel_rfl) ZD.out rfl rfl) (z1 [(392, pt ND 2)] (wpl_val rfl (by kernel_rfl) (run_ldarr (j := 2) (A := Aq281) (m := lq281.length) (c := cq281) (s := sq281) rfl (by kernel_rfl) ZD.out rfl rfl) ?_))))
 refine zc rfl ((rsame_yes Aq280 Aq281 lq280 lq281 cq280 cq281 sq280 sq281 _ Lq280.out Lq281.out (VL.at_ HL.out 43 rfl) (VL.at_ HL.out 42 rfl) (by rw [Eq280.out, Eq281.out]; exact (sm_iff _ _).1 (by decide +kernel))).mono ?_)
 rintro e w281 ⟨rfl, hb⟩
 refine ⟨_, rfl, ?_⟩
 replace HC1 := zH HM1 HC1 hb
 replace HL := hide (VL.kept HL.out hb)
 replace ZR := hide (Arr.kept ZR.out hb)
 replace ZD := hide (Arr.kept ZD.out hb)
 replace hU := zU hU hU.size hb
 clear hb
 refine z1 [(395, z_f)] (ze (zif (wp_skip (block_normal (then_normal (reg_lit ?_))))))
 refine z2 [(386, .int .i64 28), (396, .int .i64 28)] (ze ?_)
 clear ZD
 refine zk [(384, .slice (some ⟨NR, 0, none⟩) 49 49), (385, .int .i64 49), (386, .int .i64 28)] (fun X => ?_)
 refine round_s (zs (z1 [(387, z_t)] (ze (wp_seq (zit ?_)))))
 refine wp_skip (then_normal (wp_seq (wp_block (zs (z1 [(388, pt NR 112)] (wpl_val rfl (by kernel_rfl) (run_ldrow (j := 112) (A := Aq284) (m := lq284.length) (c := cq284) (s := sq284) (B := Aq285) (m2 := lq285.length) (c2 := cq285) (t := sq285) rfl (by kernel_rfl) ZR.out rfl rfl rfl rfl) ?_))))))
 refine wpl_mkrow (A := Aq284) (m := lq284.length) (c := cq284) (s := sq284) (B := Aq285) (m2 := lq285.length) (c2 := cq285) (t := sq285) rfl rfl rfl rfl rfl rfl (fun _ => by kernel_rfl) (fun _ => by kernel_rfl) ?_
 intro w282 ND ZD hb
 replace ZD := hide ZD
 replace HC1 := zH HM1 HC1 hb
 replace HL := hide (VL.kept HL.out hb)
 replace ZR := hide (Arr.kept ZR.out hb)
 replace hU := zU hU hU.size hb
 clear hb
 refine sx_n (z1 [(390, pt ND 0)] (wpl_val rfl (by kernel_rfl) (run_ldarr (j := 0) (A := Aq284) (m := lq284.length) (c := cq284) (s := sq284) rfl (by kernel_rfl) ZD.out rfl rfl) (z1 [(392, pt ND 2)] (wpl_val rfl (by kernel_rfl) (run_ldarr (j := 2) (A := Aq285) (m := lq285.length) (c := cq285) (s := sq285) rfl (by kernel_rfl) ZD.out rfl rfl) ?_))))
 refine zc rfl ((rsame_yes Aq284 Aq285 lq284 lq285 cq284 cq285 sq284 sq285 _ Lq284.out Lq285.out (VL.at_ HL.out 41 rfl) (VL.at_ HL.out 40 rfl) (by rw [Eq284.out, Eq285.out]; exact (sm_iff _ _).1 (by decide +kernel))).mono ?_)
 rintro e w283 ⟨rfl, hb⟩
 refine ⟨_, rfl, ?_⟩
 replace HC1 := zH HM1 HC1 hb
 replace HL := hide (VL.kept HL.out hb)
 replace ZR := hide (Arr.kept ZR.out hb)
 replace ZD := hide (Arr.kept ZD.out hb)
 replace hU := zU hU hU.size hb
 clear hb
 refine z1 [(395, z_f)] (ze (zif (wp_skip (block_normal (then_normal (reg_lit ?_))))))
 refine z2 [(386, .int .i64 29), (396, .int .i64 29)] (ze ?_)
 clear ZD
 refine zk [(384, .slice (some ⟨NR, 0, none⟩) 49 49), (385, .int .i64 49), (386, .int .i64 29)] (fun X => ?_)
 refine round_s (zs (z1 [(387, z_t)] (ze (wp_seq (zit ?_)))))
 refine wp_skip (then_normal (wp_seq (wp_block (zs (z1 [(388, pt NR 116)] (wpl_val rfl (by kernel_rfl) (run_ldrow (j := 116) (A := Aq288) (m := lq288.length) (c := cq288) (s := sq288) (B := Aq289) (m2 := lq289.length) (c2 := cq289) (t := sq289) rfl (by kernel_rfl) ZR.out rfl rfl rfl rfl) ?_))))))
 refine wpl_mkrow (A := Aq288) (m := lq288.length) (c := cq288) (s := sq288) (B := Aq289) (m2 := lq289.length) (c2 := cq289) (t := sq289) rfl rfl rfl rfl rfl rfl (fun _ => by kernel_rfl) (fun _ => by kernel_rfl) ?_
 intro w284 ND ZD hb
 replace ZD := hide ZD
 replace HC1 := zH HM1 HC1 hb
 replace HL := hide (VL.kept HL.out hb)
 replace ZR := hide (Arr.kept ZR.out hb)
 replace hU := zU hU hU.size hb
 clear hb
 refine sx_n (z1 [(390, pt ND 0)] (wpl_val rfl (by kernel_rfl) (run_ldarr (j := 0) (A := Aq288) (m := lq288.length) (c := cq288) (s := sq288) rfl (by kernel_rfl) ZD.out rfl rfl) (z1 [(392, pt ND 2)] (wpl_val rfl (by kernel_rfl) (run_ldarr (j := 2) (A := Aq289) (m := lq289.length) (c := cq289) (s := sq289) rfl (by kernel_rfl) ZD.out rfl rfl) ?_))))
 refine zc rfl ((rsame_yes Aq288 Aq289 lq288 lq289 cq288 cq289 sq288 sq289 _ Lq288.out Lq289.out (VL.at_ HL.out 39 rfl) (VL.at_ HL.out 38 rfl) (by rw [Eq288.out, Eq289.out]; exact (sm_iff _ _).1 (by decide +kernel))).mono ?_)
 rintro e w285 ⟨rfl, hb⟩
 refine ⟨_, rfl, ?_⟩
 replace HC1 := zH HM1 HC1 hb
 replace HL := hide (VL.kept HL.out hb)
 replace ZR := hide (Arr.kept ZR.out hb)
 replace ZD := hide (Arr.kept ZD.out hb)
 replace hU := zU hU hU.size hb
 clear hb
 refine z1 [(395, z_f)] (ze (zif (wp_skip (block_normal (then_normal (reg_lit ?_))))))
 refine z2 [(386, .int .i64 30), (396, .int .i64 30)] (ze ?_)
 clear ZD
 refine zk [(384, .slice (some ⟨NR, 0, none⟩) 49 49), (385, .int .i64 49), (386, .int .i64 30)] (fun X => ?_)
 refine round_s (zs (z1 [(387, z_t)] (ze (wp_seq (zit ?_)))))
 refine wp_skip (then_normal (wp_seq (wp_block (zs (z1 [(388, pt NR 120)] (wpl_val rfl (by kernel_rfl) (run_ldrow (j := 120) (A := Aq292) (m := lq292.length) (c := cq292) (s := sq292) (B := Aq293) (m2 := lq293.length) (c2 := cq293) (t := sq293) rfl (by kernel_rfl) ZR.out rfl rfl rfl rfl) ?_))))))
 refine wpl_mkrow (A := Aq292) (m := lq292.length) (c := cq292) (s := sq292) (B := Aq293) (m2 := lq293.length) (c2 := cq293) (t := sq293) rfl rfl rfl rfl rfl rfl (fun _ => by kernel_rfl) (fun _ => by kernel_rfl) ?_
 intro w286 ND ZD hb
 replace ZD := hide ZD
 replace HC1 := zH HM1 HC1 hb
 replace HL := hide (VL.kept HL.out hb)
 replace ZR := hide (Arr.kept ZR.out hb)
 replace hU := zU hU hU.size hb
 clear hb
 refine sx_n (z1 [(390, pt ND 0)] (wpl_val rfl (by kernel_rfl) (run_ldarr (j := 0) (A := Aq292) (m := lq292.length) (c := cq292) (s := sq292) rfl (by kernel_rfl) ZD.out rfl rfl) (z1 [(392, pt ND 2)] (wpl_val rfl (by kernel_rfl) (run_ldarr (j := 2) (A := Aq293) (m := lq293.length) (c := cq293) (s := sq293) rfl (by kernel_rfl) ZD.out rfl rfl) ?_))))
 refine zc rfl ((rsame_yes Aq292 Aq293 lq292 lq293 cq292 cq293 sq292 sq293 _ Lq292.out Lq293.out (VL.at_ HL.out 37 rfl) (VL.at_ HL.out 36 rfl) (by rw [Eq292.out, Eq293.out]; exact (sm_iff _ _).1 (by decide +kernel))).mono ?_)
 rintro e w287 ⟨rfl, hb⟩
 refine ⟨_, rfl, ?_⟩
 replace HC1 := zH HM1 HC1 hb
 replace HL := hide (VL.kept HL.out hb)
 replace ZR := hide (Arr.kept ZR.out hb)
 replace ZD := hide (Arr.kept ZD.out hb)
 replace hU := zU hU hU.size hb
 clear hb
 refine z1 [(395, z_f)] (ze (zif (wp_skip (block_normal (then_normal (reg_lit ?_))))))
 refine z2 [(386, .int .i64 31), (396, .int .i64 31)] (ze ?_)
 clear ZD
 refine zk [(384, .slice (some ⟨NR, 0, none⟩) 49 49), (385, .int .i64 49), (386, .int .i64 31)] (fun X => ?_)
 refine round_s (zs (z1 [(387, z_t)] (ze (wp_seq (zit ?_)))))
 refine wp_skip (then_normal (wp_seq (wp_block (zs (z1 [(388, pt NR 124)] (wpl_val rfl (by kernel_rfl) (run_ldrow (j := 124) (A := Aq296) (m := lq296.length) (c := cq296) (s := sq296) (B := Aq297) (m2 := lq297.length) (c2 := cq297) (t := sq297) rfl (by kernel_rfl) ZR.out rfl rfl rfl rfl) ?_))))))
 refine wpl_mkrow (A := Aq296) (m := lq296.length) (c := cq296) (s := sq296) (B := Aq297) (m2 := lq297.length) (c2 := cq297) (t := sq297) rfl rfl rfl rfl rfl rfl (fun _ => by kernel_rfl) (fun _ => by kernel_rfl) ?_
 intro w288 ND ZD hb
 replace ZD := hide ZD
 replace HC1 := zH HM1 HC1 hb
 replace HL := hide (VL.kept HL.out hb)
 replace ZR := hide (Arr.kept ZR.out hb)
 replace hU := zU hU hU.size hb
 clear hb
 refine sx_n (z1 [(390, pt ND 0)] (wpl_val rfl (by kernel_rfl) (run_ldarr (j := 0) (A := Aq296) (m := lq296.length) (c := cq296) (s := sq296) rfl (by kernel_rfl) ZD.out rfl rfl) (z1 [(392, pt ND 2)] (wpl_val rfl (by kernel_rfl) (run_ldarr (j := 2) (A := Aq297) (m := lq297.length) (c := cq297) (s := sq297) rfl (by kernel_rfl) ZD.out rfl rfl) ?_))))
 refine zc rfl ((rsame_yes Aq296 Aq297 lq296 lq297 cq296 cq297 sq296 sq297 _ Lq296.out Lq297.out (VL.at_ HL.out 35 rfl) (VL.at_ HL.out 34 rfl) (by rw [Eq296.out, Eq297.out]; exact (sm_iff _ _).1 (by decide +kernel))).mono ?_)
 rintro e w289 ⟨rfl, hb⟩
 refine ⟨_, rfl, ?_⟩
 replace HC1 := zH HM1 HC1 hb
 replace HL := hide (VL.kept HL.out hb)
 replace ZR := hide (Arr.kept ZR.out hb)
 replace ZD := hide (Arr.kept ZD.out hb)
 replace hU := zU hU hU.size hb
 clear hb
 refine z1 [(395, z_f)] (ze (zif (wp_skip (block_normal (then_normal (reg_lit ?_))))))
 refine z2 [(386, .int .i64 32), (396, .int .i64 32)] (ze ?_)
 clear ZD
 refine zk [(384, .slice (some ⟨NR, 0, none⟩) 49 49), (385, .int .i64 49), (386, .int .i64 32)] (fun X => ?_)
 refine round_s (zs (z1 [(387, z_t)] (ze (wp_seq (zit ?_)))))
 refine wp_skip (then_normal (wp_seq (wp_block (zs (z1 [(388, pt NR 128)] (wpl_val rfl (by kernel_rfl) (run_ldrow (j := 128) (A := Aq301) (m := lq301.length) (c := cq301) (s := sq301) (B := Aq302) (m2 := lq302.length) (c2 := cq302) (t := sq302) rfl (by kernel_rfl) ZR.out rfl rfl rfl rfl) ?_))))))
 refine wpl_mkrow (A := Aq301) (m := lq301.length) (c := cq301) (s := sq301) (B := Aq302) (m2 := lq302.length) (c2 := cq302) (t := sq302) rfl rfl rfl rfl rfl rfl (fun _ => by kernel_rfl) (fun _ => by kernel_rfl) ?_
 intro w290 ND ZD hb
 replace ZD := hide ZD
 replace HC1 := zH HM1 HC1 hb
 replace HL := hide (VL.kept HL.out hb)
 replace ZR := hide (Arr.kept ZR.out hb)
 replace hU := zU hU hU.size hb
 clear hb
 refine sx_n (z1 [(390, pt ND 0)] (wpl_val rfl (by kernel_rfl) (run_ldarr (j := 0) (A := Aq301) (m := lq301.length) (c := cq301) (s := sq301) rfl (by kernel_rfl) ZD.out rfl rfl) (z1 [(392, pt ND 2)] (wpl_val rfl (by kernel_rfl) (run_ldarr (j := 2) (A := Aq302) (m := lq302.length) (c := cq302) (s := sq302) rfl (by kernel_rfl) ZD.out rfl rfl) ?_))))
 refine zc rfl ((rsame_yes Aq301 Aq302 lq301 lq302 cq301 cq302 sq301 sq302 _ Lq301.out Lq302.out (VL.at_ HL.out 33 rfl) (VL.at_ HL.out 32 rfl) (by rw [Eq301.out, Eq302.out]; exact (sm_iff _ _).1 (by decide +kernel))).mono ?_)
 rintro e w291 ⟨rfl, hb⟩
 refine ⟨_, rfl, ?_⟩
 replace HC1 := zH HM1 HC1 hb
 replace HL := hide (VL.kept HL.out hb)
 replace ZR := hide (Arr.kept ZR.out hb)
 replace ZD := hide (Arr.kept ZD.out hb)
 replace hU := zU hU hU.size hb
 clear hb
 refine z1 [(395, z_f)] (ze (zif (wp_skip (block_normal (then_normal (reg_lit ?_))))))
 refine z2 [(386, .int .i64 33), (396, .int .i64 33)] (ze ?_)
 clear ZD
 refine zk [(384, .slice (some ⟨NR, 0, none⟩) 49 49), (385, .int .i64 49), (386, .int .i64 33)] (fun X => ?_)
 refine round_s (zs (z1 [(387, z_t)] (ze (wp_seq (zit ?_)))))
 refine wp_skip (then_normal (wp_seq (wp_block (zs (z1 [(388, pt NR 132)] (wpl_val rfl (by kernel_rfl) (run_ldrow (j := 132) (A := Aq306) (m := lq306.length) (c := cq306) (s := sq306) (B := Aq307) (m2 := lq307.length) (c2 := cq307) (t := sq307) rfl (by kernel_rfl) ZR.out rfl rfl rfl rfl) ?_))))))
 refine wpl_mkrow (A := Aq306) (m := lq306.length) (c := cq306) (s := sq306) (B := Aq307) (m2 := lq307.length) (c2 := cq307) (t := sq307) rfl rfl rfl rfl rfl rfl (fun _ => by kernel_rfl) (fun _ => by kernel_rfl) ?_
 intro w292 ND ZD hb
 replace ZD := hide ZD
 replace HC1 := zH HM1 HC1 hb
 replace HL := hide (VL.kept HL.out hb)
 replace ZR := hide (Arr.kept ZR.out hb)
 replace hU := zU hU hU.size hb
 clear hb
 refine sx_n (z1 [(390, pt ND 0)] (wpl_val rfl (by kernel_rfl) (run_ldarr (j := 0) (A := Aq306) (m := lq306.length) (c := cq306) (s := sq306) rfl (by kernel_rfl) ZD.out rfl rfl) (z1 [(392, pt ND 2)] (wpl_val rfl (by kernel_rfl) (run_ldarr (j := 2) (A := Aq307) (m := lq307.length) (c := cq307) (s := sq307) rfl (by kernel_rfl) ZD.out rfl rfl) ?_))))
 refine zc rfl ((rsame_yes Aq306 Aq307 lq306 lq307 cq306 cq307 sq306 sq307 _ Lq306.out Lq307.out (VL.at_ HL.out 31 rfl) (VL.at_ HL.out 30 rfl) (by rw [Eq306.out, Eq307.out]; exact (sm_iff _ _).1 (by decide +kernel))).mono ?_)
 rintro e w293 ⟨rfl, hb⟩
 refine ⟨_, rfl, ?_⟩
 replace HC1 := zH HM1 HC1 hb
 replace HL := hide (VL.kept HL.out hb)
 replace ZR := hide (Arr.kept ZR.out hb)
 replace ZD := hide (Arr.kept ZD.out hb)
 replace hU := zU hU hU.size hb
 clear hb
 refine z1 [(395, z_f)] (ze (zif (wp_skip (block_normal (then_normal (reg_lit ?_))))))
 refine z2 [(386, .int .i64 34), (396, .int .i64 34)] (ze ?_)
 clear ZD
 refine zk [(384, .slice (some ⟨NR, 0, none⟩) 49 49), (385, .int .i64 49), (386, .int .i64 34)] (fun X => ?_)
 refine round_s (zs (z1 [(387, z_t)] (ze (wp_seq (zit ?_)))))
 refine wp_skip (then_normal (wp_seq (wp_block (zs (z1 [(388, pt NR 136)] (wpl_val rfl (by kernel_rfl) (run_ldrow (j := 136) (A := Aq310) (m := lq310.length) (c := cq310) (s := sq310) (B := Aq311) (m2 := lq311.length) (c2 := cq311) (t := sq311) rfl (by kernel_rfl) ZR.out rfl rfl rfl rfl) ?_))))))
 refine wpl_mkrow (A := Aq310) (m := lq310.length) (c := cq310) (s := sq310) (B := Aq311) (m2 := lq311.length) (c2 := cq311) (t := sq311) rfl rfl rfl rfl rfl rfl (fun _ => by kernel_rfl) (fun _ => by kernel_rfl) ?_
 intro w294 ND ZD hb
 replace ZD := hide ZD
 replace HC1 := zH HM1 HC1 hb
 replace HL := hide (VL.kept HL.out hb)
 replace ZR := hide (Arr.kept ZR.out hb)
 replace hU := zU hU hU.size hb
 clear hb
 refine sx_n (z1 [(390, pt ND 0)] (wpl_val rfl (by kernel_rfl) (run_ldarr (j := 0) (A := Aq310) (m := lq310.length) (c := cq310) (s := sq310) rfl (by kernel_rfl) ZD.out rfl rfl) (z1 [(392, pt ND 2)] (wpl_val rfl (by kernel_rfl) (run_ldarr (j := 2) (A := Aq311) (m := lq311.length) (c := cq311) (s := sq311) rfl (by kernel_rfl) ZD.out rfl rfl) ?_))))
 refine zc rfl ((rsame_yes Aq310 Aq311 lq310 lq311 cq310 cq311 sq310 sq311 _ Lq310.out Lq311.out (VL.at_ HL.out 29 rfl) (VL.at_ HL.out 28 rfl) (by rw [Eq310.out, Eq311.out]; exact (sm_iff _ _).1 (by decide +kernel))).mono ?_)
 rintro e w295 ⟨rfl, hb⟩
 refine ⟨_, rfl, ?_⟩
 replace HC1 := zH HM1 HC1 hb
 replace HL := hide (VL.kept HL.out hb)
 replace ZR := hide (Arr.kept ZR.out hb)
 replace ZD := hide (Arr.kept ZD.out hb)
 replace hU := zU hU hU.size hb
 clear hb
 refine z1 [(395, z_f)] (ze (zif (wp_skip (block_normal (then_normal (reg_lit ?_))))))
 refine z2 [(386, .int .i64 35), (396, .int .i64 35)] (ze ?_)
 clear ZD
 refine zk [(384, .slice (some ⟨NR, 0, none⟩) 49 49), (385, .int .i64 49), (386, .int .i64 35)] (fun X => ?_)
 refine round_s (zs (z1 [(387, z_t)] (ze (wp_seq (zit ?_)))))
 refine wp_skip (then_normal (wp_seq (wp_block (zs (z1 [(388, pt NR 140)] (wpl_val rfl (by kernel_rfl) (run_ldrow (j := 140) (A := Aq314) (m := lq314.length) (c := cq314) (s := sq314) (B := Aq315) (m2 := lq315.length) (c2 := cq315) (t := sq315) rfl (by kernel_rfl) ZR.out rfl rfl rfl rfl) ?_))))))
 refine wpl_mkrow (A := Aq314) (m := lq314.length) (c := cq314) (s := sq314) (B := Aq315) (m2 := lq315.length) (c2 := cq315) (t := sq315) rfl rfl rfl rfl rfl rfl (fun _ => by kernel_rfl) (fun _ => by kernel_rfl) ?_
 intro w296 ND ZD hb
 replace ZD := hide ZD
 replace HC1 := zH HM1 HC1 hb
 replace HL := hide (VL.kept HL.out hb)
 replace ZR := hide (Arr.kept ZR.out hb)
 replace hU := zU hU hU.size hb
 clear hb
 refine sx_n (z1 [(390, pt ND 0)] (wpl_val rfl (by kernel_rfl) (run_ldarr (j := 0) (A := Aq314) (m := lq314.length) (c := cq314) (s := sq314) rfl (by kernel_rfl) ZD.out rfl rfl) (z1 [(392, pt ND 2)] (wpl_val rfl (by kernel_rfl) (run_ldarr (j := 2) (A := Aq315) (m := lq315.length) (c := cq315) (s := sq315) rfl (by kernel_rfl) ZD.out rfl rfl) ?_))))
 refine zc rfl ((rsame_yes Aq314 Aq315 lq314 lq315 cq314 cq315 sq314 sq315 _ Lq314.out Lq315.out (VL.at_ HL.out 27 rfl) (VL.at_ HL.out 26 rfl) (by rw [Eq314.out, Eq315.out]; exact (sm_iff _ _).1 (by decide +kernel))).mono ?_)
 rintro e w297 ⟨rfl, hb⟩
 refine ⟨_, rfl, ?_⟩
 replace HC1 := zH HM1 HC1 hb
 replace HL := hide (VL.kept HL.out hb)
 replace ZR := hide (Arr.kept ZR.out hb)
 replace ZD := hide (Arr.kept ZD.out hb)
 replace hU := zU hU hU.size hb
 clear hb
 refine z1 [(395, z_f)] (ze (zif (wp_skip (block_normal (then_normal (reg_lit ?_))))))
 refine z2 [(386, .int .i64 36), (396, .int .i64 36)] (ze ?_)
 clear ZD
 refine zk [(384, .slice (some ⟨NR, 0, none⟩) 49 49), (385, .int .i64 49), (386, .int .i64 36)] (fun X => ?_)
 refine round_s (zs (z1 [(387, z_t)] (ze (wp_seq (zit ?_)))))
 refine wp_skip (then_normal (wp_seq (wp_block (zs (z1 [(388, pt NR 144)] (wpl_val rfl (by kernel_rfl) (run_ldrow (j := 144) (A := Aq319) (m := lq319.length) (c := cq319) (s := sq319) (B := Aq320) (m2 := lq320.length) (c2 := cq320) (t := sq320) rfl (by kernel_rfl) ZR.out rfl rfl rfl rfl) ?_))))))
 refine wpl_mkrow (A := Aq319) (m := lq319.length) (c := cq319) (s := sq319) (B := Aq320) (m2 := lq320.length) (c2 := cq320) (t := sq320) rfl rfl rfl rfl rfl rfl (fun _ => by kernel_rfl) (fun _ => by kernel_rfl) ?_
 intro w298 ND ZD hb
 replace ZD := hide ZD
 replace HC1 := zH HM1 HC1 hb
 replace HL := hide (VL.kept HL.out hb)
 replace ZR := hide (Arr.kept ZR.out hb)
 replace hU := zU hU hU.size hb
 clear hb
 refine sx_n (z1 [(390, pt ND 0)] (wpl_val rfl (by kernel_rfl) (run_ldarr (j := 0) (A := Aq319) (m := lq319.length) (c := cq319) (s := sq319) rfl (by kernel_rfl) ZD.out rfl rfl) (z1 [(392, pt ND 2)] (wpl_val rfl (by kernel_rfl) (run_ldarr (j := 2) (A := Aq320) (m := lq320.length) (c := cq320) (s := sq320) rfl (by kernel_rfl) ZD.out rfl rfl) ?_))))
 refine zc rfl ((rsame_yes Aq319 Aq320 lq319 lq320 cq319 cq320 sq319 sq320 _ Lq319.out Lq320.out (VL.at_ HL.out 25 rfl) (VL.at_ HL.out 24 rfl) (by rw [Eq319.out, Eq320.out]; exact (sm_iff _ _).1 (by decide +kernel))).mono ?_)
 rintro e w299 ⟨rfl, hb⟩
 refine ⟨_, rfl, ?_⟩
 replace HC1 := zH HM1 HC1 hb
 replace HL := hide (VL.kept HL.out hb)
 replace ZR := hide (Arr.kept ZR.out hb)
 replace ZD := hide (Arr.kept ZD.out hb)
 replace hU := zU hU hU.size hb
 clear hb
 refine z1 [(395, z_f)] (ze (zif (wp_skip (block_normal (then_normal (reg_lit ?_))))))
 refine z2 [(386, .int .i64 37), (396, .int .i64 37)] (ze ?_)
 clear ZD
 refine zk [(384, .slice (some ⟨NR, 0, none⟩) 49 49), (385, .int .i64 49), (386, .int .i64 37)] (fun X => ?_)
 refine round_s (zs (z1 [(387, z_t)] (ze (wp_seq (zit ?_)))))
 refine wp_skip (then_normal (wp_seq (wp_block (zs (z1 [(388, pt NR 148)] (wpl_val rfl (by kernel_rfl) (run_ldrow (j := 148) (A := Aq324) (m := lq324.length) (c := cq324) (s := sq324) (B := Aq325) (m2 := lq325.length) (c2 := cq325) (t := sq325) rfl (by kernel_rfl) ZR.out rfl rfl rfl rfl) ?_))))))
 refine wpl_mkrow (A := Aq324) (m := lq324.length) (c := cq324) (s := sq324) (B := Aq325) (m2 := lq325.length) (c2 := cq325) (t := sq325) rfl rfl rfl rfl rfl rfl (fun _ => by kernel_rfl) (fun _ => by kernel_rfl) ?_
 intro w300 ND ZD hb
 replace ZD := hide ZD
 replace HC1 := zH HM1 HC1 hb
 replace HL := hide (VL.kept HL.out hb)
 replace ZR := hide (Arr.kept ZR.out hb)
 replace hU := zU hU hU.size hb
 clear hb
 refine sx_n (z1 [(390, pt ND 0)] (wpl_val rfl (by kernel_rfl) (run_ldarr (j := 0) (A := Aq324) (m := lq324.length) (c := cq324) (s := sq324) rfl (by kernel_rfl) ZD.out rfl rfl) (z1 [(392, pt ND 2)] (wpl_val rfl (by kernel_rfl) (run_ldarr (j := 2) (A := Aq325) (m := lq325.length) (c := cq325) (s := sq325) rfl (by kernel_rfl) ZD.out rfl rfl) ?_))))
 refine zc rfl ((rsame_yes Aq324 Aq325 lq324 lq325 cq324 cq325 sq324 sq325 _ Lq324.out Lq325.out (VL.at_ HL.out 23 rfl) (VL.at_ HL.out 22 rfl) (by rw [Eq324.out, Eq325.out]; exact (sm_iff _ _).1 (by decide +kernel))).mono ?_)
 rintro e w301 ⟨rfl, hb⟩
 refine ⟨_, rfl, ?_⟩
 replace HC1 := zH HM1 HC1 hb
 replace HL := hide (VL.kept HL.out hb)
 replace ZR := hide (Arr.kept ZR.out hb)
 replace ZD := hide (Arr.kept ZD.out hb)
 replace hU := zU hU hU.size hb
 clear hb
 refine z1 [(395, z_f)] (ze (zif (wp_skip (block_normal (then_normal (reg_lit ?_))))))
 refine z2 [(386, .int .i64 38), (396, .int .i64 38)] (ze ?_)
 clear ZD
 refine zk [(384, .slice (some ⟨NR, 0, none⟩) 49 49), (385, .int .i64 49), (386, .int .i64 38)] (fun X => ?_)
 refine round_s (zs (z1 [(387, z_t)] (ze (wp_seq (zit ?_)))))
 refine wp_skip (then_normal (wp_seq (wp_block (zs (z1 [(388, pt NR 152)] (wpl_val rfl (by kernel_rfl) (run_ldrow (j := 152) (A := Aq329) (m := lq329.length) (c := cq329) (s := sq329) (B := Aq330) (m2 := lq330.length) (c2 := cq330) (t := sq330) rfl (by kernel_rfl) ZR.out rfl rfl rfl rfl) ?_))))))
 refine wpl_mkrow (A := Aq329) (m := lq329.length) (c := cq329) (s := sq329) (B := Aq330) (m2 := lq330.length) (c2 := cq330) (t := sq330) rfl rfl rfl rfl rfl rfl (fun _ => by kernel_rfl) (fun _ => by kernel_rfl) ?_
 intro w302 ND ZD hb
 replace ZD := hide ZD
 replace HC1 := zH HM1 HC1 hb
 replace HL := hide (VL.kept HL.out hb)
 replace ZR := hide (Arr.kept ZR.out hb)
 replace hU := zU hU hU.size hb
 clear hb
 refine sx_n (z1 [(390, pt ND 0)] (wpl_val rfl (by kernel_rfl) (run_ldarr (j := 0) (A := Aq329) (m := lq329.length) (c := cq329) (s := sq329) rfl (by kernel_rfl) ZD.out rfl rfl) (z1 [(392, pt ND 2)] (wpl_val rfl (by kernel_rfl) (run_ldarr (j := 2) (A := Aq330) (m := lq330.length) (c := cq330) (s := sq330) rfl (by kernel_rfl) ZD.out rfl rfl) ?_))))
 refine zc rfl ((rsame_yes Aq329 Aq330 lq329 lq330 cq329 cq330 sq329 sq330 _ Lq329.out Lq330.out (VL.at_ HL.out 21 rfl) (VL.at_ HL.out 20 rfl) (by rw [Eq329.out, Eq330.out]; exact (sm_iff _ _).1 (by decide +kernel))).mono ?_)
 rintro e w303 ⟨rfl, hb⟩
 refine ⟨_, rfl, ?_⟩
 replace HC1 := zH HM1 HC1 hb
 replace HL := hide (VL.kept HL.out hb)
 replace ZR := hide (Arr.kept ZR.out hb)
 replace ZD := hide (Arr.kept ZD.out hb)
 replace hU := zU hU hU.size hb
 clear hb
 refine z1 [(395, z_f)] (ze (zif (wp_skip (block_normal (then_normal (reg_lit ?_))))))
 refine z2 [(386, .int .i64 39), (396, .int .i64 39)] (ze ?_)
 clear ZD
 refine zk [(384, .slice (some ⟨NR, 0, none⟩) 49 49), (385, .int .i64 49), (386, .int .i64 39)] (fun X => ?_)
 refine round_s (zs (z1 [(387, z_t)] (ze (wp_seq (zit ?_)))))
 refine wp_skip (then_normal (wp_seq (wp_block (zs (z1 [(388, pt NR 156)] (wpl_val rfl (by kernel_rfl) (run_ldrow (j := 156) (A := Aq334) (m := lq334.length) (c := cq334) (s := sq334) (B := Aq335) (m2 := lq335.length) (c2 := cq335) (t := sq335) rfl (by kernel_rfl) ZR.out rfl rfl rfl rfl) ?_))))))
 refine wpl_mkrow (A := Aq334) (m := lq334.length) (c := cq334) (s := sq334) (B := Aq335) (m2 := lq335.length) (c2 := cq335) (t := sq335) rfl rfl rfl rfl rfl rfl (fun _ => by kernel_rfl) (fun _ => by kernel_rfl) ?_
 intro w304 ND ZD hb
 replace ZD := hide ZD
 replace HC1 := zH HM1 HC1 hb
 replace HL := hide (VL.kept HL.out hb)
 replace ZR := hide (Arr.kept ZR.out hb)
 replace hU := zU hU hU.size hb
 clear hb
 refine sx_n (z1 [(390, pt ND 0)] (wpl_val rfl (by kernel_rfl) (run_ldarr (j := 0) (A := Aq334) (m := lq334.length) (c := cq334) (s := sq334) rfl (by kernel_rfl) ZD.out rfl rfl) (z1 [(392, pt ND 2)] (wpl_val rfl (by kernel_rfl) (run_ldarr (j := 2) (A := Aq335) (m := lq335.length) (c := cq335) (s := sq335) rfl (by kernel_rfl) ZD.out rfl rfl) ?_))))
 refine zc rfl ((rsame_yes Aq334 Aq335 lq334 lq335 cq334 cq335 sq334 sq335 _ Lq334.out Lq335.out (VL.at_ HL.out 19 rfl) (VL.at_ HL.out 18 rfl) (by rw [Eq334.out, Eq335.out]; exact (sm_iff _ _).1 (by decide +kernel))).mono ?_)
 rintro e w305 ⟨rfl, hb⟩
 refine ⟨_, rfl, ?_⟩
 replace HC1 := zH HM1 HC1 hb
 replace HL := hide (VL.kept HL.out hb)
 replace ZR := hide (Arr.kept ZR.out hb)
 replace ZD := hide (Arr.kept ZD.out hb)
 replace hU := zU hU hU.size hb
 clear hb
 refine z1 [(395, z_f)] (ze (zif (wp_skip (block_normal (then_normal (reg_lit ?_))))))
 refine z2 [(386, .int .i64 40), (396, .int .i64 40)] (ze ?_)
 clear ZD
 refine zk [(384, .slice (some ⟨NR, 0, none⟩) 49 49), (385, .int .i64 49), (386, .int .i64 40)] (fun X => ?_)
 refine round_s (zs (z1 [(387, z_t)] (ze (wp_seq (zit ?_)))))
 refine wp_skip (then_normal (wp_seq (wp_block (zs (z1 [(388, pt NR 160)] (wpl_val rfl (by kernel_rfl) (run_ldrow (j := 160) (A := Aq339) (m := lq339.length) (c := cq339) (s := sq339) (B := Aq340) (m2 := lq340.length) (c2 := cq340) (t := sq340) rfl (by kernel_rfl) ZR.out rfl rfl rfl rfl) ?_))))))
 refine wpl_mkrow (A := Aq339) (m := lq339.length) (c := cq339) (s := sq339) (B := Aq340) (m2 := lq340.length) (c2 := cq340) (t := sq340) rfl rfl rfl rfl rfl rfl (fun _ => by kernel_rfl) (fun _ => by kernel_rfl) ?_
 intro w306 ND ZD hb
 replace ZD := hide ZD
 replace HC1 := zH HM1 HC1 hb
 replace HL := hide (VL.kept HL.out hb)
 replace ZR := hide (Arr.kept ZR.out hb)
 replace hU := zU hU hU.size hb
 clear hb
 refine sx_n (z1 [(390, pt ND 0)] (wpl_val rfl (by kernel_rfl) (run_ldarr (j := 0) (A := Aq339) (m := lq339.length) (c := cq339) (s := sq339) rfl (by kernel_rfl) ZD.out rfl rfl) (z1 [(392, pt ND 2)] (wpl_val rfl (by kernel_rfl) (run_ldarr (j := 2) (A := Aq340) (m := lq340.length) (c := cq340) (s := sq340) rfl (by kernel_rfl) ZD.out rfl rfl) ?_))))
 refine zc rfl ((rsame_yes Aq339 Aq340 lq339 lq340 cq339 cq340 sq339 sq340 _ Lq339.out Lq340.out (VL.at_ HL.out 17 rfl) (VL.at_ HL.out 16 rfl) (by rw [Eq339.out, Eq340.out]; exact (sm_iff _ _).1 (by decide +kernel))).mono ?_)
 rintro e w307 ⟨rfl, hb⟩
 refine ⟨_, rfl, ?_⟩
 replace HC1 := zH HM1 HC1 hb
 replace HL := hide (VL.kept HL.out hb)
 replace ZR := hide (Arr.kept ZR.out hb)
 replace ZD := hide (Arr.kept ZD.out hb)
 replace hU := zU hU hU.size hb
 clear hb
 refine z1 [(395, z_f)] (ze (zif (wp_skip (block_normal (then_normal (reg_lit ?_))))))
 refine z2 [(386, .int .i64 41), (396, .int .i64 41)] (ze ?_)
 clear ZD
 refine zk [(384, .slice (some ⟨NR, 0, none⟩) 49 49), (385, .int .i64 49), (386, .int .i64 41)] (fun X => ?_)
 refine round_s (zs (z1 [(387, z_t)] (ze (wp_seq (zit ?_)))))
 refine wp_skip (then_normal (wp_seq (wp_block (zs (z1 [(388, pt NR 164)] (wpl_val rfl (by kernel_rfl) (run_ldrow (j := 164) (A := Aq344) (m := lq344.length) (c := cq344) (s := sq344) (B := Aq345) (m2 := lq345.length) (c2 := cq345) (t := sq345) rfl (by kernel_rfl) ZR.out rfl rfl rfl rfl) ?_))))))
 refine wpl_mkrow (A := Aq344) (m := lq344.length) (c := cq344) (s := sq344) (B := Aq345) (m2 := lq345.length) (c2 := cq345) (t := sq345) rfl rfl rfl rfl rfl rfl (fun _ => by kernel_rfl) (fun _ => by kernel_rfl) ?_
 intro w308 ND ZD hb
 replace ZD := hide ZD
 replace HC1 := zH HM1 HC1 hb
 replace HL := hide (VL.kept HL.out hb)
 replace ZR := hide (Arr.kept ZR.out hb)
 replace hU := zU hU hU.size hb
 clear hb
 refine sx_n (z1 [(390, pt ND 0)] (wpl_val rfl (by kernel_rfl) (run_ldarr (j := 0) (A := Aq344) (m := lq344.length) (c := cq344) (s := sq344) rfl (by kernel_rfl) ZD.out rfl rfl) (z1 [(392, pt ND 2)] (wpl_val rfl (by kernel_rfl) (run_ldarr (j := 2) (A := Aq345) (m := lq345.length) (c := cq345) (s := sq345) rfl (by kernel_rfl) ZD.out rfl rfl) ?_))))
 refine zc rfl ((rsame_yes Aq344 Aq345 lq344 lq345 cq344 cq345 sq344 sq345 _ Lq344.out Lq345.out (VL.at_ HL.out 15 rfl) (VL.at_ HL.out 14 rfl) (by rw [Eq344.out, Eq345.out]; exact (sm_iff _ _).1 (by decide +kernel))).mono ?_)
 rintro e w309 ⟨rfl, hb⟩
 refine ⟨_, rfl, ?_⟩
 replace HC1 := zH HM1 HC1 hb
 replace HL := hide (VL.kept HL.out hb)
 replace ZR := hide (Arr.kept ZR.out hb)
 replace ZD := hide (Arr.kept ZD.out hb)
 replace hU := zU hU hU.size hb
 clear hb
 refine z1 [(395, z_f)] (ze (zif (wp_skip (block_normal (then_normal (reg_lit ?_))))))
 refine z2 [(386, .int .i64 42), (396, .int .i64 42)] (ze ?_)
 clear ZD
 refine zk [(384, .slice (some ⟨NR, 0, none⟩) 49 49), (385, .int .i64 49), (386, .int .i64 42)] (fun X => ?_)
 refine round_s (zs (z1 [(387, z_t)] (ze (wp_seq (zit ?_)))))
 refine wp_skip (then_normal (wp_seq (wp_block (zs (z1 [(388, pt NR 168)] (wpl_val rfl (by kernel_rfl) (run_ldrow (j := 168) (A := Aq349) (m := lq349.length) (c := cq349) (s := sq349) (B := Aq350) (m2 := lq350.length) (c2 := cq350) (t := sq350) rfl (by kernel_rfl) ZR.out rfl rfl rfl rfl) ?_))))))
 refine wpl_mkrow (A := Aq349) (m := lq349.length) (c := cq349) (s := sq349) (B := Aq350) (m2 := lq350.length) (c2 := cq350) (t := sq350) rfl rfl rfl rfl rfl rfl (fun _ => by kernel_rfl) (fun _ => by kernel_rfl) ?_
 intro w310 ND ZD hb
 replace ZD := hide ZD
 replace HC1 := zH HM1 HC1 hb
 replace HL := hide (VL.kept HL.out hb)
 replace ZR := hide (Arr.kept ZR.out hb)
 replace hU := zU hU hU.size hb
 clear hb
 refine sx_n (z1 [(390, pt ND 0)] (wpl_val rfl (by kernel_rfl) (run_ldarr (j := 0) (A := Aq349) (m := lq349.length) (c := cq349) (s := sq349) rfl (by kernel_rfl) ZD.out rfl rfl) (z1 [(392, pt ND 2)] (wpl_val rfl (by kernel_rfl) (run_ldarr (j := 2) (A := Aq350) (m := lq350.length) (c := cq350) (s := sq350) rfl (by kernel_rfl) ZD.out rfl rfl) ?_))))
 refine zc rfl ((rsame_yes Aq349 Aq350 lq349 lq350 cq349 cq350 sq349 sq350 _ Lq349.out Lq350.out (VL.at_ HL.out 13 rfl) (VL.at_ HL.out 12 rfl) (by rw [Eq349.out, Eq350.out]; exact (sm_iff _ _).1 (by decide +kernel))).mono ?_)
 rintro e w311 ⟨rfl, hb⟩
 refine ⟨_, rfl, ?_⟩
 replace HC1 := zH HM1 HC1 hb
 replace HL := hide (VL.kept HL.out hb)
 replace ZR := hide (Arr.kept ZR.out hb)
 replace ZD := hide (Arr.kept ZD.out hb)
 replace hU := zU hU hU.size hb
 clear hb
 refine z1 [(395, z_f)] (ze (zif (wp_skip (block_normal (then_normal (reg_lit ?_))))))
 refine z2 [(386, .int .i64 43), (396, .int .i64 43)] (ze ?_)
 clear ZD
 refine zk [(384, .slice (some ⟨NR, 0, none⟩) 49 49), (385, .int .i64 49), (386, .int .i64 43)] (fun X => ?_)
 refine round_s (zs (z1 [(387, z_t)] (ze (wp_seq (zit ?_)))))
 refine wp_skip (then_normal (wp_seq (wp_block (zs (z1 [(388, pt NR 172)] (wpl_val rfl (by kernel_rfl) (run_ldrow (j := 172) (A := Aq354) (m := lq354.length) (c := cq354) (s := sq354) (B := Aq355) (m2 := lq355.length) (c2 := cq355) (t := sq355) rfl (by kernel_rfl) ZR.out rfl rfl rfl rfl) ?_))))))
 refine wpl_mkrow (A := Aq354) (m := lq354.length) (c := cq354) (s := sq354) (B := Aq355) (m2 := lq355.length) (c2 := cq355) (t := sq355) rfl rfl rfl rfl rfl rfl (fun _ => by kernel_rfl) (fun _ => by kernel_rfl) ?_
 intro w312 ND ZD hb
 replace ZD := hide ZD
 replace HC1 := zH HM1 HC1 hb
 replace HL := hide (VL.kept HL.out hb)
 replace ZR := hide (Arr.kept ZR.out hb)
 replace hU := zU hU hU.size hb
 clear hb
 refine sx_n (z1 [(390, pt ND 0)] (wpl_val rfl (by kernel_rfl) (run_ldarr (j := 0) (A := Aq354) (m := lq354.length) (c := cq354) (s := sq354) rfl (by kernel_rfl) ZD.out rfl rfl) (z1 [(392, pt ND 2)] (wpl_val rfl (by kernel_rfl) (run_ldarr (j := 2) (A := Aq355) (m := lq355.length) (c := cq355) (s := sq355) rfl (by kernel_rfl) ZD.out rfl rfl) ?_))))
 refine zc rfl ((rsame_yes Aq354 Aq355 lq354 lq355 cq354 cq355 sq354 sq355 _ Lq354.out Lq355.out (VL.at_ HL.out 11 rfl) (VL.at_ HL.out 10 rfl) (by rw [Eq354.out, Eq355.out]; exact (sm_iff _ _).1 (by decide +kernel))).mono ?_)
 rintro e w313 ⟨rfl, hb⟩
 refine ⟨_, rfl, ?_⟩
 replace HC1 := zH HM1 HC1 hb
 replace HL := hide (VL.kept HL.out hb)
 replace ZR := hide (Arr.kept ZR.out hb)
 replace ZD := hide (Arr.kept ZD.out hb)
 replace hU := zU hU hU.size hb
 clear hb
 refine z1 [(395, z_f)] (ze (zif (wp_skip (block_normal (then_normal (reg_lit ?_))))))
 refine z2 [(386, .int .i64 44), (396, .int .i64 44)] (ze ?_)
 clear ZD
 refine zk [(384, .slice (some ⟨NR, 0, none⟩) 49 49), (385, .int .i64 49), (386, .int .i64 44)] (fun X => ?_)
 refine round_s (zs (z1 [(387, z_t)] (ze (wp_seq (zit ?_)))))
 refine wp_skip (then_normal (wp_seq (wp_block (zs (z1 [(388, pt NR 176)] (wpl_val rfl (by kernel_rfl) (run_ldrow (j := 176) (A := Aq359) (m := lq359.length) (c := cq359) (s := sq359) (B := Aq360) (m2 := lq360.length) (c2 := cq360) (t := sq360) rfl (by kernel_rfl) ZR.out rfl rfl rfl rfl) ?_))))))
 refine wpl_mkrow (A := Aq359) (m := lq359.length) (c := cq359) (s := sq359) (B := Aq360) (m2 := lq360.length) (c2 := cq360) (t := sq360) rfl rfl rfl rfl rfl rfl (fun _ => by kernel_rfl) (fun _ => by kernel_rfl) ?_
 intro w314 ND ZD hb
 replace ZD := hide ZD
 replace HC1 := zH HM1 HC1 hb
 replace HL := hide (VL.kept HL.out hb)
 replace ZR := hide (Arr.kept ZR.out hb)
 replace hU := zU hU hU.size hb
 clear hb
 refine sx_n (z1 [(390, pt ND 0)] (wpl_val rfl (by kernel_rfl) (run_ldarr (j := 0) (A := Aq359) (m := lq359.length) (c := cq359) (s := sq359) rfl (by kernel_rfl) ZD.out rfl rfl) (z1 [(392, pt ND 2)] (wpl_val rfl (by kernel_rfl) (run_ldarr (j := 2) (A := Aq360) (m := lq360.length) (c := cq360) (s := sq360) rfl (by kernel_rfl) ZD.out rfl rfl) ?_))))
 refine zc rfl ((rsame_yes Aq359 Aq360 lq359 lq360 cq359 cq360 sq359 sq360 _ Lq359.out Lq360.out (VL.at_ HL.out 9 rfl) (VL.at_ HL.out 8 rfl) (by rw [Eq359.out, Eq360.out]; exact (sm_iff _ _).1 (by decide +kernel))).mono ?_)
 rintro e w315 ⟨rfl, hb⟩
 refine ⟨_, rfl, ?_⟩
 replace HC1 := zH HM1 HC1 hb
 replace HL := hide (VL.kept HL.out hb)
 replace ZR := hide (Arr.kept ZR.out hb)
 replace ZD := hide (Arr.kept ZD.out hb)
 replace hU := zU hU hU.size hb
 clear hb
 refine z1 [(395, z_f)] (ze (zif (wp_skip (block_normal (then_normal (reg_lit ?_))))))
 refine z2 [(386, .int .i64 45), (396, .int .i64 45)] (ze ?_)
 clear ZD
 refine zk [(384, .slice (some ⟨NR, 0, none⟩) 49 49), (385, .int .i64 49), (386, .int .i64 45)] (fun X => ?_)
 refine round_s (zs (z1 [(387, z_t)] (ze (wp_seq (zit ?_)))))
 refine wp_skip (then_normal (wp_seq (wp_block (zs (z1 [(388, pt NR 180)] (wpl_val rfl (by kernel_rfl) (run_ldrow (j := 180) (A := Aq365) (m := lq365.length) (c := cq365) (s := sq365) (B := Aq366) (m2 := lq366.length) (c2 := cq366) (t := sq366) rfl (by kernel_rfl) ZR.out rfl rfl rfl rfl) ?_))))))
 refine wpl_mkrow (A := Aq365) (m := lq365.length) (c := cq365) (s := sq365) (B := Aq366) (m2 := lq366.length) (c2 := cq366) (t := sq366) rfl rfl rfl rfl rfl rfl (fun _ => by kernel_rfl) (fun _ => by kernel_rfl) ?_
 intro w316 ND ZD hb
 replace ZD := hide ZD
 replace HC1 := zH HM1 HC1 hb
 replace HL := hide (VL.kept HL.out hb)
 replace ZR := hide (Arr.kept ZR.out hb)
 replace hU := zU hU hU.size hb
 clear hb
 refine sx_n (z1 [(390, pt ND 0)] (wpl_val rfl (by kernel_rfl) (run_ldarr (j := 0) (A := Aq365) (m := lq365.length) (c := cq365) (s := sq365) rfl (by kernel_rfl) ZD.out rfl rfl) (z1 [(392, pt ND 2)] (wpl_val rfl (by kernel_rfl) (run_ldarr (j := 2) (A := Aq366) (m := lq366.length) (c := cq366) (s := sq366) rfl (by kernel_rfl) ZD.out rfl rfl) ?_))))
 refine zc rfl ((rsame_yes Aq365 Aq366 lq365 lq366 cq365 cq366 sq365 sq366 _ Lq365.out Lq366.out (VL.at_ HL.out 7 rfl) (VL.at_ HL.out 6 rfl) (by rw [Eq365.out, Eq366.out]; exact (sm_iff _ _).1 (by decide +kernel))).mono ?_)
 rintro e w317 ⟨rfl, hb⟩
 refine ⟨_, rfl, ?_⟩
 replace HC1 := zH HM1 HC1 hb
 replace HL := hide (VL.kept HL.out hb)
 replace ZR := hide (Arr.kept ZR.out hb)
 replace ZD := hide (Arr.kept ZD.out hb)
 replace hU := zU hU hU.size hb
 clear hb
 refine z1 [(395, z_f)] (ze (zif (wp_skip (block_normal (then_normal (reg_lit ?_))))))
 refine z2 [(386, .int .i64 46), (396, .int .i64 46)] (ze ?_)
 clear ZD
 refine zk [(384, .slice (some ⟨NR, 0, none⟩) 49 49), (385, .int .i64 49), (386, .int .i64 46)] (fun X => ?_)
 refine round_s (zs (z1 [(387, z_t)] (ze (wp_seq (zit ?_)))))
 refine wp_skip (then_normal (wp_seq (wp_block (zs (z1 [(388, pt NR 184)] (wpl_val rfl (by kernel_rfl) (run_ldrow (j := 184) (A := Aq371) (m := lq371.length) (c := cq371) (s := sq371) (B := Aq372) (m2 := lq372.length) (c2 := cq372) (t := sq372) rfl (by kernel_rfl) ZR.out rfl rfl rfl rfl) ?_))))))
 refine wpl_mkrow (A := Aq371) (m := lq371.length) (c := cq371) (s := sq371) (B := Aq372) (m2 := lq372.length) (c2 := cq372) (t := sq372) rfl rfl rfl rfl rfl rfl (fun _ => by kernel_rfl) (fun _ => by kernel_rfl) ?_
 intro w318 ND ZD hb
 replace ZD := hide ZD
 replace HC1 := zH HM1 HC1 hb
 replace HL := hide (VL.kept HL.out hb)
 replace ZR := hide (Arr.kept ZR.out hb)
 replace hU := zU hU hU.size hb
 clear hb
 refine sx_n (z1 [(390, pt ND 0)] (wpl_val rfl (by kernel_rfl) (run_ldarr (j := 0) (A := Aq371) (m := lq371.length) (c := cq371) (s := sq371) rfl (by kernel_rfl) ZD.out rfl rfl) (z1 [(392, pt ND 2)] (wpl_val rfl (by kernel_rfl) (run_ldarr (j := 2) (A := Aq372) (m := lq372.length) (c := cq372) (s := sq372) rfl (by kernel_rfl) ZD.out rfl rfl) ?_))))
 refine zc rfl ((rsame_yes Aq371 Aq372 lq371 lq372 cq371 cq372 sq371 sq372 _ Lq371.out Lq372.out (VL.at_ HL.out 5 rfl) (VL.at_ HL.out 4 rfl) (by rw [Eq371.out, Eq372.out]; exact (sm_iff _ _).1 (by decide +kernel))).mono ?_)
 rintro e w319 ⟨rfl, hb⟩
 refine ⟨_, rfl, ?_⟩
 replace HC1 := zH HM1 HC1 hb
 replace HL := hide (VL.kept HL.out hb)
 replace ZR := hide (Arr.kept ZR.out hb)
 replace ZD := hide (Arr.kept ZD.out hb)
 replace hU := zU hU hU.size hb
 clear hb
 refine z1 [(395, z_f)] (ze (zif (wp_skip (block_normal (then_normal (reg_lit ?_))))))
 refine z2 [(386, .int .i64 47), (396, .int .i64 47)] (ze ?_)
 clear ZD
 refine zk [(384, .slice (some ⟨NR, 0, none⟩) 49 49), (385, .int .i64 49), (386, .int .i64 47)] (fun X => ?_)
 refine round_s (zs (z1 [(387, z_t)] (ze (wp_seq (zit ?_)))))
 refine wp_skip (then_normal (wp_seq (wp_block (zs (z1 [(388, pt NR 188)] (wpl_val rfl (by kernel_rfl) (run_ldrow (j := 188) (A := Aq377) (m := lq377.length) (c := cq377) (s := sq377) (B := Aq378) (m2 := lq378.length) (c2 := cq378) (t := sq378) rfl (by kernel_rfl) ZR.out rfl rfl rfl rfl) ?_))))))
 refine wpl_mkrow (A := Aq377) (m := lq377.length) (c := cq377) (s := sq377) (B := Aq378) (m2 := lq378.length) (c2 := cq378) (t := sq378) rfl rfl rfl rfl rfl rfl (fun _ => by kernel_rfl) (fun _ => by kernel_rfl) ?_
 intro w320 ND ZD hb
 replace ZD := hide ZD
 replace HC1 := zH HM1 HC1 hb
 replace HL := hide (VL.kept HL.out hb)
 replace ZR := hide (Arr.kept ZR.out hb)
 replace hU := zU hU hU.size hb
 clear hb
 refine sx_n (z1 [(390, pt ND 0)] (wpl_val rfl (by kernel_rfl) (run_ldarr (j := 0) (A := Aq377) (m := lq377.length) (c := cq377) (s := sq377) rfl (by kernel_rfl) ZD.out rfl rfl) (z1 [(392, pt ND 2)] (wpl_val rfl (by kernel_rfl) (run_ldarr (j := 2) (A := Aq378) (m := lq378.length) (c := cq378) (s := sq378) rfl (by kernel_rfl) ZD.out rfl rfl) ?_))))
 refine zc rfl ((rsame_yes Aq377 Aq378 lq377 lq378 cq377 cq378 sq377 sq378 _ Lq377.out Lq378.out (VL.at_ HL.out 3 rfl) (VL.at_ HL.out 2 rfl) (by rw [Eq377.out, Eq378.out]; exact (sm_iff _ _).1 (by decide +kernel))).mono ?_)
 rintro e w321 ⟨rfl, hb⟩
 refine ⟨_, rfl, ?_⟩
 replace HC1 := zH HM1 HC1 hb
 replace HL := hide (VL.kept HL.out hb)
 replace ZR := hide (Arr.kept ZR.out hb)
 replace ZD := hide (Arr.kept ZD.out hb)
 replace hU := zU hU hU.size hb
 clear hb
 refine z1 [(395, z_f)] (ze (zif (wp_skip (block_normal (then_normal (reg_lit ?_))))))
 refine z2 [(386, .int .i64 48), (396, .int .i64 48)] (ze ?_)
 clear ZD
 refine zk [(384, .slice (some ⟨NR, 0, none⟩) 49 49), (385, .int .i64 49), (386, .int .i64 48)] (fun X => ?_)
 refine round_s (zs (z1 [(387, z_t)] (ze (wp_seq (zit ?_)))))
 refine wp_skip (then_normal (wp_seq (wp_block (zs (z1 [(388, pt NR 192)] (wpl_val rfl (by kernel_rfl) (run_ldrow (j := 192) (A := Aq381) (m := lq381.length) (c := cq381) (s := sq381) (B := Aq382) (m2 := lq382.length) (c2 := cq382) (t := sq382) rfl (by kernel_rfl) ZR.out rfl rfl rfl rfl) ?_))))))
 refine wpl_mkrow (A := Aq381) (m := lq381.length) (c := cq381) (s := sq381) (B := Aq382) (m2 := lq382.length) (c2 := cq382) (t := sq382) rfl rfl rfl rfl rfl rfl (fun _ => by kernel_rfl) (fun _ => by kernel_rfl) ?_
 intro w322 ND ZD hb
 replace ZD := hide ZD
 replace HC1 := zH HM1 HC1 hb
 replace HL := hide (VL.kept HL.out hb)
 replace ZR := hide (Arr.kept ZR.out hb)
 replace hU := zU hU hU.size hb
 clear hb
 refine sx_n (z1 [(390, pt ND 0)] (wpl_val rfl (by kernel_rfl) (run_ldarr (j := 0) (A := Aq381) (m := lq381.length) (c := cq381) (s := sq381) rfl (by kernel_rfl) ZD.out rfl rfl) (z1 [(392, pt ND 2)] (wpl_val rfl (by kernel_rfl) (run_ldarr (j := 2) (A := Aq382) (m := lq382.length) (c := cq382) (s := sq382) rfl (by kernel_rfl) ZD.out rfl rfl) ?_))))
 refine zc rfl ((rsame_yes Aq381 Aq382 lq381 lq382 cq381 cq382 sq381 sq382 _ Lq381.out Lq382.out (VL.at_ HL.out 1 rfl) (VL.at_ HL.out 0 rfl) (by rw [Eq381.out, Eq382.out]; exact (sm_iff _ _).1 (by decide +kernel))).mono ?_)
 rintro e w323 ⟨rfl, hb⟩
 refine ⟨_, rfl, ?_⟩
 replace HC1 := zH HM1 HC1 hb
 replace HL := hide (VL.kept HL.out hb)
 replace ZR := hide (Arr.kept ZR.out hb)
 replace ZD := hide (Arr.kept ZD.out hb)
 replace hU := zU hU hU.size hb
 clear hb
 refine z1 [(395, z_f)] (ze (zif (wp_skip (block_normal (then_normal (reg_lit ?_))))))
 refine z2 [(386, .int .i64 49), (396, .int .i64 49)] (ze ?_)
 clear ZD
 refine zk [(384, .slice (some ⟨NR, 0, none⟩) 49 49), (385, .int .i64 49), (386, .int .i64 49)] (fun X => ?_)
 refine round_s (zs (z1 [(387, z_f)] (ze (wp_seq (zif ?_)))))
 refine wp_exit (then_exit (then_exit (exit_here (then_normal (zs ?_)))))
 refine zc rfl ((vsof_any ⟨#[49, 49, 48]⟩ _ (by decide)).mono ?_)
 rintro e w324 ⟨lq398, sq398, Aq398, cq398, Eq398, rfl, Cq398, Oq398, hb⟩
 refine ⟨_, rfl, ?_⟩
 replace HC1 := zH HM1 HC1 hb
 replace HL := hide (VL.kept HL.out hb)
 replace ZR := hide (Arr.kept ZR.out hb)
 replace Oq398 := hide Oq398.out.rd
 replace hU := zU hU hU.size hb
 clear hb
 obtain ⟨Lq398, Yq398⟩ := gly Eq398.out (gd_of (by decide +kernel))
 refine zc rfl ((xInt (-2) true Aq398 lq398 cq398 sq398 _ Lq398.out Cq398 Oq398.out Yq398.out (by rw [Eq398.out]; decide +kernel) (by rw [Eq398.out]; decide +kernel)).mono ?_)
 rintro e w325 ⟨rfl, hb⟩
 refine ⟨_, rfl, ?_⟩
 replace HC1 := zH HM1 HC1 hb
 replace Oq398 := zQ Oq398 hb
 replace HL := hide (VL.kept HL.out hb)
 replace ZR := hide (Arr.kept ZR.out hb)
 replace hU := zU hU hU.size hb
 clear hb Oq398 Cq398 Lq398 Yq398
 refine z5 [(26, z_t), (25, .int .i64 ((-2))), (401, z_t), (400, .int .i64 ((-2))), (397, .tuple #[.int .i64 ((-2)), .bool true])] (sx_n ?_)
 refine zc rfl ((rfill_any 1 64 false _ (by decide)).mono ?_)
 rintro e w326 ⟨lq403, sq403, Aq403, cq403, Eq403, rfl, Cq403, Oq403, hb⟩
 refine ⟨_, rfl, ?_⟩
 replace HC1 := zH HM1 HC1 hb
 replace HL := hide (VL.kept HL.out hb)
 replace ZR := hide (Arr.kept ZR.out hb)
 replace Oq403 := hide Oq403.out.rd
 replace hU := zU hU hU.size hb
 clear hb
 obtain ⟨Lq403, Yq403⟩ := gly Eq403.out (gd_of (by decide +kernel))
 refine zc rfl ((xInt 0 false Aq403 lq403 cq403 sq403 _ Lq403.out Cq403 Oq403.out Yq403.out (by rw [Eq403.out]; decide +kernel) (by rw [Eq403.out]; decide +kernel)).mono ?_)
 rintro e w327 ⟨rfl, hb⟩
 refine ⟨_, rfl, ?_⟩
 replace HC1 := zH HM1 HC1 hb
 replace Oq403 := zQ Oq403 hb
 replace HL := hide (VL.kept HL.out hb)
 replace ZR := hide (Arr.kept ZR.out hb)
 replace hU := zU hU hU.size hb
 clear hb Oq403 Cq403 Lq403 Yq403
 refine z5 [(28, z_f), (27, .int .i64 0), (406, z_f), (405, .int .i64 0), (402, .tuple #[.int .i64 0, .bool false])] (sx_n ?_)
 refine zc rfl ((rfill_any 1 128 true _ (by decide)).mono ?_)
 rintro e w328 ⟨lq408, sq408, Aq408, cq408, Eq408, rfl, Cq408, Oq408, hb⟩
 refine ⟨_, rfl, ?_⟩
 replace HC1 := zH HM1 HC1 hb
 replace HL := hide (VL.kept HL.out hb)
 replace ZR := hide (Arr.kept ZR.out hb)
 replace Oq408 := hide Oq408.out.rd
 replace hU := zU hU hU.size hb
 clear hb
 obtain ⟨Lq408, Yq408⟩ := gly Eq408.out (gd_of (by decide +kernel))
 refine zc rfl ((xInt (-1) true Aq408 lq408 cq408 sq408 _ Lq408.out Cq408 Oq408.out Yq408.out (by rw [Eq408.out]; decide +kernel) (by rw [Eq408.out]; decide +kernel)).mono ?_)
 rintro e w329 ⟨rfl, hb⟩
 refine ⟨_, rfl, ?_⟩
 replace HC1 := zH HM1 HC1 hb
 replace Oq408 := zQ Oq408 hb
 replace HL := hide (VL.kept HL.out hb)
 replace ZR := hide (Arr.kept ZR.out hb)
 replace hU := zU hU hU.size hb
 clear hb Oq408 Cq408 Lq408 Yq408
 refine z5 [(30, z_t), (29, .int .i64 ((-1))), (411, z_t), (410, .int .i64 ((-1))), (407, .tuple #[.int .i64 ((-1)), .bool true])] (sx_n ?_)
 refine zc rfl ((vsof_any ⟨#[48, 48, 48, 48]⟩ _ (by decide)).mono ?_)
 rintro e w330 ⟨lq413, sq413, Aq413, cq413, Eq413, rfl, Cq413, Oq413, hb⟩
 refine ⟨_, rfl, ?_⟩
 replace HC1 := zH HM1 HC1 hb
 replace HL := hide (VL.kept HL.out hb)
 replace ZR := hide (Arr.kept ZR.out hb)
 replace Oq413 := hide Oq413.out.rd
 replace hU := zU hU hU.size hb
 clear hb
 obtain ⟨Lq413, Yq413⟩ := gly Eq413.out (gd_of (by decide +kernel))
 refine zc rfl ((vsof_any ⟨#[49, 48, 49]⟩ _ (by decide)).mono ?_)
 rintro e w331 ⟨lq414, sq414, Aq414, cq414, Eq414, rfl, Cq414, Oq414, hb⟩
 refine ⟨_, rfl, ?_⟩
 replace HC1 := zH HM1 HC1 hb
 replace Oq413 := zQ Oq413 hb
 replace HL := hide (VL.kept HL.out hb)
 replace ZR := hide (Arr.kept ZR.out hb)
 replace Oq414 := hide Oq414.out.rd
 replace hU := zU hU hU.size hb
 clear hb
 obtain ⟨Lq414, Yq414⟩ := gly Eq414.out (gd_of (by decide +kernel))
 refine zc rfl ((xPut 0 4 (-1) Aq413 Aq414 lq413 lq414 cq413 cq414 sq413 sq414 _ Lq413.out Lq414.out Cq413 Cq414 Oq413.out Oq414.out Yq413.out Yq414.out (by decide) (by decide) (by decide) (by decide) (by decide)).mono ?_)
 rintro e w332 ⟨lq415, sq415, Aq415, cq415, Eq415, rfl, Cq415, Oq415, hb⟩
 refine ⟨_, rfl, ?_⟩
 replace HC1 := zH HM1 HC1 hb
 replace Oq413 := zQ Oq413 hb
 replace Oq414 := zQ Oq414 hb
 replace HL := hide (VL.kept HL.out hb)
 replace ZR := hide (Arr.kept ZR.out hb)
 replace Eq415 := hide (ret_e0 Eq415.out)
 replace Oq415 := hide Oq415.out.rd
 replace hU := zU hU hU.size hb
 clear hb
 obtain ⟨Lq415, Yq415⟩ := gly Eq415.out ((by rw [Eq413.out, Eq414.out]; exact gd_of (by decide +kernel)))
 replace Eq415 := hide (show (⟨lq415, sq415⟩ : Vc) = vPut ⟨ofB ⟨#[48, 48, 48, 48]⟩, true⟩ ⟨ofB ⟨#[49, 48, 49]⟩, true⟩ 4 (-1) from Eq415.out.trans (by rw [Eq413.out, Eq414.out]))
 clear Oq413 Cq413 Lq413 Yq413 Oq414 Cq414 Lq414 Yq414
 refine z3 [(417, .int .i64 0), (416, .agg #[.slice Aq415 lq415.length cq415, .bool sq415]), (412, .tuple #[.agg #[.slice Aq415 lq415.length cq415, .bool sq415], .int .i64 0])] (zm (A := Aq415) (m := lq415.length) (c := cq415) (s := sq415) rfl rfl rfl ?_)
 intro w333 Nq415 Bq415 hNq415 hb
 replace Bq415 := hide Bq415
 replace HC1 := zH HM1 HC1 hb
 replace Oq415 := zQ Oq415 hb
 replace HL := hide (VL.kept HL.out hb)
 replace ZR := hide (Arr.kept ZR.out hb)
 have hzq415 : w.heap.size ≤ Nq415 := Nat.le_trans hU.size hNq415
 clear hNq415
 replace hU := zU hU hU.size hb
 clear hb
 refine z1 [(32, .int .i64 0)] (sx_n ?_)
 refine zc rfl ((vsof_any ⟨#[120, 49]⟩ _ (by decide)).mono ?_)
 rintro e w334 ⟨lq419, sq419, Aq419, cq419, Eq419, rfl, Cq419, Oq419, hb⟩
 refine ⟨_, rfl, ?_⟩
 replace HC1 := zH HM1 HC1 hb
 replace Oq415 := zQ Oq415 hb
 replace Bq415 := zX Bq415 hb
 replace HL := hide (VL.kept HL.out hb)
 replace ZR := hide (Arr.kept ZR.out hb)
 replace Oq419 := hide Oq419.out.rd
 replace hU := zU hU hU.size hb
 clear hb
 obtain ⟨Lq419, Yq419⟩ := gly Eq419.out (gd_of (by decide +kernel))
 refine zc rfl ((xResize 0 4 Aq419 lq419 cq419 sq419 _ Lq419.out Cq419 Oq419.out Yq419.out (by decide)).mono ?_)
 rintro e w335 ⟨lq420, sq420, Aq420, cq420, Eq420, rfl, Cq420, Oq420, hb⟩
 refine ⟨_, rfl, ?_⟩
 replace HC1 := zH HM1 HC1 hb
 replace Oq415 := zQ Oq415 hb
 replace Oq419 := zQ Oq419 hb
 replace Bq415 := zX Bq415 hb
 replace HL := hide (VL.kept HL.out hb)
 replace ZR := hide (Arr.kept ZR.out hb)
 replace Eq420 := hide (ret_e0 Eq420.out)
 replace Oq420 := hide Oq420.out.rd
 replace hU := zU hU hU.size hb
 clear hb
 obtain ⟨Lq420, Yq420⟩ := gly Eq420.out ((by rw [Eq419.out]; exact gd_of (by decide +kernel)))
 replace Eq420 := hide (show (⟨lq420, sq420⟩ : Vc) = ⟨rsz (cnt ⟨ofB ⟨#[120, 49]⟩, true⟩) (4 : Int).toNat, (cnt ⟨ofB ⟨#[120, 49]⟩, true⟩).s⟩ from Eq420.out.trans (by rw [Eq419.out]))
 clear Oq419 Cq419 Lq419 Yq419
 refine z3 [(422, .int .i64 0), (421, .agg #[.slice Aq420 lq420.length cq420, .bool sq420]), (418, .tuple #[.agg #[.slice Aq420 lq420.length cq420, .bool sq420], .int .i64 0])] (zm (A := Aq420) (m := lq420.length) (c := cq420) (s := sq420) rfl rfl rfl ?_)
 intro w336 Nq420 Bq420 hNq420 hb
 replace Bq420 := hide Bq420
 replace HC1 := zH HM1 HC1 hb
 replace Oq415 := zQ Oq415 hb
 replace Oq420 := zQ Oq420 hb
 replace Bq415 := zX Bq415 hb
 replace HL := hide (VL.kept HL.out hb)
 replace ZR := hide (Arr.kept ZR.out hb)
 have hzq420 : w.heap.size ≤ Nq420 := Nat.le_trans hU.size hNq420
 clear hNq420
 replace hU := zU hU hU.size hb
 clear hb
 refine z1 [(34, .int .i64 0)] (sx_n ?_)
 refine zc rfl ((vsof_any ⟨#[49, 48]⟩ _ (by decide)).mono ?_)
 rintro e w337 ⟨lq424, sq424, Aq424, cq424, Eq424, rfl, Cq424, Oq424, hb⟩
 refine ⟨_, rfl, ?_⟩
 replace HC1 := zH HM1 HC1 hb
 replace Oq415 := zQ Oq415 hb
 replace Oq420 := zQ Oq420 hb
 replace Bq415 := zX Bq415 hb
 replace Bq420 := zX Bq420 hb
 replace HL := hide (VL.kept HL.out hb)
 replace ZR := hide (Arr.kept ZR.out hb)
 replace Oq424 := hide Oq424.out.rd
 replace hU := zU hU hU.size hb
 clear hb
 obtain ⟨Lq424, Yq424⟩ := gly Eq424.out (gd_of (by decide +kernel))
 refine zc rfl ((xRepeat 0 2 Aq424 lq424 cq424 sq424 _ Lq424.out Cq424 Oq424.out Yq424.out (by rw [Eq424.out]; decide +kernel)).mono ?_)
 rintro e w338 ⟨lq425, sq425, Aq425, cq425, Eq425, rfl, Cq425, Oq425, hb⟩
 refine ⟨_, rfl, ?_⟩
 replace HC1 := zH HM1 HC1 hb
 replace Oq415 := zQ Oq415 hb
 replace Oq420 := zQ Oq420 hb
 replace Oq424 := zQ Oq424 hb
 replace Bq415 := zX Bq415 hb
 replace Bq420 := zX Bq420 hb
 replace HL := hide (VL.kept HL.out hb)
 replace ZR := hide (Arr.kept ZR.out hb)
 replace Eq425 := hide (ret_e0 Eq425.out)
 replace Oq425 := hide Oq425.out.rd
 replace hU := zU hU hU.size hb
 clear hb
 obtain ⟨Lq425, Yq425⟩ := gly Eq425.out ((by rw [Eq424.out]; exact gd_of (by decide +kernel)))
 replace Eq425 := hide (show (⟨lq425, sq425⟩ : Vc) = ⟨ql ((cnt ⟨ofB ⟨#[49, 48]⟩, true⟩).b.length * (2 : Int).toNat) fun i => qt (cnt ⟨ofB ⟨#[49, 48]⟩, true⟩).b (i % (cnt ⟨ofB ⟨#[49, 48]⟩, true⟩).b.length), false⟩ from Eq425.out.trans (by rw [Eq424.out]))
 clear Oq424 Cq424 Lq424 Yq424
 refine z3 [(427, .int .i64 0), (426, .agg #[.slice Aq425 lq425.length cq425, .bool sq425]), (423, .tuple #[.agg #[.slice Aq425 lq425.length cq425, .bool sq425], .int .i64 0])] (zm (A := Aq425) (m := lq425.length) (c := cq425) (s := sq425) rfl rfl rfl ?_)
 intro w339 Nq425 Bq425 hNq425 hb
 replace Bq425 := hide Bq425
 replace HC1 := zH HM1 HC1 hb
 replace Oq415 := zQ Oq415 hb
 replace Oq420 := zQ Oq420 hb
 replace Oq425 := zQ Oq425 hb
 replace Bq415 := zX Bq415 hb
 replace Bq420 := zX Bq420 hb
 replace HL := hide (VL.kept HL.out hb)
 replace ZR := hide (Arr.kept ZR.out hb)
 have hzq425 : w.heap.size ≤ Nq425 := Nat.le_trans hU.size hNq425
 clear hNq425
 replace hU := zU hU hU.size hb
 clear hb
 refine z1 [(36, .int .i64 0)] (ze (wp_seq (region_R (n := 95) (N := 96) (by kernel_rfl) (by kernel_rfl) (by kernel_rfl) (by kernel_rfl) (by kernel_rfl) (by kernel_rfl) (fun _ _ _ _ _ h => h) ?_)))
 intro F hQ
 have Bq4150 := Bq415
 have Bq4200 := Bq420
 have Bq4250 := Bq425
 have HC0 := HC1
 refine zav (i := 0) (m' := 1) (v := .int .i64 ((-2))) F hQ rfl rfl (zav (i := 1) (m' := 3) (v := .bool true) F hQ rfl rfl (zav (i := 2) (m' := 7) (v := .bool true) F hQ rfl rfl (zav (i := 3) (m' := 15) (v := .bool true) F hQ rfl rfl (zav (i := 4) (m' := 31) (v := .bool true) F hQ rfl rfl (zav (i := 5) (m' := 63) (v := .bool true) F hQ rfl rfl (zav (i := 6) (m' := 127) (v := .int .i64 0) F hQ rfl rfl (zav (i := 7) (m' := 255) (v := .bool true) F hQ rfl rfl ?_)))))))
 refine zav (i := 8) (m' := 511) (v := .bool true) F hQ rfl rfl (zav (i := 9) (m' := 1023) (v := .bool true) F hQ rfl rfl (zav (i := 10) (m' := 2047) (v := .bool false) F hQ rfl rfl (zav (i := 11) (m' := 4095) (v := .bool true) F hQ rfl rfl (zav (i := 12) (m' := 8191) (v := .bool true) F hQ rfl rfl (zav (i := 13) (m' := 16383) (v := .bool true) F hQ rfl rfl (zav (i := 14) (m' := 32767) (v := .int .i64 ((-1))) F hQ rfl rfl (zav (i := 15) (m' := 65535) (v := .bool true) F hQ rfl rfl ?_)))))))
 refine zav (i := 16) (m' := 131071) (v := .bool true) F hQ rfl rfl (zav (i := 17) (m' := 262143) (v := .bool true) F hQ rfl rfl (zav (i := 18) (m' := 524287) (v := .bool true) F hQ rfl rfl (zav (i := 19) (m' := 1048575) (v := .bool true) F hQ rfl rfl (zav (i := 20) (m' := 2097151) (v := .bool true) F hQ rfl rfl (zav (i := 21) (m' := 4194303) (v := .int .i64 0) F hQ rfl rfl (zav (i := 22) (m' := 8388607) (v := .bool true) F hQ rfl rfl (zav (i := 23) (m' := 16777215) (v := .bool true) F hQ rfl rfl ?_)))))))
 refine zav (i := 24) (m' := 33554431) (v := .bool true) F hQ rfl rfl (anyR_ldvec (i := 25) (m' := 67108863) Bq4150.out F hQ rfl rfl (by kernel_rfl) (by kernel_rfl) (by kernel_rfl) (by kernel_rfl) (by kernel_rfl) rfl (by kernel_rfl) ?_)
 refine zac (i := 26) (m' := 134217727) rfl rfl ((vsof_any ⟨#[49, 49, 49, 48]⟩ _ (by decide)).mono ?_)
 rintro e w340 ⟨lq454, sq454, Aq454, cq454, Eq454, rfl, Cq454, Oq454, hb⟩
 refine ⟨_, rfl, hb, ?_⟩
 replace hb : Below w339.heap.size w339 w340 := Below.trans ((Below.refl _ _).drew) hb
 replace HC1 := zH HM1 HC1 hb
 replace Oq415 := zQ Oq415 hb
 replace Oq420 := zQ Oq420 hb
 replace Oq425 := zQ Oq425 hb
 replace Bq415 := zX Bq415 hb
 replace Bq420 := zX Bq420 hb
 replace Bq425 := zX Bq425 hb
 replace HL := hide (VL.kept HL.out hb)
 replace ZR := hide (Arr.kept ZR.out hb)
 replace Oq454 := hide Oq454.out.rd
 replace hU := zU hU hU.size hb
 clear hb
 obtain ⟨Lq454, Yq454⟩ := gly Eq454.out (gd_of (by decide +kernel))
 refine zac (i := 27) (m' := 268435455) rfl rfl ((rsame_yes Aq415 Aq454 lq415 lq454 cq415 cq454 sq415 sq454 _ Lq415.out Lq454.out Oq415.out Oq454.out (by rw [Eq415.out, Eq454.out]; exact (sm_iff _ _).1 (by decide +kernel))).mono ?_)
 rintro e w341 ⟨rfl, hb⟩
 refine ⟨_, rfl, hb, ?_⟩
 replace HC1 := zH HM1 HC1 hb
 replace Oq415 := zQ Oq415 hb
 replace Oq420 := zQ Oq420 hb
 replace Oq425 := zQ Oq425 hb
 replace Oq454 := zQ Oq454 hb
 replace Bq415 := zX Bq415 hb
 replace Bq420 := zX Bq420 hb
 replace Bq425 := zX Bq425 hb
 replace HL := hide (VL.kept HL.out hb)
 replace ZR := hide (Arr.kept ZR.out hb)
 replace hU := zU hU hU.size hb
 clear hb Oq415 Cq415 Lq415 Yq415
 clear Oq454 Cq454 Lq454 Yq454
 refine zav (i := 28) (m' := 536870911) (v := .bool true) F hQ rfl rfl (zav (i := 29) (m' := 1073741823) (v := .bool true) F hQ rfl rfl (zav (i := 30) (m' := 2147483647) (v := .int .i64 0) F hQ rfl rfl (zav (i := 31) (m' := 4294967295) (v := .bool true) F hQ rfl rfl (zav (i := 32) (m' := 8589934591) (v := .bool true) F hQ rfl rfl (zav (i := 33) (m' := 17179869183) (v := .bool true) F hQ rfl rfl (anyR_ldvec (i := 34) (m' := 34359738367) Bq4200.out F hQ rfl rfl (by kernel_rfl) (by kernel_rfl) (by kernel_rfl) (by kernel_rfl) (by kernel_rfl) rfl (by kernel_rfl) ?_))))))
 refine zac (i := 35) (m' := 68719476735) rfl rfl ((vsof_any ⟨#[120, 120, 120, 49]⟩ _ (by decide)).mono ?_)
 rintro e w342 ⟨lq463, sq463, Aq463, cq463, Eq463, rfl, Cq463, Oq463, hb⟩
 refine ⟨_, rfl, hb, ?_⟩
 replace HC1 := zH HM1 HC1 hb
 replace Oq420 := zQ Oq420 hb
 replace Oq425 := zQ Oq425 hb
 replace Bq415 := zX Bq415 hb
 replace Bq420 := zX Bq420 hb
 replace Bq425 := zX Bq425 hb
 replace HL := hide (VL.kept HL.out hb)
 replace ZR := hide (Arr.kept ZR.out hb)
 replace Oq463 := hide Oq463.out.rd
 replace hU := zU hU hU.size hb
 clear hb
 obtain ⟨Lq463, Yq463⟩ := gly Eq463.out (gd_of (by decide +kernel))
 refine zac (i := 36) (m' := 137438953471) rfl rfl ((rsame_yes Aq420 Aq463 lq420 lq463 cq420 cq463 sq420 sq463 _ Lq420.out Lq463.out Oq420.out Oq463.out (by rw [Eq420.out, Eq463.out]; exact (sm_iff _ _).1 (by decide +kernel))).mono ?_)
 rintro e w343 ⟨rfl, hb⟩
 refine ⟨_, rfl, hb, ?_⟩
 replace HC1 := zH HM1 HC1 hb
 replace Oq420 := zQ Oq420 hb
 replace Oq425 := zQ Oq425 hb
 replace Oq463 := zQ Oq463 hb
 replace Bq415 := zX Bq415 hb
 replace Bq420 := zX Bq420 hb
 replace Bq425 := zX Bq425 hb
 replace HL := hide (VL.kept HL.out hb)
 replace ZR := hide (Arr.kept ZR.out hb)
 replace hU := zU hU hU.size hb
 clear hb Oq420 Cq420 Lq420 Yq420
 clear Oq463 Cq463 Lq463 Yq463
 refine zav (i := 37) (m' := 274877906943) (v := .bool true) F hQ rfl rfl (zav (i := 38) (m' := 549755813887) (v := .bool true) F hQ rfl rfl (zav (i := 39) (m' := 1099511627775) (v := .int .i64 0) F hQ rfl rfl (zav (i := 40) (m' := 2199023255551) (v := .bool true) F hQ rfl rfl (zav (i := 41) (m' := 4398046511103) (v := .bool true) F hQ rfl rfl (zav (i := 42) (m' := 8796093022207) (v := .bool true) F hQ rfl rfl (anyR_ldvec (i := 43) (m' := 17592186044415) Bq4250.out F hQ rfl rfl (by kernel_rfl) (by kernel_rfl) (by kernel_rfl) (by kernel_rfl) (by kernel_rfl) rfl (by kernel_rfl) ?_))))))
 refine zac (i := 44) (m' := 35184372088831) rfl rfl ((vof_any ⟨#[49, 48, 49, 48]⟩ _ (by decide)).mono ?_)
 rintro e w344 ⟨lq472, sq472, Aq472, cq472, Eq472, rfl, Cq472, Oq472, hb⟩
 refine ⟨_, rfl, hb, ?_⟩
 replace HC1 := zH HM1 HC1 hb
 replace Oq425 := zQ Oq425 hb
 replace Bq415 := zX Bq415 hb
 replace Bq420 := zX Bq420 hb
 replace Bq425 := zX Bq425 hb
 replace HL := hide (VL.kept HL.out hb)
 replace ZR := hide (Arr.kept ZR.out hb)
 replace Oq472 := hide Oq472.out.rd
 replace hU := zU hU hU.size hb
 clear hb
 obtain ⟨Lq472, Yq472⟩ := gly Eq472.out (gd_of (by decide +kernel))
 refine zac (i := 45) (m' := 70368744177663) rfl rfl ((rsame_yes Aq425 Aq472 lq425 lq472 cq425 cq472 sq425 sq472 _ Lq425.out Lq472.out Oq425.out Oq472.out (by rw [Eq425.out, Eq472.out]; exact (sm_iff _ _).1 (by decide +kernel))).mono ?_)
 rintro e w345 ⟨rfl, hb⟩
 refine ⟨_, rfl, hb, ?_⟩
 replace HC1 := zH HM1 HC1 hb
 replace Oq425 := zQ Oq425 hb
 replace Oq472 := zQ Oq472 hb
 replace Bq415 := zX Bq415 hb
 replace Bq420 := zX Bq420 hb
 replace Bq425 := zX Bq425 hb
 replace HL := hide (VL.kept HL.out hb)
 replace ZR := hide (Arr.kept ZR.out hb)
 replace hU := zU hU hU.size hb
 clear hb Oq425 Cq425 Lq425 Yq425
 clear Oq472 Cq472 Lq472 Yq472
 refine zav (i := 46) (m' := 140737488355327) (v := .bool true) F hQ rfl rfl (zav (i := 47) (m' := 281474976710655) (v := .bool true) F hQ rfl rfl ?_)
 refine zac (i := 48) (m' := 562949953421311) rfl rfl ((vof_any ⟨#[49, 122, 48]⟩ _ (by decide)).mono ?_)
 rintro e w346 ⟨lq476, sq476, Aq476, cq476, Eq476, rfl, Cq476, Oq476, hb⟩
 refine ⟨_, rfl, hb, ?_⟩
 replace HC1 := zH HM1 HC1 hb
 replace Bq415 := zX Bq415 hb
 replace Bq420 := zX Bq420 hb
 replace Bq425 := zX Bq425 hb
 replace HL := hide (VL.kept HL.out hb)
 replace ZR := hide (Arr.kept ZR.out hb)
 replace Oq476 := hide Oq476.out.rd
 replace hU := zU hU hU.size hb
 clear hb
 obtain ⟨Lq476, Yq476⟩ := gly Eq476.out (gd_of (by decide +kernel))
 refine zac (i := 49) (m' := 1125899906842623) rfl rfl ((vof_any ⟨#[49, 49, 48]⟩ _ (by decide)).mono ?_)
 rintro e w347 ⟨lq477, sq477, Aq477, cq477, Eq477, rfl, Cq477, Oq477, hb⟩
 refine ⟨_, rfl, hb, ?_⟩
 replace HC1 := zH HM1 HC1 hb
 replace Oq476 := zQ Oq476 hb
 replace Bq415 := zX Bq415 hb
 replace Bq420 := zX Bq420 hb
 replace Bq425 := zX Bq425 hb
 replace HL := hide (VL.kept HL.out hb)
 replace ZR := hide (Arr.kept ZR.out hb)
 replace Oq477 := hide Oq477.out.rd
 replace hU := zU hU hU.size hb
 clear hb
 obtain ⟨Lq477, Yq477⟩ := gly Eq477.out (gd_of (by decide +kernel))
 refine zac (i := 50) (m' := 2251799813685247) rfl rfl ((xMatchZ true Aq476 Aq477 lq476 lq477 cq476 cq477 sq476 sq477 _ Lq476.out Lq477.out Cq476 Cq477 Oq476.out Oq477.out Yq476.out Yq477.out (by rw [Eq476.out, Eq477.out]; decide +kernel)).mono ?_)
 rintro e w348 ⟨rfl, hb⟩
 refine ⟨_, rfl, hb, ?_⟩
 replace HC1 := zH HM1 HC1 hb
 replace Oq476 := zQ Oq476 hb
 replace Oq477 := zQ Oq477 hb
 replace Bq415 := zX Bq415 hb
 replace Bq420 := zX Bq420 hb
 replace Bq425 := zX Bq425 hb
 replace HL := hide (VL.kept HL.out hb)
 replace ZR := hide (Arr.kept ZR.out hb)
 replace hU := zU hU hU.size hb
 clear hb Oq476 Cq476 Lq476 Yq476
 clear Oq477 Cq477 Lq477 Yq477
 refine zav (i := 51) (m' := 4503599627370495) (v := .bool true) F hQ rfl rfl (zav (i := 52) (m' := 9007199254740991) (v := .bool true) F hQ rfl rfl ?_)
 refine zac (i := 53) (m' := 18014398509481983) rfl rfl ((vof_any ⟨#[49, 120, 48]⟩ _ (by decide)).mono ?_)
 rintro e w349 ⟨lq481, sq481, Aq481, cq481, Eq481, rfl, Cq481, Oq481, hb⟩
 refine ⟨_, rfl, hb, ?_⟩
 replace HC1 := zH HM1 HC1 hb
 replace Bq415 := zX Bq415 hb
 replace Bq420 := zX Bq420 hb
 replace Bq425 := zX Bq425 hb
 replace HL := hide (VL.kept HL.out hb)
 replace ZR := hide (Arr.kept ZR.out hb)
 replace Oq481 := hide Oq481.out.rd
 replace hU := zU hU hU.size hb
 clear hb
 obtain ⟨Lq481, Yq481⟩ := gly Eq481.out (gd_of (by decide +kernel))
 refine zac (i := 54) (m' := 36028797018963967) rfl rfl ((vof_any ⟨#[49, 49, 48]⟩ _ (by decide)).mono ?_)
 rintro e w350 ⟨lq482, sq482, Aq482, cq482, Eq482, rfl, Cq482, Oq482, hb⟩
 refine ⟨_, rfl, hb, ?_⟩
 replace HC1 := zH HM1 HC1 hb
 replace Oq481 := zQ Oq481 hb
 replace Bq415 := zX Bq415 hb
 replace Bq420 := zX Bq420 hb
 replace Bq425 := zX Bq425 hb
 replace HL := hide (VL.kept HL.out hb)
 replace ZR := hide (Arr.kept ZR.out hb)
 replace Oq482 := hide Oq482.out.rd
 replace hU := zU hU hU.size hb
 clear hb
 obtain ⟨Lq482, Yq482⟩ := gly Eq482.out (gd_of (by decide +kernel))
 refine zac (i := 55) (m' := 72057594037927935) rfl rfl ((xMatchZ false Aq481 Aq482 lq481 lq482 cq481 cq482 sq481 sq482 _ Lq481.out Lq482.out Cq481 Cq482 Oq481.out Oq482.out Yq481.out Yq482.out (by rw [Eq481.out, Eq482.out]; decide +kernel)).mono ?_)
 rintro e w351 ⟨rfl, hb⟩
 refine ⟨_, rfl, hb, ?_⟩
 replace HC1 := zH HM1 HC1 hb
 replace Oq481 := zQ Oq481 hb
 replace Oq482 := zQ Oq482 hb
 replace Bq415 := zX Bq415 hb
 replace Bq420 := zX Bq420 hb
 replace Bq425 := zX Bq425 hb
 replace HL := hide (VL.kept HL.out hb)
 replace ZR := hide (Arr.kept ZR.out hb)
 replace hU := zU hU hU.size hb
 clear hb Oq481 Cq481 Lq481 Yq481
 clear Oq482 Cq482 Lq482 Yq482
 refine zav (i := 56) (m' := 144115188075855871) (v := .bool true) F hQ rfl rfl (zav (i := 57) (m' := 288230376151711743) (v := .bool true) F hQ rfl rfl (zav (i := 58) (m' := 576460752303423487) (v := .bool true) F hQ rfl rfl ?_))
 refine zac (i := 59) (m' := 1152921504606846975) rfl rfl ((vof_any ⟨#[49, 120, 48]⟩ _ (by decide)).mono ?_)
 rintro e w352 ⟨lq487, sq487, Aq487, cq487, Eq487, rfl, Cq487, Oq487, hb⟩
 refine ⟨_, rfl, hb, ?_⟩
 replace HC1 := zH HM1 HC1 hb
 replace Bq415 := zX Bq415 hb
 replace Bq420 := zX Bq420 hb
 replace Bq425 := zX Bq425 hb
 replace HL := hide (VL.kept HL.out hb)
 replace ZR := hide (Arr.kept ZR.out hb)
 replace Oq487 := hide Oq487.out.rd
 replace hU := zU hU hU.size hb
 clear hb
 obtain ⟨Lq487, Yq487⟩ := gly Eq487.out (gd_of (by decide +kernel))
 refine zac (i := 60) (m' := 2305843009213693951) rfl rfl ((vof_any ⟨#[49, 122, 48]⟩ _ (by decide)).mono ?_)
 rintro e w353 ⟨lq488, sq488, Aq488, cq488, Eq488, rfl, Cq488, Oq488, hb⟩
 refine ⟨_, rfl, hb, ?_⟩
 replace HC1 := zH HM1 HC1 hb
 replace Oq487 := zQ Oq487 hb
 replace Bq415 := zX Bq415 hb
 replace Bq420 := zX Bq420 hb
 replace Bq425 := zX Bq425 hb
 replace HL := hide (VL.kept HL.out hb)
 replace ZR := hide (Arr.kept ZR.out hb)
 replace Oq488 := hide Oq488.out.rd
 replace hU := zU hU hU.size hb
 clear hb
 obtain ⟨Lq488, Yq488⟩ := gly Eq488.out (gd_of (by decide +kernel))
 refine zac (i := 61) (m' := 4611686018427387903) rfl rfl ((xMatchX true Aq487 Aq488 lq487 lq488 cq487 cq488 sq487 sq488 _ Lq487.out Lq488.out Cq487 Cq488 Oq487.out Oq488.out Yq487.out Yq488.out (by rw [Eq487.out, Eq488.out]; decide +kernel)).mono ?_)
 rintro e w354 ⟨rfl, hb⟩
 refine ⟨_, rfl, hb, ?_⟩
 replace HC1 := zH HM1 HC1 hb
 replace Oq487 := zQ Oq487 hb
 replace Oq488 := zQ Oq488 hb
 replace Bq415 := zX Bq415 hb
 replace Bq420 := zX Bq420 hb
 replace Bq425 := zX Bq425 hb
 replace HL := hide (VL.kept HL.out hb)
 replace ZR := hide (Arr.kept ZR.out hb)
 replace hU := zU hU hU.size hb
 clear hb Oq487 Cq487 Lq487 Yq487
 clear Oq488 Cq488 Lq488 Yq488
 refine zav (i := 62) (m' := 9223372036854775807) (v := .bool true) F hQ rfl rfl (zav (i := 63) (m' := 18446744073709551615) (v := .bool true) F hQ rfl rfl ?_)
 refine zac (i := 64) (m' := 36893488147419103231) rfl rfl ((vof_any ⟨#[49, 120, 48]⟩ _ (by decide)).mono ?_)
 rintro e w355 ⟨lq492, sq492, Aq492, cq492, Eq492, rfl, Cq492, Oq492, hb⟩
 refine ⟨_, rfl, hb, ?_⟩
 replace HC1 := zH HM1 HC1 hb
 replace Bq415 := zX Bq415 hb
 replace Bq420 := zX Bq420 hb
 replace Bq425 := zX Bq425 hb
 replace HL := hide (VL.kept HL.out hb)
 replace ZR := hide (Arr.kept ZR.out hb)
 replace Oq492 := hide Oq492.out.rd
 replace hU := zU hU hU.size hb
 clear hb
 obtain ⟨Lq492, Yq492⟩ := gly Eq492.out (gd_of (by decide +kernel))
 refine zac (i := 65) (m' := 73786976294838206463) rfl rfl ((vof_any ⟨#[48, 120, 48]⟩ _ (by decide)).mono ?_)
 rintro e w356 ⟨lq493, sq493, Aq493, cq493, Eq493, rfl, Cq493, Oq493, hb⟩
 refine ⟨_, rfl, hb, ?_⟩
 replace HC1 := zH HM1 HC1 hb
 replace Oq492 := zQ Oq492 hb
 replace Bq415 := zX Bq415 hb
 replace Bq420 := zX Bq420 hb
 replace Bq425 := zX Bq425 hb
 replace HL := hide (VL.kept HL.out hb)
 replace ZR := hide (Arr.kept ZR.out hb)
 replace Oq493 := hide Oq493.out.rd
 replace hU := zU hU hU.size hb
 clear hb
 obtain ⟨Lq493, Yq493⟩ := gly Eq493.out (gd_of (by decide +kernel))
 refine zac (i := 66) (m' := 147573952589676412927) rfl rfl ((xMatchX false Aq492 Aq493 lq492 lq493 cq492 cq493 sq492 sq493 _ Lq492.out Lq493.out Cq492 Cq493 Oq492.out Oq493.out Yq492.out Yq493.out (by rw [Eq492.out, Eq493.out]; decide +kernel)).mono ?_)
 rintro e w357 ⟨rfl, hb⟩
 refine ⟨_, rfl, hb, ?_⟩
 replace HC1 := zH HM1 HC1 hb
 replace Oq492 := zQ Oq492 hb
 replace Oq493 := zQ Oq493 hb
 replace Bq415 := zX Bq415 hb
 replace Bq420 := zX Bq420 hb
 replace Bq425 := zX Bq425 hb
 replace HL := hide (VL.kept HL.out hb)
 replace ZR := hide (Arr.kept ZR.out hb)
 replace hU := zU hU hU.size hb
 clear hb Oq492 Cq492 Lq492 Yq492
 clear Oq493 Cq493 Lq493 Yq493
 refine zav (i := 67) (m' := 295147905179352825855) (v := .bool true) F hQ rfl rfl (zav (i := 68) (m' := 590295810358705651711) (v := .bool true) F hQ rfl rfl (zav (i := 69) (m' := 1180591620717411303423) (v := .bool true) F hQ rfl rfl ?_))
 refine zac (i := 70) (m' := 2361183241434822606847) rfl rfl ((vof_any ⟨#[120]⟩ _ (by decide)).mono ?_)
 rintro e w358 ⟨lq498, sq498, Aq498, cq498, Eq498, rfl, Cq498, Oq498, hb⟩
 refine ⟨_, rfl, hb, ?_⟩
 replace HC1 := zH HM1 HC1 hb
 replace Bq415 := zX Bq415 hb
 replace Bq420 := zX Bq420 hb
 replace Bq425 := zX Bq425 hb
 replace HL := hide (VL.kept HL.out hb)
 replace ZR := hide (Arr.kept ZR.out hb)
 replace Oq498 := hide Oq498.out.rd
 replace hU := zU hU hU.size hb
 clear hb
 obtain ⟨Lq498, Yq498⟩ := gly Eq498.out (gd_of (by decide +kernel))
 refine zac (i := 71) (m' := 4722366482869645213695) rfl rfl ((vof_any ⟨#[48, 120]⟩ _ (by decide)).mono ?_)
 rintro e w359 ⟨lq499, sq499, Aq499, cq499, Eq499, rfl, Cq499, Oq499, hb⟩
 refine ⟨_, rfl, hb, ?_⟩
 replace HC1 := zH HM1 HC1 hb
 replace Oq498 := zQ Oq498 hb
 replace Bq415 := zX Bq415 hb
 replace Bq420 := zX Bq420 hb
 replace Bq425 := zX Bq425 hb
 replace HL := hide (VL.kept HL.out hb)
 replace ZR := hide (Arr.kept ZR.out hb)
 replace Oq499 := hide Oq499.out.rd
 replace hU := zU hU hU.size hb
 clear hb
 obtain ⟨Lq499, Yq499⟩ := gly Eq499.out (gd_of (by decide +kernel))
 refine zac (i := 72) (m' := 9444732965739290427391) rfl rfl ((xMatchZ true Aq498 Aq499 lq498 lq499 cq498 cq499 sq498 sq499 _ Lq498.out Lq499.out Cq498 Cq499 Oq498.out Oq499.out Yq498.out Yq499.out (by rw [Eq498.out, Eq499.out]; decide +kernel)).mono ?_)
 rintro e w360 ⟨rfl, hb⟩
 refine ⟨_, rfl, hb, ?_⟩
 replace HC1 := zH HM1 HC1 hb
 replace Oq498 := zQ Oq498 hb
 replace Oq499 := zQ Oq499 hb
 replace Bq415 := zX Bq415 hb
 replace Bq420 := zX Bq420 hb
 replace Bq425 := zX Bq425 hb
 replace HL := hide (VL.kept HL.out hb)
 replace ZR := hide (Arr.kept ZR.out hb)
 replace hU := zU hU hU.size hb
 clear hb Oq498 Cq498 Lq498 Yq498
 clear Oq499 Cq499 Lq499 Yq499
 refine zav (i := 73) (m' := 18889465931478580854783) (v := .bool true) F hQ rfl rfl (zav (i := 74) (m' := 37778931862957161709567) (v := .bool true) F hQ rfl rfl ?_)
 refine zac (i := 75) (m' := 75557863725914323419135) rfl rfl ((vof_any ⟨#[120, 122, 49]⟩ _ (by decide)).mono ?_)
 rintro e w361 ⟨lq503, sq503, Aq503, cq503, Eq503, rfl, Cq503, Oq503, hb⟩
 refine ⟨_, rfl, hb, ?_⟩
 replace HC1 := zH HM1 HC1 hb
 replace Bq415 := zX Bq415 hb
 replace Bq420 := zX Bq420 hb
 replace Bq425 := zX Bq425 hb
 replace HL := hide (VL.kept HL.out hb)
 replace ZR := hide (Arr.kept ZR.out hb)
 replace Oq503 := hide Oq503.out.rd
 replace hU := zU hU hU.size hb
 clear hb
 obtain ⟨Lq503, Yq503⟩ := gly Eq503.out (gd_of (by decide +kernel))
 refine zac (i := 76) (m' := 151115727451828646838271) rfl rfl ((vof_any ⟨#[48, 49, 49]⟩ _ (by decide)).mono ?_)
 rintro e w362 ⟨lq504, sq504, Aq504, cq504, Eq504, rfl, Cq504, Oq504, hb⟩
 refine ⟨_, rfl, hb, ?_⟩
 replace HC1 := zH HM1 HC1 hb
 replace Oq503 := zQ Oq503 hb
 replace Bq415 := zX Bq415 hb
 replace Bq420 := zX Bq420 hb
 replace Bq425 := zX Bq425 hb
 replace HL := hide (VL.kept HL.out hb)
 replace ZR := hide (Arr.kept ZR.out hb)
 replace Oq504 := hide Oq504.out.rd
 replace hU := zU hU hU.size hb
 clear hb
 obtain ⟨Lq504, Yq504⟩ := gly Eq504.out (gd_of (by decide +kernel))
 refine zac (i := 77) (m' := 302231454903657293676543) rfl rfl ((xLeq true Aq503 Aq504 lq503 lq504 cq503 cq504 sq503 sq504 _ Lq503.out Lq504.out Cq503 Cq504 Oq503.out Oq504.out Yq503.out Yq504.out (by rw [Eq503.out, Eq504.out]; decide +kernel)).mono ?_)
 rintro e w363 ⟨rfl, hb⟩
 refine ⟨_, rfl, hb, ?_⟩
 replace HC1 := zH HM1 HC1 hb
 replace Oq503 := zQ Oq503 hb
 replace Oq504 := zQ Oq504 hb
 replace Bq415 := zX Bq415 hb
 replace Bq420 := zX Bq420 hb
 replace Bq425 := zX Bq425 hb
 replace HL := hide (VL.kept HL.out hb)
 replace ZR := hide (Arr.kept ZR.out hb)
 replace hU := zU hU hU.size hb
 clear hb Oq503 Cq503 Lq503 Yq503
 clear Oq504 Cq504 Lq504 Yq504
 refine zav (i := 78) (m' := 604462909807314587353087) (v := .bool true) F hQ rfl rfl (zav (i := 79) (m' := 1208925819614629174706175) (v := .bool true) F hQ rfl rfl ?_)
 refine zac (i := 80) (m' := 2417851639229258349412351) rfl rfl ((vof_any ⟨#[120]⟩ _ (by decide)).mono ?_)
 rintro e w364 ⟨lq508, sq508, Aq508, cq508, Eq508, rfl, Cq508, Oq508, hb⟩
 refine ⟨_, rfl, hb, ?_⟩
 replace HC1 := zH HM1 HC1 hb
 replace Bq415 := zX Bq415 hb
 replace Bq420 := zX Bq420 hb
 replace Bq425 := zX Bq425 hb
 replace HL := hide (VL.kept HL.out hb)
 replace ZR := hide (Arr.kept ZR.out hb)
 replace Oq508 := hide Oq508.out.rd
 replace hU := zU hU hU.size hb
 clear hb
 obtain ⟨Lq508, Yq508⟩ := gly Eq508.out (gd_of (by decide +kernel))
 refine zac (i := 81) (m' := 4835703278458516698824703) rfl rfl ((vsof_any ⟨#[120]⟩ _ (by decide)).mono ?_)
 rintro e w365 ⟨lq509, sq509, Aq509, cq509, Eq509, rfl, Cq509, Oq509, hb⟩
 refine ⟨_, rfl, hb, ?_⟩
 replace HC1 := zH HM1 HC1 hb
 replace Oq508 := zQ Oq508 hb
 replace Bq415 := zX Bq415 hb
 replace Bq420 := zX Bq420 hb
 replace Bq425 := zX Bq425 hb
 replace HL := hide (VL.kept HL.out hb)
 replace ZR := hide (Arr.kept ZR.out hb)
 replace Oq509 := hide Oq509.out.rd
 replace hU := zU hU hU.size hb
 clear hb
 obtain ⟨Lq509, Yq509⟩ := gly Eq509.out (gd_of (by decide +kernel))
 refine zac (i := 82) (m' := 9671406556917033397649407) rfl rfl ((xLeq false Aq508 Aq509 lq508 lq509 cq508 cq509 sq508 sq509 _ Lq508.out Lq509.out Cq508 Cq509 Oq508.out Oq509.out Yq508.out Yq509.out (by rw [Eq508.out, Eq509.out]; decide +kernel)).mono ?_)
 rintro e w366 ⟨rfl, hb⟩
 refine ⟨_, rfl, hb, ?_⟩
 replace HC1 := zH HM1 HC1 hb
 replace Oq508 := zQ Oq508 hb
 replace Oq509 := zQ Oq509 hb
 replace Bq415 := zX Bq415 hb
 replace Bq420 := zX Bq420 hb
 replace Bq425 := zX Bq425 hb
 replace HL := hide (VL.kept HL.out hb)
 replace ZR := hide (Arr.kept ZR.out hb)
 replace hU := zU hU hU.size hb
 clear hb Oq508 Cq508 Lq508 Yq508
 clear Oq509 Cq509 Lq509 Yq509
 refine zav (i := 83) (m' := 19342813113834066795298815) (v := .bool true) F hQ rfl rfl (zav (i := 84) (m' := 38685626227668133590597631) (v := .bool true) F hQ rfl rfl (zav (i := 85) (m' := 77371252455336267181195263) (v := .bool true) F hQ rfl rfl ?_))
 refine zac (i := 86) (m' := 154742504910672534362390527) rfl rfl ((vof_any ⟨#[120, 48]⟩ _ (by decide)).mono ?_)
 rintro e w367 ⟨lq514, sq514, Aq514, cq514, Eq514, rfl, Cq514, Oq514, hb⟩
 refine ⟨_, rfl, hb, ?_⟩
 replace HC1 := zH HM1 HC1 hb
 replace Bq415 := zX Bq415 hb
 replace Bq420 := zX Bq420 hb
 replace Bq425 := zX Bq425 hb
 replace HL := hide (VL.kept HL.out hb)
 replace ZR := hide (Arr.kept ZR.out hb)
 replace Oq514 := hide Oq514.out.rd
 replace hU := zU hU hU.size hb
 clear hb
 obtain ⟨Lq514, Yq514⟩ := gly Eq514.out (gd_of (by decide +kernel))
 refine zac (i := 87) (m' := 309485009821345068724781055) rfl rfl ((xTruth 2 Aq514 lq514 cq514 sq514 _ Lq514.out Cq514 Oq514.out Yq514.out (HT.out.kept hU) (by rw [Eq514.out]; decide +kernel)).mono ?_)
 rintro e w368 ⟨rfl, hb⟩
 refine ⟨_, rfl, hb, ?_⟩
 replace HC1 := zH HM1 HC1 hb
 replace Oq514 := zQ Oq514 hb
 replace Bq415 := zX Bq415 hb
 replace Bq420 := zX Bq420 hb
 replace Bq425 := zX Bq425 hb
 replace HL := hide (VL.kept HL.out hb)
 replace ZR := hide (Arr.kept ZR.out hb)
 replace hU := zU hU hU.size hb
 clear hb Oq514 Cq514 Lq514 Yq514
 refine zav (i := 88) (m' := 618970019642690137449562111) (v := .bool true) F hQ rfl rfl (zav (i := 89) (m' := 1237940039285380274899124223) (v := .bool true) F hQ rfl rfl (zav (i := 90) (m' := 2475880078570760549798248447) (v := .bool true) F hQ rfl rfl ?_))
 refine zac (i := 91) (m' := 4951760157141521099596496895) rfl rfl ((vof_any ⟨#[120, 49]⟩ _ (by decide)).mono ?_)
 rintro e w369 ⟨lq519, sq519, Aq519, cq519, Eq519, rfl, Cq519, Oq519, hb⟩
 refine ⟨_, rfl, hb, ?_⟩
 replace HC1 := zH HM1 HC1 hb
 replace Bq415 := zX Bq415 hb
 replace Bq420 := zX Bq420 hb
 replace Bq425 := zX Bq425 hb
 replace HL := hide (VL.kept HL.out hb)
 replace ZR := hide (Arr.kept ZR.out hb)
 replace Oq519 := hide Oq519.out.rd
 replace hU := zU hU hU.size hb
 clear hb
 obtain ⟨Lq519, Yq519⟩ := gly Eq519.out (gd_of (by decide +kernel))
 refine zac (i := 92) (m' := 9903520314283042199192993791) rfl rfl ((xTruth 1 Aq519 lq519 cq519 sq519 _ Lq519.out Cq519 Oq519.out Yq519.out (HT.out.kept hU) (by rw [Eq519.out]; decide +kernel)).mono ?_)
 rintro e w370 ⟨rfl, hb⟩
 refine ⟨_, rfl, hb, ?_⟩
 replace HC1 := zH HM1 HC1 hb
 replace Oq519 := zQ Oq519 hb
 replace Bq415 := zX Bq415 hb
 replace Bq420 := zX Bq420 hb
 replace Bq425 := zX Bq425 hb
 replace HL := hide (VL.kept HL.out hb)
 replace ZR := hide (Arr.kept ZR.out hb)
 replace hU := zU hU hU.size hb
 clear hb Oq519 Cq519 Lq519 Yq519
 refine zav (i := 93) (m' := 19807040628566084398385987583) (v := .bool true) F hQ rfl rfl (zav (i := 94) (m' := 39614081257132168796771975167) (v := .bool true) F hQ rfl rfl (anyR_e (anyR_last (i := 95) (m' := 79228162514264337593543950335) (v := .bool true) rfl rfl (by kernel_rfl) (by kernel_rfl) (by kernel_rfl) (by kernel_rfl) (by kernel_rfl) (anyE_done (by kernel_rfl) ?_))))
 clear F hQ Bq4150 Bq4200 Bq4250 HC0
 refine then_normal (wp_ret ?_)
 refine (show bodyPost _ _ _ .ret _ _ from ret_sl (.bool true) rfl (by kernel_rfl) ?_)
 exact ⟨rfl, hU⟩
end Go.Proofs.YtpiakebbndoecaaGreatDoor
