/-
  Texts of MS joined (VecRW, VecRX, VecSB).
-/
import Derived.Test.YtbcpeagannjgpaaGreatDoorMS5
set_option linter.unusedVariables false
set_option linter.unusedSimpArgs false
set_option linter.unusedSectionVars false
namespace Go.Proofs.YtbcpeagannjgpaaGreatDoor
section
open Go.RowKit
set_option maxRecDepth 100000
set_option linter.unusedSimpArgs false
set_option linter.unusedVariables false
theorem rwindow_v (z hi lw : Int) (w : World) (b1 : -9223372036854775808 ≤ lw) (b2 : hi ≤ 9223372036854775807) (b3 : -9223372036854775808 ≤ hi) (b4 : lw ≤ 9223372036854775807) (hz : spn hi lw = z) :
    Calls Tryz.prog 107 #[.int .i64 hi, .int .i64 lw] w fun e w' => e = .returned (.int .i64 z) ∧ w = w' := by
  have hr := hz.symm
  unfold spn at hr
  clear hz
  by_cases c1 : hi < lw
  · rw [if_pos c1] at hr
    subst hr
    go_enter Tryz.func107, Tryz.ntmps107
    go_wp2
    go_ret
    exact ⟨rfl, rfl⟩
  · rw [if_neg c1] at hr
    have e1 := u64_sub b1 b2 (Int.not_lt.1 c1)
    obtain ⟨d, hd⟩ : ∃ d, d = hi - lw := ⟨_, rfl⟩
    by_cases c2 : 128 ≤ hi - lw
    · rw [if_pos c2] at hr
      subst hr
      rw [← hd] at e1 c2
      clear hd
      go_enter Tryz.func107, Tryz.ntmps107
      go_wp2
      go_ret
      exact ⟨rfl, rfl⟩
    · rw [if_neg c2] at hr
      subst hr
      have e2 : (128 ≤ IntKind.u64.wrap (IntKind.u64.wrap hi - IntKind.u64.wrap lw)) = False := by rw [e1]; exact eq_false c2
      clear e1 hd
      go_enter Tryz.func107, Tryz.ntmps107
      go_wp2
      go_ret
      exact ⟨rfl, rfl⟩
theorem spn3 (hi lw : Int) : spn hi lw = 1 ∨ spn hi lw = 12 ∨ spn hi lw = 0 := by unfold spn; (repeat' split) <;> omega
set_option maxHeartbeats 8000000 in
theorem rslice_any (hi lw : Int) (Aa : Option Addr) (la : List Int) (ca : Nat) (sa : Bool) (w : World) (ha : la.length ≤ 4096) (hca : Hid (la.length ≤ ca ∧ ca ≤ maxLen)) (hra : RQ w Aa la) (ya : By la) (b1 : -9223372036854775808 ≤ lw) (b2 : hi ≤ 9223372036854775807) (b3 : -9223372036854775808 ≤ hi) (b4 : lw ≤ 9223372036854775807) :
    Calls Tryz.prog 30 #[.agg #[.slice Aa la.length ca, .bool sa], .int .i64 hi, .int .i64 lw] w (RetE (spn hi lw) ⟨wdw (cnt ⟨la, sa⟩).b lw (hi - lw + 1).toNat 2, false⟩ w) := by
  have Oa := hide hra
  have La := hide ha
  have Ca := hca
  have Ya := hide ya
  clear ha hca hra ya
  have hU : Below w.heap.size w w := Below.refl _ _
  refine calls_sl (l := [.agg #[.slice Aa la.length ca, .bool sa], .int .i64 hi, .int .i64 lw]) 58 Tryz.func30 rfl (by kernel_rfl) (by simp) (wp_seq (reg_lit (wpl_boxvec (A := Aa) (m := la.length) (c := ca) (s := sa) rfl (by kernel_rfl) rfl (by kernel_rfl) ?_)))
  intro w1 Na Ba hNa hb
  replace Ba := hide Ba
  replace Oa := hide (RQ.below Oa.out hb)
  have hza : w.heap.size ≤ Na := Nat.le_trans hU.size hNa
  clear hNa
  replace hU := hU.trans (hb.mono hU.size)
  clear hb
  refine wpl_al rfl (by kernel_rfl) rfl ?_
  intro w2 Nu Bu hNu hb
  replace Bu := hide Bu
  have neau : Na ≠ Nu := by have := Ba.out.lt; omega
  replace Oa := hide (RQ.below Oa.out hb)
  replace Ba := hide (Box.kept Ba.out hb)
  have hzu : w.heap.size ≤ Nu := Nat.le_trans hU.size hNu
  clear hNu
  replace hU := hU.trans (hb.mono hU.size)
  clear hb
  refine wpl_r1 [(7, .int .i64 0)] (by kernel_rfl) (wpl_end (then_normal (wp_seq ?_)))
  obtain ⟨e0, he0⟩ : ∃ e0, spn hi lw = e0 := ⟨_, rfl⟩
  rw [he0]
  rcases (he0 ▸ spn3 hi lw : e0 = 1 ∨ e0 = 12 ∨ e0 = 0) with rfl | rfl | rfl
  refine reg_lit (wpl_r2 [(12, .int .i64 lw), (11, .int .i64 hi)] (by kernel_rfl) ?_)
  refine wpl_call rfl (by kernel_rfl) (by kernel_rfl) ((rwindow_v 1 hi lw _ b1 b2 b3 b4 he0).mono ?_)
  rintro e w' ⟨rfl, rfl⟩
  refine ⟨_, rfl, ?_⟩
  refine wpl_r1 [(8, .int .i64 1)] (by kernel_rfl) (wpl_end (then_normal (wp_seq (sw_t [(15, .bool true), (14, .int .i64 1)] rfl (by kernel_rfl) (by kernel_rfl) (wp_seq (reg_lit (wpl_r2 [(17, .int .i64 1), (16, .agg #[.slice none 0 0, .bool false])] (by kernel_rfl) ?_)))))))
  refine wpl_stk Bu.out rfl (by kernel_rfl) rfl (by kernel_rfl) (A2 := none) (m2 := 0) (c2 := 0) (s2 := false) (by kernel_rfl) ?_
  intro w3 hst hkeep
  replace Oa := hide (hst.rq Oa.out)
  replace Ba := hide (hst.ne Ba.out (by first | exact neau | exact (Ne.symm neua)))
  replace Bu := hide hst.box
  replace hU := hU.trans (hst.bel hzu)
  clear hst hkeep
  refine wpl_r1 [(7, .int .i64 1)] (by kernel_rfl) (wpl_end (then_normal (wp_ret (ret_boxe (z := 1) Bu.out rfl (by kernel_rfl) (by kernel_rfl) ?_))))
  exact RetE.fail (e0 := 1) (by decide) hU
  refine reg_lit (wpl_r2 [(12, .int .i64 lw), (11, .int .i64 hi)] (by kernel_rfl) ?_)
  refine wpl_call rfl (by kernel_rfl) (by kernel_rfl) ((rwindow_v 12 hi lw _ b1 b2 b3 b4 he0).mono ?_)
  rintro e w' ⟨rfl, rfl⟩
  refine ⟨_, rfl, ?_⟩
  refine wpl_r1 [(8, .int .i64 12)] (by kernel_rfl) (wpl_end (then_normal (wp_seq (sw_t [(15, .bool true), (14, .int .i64 12)] rfl (by kernel_rfl) (by kernel_rfl) (wp_seq (reg_lit (wpl_r2 [(17, .int .i64 12), (16, .agg #[.slice none 0 0, .bool false])] (by kernel_rfl) ?_)))))))
  refine wpl_stk Bu.out rfl (by kernel_rfl) rfl (by kernel_rfl) (A2 := none) (m2 := 0) (c2 := 0) (s2 := false) (by kernel_rfl) ?_
  intro w4 hst hkeep
  replace Oa := hide (hst.rq Oa.out)
  replace Ba := hide (hst.ne Ba.out (by first | exact neau | exact (Ne.symm neua)))
  replace Bu := hide hst.box
  replace hU := hU.trans (hst.bel hzu)
  clear hst hkeep
  refine wpl_r1 [(7, .int .i64 12)] (by kernel_rfl) (wpl_end (then_normal (wp_ret (ret_boxe (z := 12) Bu.out rfl (by kernel_rfl) (by kernel_rfl) ?_))))
  exact RetE.fail (e0 := 12) (by decide) hU
  obtain ⟨K, hK⟩ : ∃ K : Nat, (K : Int) = hi - lw + 1 := ⟨(hi - lw + 1).toNat, by have := spn_0.1 he0; omega⟩
  have hK2 : 1 ≤ K ∧ K ≤ 128 := by have := spn_0.1 he0; omega
  rw [show (hi - lw + 1).toNat = K by omega]
  refine reg_lit (wpl_r2 [(12, .int .i64 lw), (11, .int .i64 hi)] (by kernel_rfl) ?_)
  refine wpl_call rfl (by kernel_rfl) (by kernel_rfl) ((rwindow_v 0 hi lw _ b1 b2 b3 b4 he0).mono ?_)
  rintro e w' ⟨rfl, rfl⟩
  refine ⟨_, rfl, ?_⟩
  refine wpl_r1 [(8, .int .i64 0)] (by kernel_rfl) (wpl_end (then_normal (wp_seq (sw_f [(15, .bool false), (14, .int .i64 0)] rfl (by kernel_rfl) (by kernel_rfl) (wp_skip (then_normal (wp_seq ?_)))))))
  refine reg_lit (wpl_ldvec Ba.out rfl (by kernel_rfl) rfl (by kernel_rfl) ?_)
  refine wpl_call rfl (by kernel_rfl) (by kernel_rfl) ((rnorm_any' Aa la ca sa _ La.out Ca Oa.out Ya.out).mono ?_)
  rintro e w5 ⟨l1, s1, A1, c1, E1, rfl, C1, O1, hb⟩
  refine ⟨_, rfl, ?_⟩
  replace Oa := hide (RQ.below Oa.out hb)
  replace Ba := hide (Box.kept Ba.out hb)
  replace Bu := hide (Box.kept Bu.out hb)
  replace O1 := hide O1.out.rd
  replace hU := hU.trans (hb.mono hU.size)
  clear hb
  have G1 : Gd l1 := by have h := congrArg Vc.b E1.out; dsimp only at h; rw [h]; exact (cnt_gd (v := ⟨la, sa⟩) Ya.out)
  have L1 := hide (show l1.length ≤ 4096 from Nat.le_trans G1.le (by decide))
  have Y1 := hide G1.by_
  clear G1
  have HG1 := hide (show Gd l1 by have h := congrArg Vc.b E1.out; dsimp only at h; rw [h]; exact cnt_gd (v := ⟨la, sa⟩) Ya.out)
  refine wpl_stk Ba.out rfl (by kernel_rfl) rfl (by kernel_rfl) (A2 := A1) (m2 := l1.length) (c2 := c1) (s2 := s1) (by kernel_rfl) ?_
  intro w6 hst hkeep
  replace Oa := hide (hst.rq Oa.out)
  replace O1 := hide (hst.rq O1.out)
  replace Bu := hide (hst.ne Bu.out (by first | exact neua | exact (Ne.symm neau)))
  replace Ba := hide hst.box
  replace hU := hU.trans (hst.bel hza)
  clear hst hkeep
  refine wpl_end (then_normal (wp_seq ?_))
  obtain ⟨F, hF⟩ : ∃ F : Nat → Int, F = fun i : Nat => if 0 ≤ lw + (i : Int) ∧ lw + (i : Int) < l1.length then qt l1 (lw + (i : Int)).toNat else 2 := ⟨_, rfl⟩
  have hF1 : ∀ i j : Nat, lw + (i : Int) = j → j < l1.length → F i = qt l1 j := fun i j h1 h2 => by rw [hF]; dsimp only; rw [if_pos (by omega), show (lw + (i : Int)).toNat = j by omega]
  have hF2 : ∀ i : Nat, (lw + (i : Int) < 0 ∨ (l1.length : Int) ≤ lw + (i : Int)) → F i = 2 := fun i h1 => by rw [hF]; exact if_neg (by omega)
  have hR : ql K F = wdw (cnt ⟨la, sa⟩).b lw K 2 := by rw [hF, ← E1.out]; rfl
  have hl4 := HG1.out.le
  clear hF
  refine reg_lit (wpl_al rfl (by kernel_rfl) rfl ?_)
  intro wz No Bo hNo hV
  have hna : Na < No + 1 := by have := Ba.out.lt; omega
  have hnu : Nu < No + 1 := by have := Bu.out.lt; omega
  refine wpl_end (then_normal (wp_seq (wp_seq (reg_lit (wpl_r1 [(10, .int .i64 0)] (by kernel_rfl) (wpl_end (then_normal ?_)))))))
  refine wp_block (loop_r (K + 1) ?_)
  refine loop_inv (N := K) (fun k E W => Kp [(10, .int .i64 (k : Nat)), (1, .int .i64 hi), (2, .int .i64 lw), (3, .pointer (some ⟨Na, 0, none⟩)), (6, .pointer (some ⟨Nu, 0, none⟩)), (9, .pointer (some ⟨No, 0, none⟩))] E ∧ Below w6.heap.size w6 W ∧ ∃ A c, Box No A (ql k F).length c false W ∧ OwnV (No + 1) A (ql k F) c W) ?_ _ 0 _ _ (Nat.zero_le _) (by omega) ⟨Kp_c (by kernel_rfl) (Kp_c (by kernel_rfl) (Kp_c (by kernel_rfl) (Kp_c (by kernel_rfl) (Kp_c (by kernel_rfl) (Kp_c (by kernel_rfl) (Kp_n)))))), hV, none, 0, Bo, OwnV.nil _ _⟩
  clear hV Bo
  intro k E W next hk hI hnext
  obtain ⟨hKp, hV, Ao, co, Bo, Ho⟩ := hI
  obtain ⟨lo, hlo⟩ : ∃ lo, lo = ql k F := ⟨_, rfl⟩
  rw [← hlo] at Bo Ho
  replace Bo := hide Bo
  replace Ho := hide Ho
  have hlk : lo.length = k := by rw [hlo, ql_length]
  have hlo4 : lo.length ≤ 4096 := by omega
  have hB : No + 1 ≤ W.heap.size := Bo.out.lt
  refine wp_keep _ hKp (fun X => ?_)
  clear hKp
  refine wp_seq (wp_seq ?_)
  rcases Nat.lt_or_ge k K with hlt | hge
  refine reg_lit (wpl_r3 [(22, .int .i64 lw), (21, .int .i64 hi), (20, .int .i64 ((k : Nat)))] (by kernel_rfl) (wpl_val rfl (by kernel_rfl) (run_sub (a := hi) (b := lw) (c := (hi - lw)) rfl (by kernel_rfl) (by kernel_rfl) (rfl) (by omega) (by omega)) (wpl_val rfl (by kernel_rfl) (run_leq (a := (k : Int)) (b := (hi - lw)) rfl (by kernel_rfl) (by kernel_rfl) (decide_eq_true (by omega))) (wpl_end (then_normal (wp_ift (by kernel_rfl) (wp_skip ?_)))))))
  refine then_normal (wp_seq (wp_block (wp_seq ?_)))
  rcases Int.lt_or_le (lw + (k : Int)) 0 with hn0 | hn0
  refine reg_lit (wpl_r2 [(28, .int .i64 ((k : Nat))), (27, .int .i64 lw)] (by kernel_rfl) (wpl_val rfl (by kernel_rfl) (run_add (a := lw) (b := (k : Int)) (c := (lw + (k : Int))) rfl (by kernel_rfl) (by kernel_rfl) (rfl) (by omega) (by omega)) (wpl_val rfl (by kernel_rfl) (run_geq (a := (lw + (k : Int))) (b := 0) rfl (by kernel_rfl) (by kernel_rfl) (decide_eq_false (by omega))) (wpl_r9 [(39, .bool false), (38, undef), (37, undef), (36, undef), (35, undef), (34, undef), (33, undef), (32, undef), (31, .bool false)] (by kernel_rfl) (wpl_end (then_normal (wp_iff (by kernel_rfl) ?_)))))))
  have hz : lo ++ [2] = ql (k + 1) F := by rw [ql_snoc, ← hlo, hF2 k (by omega)]
  refine reg_lit (wpl_r1 [(52, .pointer (some ⟨No, 0, none⟩))] (by kernel_rfl) (wpl_ldsl Bo.out rfl (by kernel_rfl) rfl (by kernel_rfl) (wpl_app1q (z := 2) Ho.out hB hlo4 rfl rfl rfl (by kernel_rfl) rfl rfl rfl (fun _ => by kernel_rfl) (fun _ => by kernel_rfl) ?_)))
  intro V A2 c2 Hv hb
  refine wpl_r1 [(56, .pointer (some ⟨No, 0, none⟩))] (by kernel_rfl) ?_
  refine wpl_none (w' := V.setCell ⟨No, 0, none⟩ (.slice A2 (lo ++ [2]).length c2)) rfl (by kernel_rfl) (run_stsl rfl (by kernel_rfl) (by kernel_rfl) (Bo.out.keptB hb (Nat.lt_succ_self _))) ?_
  have HS := fit_next hV hNo Bo.out hb Hv hz
  refine wpl_end (block_normal (then_normal (reg_lit (wpl_r1 [(25, .int .i64 ((k : Nat)))] (by kernel_rfl) (wpl_val rfl (by kernel_rfl) (run_add (a := (k : Int)) (b := 1) (c := ((k + 1 : Int) : Int)) rfl (by kernel_rfl) (by kernel_rfl) (by omega) (by omega) (by omega)) (wpl_r1 [(10, .int .i64 (((k + 1 : Nat) : Int)))] (by kernel_rfl) (wpl_end ?_)))))))
  refine then_normal (hnext _ _ hlt ⟨Kp_c (by kernel_rfl) (Kp_c (by kernel_rfl) (Kp_c (by kernel_rfl) (Kp_c (by kernel_rfl) (Kp_c (by kernel_rfl) (Kp_c (by kernel_rfl) (Kp_n)))))), HS⟩)
  obtain ⟨j, hj⟩ : ∃ j : Nat, lw + (k : Int) = j := ⟨(lw + (k : Int)).toNat, by omega⟩
  rcases Nat.lt_or_ge j l1.length with hj1 | hj1
  refine reg_lit (wpl_r2 [(28, .int .i64 ((k : Nat))), (27, .int .i64 lw)] (by kernel_rfl) (wpl_val rfl (by kernel_rfl) (run_add (a := lw) (b := (k : Int)) (c := (j : Int)) rfl (by kernel_rfl) (by kernel_rfl) (by omega) (by omega) (by omega)) (wpl_val rfl (by kernel_rfl) (run_geq (a := (j : Int)) (b := 0) rfl (by kernel_rfl) (by kernel_rfl) (decide_eq_true (by omega))) (wpl_r3 [(33, .int .i64 ((k : Nat))), (32, .int .i64 lw), (31, .bool true)] (by kernel_rfl) (wpl_val rfl (by kernel_rfl) (run_add (a := lw) (b := (k : Int)) (c := (j : Int)) rfl (by kernel_rfl) (by kernel_rfl) (by omega) (by omega) (by omega)) (wpl_r1 [(35, .pointer (some ⟨Na, 0, none⟩))] (by kernel_rfl) ?_))))))
  refine wpl_ldsl (Ba.out.kept hV) rfl (by kernel_rfl) rfl (by kernel_rfl) ?_
  refine wpl_r1 [(37, .int .i64 ((l1.length : Nat)))] (by kernel_rfl) (wpl_val rfl (by kernel_rfl) (run_lss (a := (j : Int)) (b := (l1.length : Int)) rfl (by kernel_rfl) (by kernel_rfl) (decide_eq_true (by omega))) (wpl_r1 [(39, .bool true)] (by kernel_rfl) (wpl_end (then_normal (wp_ift (by kernel_rfl) ?_)))))
  have hz : lo ++ [qt l1 j] = ql (k + 1) F := by rw [ql_snoc, ← hlo, hF1 k j hj hj1]
  obtain ⟨ad, hA, hc⟩ := RQ.bitB O1.out hV (B := No + 1) (by omega) hj1
  refine gregion (n := 12) (N := 13) (fun x => Below (No + 1) W x) (by kernel_rfl) (by kernel_rfl) (by kernel_rfl) (by kernel_rfl) (by kernel_rfl) (by kernel_rfl) (Below.refl _ _).drew (fun _ _ _ _ _ h => h) ?_
  intro Fr hQ
  refine gany_val (i := 0) (m' := 1) (v := .pointer (some ⟨No, 0, none⟩)) Fr hQ rfl rfl (by kernel_rfl) (by kernel_rfl) (by kernel_rfl) (by kernel_rfl) (by kernel_rfl) (fun _ hb => by kernel_rfl) ?_
  refine gany_val (i := 1) (m' := 3) (v := .slice Ao lo.length co) Fr hQ rfl rfl (by kernel_rfl) (by kernel_rfl) (by kernel_rfl) (by kernel_rfl) (by kernel_rfl) (fun _ hb => run_ldsl rfl (by kernel_rfl) (Box.keptB Bo.out hb (Nat.lt_succ_self _))) ?_
  refine gany_val (i := 2) (m' := 7) (v := .pointer (some ⟨Na, 0, none⟩)) Fr hQ rfl rfl (by kernel_rfl) (by kernel_rfl) (by kernel_rfl) (by kernel_rfl) (by kernel_rfl) (fun _ hb => by kernel_rfl) ?_
  refine gany_val (i := 3) (m' := 15) (v := .slice A1 l1.length c1) Fr hQ rfl rfl (by kernel_rfl) (by kernel_rfl) (by kernel_rfl) (by kernel_rfl) (by kernel_rfl) (fun _ hb => run_ldsl rfl (by kernel_rfl) (Box.keptB (Ba.out.kept hV) hb hna)) ?_
  refine gany_val (i := 4) (m' := 31) (v := .int .i64 lw) Fr hQ rfl rfl (by kernel_rfl) (by kernel_rfl) (by kernel_rfl) (by kernel_rfl) (by kernel_rfl) (fun _ hb => by kernel_rfl) (gany_val (i := 5) (m' := 63) (v := .int .i64 ((k : Nat))) Fr hQ rfl rfl (by kernel_rfl) (by kernel_rfl) (by kernel_rfl) (by kernel_rfl) (by kernel_rfl) (fun _ hb => by kernel_rfl) (gany_val (i := 6) (m' := 127) (v := .int .i64 ((j : Nat))) Fr hQ rfl rfl (by kernel_rfl) (by kernel_rfl) (by kernel_rfl) (by kernel_rfl) (by kernel_rfl) (fun _ hb => run_add (a := lw) (b := (k : Int)) (c := (j : Int)) rfl (by kernel_rfl) (by kernel_rfl) (by omega) (by omega) (by omega)) (gany_val (i := 7) (m' := 255) (v := .pointer (some (ad.add j))) Fr hQ rfl rfl (by kernel_rfl) (by kernel_rfl) (by kernel_rfl) (by kernel_rfl) (by kernel_rfl) (fun _ hb => run_ix (k := j) (m := l1.length) (cc := c1) rfl (by kernel_rfl) hA (by kernel_rfl) hj1) (gany_val (i := 8) (m' := 511) (v := .int .u8 ((qt l1 j))) Fr hQ rfl rfl (by kernel_rfl) (by kernel_rfl) (by kernel_rfl) (by kernel_rfl) (by kernel_rfl) (fun _ hb => run_ldbit rfl (by kernel_rfl) (hc _ hb)) (gany_one (i := 9) (by kernel_rfl) (gstep_app (j := 10) (m' := 1023) (j' := 2047) (z := (qt l1 j)) Ho.out.drew' W hB hlo4 (fun _ hb h => h.trans (hb.mono hB)) (fun _ _ hb h => h.trans hb) rfl rfl (by kernel_rfl) (by kernel_rfl) (by kernel_rfl) rfl (by kernel_rfl) (by kernel_rfl) rfl rfl (by kernel_rfl) rfl (by kernel_rfl) rfl (fun _ => by kernel_rfl) (fun _ => by kernel_rfl) ?_))))))
  intro V A2 c2 Hv hb
  replace hb : Below (No + 1) W V := ((Below.refl _ _).drew).trans hb
  refine gany_val (i := 11) (m' := 4095) (v := .pointer (some ⟨No, 0, none⟩)) Fr hQ rfl rfl (by kernel_rfl) (by kernel_rfl) (by kernel_rfl) (by kernel_rfl) (by kernel_rfl) (fun _ hb => by kernel_rfl) (gany_e ?_)
  refine gany_none (i := 12) (m' := 8191) (w' := V.setCell ⟨No, 0, none⟩ (.slice A2 (lo ++ [(qt l1 j)]).length c2)) rfl rfl (by kernel_rfl) (by kernel_rfl) (by kernel_rfl) (by kernel_rfl) (run_stsl rfl (by kernel_rfl) (by kernel_rfl) (Bo.out.keptB hb (Nat.lt_succ_self _))) ?_
  refine gany_done (by kernel_rfl) ?_
  have HS := fit_next hV hNo Bo.out hb Hv hz
  clear Fr hQ
  refine block_normal (then_normal (reg_lit (wpl_r1 [(25, .int .i64 ((k : Nat)))] (by kernel_rfl) (wpl_val rfl (by kernel_rfl) (run_add (a := (k : Int)) (b := 1) (c := ((k + 1 : Int) : Int)) rfl (by kernel_rfl) (by kernel_rfl) (by omega) (by omega) (by omega)) (wpl_r1 [(10, .int .i64 (((k + 1 : Nat) : Int)))] (by kernel_rfl) (wpl_end ?_))))))
  refine then_normal (hnext _ _ hlt ⟨Kp_c (by kernel_rfl) (Kp_c (by kernel_rfl) (Kp_c (by kernel_rfl) (Kp_c (by kernel_rfl) (Kp_c (by kernel_rfl) (Kp_c (by kernel_rfl) (Kp_n)))))), HS⟩)
  refine reg_lit (wpl_r2 [(28, .int .i64 ((k : Nat))), (27, .int .i64 lw)] (by kernel_rfl) (wpl_val rfl (by kernel_rfl) (run_add (a := lw) (b := (k : Int)) (c := (j : Int)) rfl (by kernel_rfl) (by kernel_rfl) (by omega) (by omega) (by omega)) (wpl_val rfl (by kernel_rfl) (run_geq (a := (j : Int)) (b := 0) rfl (by kernel_rfl) (by kernel_rfl) (decide_eq_true (by omega))) (wpl_r3 [(33, .int .i64 ((k : Nat))), (32, .int .i64 lw), (31, .bool true)] (by kernel_rfl) (wpl_val rfl (by kernel_rfl) (run_add (a := lw) (b := (k : Int)) (c := (j : Int)) rfl (by kernel_rfl) (by kernel_rfl) (by omega) (by omega) (by omega)) (wpl_r1 [(35, .pointer (some ⟨Na, 0, none⟩))] (by kernel_rfl) ?_))))))
  refine wpl_ldsl (Ba.out.kept hV) rfl (by kernel_rfl) rfl (by kernel_rfl) ?_
  refine wpl_r1 [(37, .int .i64 ((l1.length : Nat)))] (by kernel_rfl) (wpl_val rfl (by kernel_rfl) (run_lss (a := (j : Int)) (b := (l1.length : Int)) rfl (by kernel_rfl) (by kernel_rfl) (decide_eq_false (by omega))) (wpl_r1 [(39, .bool false)] (by kernel_rfl) (wpl_end (then_normal (wp_iff (by kernel_rfl) ?_)))))
  have hz : lo ++ [2] = ql (k + 1) F := by rw [ql_snoc, ← hlo, hF2 k (by omega)]
  refine reg_lit (wpl_r1 [(52, .pointer (some ⟨No, 0, none⟩))] (by kernel_rfl) (wpl_ldsl Bo.out rfl (by kernel_rfl) rfl (by kernel_rfl) (wpl_app1q (z := 2) Ho.out hB hlo4 rfl rfl rfl (by kernel_rfl) rfl rfl rfl (fun _ => by kernel_rfl) (fun _ => by kernel_rfl) ?_)))
  intro V A2 c2 Hv hb
  refine wpl_r1 [(56, .pointer (some ⟨No, 0, none⟩))] (by kernel_rfl) ?_
  refine wpl_none (w' := V.setCell ⟨No, 0, none⟩ (.slice A2 (lo ++ [2]).length c2)) rfl (by kernel_rfl) (run_stsl rfl (by kernel_rfl) (by kernel_rfl) (Bo.out.keptB hb (Nat.lt_succ_self _))) ?_
  have HS := fit_next hV hNo Bo.out hb Hv hz
  refine wpl_end (block_normal (then_normal (reg_lit (wpl_r1 [(25, .int .i64 ((k : Nat)))] (by kernel_rfl) (wpl_val rfl (by kernel_rfl) (run_add (a := (k : Int)) (b := 1) (c := ((k + 1 : Int) : Int)) rfl (by kernel_rfl) (by kernel_rfl) (by omega) (by omega) (by omega)) (wpl_r1 [(10, .int .i64 (((k + 1 : Nat) : Int)))] (by kernel_rfl) (wpl_end ?_)))))))
  refine then_normal (hnext _ _ hlt ⟨Kp_c (by kernel_rfl) (Kp_c (by kernel_rfl) (Kp_c (by kernel_rfl) (Kp_c (by kernel_rfl) (Kp_c (by kernel_rfl) (Kp_c (by kernel_rfl) (Kp_n)))))), HS⟩)
  refine reg_lit (wpl_r3 [(22, .int .i64 lw), (21, .int .i64 hi), (20, .int .i64 ((k : Nat)))] (by kernel_rfl) (wpl_val rfl (by kernel_rfl) (run_sub (a := hi) (b := lw) (c := (hi - lw)) rfl (by kernel_rfl) (by kernel_rfl) (rfl) (by omega) (by omega)) (wpl_val rfl (by kernel_rfl) (run_leq (a := (k : Int)) (b := (hi - lw)) rfl (by kernel_rfl) (by kernel_rfl) (decide_eq_false (by omega))) (wpl_end (then_normal (wp_iff (by kernel_rfl) (wp_exit ?_)))))))
  refine then_exit (then_exit (exit_here (then_normal (wp_seq (reg_lit (wpl_ldvec Bo.out rfl (by kernel_rfl) rfl (by kernel_rfl) ?_))))))
  refine wpl_stq (A2 := Ao) (m2 := lo.length) (c2 := co) (s2 := false) (Bu.out.kept hV) rfl (by kernel_rfl) rfl (by kernel_rfl) (by kernel_rfl) ?_
  intro V Bq hkeep hbel
  refine wpl_r1 [(7, .int .i64 0)] (by kernel_rfl) (wpl_end (then_normal (wp_ret (ret_boxe (z := 0) Bq rfl (by kernel_rfl) (by kernel_rfl) ?_))))
  obtain rfl : k = K := by omega
  exact ⟨lo, false, Ao, co, hide (by rw [if_pos rfl, hlo, hR]), rfl, Ho.out.open_.1, hide (OwQ.low (OwQ.std (m2 := 0) (c2 := 0) (A2 := none) (s2 := false) Ho.out.open_.2.out hbel hnu hkeep) (by have := hU.size; omega)), (hU.trans (hV.mono hU.size)).trans (hbel hzu)⟩
set_option maxHeartbeats 8000000 in
theorem rput_any (hi lw : Int) (Aa : Option Addr) (la : List Int) (ca : Nat) (sa : Bool) (Ab : Option Addr) (lb : List Int) (cb : Nat) (sb : Bool) (w : World) (ha : la.length ≤ 4096) (hb : lb.length ≤ 4096) (hca : Hid (la.length ≤ ca ∧ ca ≤ maxLen)) (hcb : Hid (lb.length ≤ cb ∧ cb ≤ maxLen)) (hra : RQ w Aa la) (hrb : RQ w Ab lb) (ya : By la) (yb : By lb) (b1 : -9223372036854775808 ≤ lw) (b2 : hi ≤ 9223372036854775807) (b3 : -9223372036854775808 ≤ hi) (b4 : lw ≤ 9223372036854775807) :
    Calls Tryz.prog 32 #[.agg #[.slice Aa la.length ca, .bool sa], .int .i64 hi, .int .i64 lw, .agg #[.slice Ab lb.length cb, .bool sb]] w (RetE (spn hi lw) (vPut ⟨la, sa⟩ ⟨lb, sb⟩ hi lw) w) := by
  have Oa := hide hra
  have La := hide ha
  have Ca := hca
  have Ya := hide ya
  have Ob := hide hrb
  have Lb := hide hb
  have Cb := hcb
  have Yb := hide yb
  clear ha hca hra ya hb hcb hrb yb
  have hU : Below w.heap.size w w := Below.refl _ _
  refine calls_sl (l := [.agg #[.slice Aa la.length ca, .bool sa], .int .i64 hi, .int .i64 lw, .agg #[.slice Ab lb.length cb, .bool sb]]) 60 Tryz.func32 rfl (by kernel_rfl) (by simp) (wp_seq (reg_lit (wpl_boxvec (A := Aa) (m := la.length) (c := ca) (s := sa) rfl (by kernel_rfl) rfl (by kernel_rfl) ?_)))
  intro w1 Na Ba hNa hb
  replace Ba := hide Ba
  replace Oa := hide (RQ.below Oa.out hb)
  replace Ob := hide (RQ.below Ob.out hb)
  have hza : w.heap.size ≤ Na := Nat.le_trans hU.size hNa
  clear hNa
  replace hU := hU.trans (hb.mono hU.size)
  clear hb
  refine wpl_boxvec (A := Ab) (m := lb.length) (c := cb) (s := sb) rfl (by kernel_rfl) rfl (by kernel_rfl) ?_
  intro w2 Nb Bb hNb hb
  replace Bb := hide Bb
  have neab : Na ≠ Nb := by have := Ba.out.lt; omega
  replace Oa := hide (RQ.below Oa.out hb)
  replace Ob := hide (RQ.below Ob.out hb)
  replace Ba := hide (Box.kept Ba.out hb)
  have hzb : w.heap.size ≤ Nb := Nat.le_trans hU.size hNb
  clear hNb
  replace hU := hU.trans (hb.mono hU.size)
  clear hb
  refine wpl_al rfl (by kernel_rfl) rfl ?_
  intro w3 Nu Bu hNu hb
  replace Bu := hide Bu
  have neau : Na ≠ Nu := by have := Ba.out.lt; omega
  have nebu : Nb ≠ Nu := by have := Bb.out.lt; omega
  replace Oa := hide (RQ.below Oa.out hb)
  replace Ob := hide (RQ.below Ob.out hb)
  replace Ba := hide (Box.kept Ba.out hb)
  replace Bb := hide (Box.kept Bb.out hb)
  have hzu : w.heap.size ≤ Nu := Nat.le_trans hU.size hNu
  clear hNu
  replace hU := hU.trans (hb.mono hU.size)
  clear hb
  refine wpl_r1 [(9, .int .i64 0)] (by kernel_rfl) (wpl_end (then_normal (wp_seq ?_)))
  obtain ⟨e0, he0⟩ : ∃ e0, spn hi lw = e0 := ⟨_, rfl⟩
  rw [he0]
  rcases (he0 ▸ spn3 hi lw : e0 = 1 ∨ e0 = 12 ∨ e0 = 0) with rfl | rfl | rfl
  refine reg_lit (wpl_r2 [(13, .int .i64 lw), (12, .int .i64 hi)] (by kernel_rfl) ?_)
  refine wpl_call rfl (by kernel_rfl) (by kernel_rfl) ((rwindow_v 1 hi lw _ b1 b2 b3 b4 he0).mono ?_)
  rintro e w' ⟨rfl, rfl⟩
  refine ⟨_, rfl, ?_⟩
  refine wpl_r1 [(10, .int .i64 1)] (by kernel_rfl) (wpl_end (then_normal (wp_seq (sw_t [(16, .bool true), (15, .int .i64 1)] rfl (by kernel_rfl) (by kernel_rfl) (wp_seq (reg_lit (wpl_r2 [(18, .int .i64 1), (17, .agg #[.slice none 0 0, .bool false])] (by kernel_rfl) ?_)))))))
  refine wpl_stk Bu.out rfl (by kernel_rfl) rfl (by kernel_rfl) (A2 := none) (m2 := 0) (c2 := 0) (s2 := false) (by kernel_rfl) ?_
  intro w4 hst hkeep
  replace Oa := hide (hst.rq Oa.out)
  replace Ob := hide (hst.rq Ob.out)
  replace Ba := hide (hst.ne Ba.out (by first | exact neau | exact (Ne.symm neua)))
  replace Bb := hide (hst.ne Bb.out (by first | exact nebu | exact (Ne.symm neub)))
  replace Bu := hide hst.box
  replace hU := hU.trans (hst.bel hzu)
  clear hst hkeep
  refine wpl_r1 [(9, .int .i64 1)] (by kernel_rfl) (wpl_end (then_normal (wp_ret (ret_boxe (z := 1) Bu.out rfl (by kernel_rfl) (by kernel_rfl) ?_))))
  exact RetE.fail (e0 := 1) (by decide) hU
  refine reg_lit (wpl_r2 [(13, .int .i64 lw), (12, .int .i64 hi)] (by kernel_rfl) ?_)
  refine wpl_call rfl (by kernel_rfl) (by kernel_rfl) ((rwindow_v 12 hi lw _ b1 b2 b3 b4 he0).mono ?_)
  rintro e w' ⟨rfl, rfl⟩
  refine ⟨_, rfl, ?_⟩
  refine wpl_r1 [(10, .int .i64 12)] (by kernel_rfl) (wpl_end (then_normal (wp_seq (sw_t [(16, .bool true), (15, .int .i64 12)] rfl (by kernel_rfl) (by kernel_rfl) (wp_seq (reg_lit (wpl_r2 [(18, .int .i64 12), (17, .agg #[.slice none 0 0, .bool false])] (by kernel_rfl) ?_)))))))
  refine wpl_stk Bu.out rfl (by kernel_rfl) rfl (by kernel_rfl) (A2 := none) (m2 := 0) (c2 := 0) (s2 := false) (by kernel_rfl) ?_
  intro w5 hst hkeep
  replace Oa := hide (hst.rq Oa.out)
  replace Ob := hide (hst.rq Ob.out)
  replace Ba := hide (hst.ne Ba.out (by first | exact neau | exact (Ne.symm neua)))
  replace Bb := hide (hst.ne Bb.out (by first | exact nebu | exact (Ne.symm neub)))
  replace Bu := hide hst.box
  replace hU := hU.trans (hst.bel hzu)
  clear hst hkeep
  refine wpl_r1 [(9, .int .i64 12)] (by kernel_rfl) (wpl_end (then_normal (wp_ret (ret_boxe (z := 12) Bu.out rfl (by kernel_rfl) (by kernel_rfl) ?_))))
  exact RetE.fail (e0 := 12) (by decide) hU
  obtain ⟨K, hK⟩ : ∃ K : Nat, (K : Int) = hi - lw + 1 := ⟨(hi - lw + 1).toNat, by have := spn_0.1 he0; omega⟩
  have hK2 : 1 ≤ K ∧ K ≤ 128 := by have := spn_0.1 he0; omega
  refine reg_lit (wpl_r2 [(13, .int .i64 lw), (12, .int .i64 hi)] (by kernel_rfl) ?_)
  refine wpl_call rfl (by kernel_rfl) (by kernel_rfl) ((rwindow_v 0 hi lw _ b1 b2 b3 b4 he0).mono ?_)
  rintro e w' ⟨rfl, rfl⟩
  refine ⟨_, rfl, ?_⟩
  refine wpl_r1 [(10, .int .i64 0)] (by kernel_rfl) (wpl_end (then_normal (wp_seq (sw_f [(16, .bool false), (15, .int .i64 0)] rfl (by kernel_rfl) (by kernel_rfl) (wp_skip (then_normal (wp_seq ?_)))))))
  refine reg_lit (wpl_ldvec Ba.out rfl (by kernel_rfl) rfl (by kernel_rfl) ?_)
  refine wpl_call rfl (by kernel_rfl) (by kernel_rfl) ((rnorm_any' Aa la ca sa _ La.out Ca Oa.out Ya.out).mono ?_)
  rintro e w6 ⟨l1, s1, A1, c1, E1, rfl, C1, O1, hb⟩
  refine ⟨_, rfl, ?_⟩
  have k0 : w.heap.size ≤ w3.heap.size := hU.size
  replace Oa := hide (RQ.below Oa.out hb)
  replace Ob := hide (RQ.below Ob.out hb)
  replace Ba := hide (Box.kept Ba.out hb)
  replace Bb := hide (Box.kept Bb.out hb)
  replace Bu := hide (Box.kept Bu.out hb)
  replace hU := hU.trans (hb.mono hU.size)
  clear hb
  have G1 : Gd l1 := by have h := congrArg Vc.b E1.out; dsimp only at h; rw [h]; exact (cnt_gd (v := ⟨la, sa⟩) Ya.out)
  have L1 := hide (show l1.length ≤ 4096 from Nat.le_trans G1.le (by decide))
  have Y1 := hide G1.by_
  clear G1
  replace O1 := hide (OwQ.base O1.out k0)
  clear k0
  have HG1 := hide (show Gd l1 by have h := congrArg Vc.b E1.out; dsimp only at h; rw [h]; exact cnt_gd (v := ⟨la, sa⟩) Ya.out)
  refine wpl_stk Ba.out rfl (by kernel_rfl) rfl (by kernel_rfl) (A2 := A1) (m2 := l1.length) (c2 := c1) (s2 := s1) (by kernel_rfl) ?_
  intro w7 hst hkeep
  replace Oa := hide (hst.rq Oa.out)
  replace Ob := hide (hst.rq Ob.out)
  replace O1 := hide (OwQ.box O1.out Ba.out hkeep)
  replace Bb := hide (hst.ne Bb.out (by first | exact neba | exact (Ne.symm neab)))
  replace Bu := hide (hst.ne Bu.out (by first | exact neua | exact (Ne.symm neau)))
  replace Ba := hide hst.box
  replace hU := hU.trans (hst.bel hza)
  clear hst hkeep
  refine sx_n (wpl_ldvec Bb.out rfl (by kernel_rfl) rfl (by kernel_rfl) ?_)
  refine wpl_call rfl (by kernel_rfl) (by kernel_rfl) ((rnorm_any' Ab lb cb sb _ Lb.out Cb Ob.out Yb.out).mono ?_)
  rintro e w8 ⟨l2, s2, A2, c2, E2, rfl, C2, O2, hb⟩
  refine ⟨_, rfl, ?_⟩
  replace Oa := hide (RQ.below Oa.out hb)
  replace Ob := hide (RQ.below Ob.out hb)
  replace O1 := hide (OwQ.kept O1.out hb)
  replace Ba := hide (Box.kept Ba.out hb)
  replace Bb := hide (Box.kept Bb.out hb)
  replace Bu := hide (Box.kept Bu.out hb)
  replace O2 := hide O2.out.rd
  replace hU := hU.trans (hb.mono hU.size)
  clear hb
  have G2 : Gd l2 := by have h := congrArg Vc.b E2.out; dsimp only at h; rw [h]; exact (cnt_gd (v := ⟨lb, sb⟩) Yb.out)
  have L2 := hide (show l2.length ≤ 4096 from Nat.le_trans G2.le (by decide))
  have Y2 := hide G2.by_
  clear G2
  have HG2 := hide (show Gd l2 by have h := congrArg Vc.b E2.out; dsimp only at h; rw [h]; exact cnt_gd (v := ⟨lb, sb⟩) Yb.out)
  refine wpl_r2 [(24, .int .i64 lw), (23, .int .i64 hi)] (by kernel_rfl) (wpl_val rfl (by kernel_rfl) (run_sub (a := hi) (b := lw) (c := (hi - lw)) rfl (by kernel_rfl) (by kernel_rfl) (rfl) (by omega) (by omega)) (wpl_val rfl (by kernel_rfl) (run_add (a := (hi - lw)) (b := 1) (c := (K : Int)) rfl (by kernel_rfl) (by kernel_rfl) (by omega) (by omega) (by omega)) ?_))
  refine wpl_call rfl (by kernel_rfl) (by kernel_rfl) ((rfit_any A2 l2 c2 s2 _ L2.out C2 O2.out Y2.out K (by omega) HG2.out.pos).mono ?_)
  rintro e w9 ⟨l3, s3, A3, c3, E3, rfl, C3, O3, hb⟩
  refine ⟨_, rfl, ?_⟩
  have p3 : 0 < l3.length := by have h := congrArg (fun v : Vc => v.b.length) E3.out; dsimp only at h; rw [h, rsz_length]; omega
  have S13 : Hid (Sep A1 A3) := hide (sep_of O1.out O3.out HG1.out.pos p3)
  have k0 : w.heap.size ≤ w8.heap.size := hU.size
  replace Oa := hide (RQ.below Oa.out hb)
  replace Ob := hide (RQ.below Ob.out hb)
  replace O1 := hide (OwQ.kept O1.out hb)
  replace O2 := hide (RQ.below O2.out hb)
  replace Ba := hide (Box.kept Ba.out hb)
  replace Bb := hide (Box.kept Bb.out hb)
  replace Bu := hide (Box.kept Bu.out hb)
  replace hU := hU.trans (hb.mono hU.size)
  clear hb
  have G3 : Gd l3 := by have h := congrArg Vc.b E3.out; dsimp only at h; rw [h]; exact (gd_rsz (v := ⟨l2, s2⟩) HG2.out (by omega) (by omega))
  have L3 := hide (show l3.length ≤ 4096 from Nat.le_trans G3.le (by decide))
  have Y3 := hide G3.by_
  clear G3
  replace O3 := hide (OwQ.base O3.out k0)
  clear k0
  rw [E2.out] at E3
  have e3 : l3 = rsz (cnt ⟨lb, sb⟩) K := congrArg Vc.b E3.out
  refine wpl_stk Bb.out rfl (by kernel_rfl) rfl (by kernel_rfl) (A2 := A3) (m2 := l3.length) (c2 := c3) (s2 := s3) (by kernel_rfl) ?_
  intro w10 hst hkeep
  replace Oa := hide (hst.rq Oa.out)
  replace Ob := hide (hst.rq Ob.out)
  replace O1 := hide (OwQ.box O1.out Bb.out hkeep)
  replace O2 := hide (hst.rq O2.out)
  replace O3 := hide (OwQ.box O3.out Bb.out hkeep)
  replace Ba := hide (hst.ne Ba.out (by first | exact neab | exact (Ne.symm neba)))
  replace Bu := hide (hst.ne Bu.out (by first | exact neub | exact (Ne.symm nebu)))
  replace Bb := hide hst.box
  replace hU := hU.trans (hst.bel hzb)
  clear hst hkeep
  refine wpl_end (then_normal (wp_seq (wp_seq (reg_lit (wpl_r1 [(11, .int .i64 0)] (by kernel_rfl) (wpl_end (then_normal ?_)))))))
  refine wp_block ?_
  obtain ⟨g, eg, hg, hrow⟩ := O1.out HG1.out.pos
  obtain ⟨g2, eg2, hg2, hrow2⟩ := O3.out p3
  have hgg : g2 ≠ g := fun e => S13.out g g2 eg eg2 e.symm
  have hl3 : l3.length = K := by rw [e3, rsz_length]
  have hl1 := HG1.out.le
  have hxa : Na ≠ g := Ba.out.off hrow HG1.out.pos
  have hxb : Nb ≠ g := Bb.out.off hrow HG1.out.pos
  have hxu : Nu ≠ g := Bu.out.off hrow HG1.out.pos
  refine loop_r (K + 1) ?_
  refine loop_inv (N := K) (fun k E W => Kp [(11, .int .i64 (k : Nat)), (1, .int .i64 hi), (2, .int .i64 lw), (4, .pointer (some ⟨Na, 0, none⟩)), (7, .pointer (some ⟨Nb, 0, none⟩)), (8, .pointer (some ⟨Nu, 0, none⟩))] E ∧ PutQ w w10 g l1.length (ptd l1 l3 lw K (lw + (k : Int))) W) ?_ _ 0 _ _ (Nat.zero_le _) (by omega) ⟨Kp_c (by kernel_rfl) (Kp_c (by kernel_rfl) (Kp_c (by kernel_rfl) (Kp_c (by kernel_rfl) (Kp_c (by kernel_rfl) (Kp_c (by kernel_rfl) (Kp_n)))))), (PutQ.start hrow hU).congr (fun i _ => (ptd_start (Or.inl (by omega)) i).symm)⟩
  clear hU
  intro k E W next hk hI hnext
  obtain ⟨hKp, HP⟩ := hI
  replace HP := hide HP
  refine wp_keep _ hKp (fun X => ?_)
  clear hKp
  refine wp_seq (wp_seq ?_)
  rcases Nat.lt_or_ge k K with hlt | hge
  refine reg_lit (wpl_r3 [(30, .int .i64 lw), (29, .int .i64 hi), (28, .int .i64 ((k : Nat)))] (by kernel_rfl) (wpl_val rfl (by kernel_rfl) (run_sub (a := hi) (b := lw) (c := (hi - lw)) rfl (by kernel_rfl) (by kernel_rfl) (rfl) (by omega) (by omega)) (wpl_val rfl (by kernel_rfl) (run_leq (a := (k : Int)) (b := (hi - lw)) rfl (by kernel_rfl) (by kernel_rfl) (decide_eq_true (by omega))) (wpl_end (then_normal (wp_ift (by kernel_rfl) (wp_skip ?_)))))))
  refine then_normal (wp_seq (wp_block (wp_seq ?_)))
  rcases Int.lt_or_le (lw + (k : Int)) 0 with hn0 | hn0
  have HS := HP.out.congr (fun i hi2 => ptd_skips (K := K) (p := l3) (a := l1) (k := k) (lo := lw) (by omega) i hi2)
  refine reg_lit (wpl_r2 [(36, .int .i64 ((k : Nat))), (35, .int .i64 lw)] (by kernel_rfl) (wpl_val rfl (by kernel_rfl) (run_add (a := lw) (b := (k : Int)) (c := (lw + (k : Int))) rfl (by kernel_rfl) (by kernel_rfl) (rfl) (by omega) (by omega)) (wpl_val rfl (by kernel_rfl) (run_geq (a := (lw + (k : Int))) (b := 0) rfl (by kernel_rfl) (by kernel_rfl) (decide_eq_false (by omega))) (wpl_r9 [(47, .bool false), (46, undef), (45, undef), (44, undef), (43, undef), (42, undef), (41, undef), (40, undef), (39, .bool false)] (by kernel_rfl) (wpl_end (then_normal (wp_iff (by kernel_rfl) ?_)))))))
  refine wp_skip (block_normal (then_normal (reg_lit (wpl_r1 [(33, .int .i64 ((k : Nat)))] (by kernel_rfl) (wpl_val rfl (by kernel_rfl) (run_add (a := (k : Int)) (b := 1) (c := ((k + 1 : Int) : Int)) rfl (by kernel_rfl) (by kernel_rfl) (by omega) (by omega) (by omega)) (wpl_r1 [(11, .int .i64 (((k + 1 : Nat) : Int)))] (by kernel_rfl) (wpl_end ?_)))))))
  refine then_normal (hnext _ _ hlt ⟨Kp_c (by kernel_rfl) (Kp_c (by kernel_rfl) (Kp_c (by kernel_rfl) (Kp_c (by kernel_rfl) (Kp_c (by kernel_rfl) (Kp_c (by kernel_rfl) (Kp_n)))))), HS⟩)
  obtain ⟨j, hj⟩ : ∃ j : Nat, lw + (k : Int) = j := ⟨(lw + (k : Int)).toNat, by omega⟩
  rcases Nat.lt_or_ge j l1.length with hj1 | hj1
  refine reg_lit (wpl_r2 [(36, .int .i64 ((k : Nat))), (35, .int .i64 lw)] (by kernel_rfl) (wpl_val rfl (by kernel_rfl) (run_add (a := lw) (b := (k : Int)) (c := (j : Int)) rfl (by kernel_rfl) (by kernel_rfl) (by omega) (by omega) (by omega)) (wpl_val rfl (by kernel_rfl) (run_geq (a := (j : Int)) (b := 0) rfl (by kernel_rfl) (by kernel_rfl) (decide_eq_true (by omega))) (wpl_r3 [(41, .int .i64 ((k : Nat))), (40, .int .i64 lw), (39, .bool true)] (by kernel_rfl) (wpl_val rfl (by kernel_rfl) (run_add (a := lw) (b := (k : Int)) (c := (j : Int)) rfl (by kernel_rfl) (by kernel_rfl) (by omega) (by omega) (by omega)) (wpl_r1 [(43, .pointer (some ⟨Na, 0, none⟩))] (by kernel_rfl) (wpl_ldsl (HP.out.box Ba.out hxa) rfl (by kernel_rfl) rfl (by kernel_rfl) ?_)))))))
  refine wpl_r1 [(45, .int .i64 ((l1.length : Nat)))] (by kernel_rfl) (wpl_val rfl (by kernel_rfl) (run_lss (a := (j : Int)) (b := (l1.length : Int)) rfl (by kernel_rfl) (by kernel_rfl) (decide_eq_true (by omega))) (wpl_r1 [(47, .bool true)] (by kernel_rfl) (wpl_end (then_normal (wp_ift (by kernel_rfl) ?_)))))
  have hk3 : k < l3.length := by omega
  have hc1 : ∀ w', w' = W.drew → w'.cell? ((⟨g, 0, none⟩ : Addr).add j) = some (.int .u8 (ptd l1 l3 lw K (lw + (k : Int)) j)) := fun w' e => by rw [e, addr_add]; exact HP.out.row.cell hj1
  have hc2 : ∀ w', w' = W.drew → w'.cell? ((⟨g2, 0, none⟩ : Addr).add k) = some (.int .u8 (qt l3 k)) := fun w' e => by rw [e, addr_add]; exact (HP.out.cell (p := ⟨g2, k, none⟩) hgg).trans (hrow2.cell hk3)
  refine gregion (n := 11) (N := 12) (fun x => x = W.drew) (by kernel_rfl) (by kernel_rfl) (by kernel_rfl) (by kernel_rfl) (by kernel_rfl) (by kernel_rfl) rfl (fun _ _ _ _ _ h => h) ?_
  intro Fr hQ
  refine gany_val (i := 0) (m' := 1) (v := .pointer (some ⟨Na, 0, none⟩)) Fr hQ rfl rfl (by kernel_rfl) (by kernel_rfl) (by kernel_rfl) (by kernel_rfl) (by kernel_rfl) (fun _ hb => by kernel_rfl) (gany_val (i := 1) (m' := 3) (v := .slice A1 l1.length c1) Fr hQ rfl rfl (by kernel_rfl) (by kernel_rfl) (by kernel_rfl) (by kernel_rfl) (by kernel_rfl) (fun _ hb => run_ldsl rfl (by kernel_rfl) (Box.drewq (HP.out.box Ba.out hxa) hb)) (gany_val (i := 2) (m' := 7) (v := .int .i64 lw) Fr hQ rfl rfl (by kernel_rfl) (by kernel_rfl) (by kernel_rfl) (by kernel_rfl) (by kernel_rfl) (fun _ hb => by kernel_rfl) (gany_val (i := 3) (m' := 15) (v := .int .i64 ((k : Nat))) Fr hQ rfl rfl (by kernel_rfl) (by kernel_rfl) (by kernel_rfl) (by kernel_rfl) (by kernel_rfl) (fun _ hb => by kernel_rfl) (gany_val (i := 4) (m' := 31) (v := .int .i64 ((j : Nat))) Fr hQ rfl rfl (by kernel_rfl) (by kernel_rfl) (by kernel_rfl) (by kernel_rfl) (by kernel_rfl) (fun _ hb => run_add (a := lw) (b := (k : Int)) (c := (j : Int)) rfl (by kernel_rfl) (by kernel_rfl) (by omega) (by omega) (by omega)) (gany_val (i := 5) (m' := 63) (v := .pointer (some ⟨Nb, 0, none⟩)) Fr hQ rfl rfl (by kernel_rfl) (by kernel_rfl) (by kernel_rfl) (by kernel_rfl) (by kernel_rfl) (fun _ hb => by kernel_rfl) (gany_val (i := 6) (m' := 127) (v := .slice A3 l3.length c3) Fr hQ rfl rfl (by kernel_rfl) (by kernel_rfl) (by kernel_rfl) (by kernel_rfl) (by kernel_rfl) (fun _ hb => run_ldsl rfl (by kernel_rfl) (Box.drewq (HP.out.box Bb.out hxb) hb)) (gany_val (i := 7) (m' := 255) (v := .int .i64 ((k : Nat))) Fr hQ rfl rfl (by kernel_rfl) (by kernel_rfl) (by kernel_rfl) (by kernel_rfl) (by kernel_rfl) (fun _ hb => by kernel_rfl) ?_)))))))
  refine gany_val (i := 8) (m' := 511) (v := .pointer (some ((⟨g2, 0, none⟩ : Addr).add k))) Fr hQ rfl rfl (by kernel_rfl) (by kernel_rfl) (by kernel_rfl) (by kernel_rfl) (by kernel_rfl) (fun _ hb => run_ix (k := k) (m := l3.length) (cc := c3) rfl (by kernel_rfl) eg2 (by kernel_rfl) hk3) (gany_val (i := 9) (m' := 1023) (v := .int .u8 ((qt l3 k))) Fr hQ rfl rfl (by kernel_rfl) (by kernel_rfl) (by kernel_rfl) (by kernel_rfl) (by kernel_rfl) (fun _ hb => run_ldbit rfl (by kernel_rfl) (hc2 _ hb)) (gany_val (i := 10) (m' := 2047) (v := .pointer (some ((⟨g, 0, none⟩ : Addr).add j))) Fr hQ rfl rfl (by kernel_rfl) (by kernel_rfl) (by kernel_rfl) (by kernel_rfl) (by kernel_rfl) (fun _ hb => run_ix (k := j) (m := l1.length) (cc := c1) rfl (by kernel_rfl) eg (by kernel_rfl) hj1) (gany_e (gany_none (i := 11) (m' := 4095) (w' := W.drew.setCell ⟨g, j, none⟩ (.int .u8 (qt l3 k))) rfl rfl (by kernel_rfl) (by kernel_rfl) (by kernel_rfl) (by kernel_rfl) (run_stbit rfl (by kernel_rfl) (addr_add g j) (by kernel_rfl) HP.out.drew.row hj1) (gany_done (by kernel_rfl) ?_)))))
  have HS := (HP.out.drew.step hg j (qt l3 k)).congr (fun i _ => ptd_next (a := l1) (p := l3) (lo := lw) hj hlt i)
  clear Fr hQ
  refine block_normal (then_normal (reg_lit (wpl_r1 [(33, .int .i64 ((k : Nat)))] (by kernel_rfl) (wpl_val rfl (by kernel_rfl) (run_add (a := (k : Int)) (b := 1) (c := ((k + 1 : Int) : Int)) rfl (by kernel_rfl) (by kernel_rfl) (by omega) (by omega) (by omega)) (wpl_r1 [(11, .int .i64 (((k + 1 : Nat) : Int)))] (by kernel_rfl) (wpl_end ?_))))))
  refine then_normal (hnext _ _ hlt ⟨Kp_c (by kernel_rfl) (Kp_c (by kernel_rfl) (Kp_c (by kernel_rfl) (Kp_c (by kernel_rfl) (Kp_c (by kernel_rfl) (Kp_c (by kernel_rfl) (Kp_n)))))), HS⟩)
  have HS := HP.out.congr (fun i hi2 => ptd_skips (K := K) (p := l3) (a := l1) (k := k) (lo := lw) (by omega) i hi2)
  refine reg_lit (wpl_r2 [(36, .int .i64 ((k : Nat))), (35, .int .i64 lw)] (by kernel_rfl) (wpl_val rfl (by kernel_rfl) (run_add (a := lw) (b := (k : Int)) (c := (j : Int)) rfl (by kernel_rfl) (by kernel_rfl) (by omega) (by omega) (by omega)) (wpl_val rfl (by kernel_rfl) (run_geq (a := (j : Int)) (b := 0) rfl (by kernel_rfl) (by kernel_rfl) (decide_eq_true (by omega))) (wpl_r3 [(41, .int .i64 ((k : Nat))), (40, .int .i64 lw), (39, .bool true)] (by kernel_rfl) (wpl_val rfl (by kernel_rfl) (run_add (a := lw) (b := (k : Int)) (c := (j : Int)) rfl (by kernel_rfl) (by kernel_rfl) (by omega) (by omega) (by omega)) (wpl_r1 [(43, .pointer (some ⟨Na, 0, none⟩))] (by kernel_rfl) (wpl_ldsl (HP.out.box Ba.out hxa) rfl (by kernel_rfl) rfl (by kernel_rfl) ?_)))))))
  refine wpl_r1 [(45, .int .i64 ((l1.length : Nat)))] (by kernel_rfl) (wpl_val rfl (by kernel_rfl) (run_lss (a := (j : Int)) (b := (l1.length : Int)) rfl (by kernel_rfl) (by kernel_rfl) (decide_eq_false (by omega))) (wpl_r1 [(47, .bool false)] (by kernel_rfl) (wpl_end (then_normal (wp_iff (by kernel_rfl) (wp_skip (block_normal ?_)))))))
  refine then_normal (reg_lit (wpl_r1 [(33, .int .i64 ((k : Nat)))] (by kernel_rfl) (wpl_val rfl (by kernel_rfl) (run_add (a := (k : Int)) (b := 1) (c := ((k + 1 : Int) : Int)) rfl (by kernel_rfl) (by kernel_rfl) (by omega) (by omega) (by omega)) (wpl_r1 [(11, .int .i64 (((k + 1 : Nat) : Int)))] (by kernel_rfl) (wpl_end ?_)))))
  refine then_normal (hnext _ _ hlt ⟨Kp_c (by kernel_rfl) (Kp_c (by kernel_rfl) (Kp_c (by kernel_rfl) (Kp_c (by kernel_rfl) (Kp_c (by kernel_rfl) (Kp_c (by kernel_rfl) (Kp_n)))))), HS⟩)
  refine reg_lit (wpl_r3 [(30, .int .i64 lw), (29, .int .i64 hi), (28, .int .i64 ((k : Nat)))] (by kernel_rfl) (wpl_val rfl (by kernel_rfl) (run_sub (a := hi) (b := lw) (c := (hi - lw)) rfl (by kernel_rfl) (by kernel_rfl) (rfl) (by omega) (by omega)) (wpl_val rfl (by kernel_rfl) (run_leq (a := (k : Int)) (b := (hi - lw)) rfl (by kernel_rfl) (by kernel_rfl) (decide_eq_false (by omega))) (wpl_end (then_normal (wp_iff (by kernel_rfl) (wp_exit ?_)))))))
  refine then_exit (then_exit (exit_here (then_normal (wp_seq (reg_lit (wpl_ldvec (HP.out.box Ba.out hxa) rfl (by kernel_rfl) rfl (by kernel_rfl) (wpl_stk (HP.out.box Bu.out hxu) rfl (by kernel_rfl) rfl (by kernel_rfl) (A2 := A1) (m2 := l1.length) (c2 := c1) (s2 := s1) (by kernel_rfl) ?_)))))))
  intro w11 hst hkeep
  refine wpl_r1 [(9, .int .i64 0)] (by kernel_rfl) (wpl_end (then_normal (wp_ret ?_)))
  obtain rfl : k = K := by omega
  refine ret_boxe (z := 0) hst.box rfl (by kernel_rfl) (by kernel_rfl) ?_
  obtain ⟨G, hG⟩ : ∃ G, G = ptd l1 l3 lw k (lw + (k : Int)) := ⟨_, rfl⟩
  rw [← hG] at HP
  have hln : (ql l1.length G).length = l1.length := ql_length _ _
  exact ⟨ql l1.length G, s1, A1, c1, hide (by rw [if_pos rfl]; unfold vPut; rw [show (hi - lw + 1).toNat = k by omega, ← E1.out, ← e3, hG, show lw + (k : Int) = hi + 1 by omega]), by rw [hln], by rw [hln]; exact C1, hide (own_of HP.out hkeep hxu eg hg), HP.out.bel.trans (hst.bel hzu)⟩
end
section
open Go.RowKit
set_option maxRecDepth 100000
set_option linter.unusedSimpArgs false
set_option linter.unusedVariables false
set_option maxHeartbeats 8000000 in
theorem rconcat_z (e0 : Int) (g c : Nat) (vs : List Va) (w : World) (hg : g < w.heap.size) (h0 : 0 < vs.length) (hn : vs.length ≤ 4096) (hv : Vrow w g vs) (he0 : cte (vcs vs) = e0) :
    Calls Tryz.prog 26 #[.slice (some ⟨g, 0, none⟩) vs.length c] w (RetE e0 ⟨cats (vcs vs), false⟩ w) := by
  have HV := hide hv
  clear hv
  have HE0 : Hid (e0 = if 128 < (cats (vcs vs)).length then 12 else 0) := hide (by
    rw [← he0]; unfold cte
    rw [if_neg fun h => by rw [vcs_nil.1 h] at h0; exact absurd h0 (by simp)])
  clear he0
  obtain ⟨CK, hCK⟩ : ∃ CK : Nat → List Int, CK = fun k => cats (vcs (vs.drop (vs.length - k))) := ⟨_, rfl⟩
  have hC0 : CK 0 = [] := by rw [hCK]; dsimp only; rw [Nat.sub_zero, List.drop_length]; rfl
  have hCn : CK vs.length = cats (vcs vs) := by rw [hCK]; dsimp only; rw [Nat.sub_self]; rfl
  have hCle : ∀ k, (CK k).length ≤ (cats (vcs vs)).length := fun k => by rw [hCK]; exact cats_le vs _
  have hCs : ∀ j k, j + k + 1 = vs.length → (h : j < vs.length) → CK (k + 1) = CK k ++ (cnt ⟨vs[j].2.1, vs[j].2.2.2⟩).b := fun j k hjk h => by
    rw [hCK]; dsimp only
    rw [show vs.length - (k + 1) = j by omega, show vs.length - k = j + 1 by omega]
    exact cats_drop h
  clear hCK
  have hU : Below w.heap.size w w := Below.refl _ _
  refine calls_sl (l := [.slice (some ⟨g, 0, none⟩) vs.length c]) 33 Tryz.func26 rfl (by kernel_rfl) (by simp) (wp_seq (reg_lit (wpl_al rfl (by kernel_rfl) rfl ?_)))
  intro w1 Nu Bu hNu hb
  replace Bu := hide Bu
  have hzu : w.heap.size ≤ Nu := Nat.le_trans hU.size hNu
  clear hNu
  replace hU := hU.trans (hb.mono hU.size)
  clear hb
  refine wpl_r1 [(3, .int .i64 0)] (by kernel_rfl) (wpl_end (then_normal (wp_seq (wp_seq (reg_lit (wpl_r2 [(7, .int .i64 ((vs.length : Nat))), (6, .slice (some ⟨g, 0, none⟩) vs.length c)] (by kernel_rfl) (wpl_val rfl (by kernel_rfl) (run_eql (a := (vs.length : Int)) (b := 0) rfl (by kernel_rfl) (by kernel_rfl) (beq_eq_false_iff_ne.2 (by omega))) ?_)))))))
  refine wpl_end (then_normal (wp_iff (by kernel_rfl) (wp_skip (then_normal (wp_seq (reg_lit (wpl_al rfl (by kernel_rfl) rfl ?_)))))))
  intro wz No Bo hNo hV
  have hnu : Nu < No + 1 := by have := Bu.out.lt; omega
  refine wpl_end (then_normal (wp_seq (wp_seq (reg_lit (wpl_r2 [(11, .int .i64 ((vs.length : Nat))), (10, .slice (some ⟨g, 0, none⟩) vs.length c)] (by kernel_rfl) (wpl_val rfl (by kernel_rfl) (run_sub (a := (vs.length : Int)) (b := 1) (c := ((vs.length : Int) - 1 - ((0 : Int) : Int))) rfl (by kernel_rfl) (by kernel_rfl) (by omega) (by omega) (by omega)) (wpl_r1 [(5, .int .i64 (((vs.length : Int) - 1 - ((0 : Nat) : Int))))] (by kernel_rfl) ?_)))))))
  refine wpl_end (then_normal (wp_block (loop_r (vs.length + 1) ?_)))
  refine loop_inv (N := vs.length) (fun k E W => Kp [(5, .int .i64 ((vs.length : Int) - 1 - (k : Int))), (0, .slice (some ⟨g, 0, none⟩) vs.length c), (2, .pointer (some ⟨Nu, 0, none⟩)), (4, .pointer (some ⟨No, 0, none⟩))] E ∧ Below w1.heap.size w1 W ∧ (CK k).length ≤ 128 ∧ ∃ A c, Box No A (CK k).length c false W ∧ OwnV (No + 1) A (CK k) c W) ?_ _ 0 _ _ (Nat.zero_le _) (by omega) ⟨Kp_c (by kernel_rfl) (Kp_c (by kernel_rfl) (Kp_c (by kernel_rfl) (Kp_c (by kernel_rfl) (Kp_n)))), hV, (by rw [hC0]; exact Nat.zero_le _), none, 0, (by rw [hC0]; exact Bo), (by rw [hC0]; exact OwnV.nil _ _)⟩
  clear hV Bo
  intro k E W next hk hI hnext
  obtain ⟨hKp, hV, hL, Ao, co, Bo, Ho⟩ := hI
  obtain ⟨lo, hlo⟩ : ∃ lo, lo = CK k := ⟨_, rfl⟩
  rw [← hlo] at Bo Ho hL
  replace Bo := hide Bo
  replace Ho := hide Ho
  have hB : No + 1 ≤ W.heap.size := Bo.out.lt
  refine wp_keep _ hKp (fun X => ?_)
  clear hKp
  refine wp_seq (wp_seq ?_)
  rcases Nat.lt_or_ge k vs.length with hlt | hge
  obtain ⟨j, hj⟩ : ∃ j : Nat, ((vs.length : Int) - 1 - (k : Int)) = j := ⟨vs.length - 1 - k, by omega⟩
  rw [hj]
  refine reg_lit (wpl_r1 [(13, .int .i64 ((j : Nat)))] (by kernel_rfl) (wpl_val rfl (by kernel_rfl) (run_geq (a := (j : Int)) (b := 0) rfl (by kernel_rfl) (by kernel_rfl) (decide_eq_true (by omega))) (wpl_end (then_normal (wp_ift (by kernel_rfl) (wp_skip (then_normal ?_)))))))
  refine wp_seq (wp_block (wp_seq ?_))
  have hjk : j + k + 1 = vs.length := by omega
  have hjl : j < vs.length := by omega
  have hUV : Below w.heap.size w W := hU.trans (hV.mono hU.size)
  have hno := hU.size
  have hs := hCs j k hjk hjl
  have k0 := HV.out.c0 j hjl
  have k1 := HV.out.c1 j hjl
  have k2 := HV.out.rd j hjl
  have k3 := HV.out.by_ j hjl
  have k4 := HV.out.le j hjl
  have Ca := HV.out.cp j hjl
  obtain ⟨⟨Aa, la, ca, sa⟩, hx⟩ : ∃ x, x = vs[j] := ⟨_, rfl⟩
  rw [← hx] at k0 k1 k2 k3 k4 Ca hs
  dsimp only at k0 k1 k2 k3 k4 Ca hs
  clear hx
  have hc0 : ∀ w', Below (No + 1) W w' → w'.cell? ⟨g, j * 2, none⟩ = some (.slice Aa la.length ca) := fun w' hb => (hb.cell (p := ⟨g, j * 2, none⟩) (by show g < No + 1; omega)).trans ((hUV.cell (p := ⟨g, j * 2, none⟩) hg).trans k0)
  have hc1 : ∀ w', Below (No + 1) W w' → w'.cell? ⟨g, j * 2 + 1, none⟩ = some (.bool sa) := fun w' hb => (hb.cell (p := ⟨g, j * 2 + 1, none⟩) (by show g < No + 1; omega)).trans ((hUV.cell (p := ⟨g, j * 2 + 1, none⟩) hg).trans k1)
  have hrq : RQ W.drew Aa la := (k2.below hUV).below (Below.refl _ _).drew
  clear k0 k1 k2
  refine gregion (n := 10) (N := 11) (fun x => Below (No + 1) W x) (by kernel_rfl) (by kernel_rfl) (by kernel_rfl) (by kernel_rfl) (by kernel_rfl) (by kernel_rfl) (Below.refl _ _).drew (fun _ _ _ _ _ h => h) ?_
  intro Fr hQ
  refine gany_val (i := 0) (m' := 1) (v := .pointer (some ⟨No, 0, none⟩)) Fr hQ rfl rfl (by kernel_rfl) (by kernel_rfl) (by kernel_rfl) (by kernel_rfl) (by kernel_rfl) (fun _ hb => by kernel_rfl) ?_
  refine gany_val (i := 1) (m' := 3) (v := .slice Ao lo.length co) Fr hQ rfl rfl (by kernel_rfl) (by kernel_rfl) (by kernel_rfl) (by kernel_rfl) (by kernel_rfl) (fun _ hb => run_ldsl rfl (by kernel_rfl) (Box.keptB Bo.out hb (Nat.lt_succ_self _))) ?_
  refine gany_val (i := 2) (m' := 7) (v := .slice (some ⟨g, 0, none⟩) vs.length c) Fr hQ rfl rfl (by kernel_rfl) (by kernel_rfl) (by kernel_rfl) (by kernel_rfl) (by kernel_rfl) (fun _ hb => by kernel_rfl) (gany_val (i := 3) (m' := 15) (v := .int .i64 ((j : Nat))) Fr hQ rfl rfl (by kernel_rfl) (by kernel_rfl) (by kernel_rfl) (by kernel_rfl) (by kernel_rfl) (fun _ hb => by kernel_rfl) (gany_val (i := 4) (m' := 31) (v := .pointer (some ⟨g, (j * 2), none⟩)) Fr hQ rfl rfl (by kernel_rfl) (by kernel_rfl) (by kernel_rfl) (by kernel_rfl) (by kernel_rfl) (fun _ hb => run_ixv (k := j) (m := vs.length) (cc := c) rfl (by kernel_rfl) (by kernel_rfl) hjl) (gany_val (i := 5) (m' := 63) (v := .agg #[.slice Aa la.length ca, .bool sa]) Fr hQ rfl rfl (by kernel_rfl) (by kernel_rfl) (by kernel_rfl) (by kernel_rfl) (by kernel_rfl) (fun _ hb => run_ldv rfl (by kernel_rfl) (hc0 _ hb) (hc1 _ hb)) (gany_one (i := 6) (by kernel_rfl) ?_))))
  refine gstep_callW (m' := 127) rfl rfl (by kernel_rfl) (by kernel_rfl) (by kernel_rfl) (by kernel_rfl) ((rnorm_any' Aa la ca sa _ k4 Ca hrq k3).mono ?_)
  rintro e w1 ⟨l1, s1, A1, c1, E1, rfl, C1, O1, hb1⟩
  refine ⟨_, rfl, fun hS => Below.trans hS (hb1.mono hB), ?_⟩
  have HG1 : Gd l1 := by have h := congrArg Vc.b E1.out; dsimp only at h; rw [h]; exact cnt_gd (v := ⟨la, sa⟩) k3
  have hg1 := HG1.le
  have hB1 : No + 1 ≤ w1.heap.size := Nat.le_trans hB hb1.size
  refine gany_val (i := 7) (m' := 255) (v := .slice A1 l1.length c1) Fr hQ rfl rfl (by kernel_rfl) (by kernel_rfl) (by kernel_rfl) (by kernel_rfl) (by kernel_rfl) (fun _ hb => by kernel_rfl) (gany_one (i := 8) (by kernel_rfl) ?_)
  refine gstep_apps (m' := 511) (c2 := c1) (Ho.out.drew'.kept hb1) hB1 (by omega) O1.out.rd (fun _ _ hb h => h.trans hb) rfl rfl (by kernel_rfl) rfl (by kernel_rfl) rfl (by kernel_rfl) (by kernel_rfl) ?_
  intro V A2 c2 Hv hb
  replace hb : Below (No + 1) W V := ((Below.refl _ _).drew).trans ((hb1.mono hB).trans hb)
  obtain ⟨l2, hl2⟩ : ∃ l2, l2 = lo ++ l1 := ⟨_, rfl⟩
  rw [← hl2] at Hv
  rw [← hl2]
  refine gany_val (i := 9) (m' := 1023) (v := .pointer (some ⟨No, 0, none⟩)) Fr hQ rfl rfl (by kernel_rfl) (by kernel_rfl) (by kernel_rfl) (by kernel_rfl) (by kernel_rfl) (fun _ hb => by kernel_rfl) (gany_e ?_)
  refine gany_none (i := 10) (m' := 2047) (w' := V.setCell ⟨No, 0, none⟩ (.slice A2 l2.length c2)) rfl rfl (by kernel_rfl) (by kernel_rfl) (by kernel_rfl) (by kernel_rfl) (run_stsl rfl (by kernel_rfl) (by kernel_rfl) (Bo.out.keptB hb (Nat.lt_succ_self _))) ?_
  refine gany_done (by kernel_rfl) ?_
  have e2 : l2 = CK (k + 1) := by rw [hl2, hs, ← hlo, ← E1.out]
  obtain ⟨h9V, A9, c9, B9, H9⟩ := fit_nexts hV hNo Bo.out hb Hv
  generalize V.setCell ⟨No, 0, none⟩ (.slice A2 l2.length c2) = V9 at *
  replace B9 := hide B9
  replace H9 := hide H9
  clear Fr hQ
  refine then_normal (wp_seq ?_)
  obtain ⟨l9, hl9⟩ : ∃ l9, l9 = CK (k + 1) := ⟨_, rfl⟩
  rw [e2, ← hl9] at B9 H9
  rcases Nat.lt_or_ge 128 l9.length with hbig | h9L
  have he : e0 = 12 := by rw [HE0.out, if_pos]; have := hCle (k + 1); rw [← hl9] at this; omega
  subst he
  refine reg_lit (wpl_r1 [(27, .pointer (some ⟨No, 0, none⟩))] (by kernel_rfl) (wpl_ldsl B9.out rfl (by kernel_rfl) rfl (by kernel_rfl) (wpl_r1 [(29, .int .i64 ((l9.length : Nat)))] (by kernel_rfl) (wpl_val rfl (by kernel_rfl) (run_gtr (a := (l9.length : Int)) (b := 128) rfl (by kernel_rfl) (by kernel_rfl) (decide_eq_true (by omega))) (wpl_end (then_normal (wp_ift (by kernel_rfl) ?_)))))))
  refine wp_seq (reg_lit (wpl_r1 [(31, .agg #[.slice none 0 0, .bool false])] (by kernel_rfl) ?_))
  refine wpl_stq (A2 := none) (m2 := 0) (c2 := 0) (s2 := false) (Bu.out.kept h9V) rfl (by kernel_rfl) rfl (by kernel_rfl) (by kernel_rfl) ?_
  intro V Bq hkeep hbel
  refine wpl_r1 [(3, .int .i64 12)] (by kernel_rfl) (wpl_end (then_normal (wp_ret (ret_boxe (z := 12) Bq rfl (by kernel_rfl) (by kernel_rfl) ?_))))
  exact RetE.fail (e0 := 12) (by decide) ((hU.trans (h9V.mono hU.size)).trans (hbel hzu))
  refine reg_lit (wpl_r1 [(27, .pointer (some ⟨No, 0, none⟩))] (by kernel_rfl) (wpl_ldsl B9.out rfl (by kernel_rfl) rfl (by kernel_rfl) (wpl_r1 [(29, .int .i64 ((l9.length : Nat)))] (by kernel_rfl) (wpl_val rfl (by kernel_rfl) (run_gtr (a := (l9.length : Int)) (b := 128) rfl (by kernel_rfl) (by kernel_rfl) (decide_eq_false (by omega))) (wpl_end (then_normal (wp_iff (by kernel_rfl) ?_)))))))
  refine wp_skip (block_normal (then_normal (reg_lit (wpl_r1 [(15, .int .i64 ((j : Nat)))] (by kernel_rfl) (wpl_val rfl (by kernel_rfl) (run_sub (a := (j : Int)) (b := 1) (c := ((vs.length : Int) - 1 - ((k + 1 : Int) : Int))) rfl (by kernel_rfl) (by kernel_rfl) (by omega) (by omega) (by omega)) (wpl_r1 [(5, .int .i64 (((vs.length : Int) - 1 - ((k + 1 : Nat) : Int))))] (by kernel_rfl) (wpl_end ?_)))))))
  rw [hl9] at B9 H9 h9L
  refine then_normal (hnext _ _ hlt ⟨Kp_c (by kernel_rfl) (Kp_c (by kernel_rfl) (Kp_c (by kernel_rfl) (Kp_c (by kernel_rfl) (Kp_n)))), h9V, h9L, A9, c9, B9.out, H9.out⟩)
  refine reg_lit (wpl_r1 [(13, .int .i64 (((vs.length : Int) - 1 - (k : Int))))] (by kernel_rfl) (wpl_val rfl (by kernel_rfl) (run_geq (a := ((vs.length : Int) - 1 - (k : Int))) (b := 0) rfl (by kernel_rfl) (by kernel_rfl) (decide_eq_false (by omega))) (wpl_end (then_normal (wp_iff (by kernel_rfl) (wp_exit (then_exit ?_)))))))
  refine then_exit (exit_here (then_normal (wp_seq (reg_lit (wpl_ldvec Bo.out rfl (by kernel_rfl) rfl (by kernel_rfl) ?_)))))
  refine wpl_stq (A2 := Ao) (m2 := lo.length) (c2 := co) (s2 := false) (Bu.out.kept hV) rfl (by kernel_rfl) rfl (by kernel_rfl) (by kernel_rfl) ?_
  intro V Bq hkeep hbel
  refine wpl_r1 [(3, .int .i64 0)] (by kernel_rfl) (wpl_end (then_normal (wp_ret (ret_boxe (z := 0) Bq rfl (by kernel_rfl) (by kernel_rfl) ?_))))
  obtain rfl : k = vs.length := by omega
  have he : e0 = 0 := by rw [HE0.out, if_neg]; rw [← hCn, ← hlo]; omega
  subst he
  exact ⟨lo, false, Ao, co, hide (by rw [if_pos rfl, hlo, hCn]), rfl, Ho.out.open_.1, hide (OwQ.low (OwQ.std (m2 := 0) (c2 := 0) (A2 := none) (s2 := false) Ho.out.open_.2.out hbel hnu hkeep) (by have := hU.size; omega)), (hU.trans (hV.mono hU.size)).trans (hbel hzu)⟩
set_option maxHeartbeats 8000000 in
theorem rrepeat_z (e0 n : Int) (Aa : Option Addr) (la : List Int) (ca : Nat) (sa : Bool) (w : World) (ha : la.length ≤ 4096) (hca : Hid (la.length ≤ ca ∧ ca ≤ maxLen)) (hra : RQ w Aa la) (ya : By la) (he0 : rpe n (cnt ⟨la, sa⟩).b.length = e0) :
    Calls Tryz.prog 28 #[.agg #[.slice Aa la.length ca, .bool sa], .int .i64 n] w (RetE e0 ⟨ql ((cnt ⟨la, sa⟩).b.length * n.toNat) fun i => qt (cnt ⟨la, sa⟩).b (i % (cnt ⟨la, sa⟩).b.length), false⟩ w) := by
  have Oa := hide hra
  have La := hide ha
  have Ca := hca
  have Ya := hide ya
  clear ha hca hra ya
  have hU : Below w.heap.size w w := Below.refl _ _
  refine calls_sl (l := [.agg #[.slice Aa la.length ca, .bool sa], .int .i64 n]) 28 Tryz.func28 rfl (by kernel_rfl) (by simp) (wp_seq (reg_lit (wpl_boxvec (A := Aa) (m := la.length) (c := ca) (s := sa) rfl (by kernel_rfl) rfl (by kernel_rfl) ?_)))
  intro w1 Na Ba hNa hb
  replace Ba := hide Ba
  replace Oa := hide (RQ.below Oa.out hb)
  have hza : w.heap.size ≤ Na := Nat.le_trans hU.size hNa
  clear hNa
  replace hU := hU.trans (hb.mono hU.size)
  clear hb
  refine wpl_al rfl (by kernel_rfl) rfl ?_
  intro w2 Nu Bu hNu hb
  replace Bu := hide Bu
  have neau : Na ≠ Nu := by have := Ba.out.lt; omega
  replace Oa := hide (RQ.below Oa.out hb)
  replace Ba := hide (Box.kept Ba.out hb)
  have hzu : w.heap.size ≤ Nu := Nat.le_trans hU.size hNu
  clear hNu
  replace hU := hU.trans (hb.mono hU.size)
  clear hb
  refine wpl_r1 [(5, .int .i64 0)] (by kernel_rfl) (wpl_end (then_normal (wp_seq (wp_seq ?_))))
  rcases Int.lt_or_le n 1 with hn | hn
  have he1 : e0 = 1 := by rw [← he0]; unfold rpe; rw [if_pos hn]
  subst he1
  refine reg_lit (wpl_r1 [(8, .int .i64 n)] (by kernel_rfl) (wpl_val rfl (by kernel_rfl) (run_lss (a := n) (b := 1) rfl (by kernel_rfl) (by kernel_rfl) (decide_eq_true hn)) (wpl_end (then_normal (wp_ift (by kernel_rfl) (wp_seq (reg_lit ?_)))))))
  refine wpl_r1 [(10, .agg #[.slice none 0 0, .bool false])] (by kernel_rfl) (wpl_stk Bu.out rfl (by kernel_rfl) rfl (by kernel_rfl) (A2 := none) (m2 := 0) (c2 := 0) (s2 := false) (by kernel_rfl) ?_)
  intro w3 hst hkeep
  replace Oa := hide (hst.rq Oa.out)
  replace Ba := hide (hst.ne Ba.out (by first | exact neau | exact (Ne.symm neua)))
  replace Bu := hide hst.box
  replace hU := hU.trans (hst.bel hzu)
  clear hst hkeep
  refine wpl_r1 [(5, .int .i64 1)] (by kernel_rfl) (wpl_end (then_normal (wp_ret (ret_boxe (z := 1) Bu.out rfl (by kernel_rfl) (by kernel_rfl) ?_))))
  exact RetE.fail (e0 := 1) (by decide) hU
  refine reg_lit (wpl_r1 [(8, .int .i64 n)] (by kernel_rfl) (wpl_val rfl (by kernel_rfl) (run_lss (a := n) (b := 1) rfl (by kernel_rfl) (by kernel_rfl) (decide_eq_false (by omega))) (wpl_end (then_normal (wp_iff (by kernel_rfl) (wp_skip (then_normal ?_)))))))
  refine wp_seq (reg_lit (wpl_r1 [(6, .slice none 0 0)] (by kernel_rfl) (wpl_end (then_normal (wp_seq (wp_seq (reg_lit ?_)))))))
  refine wpl_r1 [(7, .int .i64 0)] (by kernel_rfl) (wpl_end (then_normal (wp_block ?_)))
  obtain ⟨M, hM⟩ : ∃ M : Nat, M = min n.toNat 200 := ⟨_, rfl⟩
  have hM1 : 1 ≤ M ∧ M ≤ 200 ∧ (M : Int) ≤ n ∧ ((M : Int) = n ∨ M = 200) := by omega
  refine loop_r (M + 1) ?_
  refine loop_inv (N := M) (fun k E W => ∃ v vs, Kp [(7, .int .i64 (k : Nat)), (6, v), (1, .int .i64 n), (2, .pointer (some ⟨Na, 0, none⟩)), (4, .pointer (some ⟨Nu, 0, none⟩))] E ∧ Below w2.heap.size w2 W ∧ OwnR w2.heap.size v vs W ∧ vs = List.replicate k ((Aa, la, ca, sa) : Va)) ?_ _ 0 _ _ (Nat.zero_le _) (by omega) ⟨.slice none 0 0, [], Kp_c (by kernel_rfl) (Kp_c (by kernel_rfl) (Kp_c (by kernel_rfl) (Kp_c (by kernel_rfl) (Kp_c (by kernel_rfl) (Kp_n))))), Below.refl _ _, OwnR.nil _ _, rfl⟩
  intro k E W next hk hI hnext
  obtain ⟨v, vs, hKp, hV, HO, hvs⟩ := hI
  replace HO := hide HO
  have hvl : vs.length = k := by rw [hvs, List.length_replicate]
  refine wp_keep _ hKp (fun X => ?_)
  clear hKp
  refine wp_seq (wp_seq ?_)
  rcases Nat.lt_or_ge k M with hlt | hge
  refine reg_lit (wpl_r2 [(12, .int .i64 n), (11, .int .i64 ((k : Nat)))] (by kernel_rfl) (wpl_val rfl (by kernel_rfl) (run_lss (a := (k : Int)) (b := n) rfl (by kernel_rfl) (by kernel_rfl) (decide_eq_true (by omega))) (wpl_r2 [(15, .int .i64 ((k : Nat))), (14, .bool true)] (by kernel_rfl) (wpl_val rfl (by kernel_rfl) (run_lss (a := (k : Int)) (b := 200) rfl (by kernel_rfl) (by kernel_rfl) (decide_eq_true (by omega))) (wpl_r1 [(17, .bool true)] (by kernel_rfl) (wpl_end (then_normal ?_)))))))
  refine wp_ift (by kernel_rfl) (wp_skip (then_normal (wp_seq (wp_block (reg_lit (wpl_r1 [(20, v)] (by kernel_rfl) ?_))))))
  refine wpl_ldvec (Ba.out.kept hV) rfl (by kernel_rfl) rfl (by kernel_rfl) ?_
  refine wpl_appv (u := (Aa, la, ca, sa)) HO.out (by have := hV.size; omega) (by omega) rfl rfl rfl (by kernel_rfl) rfl rfl rfl (fun _ => by kernel_rfl) (fun _ => by kernel_rfl) ?_
  intro V v2 HO2 hb
  have h9V : Below w2.heap.size w2 V := hV.trans hb
  refine wpl_r1 [(6, v2)] (by kernel_rfl) (wpl_end (block_normal (then_normal (reg_lit (wpl_r1 [(18, .int .i64 ((k : Nat)))] (by kernel_rfl) (wpl_val rfl (by kernel_rfl) (run_add (a := (k : Int)) (b := 1) (c := ((k + 1 : Int) : Int)) rfl (by kernel_rfl) (by kernel_rfl) (by omega) (by omega) (by omega)) (wpl_r1 [(7, .int .i64 (((k + 1 : Nat) : Int)))] (by kernel_rfl) ?_)))))))
  refine wpl_end ?_
  refine then_normal (hnext _ _ hlt ⟨v2, vs ++ [(Aa, la, ca, sa)], Kp_c (by kernel_rfl) (Kp_c (by kernel_rfl) (Kp_c (by kernel_rfl) (Kp_c (by kernel_rfl) (Kp_c (by kernel_rfl) (Kp_n))))), h9V, HO2, by rw [hvs, List.replicate_succ']⟩)
  obtain rfl : k = M := by omega
  rcases Int.lt_or_le (k : Int) n with hkn | hkn
  refine reg_lit (wpl_r2 [(12, .int .i64 n), (11, .int .i64 ((k : Nat)))] (by kernel_rfl) (wpl_val rfl (by kernel_rfl) (run_lss (a := (k : Int)) (b := n) rfl (by kernel_rfl) (by kernel_rfl) (decide_eq_true (by omega))) (wpl_r2 [(15, .int .i64 ((k : Nat))), (14, .bool true)] (by kernel_rfl) (wpl_val rfl (by kernel_rfl) (run_lss (a := (k : Int)) (b := 200) rfl (by kernel_rfl) (by kernel_rfl) (decide_eq_false (by omega))) (wpl_r1 [(17, .bool false)] (by kernel_rfl) (wpl_end (then_normal ?_)))))))
  refine wp_iff (by kernel_rfl) (wp_exit (then_exit (then_exit (exit_here (then_normal (wp_seq ?_))))))
  replace Bu := hide (Bu.out.kept hV)
  replace Ba := hide (Ba.out.kept hV)
  replace Oa := hide (Oa.out.below hV)
  replace hU := hU.trans (hV.mono hU.size)
  obtain ⟨g, cc, hv, hg1, hg2, k0, k1⟩ := HO.out.row (by omega)
  subst hv
  have hall : ∀ i (h : i < vs.length), vs[i] = ((Aa, la, ca, sa) : Va) := fun i h => by simp only [hvs]; simp
  have hvc : vcs vs = List.replicate k ⟨la, sa⟩ := by rw [hvs]; unfold vcs; rw [List.map_replicate]
  have hp : 0 < (cnt ⟨la, sa⟩).b.length := (cnt_gd (v := ⟨la, sa⟩) Ya.out).pos
  have hcte : cte (vcs vs) = e0 := by rw [hvc, hM, cte_rep _ _ hn hp]; exact he0
  have hrow : Vrow W g vs := ⟨k0, k1, fun i h => by rw [hall i h]; exact Oa.out, fun i h => by rw [hall i h]; exact Ya.out, fun i h => by rw [hall i h]; exact La.out, fun i h => by rw [hall i h]; exact Ca⟩
  refine reg_lit (wpl_r1 [(24, .slice (some ⟨g, 0, none⟩) vs.length cc)] (by kernel_rfl) ?_)
  refine wpl_call rfl (by kernel_rfl) (by kernel_rfl) ((rconcat_z e0 g cc vs _ hg2 (by omega) (by omega) hrow hcte).mono ?_)
  rintro e w4 ⟨l3, s3, A3, c3, E3, rfl, C3, O3, hb⟩
  refine ⟨_, rfl, ?_⟩
  clear k0 k1
  have k0 : w.heap.size ≤ W.heap.size := hU.size
  replace Oa := hide (RQ.below Oa.out hb)
  replace Ba := hide (Box.kept Ba.out hb)
  replace Bu := hide (Box.kept Bu.out hb)
  replace hU := hU.trans (hb.mono hU.size)
  clear hb
  replace O3 := hide (OwQ.base O3.out k0)
  clear k0
  refine wpl_r2 [(27, .int .i64 e0), (26, .agg #[.slice A3 l3.length c3, .bool s3])] (by kernel_rfl) (wpl_stk Bu.out rfl (by kernel_rfl) rfl (by kernel_rfl) (A2 := A3) (m2 := l3.length) (c2 := c3) (s2 := s3) (by kernel_rfl) ?_)
  intro w5 hst hkeep
  replace Oa := hide (hst.rq Oa.out)
  replace O3 := hide (OwQ.box O3.out Bu.out hkeep)
  replace Ba := hide (hst.ne Ba.out (by first | exact neau | exact (Ne.symm neua)))
  replace Bu := hide hst.box
  replace hU := hU.trans (hst.bel hzu)
  clear hst hkeep
  refine wpl_r1 [(5, .int .i64 e0)] (by kernel_rfl) (wpl_end (then_normal (wp_ret (ret_boxe (z := e0) Bu.out rfl (by kernel_rfl) (by kernel_rfl) ?_))))
  refine ⟨l3, s3, A3, c3, hide ?_, rfl, C3, O3, hU⟩
  have h := E3.out
  by_cases q : e0 = 0
  · rw [if_pos q] at h ⊢
    rw [h, hvc, cats_rep, hM, rep_min hn hp (he0.trans q)]
  · rw [if_neg q] at h ⊢
    exact h
  refine reg_lit (wpl_r2 [(12, .int .i64 n), (11, .int .i64 ((k : Nat)))] (by kernel_rfl) (wpl_val rfl (by kernel_rfl) (run_lss (a := (k : Int)) (b := n) rfl (by kernel_rfl) (by kernel_rfl) (decide_eq_false (by omega))) (wpl_r4 [(17, .bool false), (16, undef), (15, undef), (14, .bool false)] (by kernel_rfl) (wpl_end (then_normal (wp_iff (by kernel_rfl) (wp_exit ?_)))))))
  refine then_exit (then_exit (exit_here (then_normal (wp_seq ?_))))
  replace Bu := hide (Bu.out.kept hV)
  replace Ba := hide (Ba.out.kept hV)
  replace Oa := hide (Oa.out.below hV)
  replace hU := hU.trans (hV.mono hU.size)
  obtain ⟨g, cc, hv, hg1, hg2, k0, k1⟩ := HO.out.row (by omega)
  subst hv
  have hall : ∀ i (h : i < vs.length), vs[i] = ((Aa, la, ca, sa) : Va) := fun i h => by simp only [hvs]; simp
  have hvc : vcs vs = List.replicate k ⟨la, sa⟩ := by rw [hvs]; unfold vcs; rw [List.map_replicate]
  have hp : 0 < (cnt ⟨la, sa⟩).b.length := (cnt_gd (v := ⟨la, sa⟩) Ya.out).pos
  have hcte : cte (vcs vs) = e0 := by rw [hvc, hM, cte_rep _ _ hn hp]; exact he0
  have hrow : Vrow W g vs := ⟨k0, k1, fun i h => by rw [hall i h]; exact Oa.out, fun i h => by rw [hall i h]; exact Ya.out, fun i h => by rw [hall i h]; exact La.out, fun i h => by rw [hall i h]; exact Ca⟩
  refine reg_lit (wpl_r1 [(24, .slice (some ⟨g, 0, none⟩) vs.length cc)] (by kernel_rfl) ?_)
  refine wpl_call rfl (by kernel_rfl) (by kernel_rfl) ((rconcat_z e0 g cc vs _ hg2 (by omega) (by omega) hrow hcte).mono ?_)
  rintro e w6 ⟨l3, s3, A3, c3, E3, rfl, C3, O3, hb⟩
  refine ⟨_, rfl, ?_⟩
  clear k0 k1
  have k0 : w.heap.size ≤ W.heap.size := hU.size
  replace Oa := hide (RQ.below Oa.out hb)
  replace Ba := hide (Box.kept Ba.out hb)
  replace Bu := hide (Box.kept Bu.out hb)
  replace hU := hU.trans (hb.mono hU.size)
  clear hb
  replace O3 := hide (OwQ.base O3.out k0)
  clear k0
  refine wpl_r2 [(27, .int .i64 e0), (26, .agg #[.slice A3 l3.length c3, .bool s3])] (by kernel_rfl) (wpl_stk Bu.out rfl (by kernel_rfl) rfl (by kernel_rfl) (A2 := A3) (m2 := l3.length) (c2 := c3) (s2 := s3) (by kernel_rfl) ?_)
  intro w7 hst hkeep
  replace Oa := hide (hst.rq Oa.out)
  replace O3 := hide (OwQ.box O3.out Bu.out hkeep)
  replace Ba := hide (hst.ne Ba.out (by first | exact neau | exact (Ne.symm neua)))
  replace Bu := hide hst.box
  replace hU := hU.trans (hst.bel hzu)
  clear hst hkeep
  refine wpl_r1 [(5, .int .i64 e0)] (by kernel_rfl) (wpl_end (then_normal (wp_ret (ret_boxe (z := e0) Bu.out rfl (by kernel_rfl) (by kernel_rfl) ?_))))
  refine ⟨l3, s3, A3, c3, hide ?_, rfl, C3, O3, hU⟩
  have h := E3.out
  by_cases q : e0 = 0
  · rw [if_pos q] at h ⊢
    rw [h, hvc, cats_rep, hM, rep_min hn hp (he0.trans q)]
  · rw [if_neg q] at h ⊢
    exact h
end
section
open Go Go.RowKit
set_option maxRecDepth 100000
set_option linter.unusedSimpArgs false
set_option linter.unusedVariables false
section
variable {P : Program} {ops : Array Oper} {Q : Exit → Act → World → Prop} {W w : World} {n fuel m k : Nat} {E E2 D : Env} {G : Nat → Nat → Env → World → Prop}
/-- A drawn region whose orders meet again: what is left to show, by what has been done. -/
theorem gen_anyR (h : ∀ G : Nat → Nat → Env → World → Prop, (∀ f m D w, G f m D w ↔ anyR P ops Q W n f m k (D ++ E) w) → G fuel m [] w) : anyR P ops Q W n fuel m k E w := h _ fun _ _ _ _ => Iff.rfl
theorem permG (hG : ∀ f m D w, G f m D w ↔ anyR P ops Q W n f m k (D ++ E) w) (hp : sl k E2 = sl k (D ++ E)) (h : G fuel m D w) : anyR P ops Q W n fuel m k E2 w := by
  have h2 := (hG _ _ _ _).1 h
  unfold anyR anyE at h2 ⊢
  rw [hp]
  exact h2
end
section
variable {e : Int} {l l' : List Int} {s s' : Bool} {v : Vc}
theorem eq_E (h : if e = 0 then (⟨l, s⟩ : Vc) = v else l = [] ∧ s = false) (k : if e = 0 then (⟨l', s'⟩ : Vc) = v else l' = [] ∧ s' = false) : (⟨l, s⟩ : Vc) = ⟨l', s'⟩ := by
  by_cases h0 : e = 0
  · rw [if_pos h0] at h k
    rw [h, k]
  · rw [if_neg h0] at h k
    rw [h.1, h.2, k.1, k.2]
theorem len_E (h : if e = 0 then (⟨l, s⟩ : Vc) = v else l = [] ∧ s = false) (g : e = 0 → v.b.length ≤ 4096) : l.length ≤ 4096 := by
  by_cases h0 : e = 0
  · rw [if_pos h0] at h
    rw [show l = v.b from congrArg Vc.b h]
    exact g h0
  · rw [if_neg h0] at h
    rw [h.1]
    exact Nat.zero_le _
end
theorem wid_0 {m : Int} (h : (if 1 ≤ m ∧ m ≤ 128 then (0 : Int) else 12) = 0) : m.toNat ≤ 4096 := by
  by_cases q : 1 ≤ m ∧ m ≤ 128
  · omega
  · rw [if_neg q] at h; cases h
theorem wid_2 (n : Int) : (if 1 ≤ n ∧ n ≤ 128 then (0 : Int) else 12) = 0 ∨ (if 1 ≤ n ∧ n ≤ 128 then (0 : Int) else 12) = 12 := by split <;> simp
theorem cte_le {l : List Vc} (h : cte l = 0) : (cats l).length ≤ 4096 := by
  unfold cte at h
  by_cases q : l = []
  · subst q; exact Nat.zero_le _
  · rw [if_neg q] at h
    by_cases q2 : 128 < (cats l).length
    · rw [if_pos q2] at h; cases h
    · omega
theorem cte_02 (v : Vc) (l : List Vc) : cte (v :: l) = 0 ∨ cte (v :: l) = 12 := by unfold cte; rw [if_neg (by simp)]; split <;> simp
theorem rpe_le {n : Int} {L : Nat} (hL : 0 < L) (h : rpe n L = 0) : L * n.toNat ≤ 4096 := by
  unfold rpe at h
  have h1 : ¬ n < 1 := fun q => by rw [if_pos q] at h; cases h
  rw [if_neg h1] at h
  have q : ¬ ((128 : Int) / L < n) := fun q => by rw [if_pos q] at h; cases h
  have q2 : n.toNat ≤ 128 / L := by
    have e : ((128 / L : Nat) : Int) = 128 / (L : Int) := by simp
    omega
  have q3 := Nat.mul_le_mul_left L q2
  have q4 := Nat.mul_div_le 128 L
  omega
theorem rpe_02 (n : Int) (m : Nat) : rpe n m = 0 ∨ rpe n m = 1 ∨ rpe n m = 12 := by unfold rpe; split; simp; split <;> simp
theorem spn_le {hi lo : Int} (h : spn hi lo = 0) : (hi - lo + 1).toNat ≤ 4096 := by have := spn_0.1 h; omega
theorem spn_02 (hi lo : Int) : spn hi lo = 0 ∨ spn hi lo = 1 ∨ spn hi lo = 12 := by unfold spn; split; simp; split <;> simp
theorem put_le {a b : Vc} (ya : By a.b) (hi lo : Int) : (vPut a b hi lo).b.length ≤ 4096 := by
  unfold vPut
  dsimp only
  rw [ql_length]
  exact Nat.le_trans (cnt_gd ya).le (by decide)
section
variable (A B : Option Addr) (a b : List Int) (c d : Nat) (s t : Bool) (w : World)
theorem fromint_w (z y n : Int) (h1 : -9223372036854775808 ≤ y) (h2 : y ≤ 9223372036854775807) (h : (if 1 ≤ n ∧ n ≤ 128 then (0 : Int) else 12) = z) :
    Calls Tryz.prog 19 #[.int .i64 y, .int .i64 n, .bool s] w (RetE z ⟨fb (vz n.toNat y), s⟩ w) := by rw [← h]; exact vFromInt_any y n s w h1 h2
theorem rfromint_w (z y n : Int) (h1 : -9223372036854775808 ≤ y) (h2 : y ≤ 9223372036854775807) (h : (if 1 ≤ n ∧ n ≤ 128 then (0 : Int) else 12) = z) :
    Calls Tryz.prog 20 #[.int .i64 y, .int .i64 n, .bool s] w (RetE z ⟨fb (vz n.toNat y), s⟩ w) := by rw [← h]; exact rfromint_any y n s w h1 h2
theorem unknown_w (z n : Int) (h : (if 1 ≤ n ∧ n ≤ 128 then (0 : Int) else 12) = z) :
    Calls Tryz.prog 21 #[.int .i64 n, .bool s] w (RetE z (xs n.toNat s) w) := by rw [← h]; exact vUnknown_any n s w
theorem runknown_w (z n : Int) (h : (if 1 ≤ n ∧ n ≤ 128 then (0 : Int) else 12) = z) :
    Calls Tryz.prog 22 #[.int .i64 n, .bool s] w (RetE z (xs n.toNat s) w) := by rw [← h]; exact runknown_any n s w
theorem resize_w (z n : Int) (ha : a.length ≤ 4096) (hca : Hid (a.length ≤ c ∧ c ≤ maxLen)) (hA : RQ w A a) (ya : By a) (h : (if 1 ≤ n ∧ n ≤ 128 then (0 : Int) else 12) = z) :
    Calls Tryz.prog 23 #[.agg #[.slice A a.length c, .bool s], .int .i64 n] w (RetE z ⟨rsz (cnt ⟨a, s⟩) n.toNat, (cnt ⟨a, s⟩).s⟩ w) := by rw [← h]; exact vResize_any n A a c s w ha hca hA ya
theorem rresize_w (z n : Int) (ha : a.length ≤ 4096) (hca : Hid (a.length ≤ c ∧ c ≤ maxLen)) (hA : RQ w A a) (ya : By a) (h : (if 1 ≤ n ∧ n ≤ 128 then (0 : Int) else 12) = z) :
    Calls Tryz.prog 24 #[.agg #[.slice A a.length c, .bool s], .int .i64 n] w (RetE z ⟨rsz (cnt ⟨a, s⟩) n.toNat, (cnt ⟨a, s⟩).s⟩ w) := by rw [← h]; exact rresize_any n A a c s w ha hca hA ya
theorem repeat_w (z n : Int) (ha : a.length ≤ 4096) (hca : Hid (a.length ≤ c ∧ c ≤ maxLen)) (hA : RQ w A a) (ya : By a) (h : rpe n (cnt ⟨a, s⟩).b.length = z) :
    Calls Tryz.prog 27 #[.agg #[.slice A a.length c, .bool s], .int .i64 n] w (RetE z ⟨ql ((cnt ⟨a, s⟩).b.length * n.toNat) fun i => qt (cnt ⟨a, s⟩).b (i % (cnt ⟨a, s⟩).b.length), false⟩ w) := by rw [← h]; exact vRepeat_any n A a c s w ha hca hA ya
theorem slice_w (z hi lo : Int) (ha : a.length ≤ 4096) (hca : Hid (a.length ≤ c ∧ c ≤ maxLen)) (hA : RQ w A a) (ya : By a) (b1 : -9223372036854775808 ≤ lo) (b2 : hi ≤ 9223372036854775807) (b3 : -9223372036854775808 ≤ hi) (b4 : lo ≤ 9223372036854775807) (h : spn hi lo = z) :
    Calls Tryz.prog 29 #[.agg #[.slice A a.length c, .bool s], .int .i64 hi, .int .i64 lo] w (RetE z ⟨wdw (cnt ⟨a, s⟩).b lo (hi - lo + 1).toNat 2, false⟩ w) := by rw [← h]; exact vSlice_any hi lo A a c s w ha hca hA ya b1 b2 b3 b4
theorem rslice_w (z hi lo : Int) (ha : a.length ≤ 4096) (hca : Hid (a.length ≤ c ∧ c ≤ maxLen)) (hA : RQ w A a) (ya : By a) (b1 : -9223372036854775808 ≤ lo) (b2 : hi ≤ 9223372036854775807) (b3 : -9223372036854775808 ≤ hi) (b4 : lo ≤ 9223372036854775807) (h : spn hi lo = z) :
    Calls Tryz.prog 30 #[.agg #[.slice A a.length c, .bool s], .int .i64 hi, .int .i64 lo] w (RetE z ⟨wdw (cnt ⟨a, s⟩).b lo (hi - lo + 1).toNat 2, false⟩ w) := by rw [← h]; exact rslice_any hi lo A a c s w ha hca hA ya b1 b2 b3 b4
theorem put_w (z hi lo : Int) (ha : a.length ≤ 4096) (hb : b.length ≤ 4096) (hca : Hid (a.length ≤ c ∧ c ≤ maxLen)) (hcb : Hid (b.length ≤ d ∧ d ≤ maxLen)) (hA : RQ w A a) (hB : RQ w B b) (ya : By a) (yb : By b) (b1 : -9223372036854775808 ≤ lo) (b2 : hi ≤ 9223372036854775807) (b3 : -9223372036854775808 ≤ hi) (b4 : lo ≤ 9223372036854775807) (h : spn hi lo = z) :
    Calls Tryz.prog 31 #[.agg #[.slice A a.length c, .bool s], .int .i64 hi, .int .i64 lo, .agg #[.slice B b.length d, .bool t]] w (RetE z (vPut ⟨a, s⟩ ⟨b, t⟩ hi lo) w) := by rw [← h]; exact vPut_any hi lo A B a b c d s t w ha hb hca hcb hA hB ya yb b1 b2 b3 b4
theorem rput_w (z hi lo : Int) (ha : a.length ≤ 4096) (hb : b.length ≤ 4096) (hca : Hid (a.length ≤ c ∧ c ≤ maxLen)) (hcb : Hid (b.length ≤ d ∧ d ≤ maxLen)) (hA : RQ w A a) (hB : RQ w B b) (ya : By a) (yb : By b) (b1 : -9223372036854775808 ≤ lo) (b2 : hi ≤ 9223372036854775807) (b3 : -9223372036854775808 ≤ hi) (b4 : lo ≤ 9223372036854775807) (h : spn hi lo = z) :
    Calls Tryz.prog 32 #[.agg #[.slice A a.length c, .bool s], .int .i64 hi, .int .i64 lo, .agg #[.slice B b.length d, .bool t]] w (RetE z (vPut ⟨a, s⟩ ⟨b, t⟩ hi lo) w) := by rw [← h]; exact rput_any hi lo A a c s B b d t w ha hb hca hcb hA hB ya yb b1 b2 b3 b4
end
theorem concat_w (z : Int) (g c : Nat) (vs : List Va) (w : World) (hg : g < w.heap.size) (h0 : 0 < vs.length) (hn : vs.length ≤ 4096) (hv : Vrow w g vs) (he : cte (vcs vs) = z) :
    Calls Tryz.prog 25 #[.slice (some ⟨g, 0, none⟩) vs.length c] w (RetE z ⟨cats (vcs vs), false⟩ w) := by
  rw [← he]; exact vConcat_any g c vs w hg h0 hn hv
theorem qls_of {B B' g : Nat} {w : World} {A : Option Addr} {l : List Int} {c : Nat} {s : Bool} {T : TypeId} {L : List Value} {u : Value} (h : OwQ B' w A l) (hB : B ≤ B') (a : Arr g T L w) (hu : L[0]? = some u) (hn : ∀ z, u ≠ .int .u8 z) : Qls B g w (A, l.length, c, s) := fun h0 => by
  obtain ⟨gi, e, hg, hr⟩ := h h0
  refine ⟨gi, qt l, e, Nat.le_trans hB hg, ?_, hr⟩
  intro q
  subst q
  have h1 := hr.cell h0
  rw [a.cell hu] at h1
  injection h1 with h1
  exact hn _ h1
section
variable {x0 x1 x2 x3 x4 x5 x6 x7 : Option Addr × Nat × Nat × Bool}
theorem le8 (h0 : x0.2.1 ≤ 4096) (h1 : x1.2.1 ≤ 4096) (h2 : x2.2.1 ≤ 4096) (h3 : x3.2.1 ≤ 4096) (h4 : x4.2.1 ≤ 4096) (h5 : x5.2.1 ≤ 4096) (h6 : x6.2.1 ≤ 4096) (h7 : x7.2.1 ≤ 4096) :
    ∀ i (h : i < [x0, x1, x2, x3, x4, x5, x6, x7].length), [x0, x1, x2, x3, x4, x5, x6, x7][i].2.1 ≤ 4096 := fun i h => by
  rcases i with _ | _ | _ | _ | _ | _ | _ | _ | i
  · exact h0
  · exact h1
  · exact h2
  · exact h3
  · exact h4
  · exact h5
  · exact h6
  · exact h7
  · exact absurd h (by simp)
theorem spq8 {B g : Nat} {w : World} {T : TypeId} (a : Arr g T [.slice x0.1 x0.2.1 x0.2.2.1, .bool x0.2.2.2, .slice x1.1 x1.2.1 x1.2.2.1, .bool x1.2.2.2, .slice x2.1 x2.2.1 x2.2.2.1, .bool x2.2.2.2, .slice x3.1 x3.2.1 x3.2.2.1, .bool x3.2.2.2, .slice x4.1 x4.2.1 x4.2.2.1, .bool x4.2.2.2, .slice x5.1 x5.2.1 x5.2.2.1, .bool x5.2.2.2, .slice x6.1 x6.2.1 x6.2.2.1, .bool x6.2.2.2, .slice x7.1 x7.2.1 x7.2.2.1, .bool x7.2.2.2] w)
    (h0 : Qls B g w x0) (h1 : Qls B g w x1) (h2 : Qls B g w x2) (h3 : Qls B g w x3) (h4 : Qls B g w x4) (h5 : Qls B g w x5) (h6 : Qls B g w x6) (h7 : Qls B g w x7) : SpQ B g [x0, x1, x2, x3, x4, x5, x6, x7] w w where
  sls := fun i hi => by
    rcases i with _ | _ | _ | _ | _ | _ | _ | _ | i
    · exact a.cell rfl
    · exact a.cell rfl
    · exact a.cell rfl
    · exact a.cell rfl
    · exact a.cell rfl
    · exact a.cell rfl
    · exact a.cell rfl
    · exact a.cell rfl
    · exact absurd hi (by simp)
  bls := fun i hi => by
    rcases i with _ | _ | _ | _ | _ | _ | _ | _ | i
    · exact h0
    · exact h1
    · exact h2
    · exact h3
    · exact h4
    · exact h5
    · exact h6
    · exact h7
    · exact absurd hi (by simp)
  bel := Below.refl _ _
end
end
end Go.Proofs.YtbcpeagannjgpaaGreatDoor
