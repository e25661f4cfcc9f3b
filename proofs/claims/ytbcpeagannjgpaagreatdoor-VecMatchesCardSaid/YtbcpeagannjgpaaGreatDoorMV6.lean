/-
  Texts of MV joined (VecRF, VecRD, VecRG, VecRH, VecN, VecMN).
-/
import Derived.Test.YtbcpeagannjgpaaGreatDoorMV5
set_option linter.unusedVariables false
set_option linter.unusedSimpArgs false
set_option linter.unusedSectionVars false
namespace Go.Proofs.YtbcpeagannjgpaaGreatDoor
section
open Go.RowKit
set_option maxRecDepth 100000
set_option linter.unusedSimpArgs false
set_option linter.unusedVariables false
set_option maxHeartbeats 16000000 in
theorem rpower_any (Aa : Option Addr) (la : List Int) (ca : Nat) (sa : Bool) (Ab : Option Addr) (lb : List Int) (cb : Nat) (sb : Bool) (w : World) (ha : la.length ≤ 4096) (hb : lb.length ≤ 4096) (hca : Hid (la.length ≤ ca ∧ ca ≤ maxLen)) (hcb : Hid (lb.length ≤ cb ∧ cb ≤ maxLen)) (hra : RQ w Aa la) (hrb : RQ w Ab lb) (ya : By la) (yb : By lb) :
    Calls Tryz.prog 84 #[.agg #[.slice Aa la.length ca, .bool sa], .agg #[.slice Ab lb.length cb, .bool sb]] w (RetC (· = vPow ⟨la, sa⟩ ⟨lb, sb⟩) w) := by
  have Oa := hide hra
  have La := hide ha
  have Ca := hca
  have Ya := hide ya
  have Ob := hide hrb
  have Lb := hide hb
  have Cb := hcb
  have Yb := hide yb
  clear ha hca hra ya hb hcb hrb yb
  have hU : Below w.heap.size w w := Below.refl _ _
  refine calls_sl (l := [.agg #[.slice Aa la.length ca, .bool sa], .agg #[.slice Ab lb.length cb, .bool sb]]) 79 Tryz.func84 rfl kr (by simp) (wp_seq (reg_lit (wpl_boxvec (A := Aa) (m := la.length) (c := ca) (s := sa) rfl kr rfl kr ?_)))
  intro w1 Na Ba hNa hb
  replace Ba := hide Ba
  replace Oa := kQ Oa hb
  replace Ob := kQ Ob hb
  have hza : w.heap.size ≤ Na := Nat.le_trans hU.size hNa
  clear hNa
  replace hU := kU hU hb
  clear hb
  refine wpl_boxvec (A := Ab) (m := lb.length) (c := cb) (s := sb) rfl kr rfl kr ?_
  intro w2 Nb Bb hNb hb
  replace Bb := hide Bb
  have neab : Na ≠ Nb := by have := Ba.out.lt; omega
  replace Oa := kQ Oa hb
  replace Ob := kQ Ob hb
  replace Ba := kB Ba hb
  have hzb : w.heap.size ≤ Nb := Nat.le_trans hU.size hNb
  clear hNb
  replace hU := kU hU hb
  clear hb
  refine wpl_al rfl kr rfl ?_
  intro w3 Nu Bu hNu hb
  replace Bu := hide Bu
  have neau : Na ≠ Nu := by have := Ba.out.lt; omega
  have nebu : Nb ≠ Nu := by have := Bb.out.lt; omega
  replace Oa := kQ Oa hb
  replace Ob := kQ Ob hb
  replace Ba := kB Ba hb
  replace Bb := kB Bb hb
  have hzu : w.heap.size ≤ Nu := Nat.le_trans hU.size hNu
  clear hNu
  replace hU := kU hU hb
  clear hb
  refine wpl_end (then_normal (wp_seq (region_R (n := 4) (N := 6) kr kr kr kr kr kr (fun _ _ _ _ _ h => h) ?_)))
  intro F hQ
  have Ba0 := Ba
  have Bb0 := Bb
  have Bu0 := Bu
  refine anyR_ldvec (i := 0) (m' := 1) Ba0.out F hQ rfl rfl kr kr kr kr kr rfl kr (anyR_ldvec (i := 2) (m' := 5) Bb0.out F hQ rfl rfl kr kr kr kr kr rfl kr ?_)
  refine anyR_call (i := 1) (m' := 7) rfl rfl kr kr kr kr kr ((rnorm_any' Aa la ca sa _ La.out Ca (by exact Oa.out) Ya.out).mono ?_)
  rintro e w4 ⟨l1, s1, A1, c1, E1, rfl, C1, O1, hb⟩
  refine ⟨_, rfl, hb, ?_⟩
  have k0 : w.heap.size ≤ w3.heap.size := hU.size
  replace hb : Below w3.heap.size w3 w4 := Below.trans ((Below.refl _ _).drew) hb
  replace Oa := kQ Oa hb
  replace Ob := kQ Ob hb
  replace Ba := kB Ba hb
  replace Bb := kB Bb hb
  replace Bu := kB Bu hb
  replace hU := kU hU hb
  clear hb
  have G1 : Gd l1 := by have h := congrArg Vc.b E1.out; dsimp only at h; rw [h]; exact (cnt_gd (v := ⟨la, sa⟩) Ya.out)
  have L1 := hide (show l1.length ≤ 4096 from Nat.le_trans G1.le (by decide))
  have Y1 := hide G1.by_
  clear G1
  replace O1 := hide (OwQ.base O1.out k0)
  clear k0
  have HG1 := hide (show Gd l1 by have h := congrArg Vc.b E1.out; dsimp only at h; rw [h]; exact cnt_gd (v := ⟨la, sa⟩) Ya.out)
  refine anyR_call (i := 3) (m' := 15) rfl rfl kr kr kr kr kr ((rnorm_any' Ab lb cb sb _ Lb.out Cb Ob.out Yb.out).mono ?_)
  rintro e w5 ⟨l2, s2, A2, c2, E2, rfl, C2, O2, hb⟩
  refine ⟨_, rfl, hb, ?_⟩
  replace Oa := kQ Oa hb
  replace Ob := kQ Ob hb
  replace O1 := kO O1 hb
  replace Ba := kB Ba hb
  replace Bb := kB Bb hb
  replace Bu := kB Bu hb
  replace O2 := hide O2.out.rd
  replace hU := kU hU hb
  clear hb
  have G2 : Gd l2 := by have h := congrArg Vc.b E2.out; dsimp only at h; rw [h]; exact (cnt_gd (v := ⟨lb, sb⟩) Yb.out)
  have L2 := hide (show l2.length ≤ 4096 from Nat.le_trans G2.le (by decide))
  have Y2 := hide G2.by_
  clear G2
  have HG2 := hide (show Gd l2 by have h := congrArg Vc.b E2.out; dsimp only at h; rw [h]; exact cnt_gd (v := ⟨lb, sb⟩) Yb.out)
  refine anyR_e (anyE_stq (i := 4) (m' := 31) Ba.out rfl rfl kr kr kr kr rfl kr (A2 := A1) (m2 := l1.length) (c2 := c1) (s2 := s1) kr ?_)
  intro w6 hst hkeep
  replace Oa := kS hst Oa
  replace Ob := kS hst Ob
  replace O1 := hide (OwQ.box O1.out Ba.out hkeep)
  replace O2 := kS hst O2
  replace Bb := hide (hst.ne Bb.out nq)
  replace Bu := hide (hst.ne Bu.out nq)
  replace Ba := hide hst.box
  replace hU := hU.trans (hst.bel hza)
  clear hst hkeep
  refine anyE_stq (i := 5) (m' := 63) Bb.out rfl rfl kr kr kr kr rfl kr (A2 := A2) (m2 := l2.length) (c2 := c2) (s2 := s2) kr ?_
  intro w7 hst hkeep
  replace Oa := kS hst Oa
  replace Ob := kS hst Ob
  replace O1 := hide (OwQ.box O1.out Bb.out hkeep)
  replace O2 := kS hst O2
  replace Ba := hide (hst.ne Ba.out nq)
  replace Bu := hide (hst.ne Bu.out nq)
  replace Bb := hide hst.box
  replace hU := hU.trans (hst.bel hzb)
  clear hst hkeep
  refine anyE_done kr ?_
  clear F hQ Ba0 Bb0 Bu0
  refine then_normal (wp_seq (wp_seq ?_))
  have hc1 : cnt ⟨la, sa⟩ = ⟨l1, s1⟩ := E1.out.symm
  have hc2 : cnt ⟨lb, sb⟩ = ⟨l2, s2⟩ := E2.out.symm
  have b1 := HG1.out.le
  have p1 := HG1.out.pos
  have b2 := HG2.out.le
  have p2 := HG2.out.pos
  clear Oa Ca La Ya
  clear Ob Cb Lb Yb
  cases hk1 : kn l1
  refine reg_lit (wpl_ldvec Ba.out rfl kr rfl kr ?_)
  refine wpl_call rfl kr kr ((known_w false A1 l1 c1 s1 _ L1.out C1 O1.out.rd Y1.out HG1.out hk1).mono ?_)
  rintro e w8 ⟨rfl, hb⟩
  refine ⟨_, rfl, ?_⟩
  replace O1 := kO O1 hb
  replace O2 := kQ O2 hb
  replace Ba := kB Ba hb
  replace Bb := kB Bb hb
  replace Bu := kB Bu hb
  replace hU := kU hU hb
  clear hb
  refine wpl_r6 [(19, .bool true), (18, undef), (17, undef), (16, undef), (15, .bool true), (14, .bool true)] kr (wpl_end (then_normal (wp_ift kr (wp_seq (reg_lit (wpl_r1 [(20, .pointer (some ⟨Na, 0, none⟩))] kr (wpl_ldsl Ba.out rfl kr rfl kr ?_)))))))
  refine wpl_r2 [(23, .pointer (some ⟨Na, 1, none⟩)), (22, .int .i64 ((l1.length : Nat)))] kr (wpl_ldsg Ba.out rfl kr rfl kr ?_)
  refine wpl_call rfl kr kr ((rfill_any 2 l1.length s1 _ (by omega)).mono ?_)
  rintro e w9 ⟨lv, sv, Av, cv, Ev, rfl, Cv, Ov, hb⟩
  refine ⟨_, rfl, ?_⟩
  have k0 : w.heap.size ≤ w8.heap.size := hU.size
  replace O1 := kO O1 hb
  replace O2 := kQ O2 hb
  replace Ba := kB Ba hb
  replace Bb := kB Bb hb
  replace Bu := kB Bu hb
  replace hU := kU hU hb
  clear hb
  have Gv : Gd lv := by have h := congrArg Vc.b Ev.out; dsimp only at h; rw [h]; exact (gd_xs (n := l1.length) (s := s1) (by omega) (by omega))
  have Lv := hide (show lv.length ≤ 4096 from Nat.le_trans Gv.le (by decide))
  have Yv := hide Gv.by_
  clear Gv
  replace Ov := hide (OwQ.base Ov.out k0)
  clear k0
  refine wpl_stk Bu.out rfl kr rfl kr (A2 := Av) (m2 := lv.length) (c2 := cv) (s2 := sv) kr ?_
  intro w10 hst hkeep
  replace O1 := hide (OwQ.box O1.out Bu.out hkeep)
  replace O2 := kS hst O2
  replace Ov := hide (OwQ.box Ov.out Bu.out hkeep)
  replace Ba := hide (hst.ne Ba.out nq)
  replace Bb := hide (hst.ne Bb.out nq)
  replace Bu := hide hst.box
  replace hU := hU.trans (hst.bel hzu)
  clear hst hkeep
  refine wpl_end (then_normal (wp_ret (ret_box Bu.out rfl kr ?_)))
  exact ⟨lv, sv, Av, cv, hide (by show _ = vPow _ _; rw [vPow_a hc1 hc2 hk1]; exact Ev.out), rfl, Cv, Ov, hU⟩
  cases hk2 : kn l2
  refine reg_lit (wpl_ldvec Ba.out rfl kr rfl kr ?_)
  refine wpl_call rfl kr kr ((known_w true A1 l1 c1 s1 _ L1.out C1 O1.out.rd Y1.out HG1.out hk1).mono ?_)
  rintro e w11 ⟨rfl, hb⟩
  refine ⟨_, rfl, ?_⟩
  replace O1 := kO O1 hb
  replace O2 := kQ O2 hb
  replace Ba := kB Ba hb
  replace Bb := kB Bb hb
  replace Bu := kB Bu hb
  replace hU := kU hU hb
  clear hb
  refine wpl_r2 [(15, .bool false), (14, .bool false)] kr (wpl_ldvec Bb.out rfl kr rfl kr ?_)
  refine wpl_call rfl kr kr ((known_w false A2 l2 c2 s2 _ L2.out C2 O2.out Y2.out HG2.out hk2).mono ?_)
  rintro e w12 ⟨rfl, hb⟩
  refine ⟨_, rfl, ?_⟩
  replace O1 := kO O1 hb
  replace O2 := kQ O2 hb
  replace Ba := kB Ba hb
  replace Bb := kB Bb hb
  replace Bu := kB Bu hb
  replace hU := kU hU hb
  clear hb
  refine wpl_r2 [(19, .bool true), (18, .bool true)] kr (wpl_end (then_normal (wp_ift kr (wp_seq (reg_lit (wpl_r1 [(20, .pointer (some ⟨Na, 0, none⟩))] kr (wpl_ldsl Ba.out rfl kr rfl kr ?_)))))))
  refine wpl_r2 [(23, .pointer (some ⟨Na, 1, none⟩)), (22, .int .i64 ((l1.length : Nat)))] kr (wpl_ldsg Ba.out rfl kr rfl kr ?_)
  refine wpl_call rfl kr kr ((rfill_any 2 l1.length s1 _ (by omega)).mono ?_)
  rintro e w13 ⟨lv, sv, Av, cv, Ev, rfl, Cv, Ov, hb⟩
  refine ⟨_, rfl, ?_⟩
  have k0 : w.heap.size ≤ w12.heap.size := hU.size
  replace O1 := kO O1 hb
  replace O2 := kQ O2 hb
  replace Ba := kB Ba hb
  replace Bb := kB Bb hb
  replace Bu := kB Bu hb
  replace hU := kU hU hb
  clear hb
  have Gv : Gd lv := by have h := congrArg Vc.b Ev.out; dsimp only at h; rw [h]; exact (gd_xs (n := l1.length) (s := s1) (by omega) (by omega))
  have Lv := hide (show lv.length ≤ 4096 from Nat.le_trans Gv.le (by decide))
  have Yv := hide Gv.by_
  clear Gv
  replace Ov := hide (OwQ.base Ov.out k0)
  clear k0
  refine wpl_stk Bu.out rfl kr rfl kr (A2 := Av) (m2 := lv.length) (c2 := cv) (s2 := sv) kr ?_
  intro w14 hst hkeep
  replace O1 := hide (OwQ.box O1.out Bu.out hkeep)
  replace O2 := kS hst O2
  replace Ov := hide (OwQ.box Ov.out Bu.out hkeep)
  replace Ba := hide (hst.ne Ba.out nq)
  replace Bb := hide (hst.ne Bb.out nq)
  replace Bu := hide hst.box
  replace hU := hU.trans (hst.bel hzu)
  clear hst hkeep
  refine wpl_end (then_normal (wp_ret (ret_box Bu.out rfl kr ?_)))
  exact ⟨lv, sv, Av, cv, hide (by show _ = vPow _ _; rw [vPow_b hc1 hc2 hk1 hk2]; exact Ev.out), rfl, Cv, Ov, hU⟩
  refine reg_lit (wpl_ldvec Ba.out rfl kr rfl kr ?_)
  refine wpl_call rfl kr kr ((known_w true A1 l1 c1 s1 _ L1.out C1 O1.out.rd Y1.out HG1.out hk1).mono ?_)
  rintro e w15 ⟨rfl, hb⟩
  refine ⟨_, rfl, ?_⟩
  replace O1 := kO O1 hb
  replace O2 := kQ O2 hb
  replace Ba := kB Ba hb
  replace Bb := kB Bb hb
  replace Bu := kB Bu hb
  replace hU := kU hU hb
  clear hb
  refine wpl_r2 [(15, .bool false), (14, .bool false)] kr (wpl_ldvec Bb.out rfl kr rfl kr ?_)
  refine wpl_call rfl kr kr ((known_w true A2 l2 c2 s2 _ L2.out C2 O2.out Y2.out HG2.out hk2).mono ?_)
  rintro e w16 ⟨rfl, hb⟩
  refine ⟨_, rfl, ?_⟩
  replace O1 := kO O1 hb
  replace O2 := kQ O2 hb
  replace Ba := kB Ba hb
  replace Bb := kB Bb hb
  replace Bu := kB Bu hb
  replace hU := kU hU hb
  clear hb
  refine wpl_r2 [(19, .bool false), (18, .bool false)] kr (wpl_end (then_normal (wp_iff kr (wp_skip (then_normal (wp_seq (region_R (n := 5) (N := 6) kr kr kr kr kr kr (fun _ _ _ _ _ h => h) ?_)))))))
  intro F hQ
  have Ba0 := Ba
  have Bb0 := Bb
  have Bu0 := Bu
  refine anyR_ldvec (i := 0) (m' := 1) Ba0.out F hQ rfl rfl kr kr kr kr kr rfl kr (anyR_ldvec (i := 2) (m' := 5) Bb0.out F hQ rfl rfl kr kr kr kr kr rfl kr ?_)
  refine anyR_call (i := 1) (m' := 7) rfl rfl kr kr kr kr kr ((rbools_any A1 l1 c1 s1 _ L1.out (by exact O1.out.rd)).mono ?_)
  rintro e w17 ⟨ka, Ka, ea, Ta, rfl, Ua, Ra, hb⟩
  refine ⟨_, rfl, hb, ?_⟩
  replace hb : Below w16.heap.size w16 w17 := Below.trans ((Below.refl _ _).drew) hb
  replace O1 := kO O1 hb
  replace O2 := kQ O2 hb
  replace Ba := kB Ba hb
  replace Bb := kB Bb hb
  replace Bu := kB Bu hb
  replace hU := kU hU hb
  clear hb
  replace Ra := hide Ra.out.rd
  refine anyR_call (i := 3) (m' := 15) rfl rfl kr kr kr kr kr ((rbools_any A2 l2 c2 s2 _ L2.out O2.out).mono ?_)
  rintro e w18 ⟨kb, Kb, eb, Tb, rfl, Ub, Rb, hb⟩
  refine ⟨_, rfl, hb, ?_⟩
  replace O1 := kO O1 hb
  replace O2 := kQ O2 hb
  replace Ba := kB Ba hb
  replace Bb := kB Bb hb
  replace Bu := kB Bu hb
  replace Ra := hide (Rd.kept Ra.out hb)
  replace hU := kU hU hb
  clear hb
  replace Rb := hide Rb.out.rd
  refine anyR_val (i := 4) (m' := 31) (v := .slice Ka ka.length ea) F hQ rfl rfl kr kr kr kr kr (fun _ _ => kr) (anyR_e (anyR_last (i := 5) (m' := 63) (v := .slice Kb kb.length eb) rfl rfl kr kr kr kr kr (anyE_done kr ?_)))
  clear F hQ Ba0 Bb0 Bu0
  refine then_normal (wp_seq (wp_seq ?_))
  have hla : ka.length = l1.length := by rw [Ta.out, nb_length]
  have hlb : kb.length = l2.length := by rw [Tb.out, nb_length]
  rcases Bool.eq_false_or_eq_true s2 with hs | hs
  have hxt := xt_neg HG2.out
  cases hng : ng kb
  refine reg_lit (wpl_r1 [(30, .pointer (some ⟨Nb, 1, none⟩))] kr (wpl_ldsg (s := true) (by rw [← hs]; exact Bb.out) rfl kr rfl kr (wpl_r3 [(34, .slice Kb kb.length eb), (33, .bool false), (32, .bool false)] kr ?_)))
  refine wpl_call rfl kr kr ((rneg_w false Kb kb eb _ hng (by omega) Rb.out).mono ?_)
  rintro e w19 ⟨rfl, hb⟩
  refine ⟨_, rfl, ?_⟩
  replace O1 := kO O1 hb
  replace O2 := kQ O2 hb
  replace Ba := kB Ba hb
  replace Bb := kB Bb hb
  replace Bu := kB Bu hb
  replace Ra := hide (Rd.kept Ra.out hb)
  replace Rb := hide (Rd.kept Rb.out hb)
  replace hU := kU hU hb
  clear hb
  refine wpl_r2 [(37, .bool true), (36, .bool true)] kr (wpl_end (then_normal (wp_ift kr (wp_seq (region_R (n := 6) (N := 7) kr kr kr kr kr kr (fun _ _ _ _ _ h => h) ?_)))))
  intro F hQ
  have Ba0 := Ba
  have Bb0 := Bb
  have Bu0 := Bu
  refine anyR_val (i := 0) (m' := 1) (v := .slice Ka ka.length ea) F hQ rfl rfl kr kr kr kr kr (fun _ _ => kr) (anyR_val (i := 1) (m' := 3) (v := .slice Kb kb.length eb) F hQ rfl rfl kr kr kr kr kr (fun _ _ => kr) (anyR_val (i := 3) (m' := 11) (v := .pointer (some ⟨Na, 1, none⟩)) F hQ rfl rfl kr kr kr kr kr (fun _ _ => kr) (anyR_ldsg (i := 4) (m' := 27) Ba0.out F hQ rfl rfl kr kr kr kr kr rfl kr ?_)))
  refine anyR_call (i := 2) (m' := 31) rfl rfl kr kr kr kr kr ((rpow_any Ka Kb ka kb ea eb _ (by omega) (by omega) (by exact Ra.out) (by exact Rb.out)).mono ?_)
  rintro e w20 ⟨kp_, Kp_, ep_, Tp_, rfl, Up_, Rp_, hb⟩
  refine ⟨_, rfl, hb, ?_⟩
  replace hb : Below w19.heap.size w19 w20 := Below.trans ((Below.refl _ _).drew) hb
  replace O1 := kO O1 hb
  replace O2 := kQ O2 hb
  replace Ba := kB Ba hb
  replace Bb := kB Bb hb
  replace Bu := kB Bu hb
  replace Ra := hide (Rd.kept Ra.out hb)
  replace Rb := hide (Rd.kept Rb.out hb)
  replace hU := kU hU hb
  clear hb
  replace Rp_ := hide Rp_.out.rd
  have hlp : kp_.length = l1.length := by rw [Tp_.out, vz_length, hla]
  refine anyR_call (i := 5) (m' := 63) rfl rfl kr kr kr kr kr ((rfromb_any Kp_ kp_ ep_ s1 _ (by omega) Rp_.out).mono ?_)
  rintro e w21 ⟨lv, sv, Av, cv, Ev, rfl, Cv, Ov, hb⟩
  refine ⟨_, rfl, hb, ?_⟩
  have k0 : w.heap.size ≤ w20.heap.size := hU.size
  replace O1 := kO O1 hb
  replace O2 := kQ O2 hb
  replace Ba := kB Ba hb
  replace Bb := kB Bb hb
  replace Bu := kB Bu hb
  replace Ra := hide (Rd.kept Ra.out hb)
  replace Rb := hide (Rd.kept Rb.out hb)
  replace Rp_ := hide (Rd.kept Rp_.out hb)
  replace hU := kU hU hb
  clear hb
  have Gv : Gd lv := by have h := congrArg Vc.b Ev.out; dsimp only at h; rw [h]; exact (gd_fb (n := kp_) (by omega) (by omega))
  have Lv := hide (show lv.length ≤ 4096 from Nat.le_trans Gv.le (by decide))
  have Yv := hide Gv.by_
  clear Gv
  replace Ov := hide (OwQ.base Ov.out k0)
  clear k0
  refine anyR_e (anyE_stq (i := 6) (m' := 127) Bu.out rfl rfl kr kr kr kr rfl kr (A2 := Av) (m2 := lv.length) (c2 := cv) (s2 := sv) kr ?_)
  intro w22 hst hkeep
  replace O1 := hide (OwQ.box O1.out Bu.out hkeep)
  replace O2 := kS hst O2
  replace Ov := hide (OwQ.box Ov.out Bu.out hkeep)
  replace Ba := hide (hst.ne Ba.out nq)
  replace Bb := hide (hst.ne Bb.out nq)
  replace Bu := hide hst.box
  replace hU := hU.trans (hst.bel hzu)
  clear hst hkeep
  refine anyE_done kr ?_
  clear F hQ Ba0 Bb0 Bu0
  refine then_normal (wp_ret (ret_box Bu.out rfl kr ?_))
  exact ⟨lv, sv, Av, cv, hide (by show _ = vPow _ _; rw [vPow_pos hc1 hc2 hk1 hk2 (by rw [hs, hxt, ← Tb.out, hng]; rfl), Ev.out, Tp_.out, Ta.out, Tb.out, nb_length]), rfl, Cv, Ov, hU⟩
  have hn : (s2 && decide (xt ⟨l2, s2⟩ = 1)) = true := by rw [hs, hxt, ← Tb.out, hng]; rfl
  clear hxt
  refine reg_lit (wpl_r1 [(30, .pointer (some ⟨Nb, 1, none⟩))] kr (wpl_ldsg (s := true) (by rw [← hs]; exact Bb.out) rfl kr rfl kr (wpl_r3 [(34, .slice Kb kb.length eb), (33, .bool false), (32, .bool false)] kr ?_)))
  refine wpl_call rfl kr kr ((rneg_w true Kb kb eb _ hng (by omega) Rb.out).mono ?_)
  rintro e w23 ⟨rfl, hb⟩
  refine ⟨_, rfl, ?_⟩
  replace O1 := kO O1 hb
  replace O2 := kQ O2 hb
  replace Ba := kB Ba hb
  replace Bb := kB Bb hb
  replace Bu := kB Bu hb
  replace Ra := hide (Rd.kept Ra.out hb)
  replace Rb := hide (Rd.kept Rb.out hb)
  replace hU := kU hU hb
  clear hb
  refine wpl_r2 [(37, .bool false), (36, .bool false)] kr (wpl_end (then_normal (wp_iff kr (wp_skip (then_normal (wp_seq (reg_lit ?_)))))))
  refine wpl_r2 [(7, .slice Ka ka.length ea), (44, .slice Ka ka.length ea)] kr (wpl_end (then_normal (wp_seq ?_)))
  refine wp_cutK (α := List Bool × Option Addr × Nat) (fun (kz, Kz, ez) => [(7, .slice Kz kz.length ez), (2, .pointer (some ⟨Na, 0, none⟩)), (3, .pointer (some ⟨Nb, 0, none⟩)), (4, .pointer (some ⟨Nu, 0, none⟩)), (5, .slice Ka ka.length ea), (6, .slice Kb kb.length eb)]) (fun (kz, Kz, ez) W => Below w.heap.size w W ∧ Hid (OwQ w.heap.size W A1 l1) ∧ Hid (RQ W A2 l2) ∧ Hid (Box Na A1 l1.length c1 s1 W) ∧ Hid (Box Nb A2 l2.length c2 s2 W) ∧ Hid (Box Nu none 0 0 false W) ∧ Hid (Rd W Ka ka) ∧ Hid (Rd W Kb kb) ∧ Hid (Rd W Kz kz) ∧ Hid (kz.length ≤ ez ∧ ez ≤ maxLen) ∧ kz.length ≤ 200 ∧ nv kz = (vl l1 s1).natAbs) ?_ ?_
  refine wp_seq ?_
  rcases Bool.eq_false_or_eq_true s1 with hs1 | hs1
  refine reg_lit (wpl_r1 [(45, .pointer (some ⟨Na, 1, none⟩))] kr (wpl_ldsg (s := true) (by rw [← hs1]; exact Ba.out) rfl kr rfl kr (wpl_end (then_normal (wp_ift kr (reg_lit (wpl_r1 [(47, .slice Ka ka.length ea)] kr ?_)))))))
  refine wpl_call rfl kr kr ((size_any Ka ka ea _ (by omega) Ua Ra.out).mono ?_)
  rintro e w24 ⟨kz, Kz, ez, Tz, rfl, Uz, Rz, hb⟩
  refine ⟨_, rfl, ?_⟩
  replace O1 := kO O1 hb
  replace O2 := kQ O2 hb
  replace Ba := kB Ba hb
  replace Bb := kB Bb hb
  replace Bu := kB Bu hb
  replace Ra := hide (Rd.kept Ra.out hb)
  replace Rb := hide (Rd.kept Rb.out hb)
  replace hU := kU hU hb
  clear hb
  replace Rz := hide Rz.out.rd
  refine wpl_r1 [(7, .slice Kz kz.length ez)] kr (wpl_end ?_)
  refine then_normal ⟨(kz, Kz, ez), _, rfl, Kp_c kr (Kp_c kr (Kp_c kr (Kp_c kr (Kp_c kr (Kp_c kr (Kp_n)))))), ?_⟩
  exact ⟨hU, O1, O2, Ba, Bb, Bu, Ra, Rb, Rz, Uz, (by have := Tz.out.2; omega), (by rw [Tz.out.1, Ta.out, hs1]; rfl)⟩
  refine reg_lit (wpl_r1 [(45, .pointer (some ⟨Na, 1, none⟩))] kr (wpl_ldsg (s := false) (by rw [← hs1]; exact Ba.out) rfl kr rfl kr (wpl_end (then_normal (wp_iff kr (wp_skip ?_))))))
  refine then_normal ⟨(ka, Ka, ea), _, rfl, Kp_c kr (Kp_c kr (Kp_c kr (Kp_c kr (Kp_c kr (Kp_c kr (Kp_n)))))), ?_⟩
  exact ⟨hU, O1, O2, Ba, Bb, Bu, Ra, Rb, Ra, Ua, (by omega), (by rw [Ta.out, hs1]; rfl)⟩
  rintro ⟨kz, Kz, ez⟩ X25 w25 h
  dsimp only at h ⊢
  clear hU O1 O2 Ba Bb Bu
  obtain ⟨hU, O1, O2, Ba, Bb, Bu, Ra, Rb, Rz, Uz, hlz, hvz⟩ := h
  refine then_normal (wp_seq (wp_seq ?_))
  rcases (show nv kz = 0 ∨ nv kz = 1 ∨ 1 < nv kz by omega) with hz | hz | hz
  have hc0 : cmp (nv kz) (nv ([] : List Bool)) = 0 := cmp_eq_zero.2 (by rw [hz]; rfl)
  refine reg_lit (wpl_r1 [(49, .slice Kz kz.length ez)] kr ?_)
  refine wpl_call rfl kr kr ((cmp_w2 0 Kz none kz [] ez 0 _ hc0 (by omega) (by simp) Uz (hide ⟨Nat.le_refl _, by simp [maxLen]⟩) Rz.out (rd_none _)).mono ?_)
  rintro e w26 ⟨rfl, hb⟩
  refine ⟨_, rfl, ?_⟩
  replace O1 := kO O1 hb
  replace O2 := kQ O2 hb
  replace Ba := kB Ba hb
  replace Bb := kB Bb hb
  replace Bu := kB Bu hb
  replace Ra := hide (Rd.kept Ra.out hb)
  replace Rb := hide (Rd.kept Rb.out hb)
  replace Rz := hide (Rd.kept Rz.out hb)
  replace hU := kU hU hb
  clear hb
  refine wpl_r1 [(51, .bool true)] kr (wpl_end (then_normal (wp_ift kr (wp_seq (reg_lit (wpl_r1 [(52, .pointer (some ⟨Na, 0, none⟩))] kr (wpl_ldsl Ba.out rfl kr rfl kr ?_)))))))
  refine wpl_r2 [(55, .pointer (some ⟨Na, 1, none⟩)), (54, .int .i64 ((l1.length : Nat)))] kr (wpl_ldsg Ba.out rfl kr rfl kr ?_)
  refine wpl_call rfl kr kr ((rfill_any 2 l1.length s1 _ (by omega)).mono ?_)
  rintro e w27 ⟨lv, sv, Av, cv, Ev, rfl, Cv, Ov, hb⟩
  refine ⟨_, rfl, ?_⟩
  have k0 : w.heap.size ≤ w26.heap.size := hU.size
  replace O1 := kO O1 hb
  replace O2 := kQ O2 hb
  replace Ba := kB Ba hb
  replace Bb := kB Bb hb
  replace Bu := kB Bu hb
  replace Ra := hide (Rd.kept Ra.out hb)
  replace Rb := hide (Rd.kept Rb.out hb)
  replace Rz := hide (Rd.kept Rz.out hb)
  replace hU := kU hU hb
  clear hb
  have Gv : Gd lv := by have h := congrArg Vc.b Ev.out; dsimp only at h; rw [h]; exact (gd_xs (n := l1.length) (s := s1) (by omega) (by omega))
  have Lv := hide (show lv.length ≤ 4096 from Nat.le_trans Gv.le (by decide))
  have Yv := hide Gv.by_
  clear Gv
  replace Ov := hide (OwQ.base Ov.out k0)
  clear k0
  refine wpl_stk Bu.out rfl kr rfl kr (A2 := Av) (m2 := lv.length) (c2 := cv) (s2 := sv) kr ?_
  intro w28 hst hkeep
  replace O1 := hide (OwQ.box O1.out Bu.out hkeep)
  replace O2 := kS hst O2
  replace Ov := hide (OwQ.box Ov.out Bu.out hkeep)
  replace Ba := hide (hst.ne Ba.out nq)
  replace Bb := hide (hst.ne Bb.out nq)
  replace Bu := hide hst.box
  replace hU := hU.trans (hst.bel hzu)
  clear hst hkeep
  refine wpl_end (then_normal (wp_ret (ret_box Bu.out rfl kr ?_)))
  exact ⟨lv, sv, Av, cv, hide (by show _ = vPow _ _; rw [vPow_zero hc1 hc2 hk1 hk2 hn (by omega)]; exact Ev.out), rfl, Cv, Ov, hU⟩
  have hc0 : cmp (nv kz) (nv ([] : List Bool)) = 1 := cmp_1 (by rw [show nv ([] : List Bool) = 0 from rfl]; omega)
  have hc9 : cmp (nv kz) (nv [true]) = 0 := cmp_eq_zero.2 (by rw [hz]; rfl)
  have hv : vl l1 s1 = 1 ∨ vl l1 s1 = -1 := by omega
  refine reg_lit (wpl_r1 [(49, .slice Kz kz.length ez)] kr ?_)
  refine wpl_call rfl kr kr ((cmp_w2 1 Kz none kz [] ez 0 _ hc0 (by omega) (by simp) Uz (hide ⟨Nat.le_refl _, by simp [maxLen]⟩) Rz.out (rd_none _)).mono ?_)
  rintro e w29 ⟨rfl, hb⟩
  refine ⟨_, rfl, ?_⟩
  replace O1 := kO O1 hb
  replace O2 := kQ O2 hb
  replace Ba := kB Ba hb
  replace Bb := kB Bb hb
  replace Bu := kB Bu hb
  replace Ra := hide (Rd.kept Ra.out hb)
  replace Rb := hide (Rd.kept Rb.out hb)
  replace Rz := hide (Rd.kept Rz.out hb)
  replace hU := kU hU hb
  clear hb
  refine wpl_r1 [(51, .bool false)] kr (wpl_end (then_normal (wp_iff kr (wp_skip (then_normal (wp_seq (wp_seq ?_)))))))
  refine reg_lit (wpl_r1 [(58, .slice Kz kz.length ez)] kr (wpl_bsb1 (b := true) rfl kr rfl kr ?_))
  intro w30 Nt Rt hb
  replace Rt := hide Rt
  replace O1 := kO O1 hb
  replace O2 := kQ O2 hb
  replace Ba := kB Ba hb
  replace Bb := kB Bb hb
  replace Bu := kB Bu hb
  replace Ra := hide (Rd.kept Ra.out hb)
  replace Rb := hide (Rd.kept Rb.out hb)
  replace Rz := hide (Rd.kept Rz.out hb)
  replace hU := kU hU hb
  clear hb
  refine wpl_call rfl kr kr ((cmp_w2 0 Kz (some ⟨Nt, 0, none⟩) kz [true] ez 1 _ hc9 (by omega) (by simp) Uz (hide ⟨Nat.le_refl _, by simp [maxLen]⟩) Rz.out Rt.out).mono ?_)
  rintro e w31 ⟨rfl, hb⟩
  refine ⟨_, rfl, ?_⟩
  replace O1 := kO O1 hb
  replace O2 := kQ O2 hb
  replace Ba := kB Ba hb
  replace Bb := kB Bb hb
  replace Bu := kB Bu hb
  replace Ra := hide (Rd.kept Ra.out hb)
  replace Rb := hide (Rd.kept Rb.out hb)
  replace Rz := hide (Rd.kept Rz.out hb)
  replace Rt := hide (Rd.kept Rt.out hb)
  replace hU := kU hU hb
  clear hb
  refine wpl_r1 [(61, .bool false)] kr (wpl_end (then_normal (wp_iff kr (wp_skip (then_normal (wp_seq (wp_seq ?_)))))))
  have hb0 := bt0 kb
  cases hbt : bt kb 0
  have hev : nv kb % 2 = 0 := by rw [hbt] at hb0; have := of_decide_eq_false hb0.symm; omega
  refine reg_lit (wpl_r1 [(68, .slice Kb kb.length eb)] kr ?_)
  obtain ⟨ad, hA, hlt, hc⟩ := Rb.out (by omega)
  refine wpl_val rfl kr (run_ixb (k := 0) (m := kb.length) (cc := eb) rfl kr hA kr (by omega)) (wpl_val rfl kr (run_ldb (z := false) rfl kr (by rw [← hbt]; exact hc 0 (by omega))) (wpl_end (then_normal (wp_iff kr (wp_skip (then_normal (wp_seq ?_)))))))
  refine region_R (n := 7) (N := 8) kr kr kr kr kr kr (fun _ _ _ _ _ h => h) ?_
  intro F hQ
  have Ba0 := Ba
  have Bb0 := Bb
  have Bu0 := Bu
  refine anyR_val (i := 1) (m' := 2) (v := .slice Ka ka.length ea) F hQ rfl rfl kr kr kr kr kr (fun _ _ => kr) (anyR_val (i := 2) (m' := 6) (v := .int .i64 ((ka.length : Nat))) F hQ rfl rfl kr kr kr kr kr (fun _ _ => kr) (anyR_val (i := 4) (m' := 22) (v := .pointer (some ⟨Na, 1, none⟩)) F hQ rfl rfl kr kr kr kr kr (fun _ _ => kr) (anyR_ldsg (i := 5) (m' := 54) Ba0.out F hQ rfl rfl kr kr kr kr kr rfl kr ?_)))
  refine anyR_split [0] kr rfl ⟨?_, trivial⟩
  refine stepR_bsb1 (b := true) (i := 0) (m' := 55) rfl rfl kr kr kr rfl kr ?_
  intro w32 Nq Rq hb
  replace Rq := hide Rq
  replace hb : Below w31.heap.size w31 w32 := Below.trans ((Below.refl _ _).drew) hb
  replace O1 := kO O1 hb
  replace O2 := kQ O2 hb
  replace Ba := kB Ba hb
  replace Bb := kB Bb hb
  replace Bu := kB Bu hb
  replace Ra := hide (Rd.kept Ra.out hb)
  replace Rb := hide (Rd.kept Rb.out hb)
  replace Rz := hide (Rd.kept Rz.out hb)
  replace Rt := hide (Rd.kept Rt.out hb)
  replace hU := kU hU hb
  clear hb
  refine anyR_call (i := 3) (m' := 63) rfl rfl kr kr kr kr kr ((fit_any (some ⟨Nq, 0, none⟩) [true] 1 ka.length _ (by simp) (by omega) Rq.out).mono ?_)
  rintro e w33 ⟨kf, Kf, ef, Tf, rfl, Uf, Rf, hb⟩
  refine ⟨_, rfl, hb, ?_⟩
  replace O1 := kO O1 hb
  replace O2 := kQ O2 hb
  replace Ba := kB Ba hb
  replace Bb := kB Bb hb
  replace Bu := kB Bu hb
  replace Ra := hide (Rd.kept Ra.out hb)
  replace Rb := hide (Rd.kept Rb.out hb)
  replace Rz := hide (Rd.kept Rz.out hb)
  replace Rt := hide (Rd.kept Rt.out hb)
  replace Rq := hide (Rd.kept Rq.out hb)
  replace hU := kU hU hb
  clear hb
  replace Rf := hide Rf.out.rd
  have hlf : kf.length = l1.length := by rw [Tf.out, vz_length, hla]
  refine anyR_call (i := 6) (m' := 127) rfl rfl kr kr kr kr kr ((rfromb_any Kf kf ef s1 _ (by omega) Rf.out).mono ?_)
  rintro e w34 ⟨lv, sv, Av, cv, Ev, rfl, Cv, Ov, hb⟩
  refine ⟨_, rfl, hb, ?_⟩
  have k0 : w.heap.size ≤ w33.heap.size := hU.size
  replace O1 := kO O1 hb
  replace O2 := kQ O2 hb
  replace Ba := kB Ba hb
  replace Bb := kB Bb hb
  replace Bu := kB Bu hb
  replace Ra := hide (Rd.kept Ra.out hb)
  replace Rb := hide (Rd.kept Rb.out hb)
  replace Rz := hide (Rd.kept Rz.out hb)
  replace Rt := hide (Rd.kept Rt.out hb)
  replace Rq := hide (Rd.kept Rq.out hb)
  replace Rf := hide (Rd.kept Rf.out hb)
  replace hU := kU hU hb
  clear hb
  have Gv : Gd lv := by have h := congrArg Vc.b Ev.out; dsimp only at h; rw [h]; exact (gd_fb (n := kf) (by omega) (by omega))
  have Lv := hide (show lv.length ≤ 4096 from Nat.le_trans Gv.le (by decide))
  have Yv := hide Gv.by_
  clear Gv
  replace Ov := hide (OwQ.base Ov.out k0)
  clear k0
  refine anyR_e (anyE_stq (i := 7) (m' := 255) Bu.out rfl rfl kr kr kr kr rfl kr (A2 := Av) (m2 := lv.length) (c2 := cv) (s2 := sv) kr ?_)
  intro w35 hst hkeep
  replace O1 := hide (OwQ.box O1.out Bu.out hkeep)
  replace O2 := kS hst O2
  replace Ov := hide (OwQ.box Ov.out Bu.out hkeep)
  replace Ba := hide (hst.ne Ba.out nq)
  replace Bb := hide (hst.ne Bb.out nq)
  replace Bu := hide hst.box
  replace hU := hU.trans (hst.bel hzu)
  clear hst hkeep
  refine anyE_done kr ?_
  clear F hQ Ba0 Bb0 Bu0
  refine then_normal (wp_ret (ret_box Bu.out rfl kr ?_))
  exact ⟨lv, sv, Av, cv, hide (by show _ = vPow _ _; rw [vPow_one hc1 hc2 hk1 hk2 hn hv, Ev.out, Tf.out, ← nb_length l1, pw_even hv (by rw [← Tb.out]; exact hev), Ta.out]; rfl), rfl, Cv, Ov, hU⟩
  have hod : nv kb % 2 = 1 := by rw [hbt] at hb0; exact of_decide_eq_true hb0.symm
  refine reg_lit (wpl_r1 [(68, .slice Kb kb.length eb)] kr ?_)
  obtain ⟨ad, hA, hlt, hc⟩ := Rb.out (by omega)
  refine wpl_val rfl kr (run_ixb (k := 0) (m := kb.length) (cc := eb) rfl kr hA kr (by omega)) (wpl_val rfl kr (run_ldb (z := true) rfl kr (by rw [← hbt]; exact hc 0 (by omega))) (wpl_end (then_normal (wp_ift kr (wp_seq (reg_lit (wpl_ldvec Ba.out rfl kr rfl kr ?_)))))))
  refine wpl_stk Bu.out rfl kr rfl kr (A2 := A1) (m2 := l1.length) (c2 := c1) (s2 := s1) kr ?_
  intro w36 hst hkeep
  replace O1 := hide (OwQ.box O1.out Bu.out hkeep)
  replace O2 := kS hst O2
  replace Ba := hide (hst.ne Ba.out nq)
  replace Bb := hide (hst.ne Bb.out nq)
  replace Bu := hide hst.box
  replace hU := hU.trans (hst.bel hzu)
  clear hst hkeep
  refine wpl_end (then_normal (wp_ret (ret_box Bu.out rfl kr ?_)))
  exact ⟨l1, s1, A1, c1, hide (by show _ = vPow _ _; rw [vPow_one hc1 hc2 hk1 hk2 hn hv, ← nb_length l1, pw_odd hv (by rw [← Tb.out]; exact hod), fb_nb hk1 (fun i => (HG1.out.bd i).1)]), rfl, C1, O1, hU⟩
  have hc0 : cmp (nv kz) (nv ([] : List Bool)) = 1 := cmp_1 (by rw [show nv ([] : List Bool) = 0 from rfl]; omega)
  have hc9 : cmp (nv kz) (nv [true]) = 1 := cmp_1 (by rw [show nv [true] = 1 from rfl]; omega)
  refine reg_lit (wpl_r1 [(49, .slice Kz kz.length ez)] kr ?_)
  refine wpl_call rfl kr kr ((cmp_w2 1 Kz none kz [] ez 0 _ hc0 (by omega) (by simp) Uz (hide ⟨Nat.le_refl _, by simp [maxLen]⟩) Rz.out (rd_none _)).mono ?_)
  rintro e w37 ⟨rfl, hb⟩
  refine ⟨_, rfl, ?_⟩
  replace O1 := kO O1 hb
  replace O2 := kQ O2 hb
  replace Ba := kB Ba hb
  replace Bb := kB Bb hb
  replace Bu := kB Bu hb
  replace Ra := hide (Rd.kept Ra.out hb)
  replace Rb := hide (Rd.kept Rb.out hb)
  replace Rz := hide (Rd.kept Rz.out hb)
  replace hU := kU hU hb
  clear hb
  refine wpl_r1 [(51, .bool false)] kr (wpl_end (then_normal (wp_iff kr (wp_skip (then_normal (wp_seq (wp_seq ?_)))))))
  refine reg_lit (wpl_r1 [(58, .slice Kz kz.length ez)] kr (wpl_bsb1 (b := true) rfl kr rfl kr ?_))
  intro w38 Nt Rt hb
  replace Rt := hide Rt
  replace O1 := kO O1 hb
  replace O2 := kQ O2 hb
  replace Ba := kB Ba hb
  replace Bb := kB Bb hb
  replace Bu := kB Bu hb
  replace Ra := hide (Rd.kept Ra.out hb)
  replace Rb := hide (Rd.kept Rb.out hb)
  replace Rz := hide (Rd.kept Rz.out hb)
  replace hU := kU hU hb
  clear hb
  refine wpl_call rfl kr kr ((cmp_w2 1 Kz (some ⟨Nt, 0, none⟩) kz [true] ez 1 _ hc9 (by omega) (by simp) Uz (hide ⟨Nat.le_refl _, by simp [maxLen]⟩) Rz.out Rt.out).mono ?_)
  rintro e w39 ⟨rfl, hb⟩
  refine ⟨_, rfl, ?_⟩
  replace O1 := kO O1 hb
  replace O2 := kQ O2 hb
  replace Ba := kB Ba hb
  replace Bb := kB Bb hb
  replace Bu := kB Bu hb
  replace Ra := hide (Rd.kept Ra.out hb)
  replace Rb := hide (Rd.kept Rb.out hb)
  replace Rz := hide (Rd.kept Rz.out hb)
  replace Rt := hide (Rd.kept Rt.out hb)
  replace hU := kU hU hb
  clear hb
  refine wpl_r1 [(61, .bool true)] kr (wpl_end (then_normal (wp_ift kr (wp_seq (reg_lit (wpl_r1 [(62, .pointer (some ⟨Na, 0, none⟩))] kr (wpl_ldsl Ba.out rfl kr rfl kr ?_)))))))
  refine wpl_r2 [(65, .pointer (some ⟨Na, 1, none⟩)), (64, .int .i64 ((l1.length : Nat)))] kr (wpl_ldsg Ba.out rfl kr rfl kr ?_)
  refine wpl_call rfl kr kr ((rfill_any 0 l1.length s1 _ (by omega)).mono ?_)
  rintro e w40 ⟨lv, sv, Av, cv, Ev, rfl, Cv, Ov, hb⟩
  refine ⟨_, rfl, ?_⟩
  have k0 : w.heap.size ≤ w39.heap.size := hU.size
  replace O1 := kO O1 hb
  replace O2 := kQ O2 hb
  replace Ba := kB Ba hb
  replace Bb := kB Bb hb
  replace Bu := kB Bu hb
  replace Ra := hide (Rd.kept Ra.out hb)
  replace Rb := hide (Rd.kept Rb.out hb)
  replace Rz := hide (Rd.kept Rz.out hb)
  replace Rt := hide (Rd.kept Rt.out hb)
  replace hU := kU hU hb
  clear hb
  have Gv : Gd lv := by have h := congrArg Vc.b Ev.out; dsimp only at h; rw [h]; exact (gd_ql (f := fun _ => 0) (n := l1.length) (by omega) (by omega) fun _ _ => by decide)
  have Lv := hide (show lv.length ≤ 4096 from Nat.le_trans Gv.le (by decide))
  have Yv := hide Gv.by_
  clear Gv
  replace Ov := hide (OwQ.base Ov.out k0)
  clear k0
  refine wpl_stk Bu.out rfl kr rfl kr (A2 := Av) (m2 := lv.length) (c2 := cv) (s2 := sv) kr ?_
  intro w41 hst hkeep
  replace O1 := hide (OwQ.box O1.out Bu.out hkeep)
  replace O2 := kS hst O2
  replace Ov := hide (OwQ.box Ov.out Bu.out hkeep)
  replace Ba := hide (hst.ne Ba.out nq)
  replace Bb := hide (hst.ne Bb.out nq)
  replace Bu := hide hst.box
  replace hU := hU.trans (hst.bel hzu)
  clear hst hkeep
  refine wpl_end (then_normal (wp_ret (ret_box Bu.out rfl kr ?_)))
  exact ⟨lv, sv, Av, cv, hide (by show _ = vPow _ _; rw [vPow_big hc1 hc2 HG1.out hk1 hk2 hn (by omega) (by omega)]; exact Ev.out), rfl, Cv, Ov, hU⟩
  refine reg_lit (wpl_r1 [(30, .pointer (some ⟨Nb, 1, none⟩))] kr (wpl_ldsg (s := false) (by rw [← hs]; exact Bb.out) rfl kr rfl kr (wpl_r6 [(37, .bool true), (36, undef), (35, undef), (34, undef), (33, .bool true), (32, .bool true)] kr (wpl_end (then_normal (wp_ift kr (wp_seq ?_)))))))
  refine region_R (n := 6) (N := 7) kr kr kr kr kr kr (fun _ _ _ _ _ h => h) ?_
  intro F hQ
  have Ba0 := Ba
  have Bb0 := Bb
  have Bu0 := Bu
  refine anyR_val (i := 0) (m' := 1) (v := .slice Ka ka.length ea) F hQ rfl rfl kr kr kr kr kr (fun _ _ => kr) (anyR_val (i := 1) (m' := 3) (v := .slice Kb kb.length eb) F hQ rfl rfl kr kr kr kr kr (fun _ _ => kr) (anyR_val (i := 3) (m' := 11) (v := .pointer (some ⟨Na, 1, none⟩)) F hQ rfl rfl kr kr kr kr kr (fun _ _ => kr) (anyR_ldsg (i := 4) (m' := 27) Ba0.out F hQ rfl rfl kr kr kr kr kr rfl kr ?_)))
  refine anyR_call (i := 2) (m' := 31) rfl rfl kr kr kr kr kr ((rpow_any Ka Kb ka kb ea eb _ (by omega) (by omega) (by exact Ra.out) (by exact Rb.out)).mono ?_)
  rintro e w42 ⟨kp_, Kp_, ep_, Tp_, rfl, Up_, Rp_, hb⟩
  refine ⟨_, rfl, hb, ?_⟩
  replace hb : Below w18.heap.size w18 w42 := Below.trans ((Below.refl _ _).drew) hb
  replace O1 := kO O1 hb
  replace O2 := kQ O2 hb
  replace Ba := kB Ba hb
  replace Bb := kB Bb hb
  replace Bu := kB Bu hb
  replace Ra := hide (Rd.kept Ra.out hb)
  replace Rb := hide (Rd.kept Rb.out hb)
  replace hU := kU hU hb
  clear hb
  replace Rp_ := hide Rp_.out.rd
  have hlp : kp_.length = l1.length := by rw [Tp_.out, vz_length, hla]
  refine anyR_call (i := 5) (m' := 63) rfl rfl kr kr kr kr kr ((rfromb_any Kp_ kp_ ep_ s1 _ (by omega) Rp_.out).mono ?_)
  rintro e w43 ⟨lv, sv, Av, cv, Ev, rfl, Cv, Ov, hb⟩
  refine ⟨_, rfl, hb, ?_⟩
  have k0 : w.heap.size ≤ w42.heap.size := hU.size
  replace O1 := kO O1 hb
  replace O2 := kQ O2 hb
  replace Ba := kB Ba hb
  replace Bb := kB Bb hb
  replace Bu := kB Bu hb
  replace Ra := hide (Rd.kept Ra.out hb)
  replace Rb := hide (Rd.kept Rb.out hb)
  replace Rp_ := hide (Rd.kept Rp_.out hb)
  replace hU := kU hU hb
  clear hb
  have Gv : Gd lv := by have h := congrArg Vc.b Ev.out; dsimp only at h; rw [h]; exact (gd_fb (n := kp_) (by omega) (by omega))
  have Lv := hide (show lv.length ≤ 4096 from Nat.le_trans Gv.le (by decide))
  have Yv := hide Gv.by_
  clear Gv
  replace Ov := hide (OwQ.base Ov.out k0)
  clear k0
  refine anyR_e (anyE_stq (i := 6) (m' := 127) Bu.out rfl rfl kr kr kr kr rfl kr (A2 := Av) (m2 := lv.length) (c2 := cv) (s2 := sv) kr ?_)
  intro w44 hst hkeep
  replace O1 := hide (OwQ.box O1.out Bu.out hkeep)
  replace O2 := kS hst O2
  replace Ov := hide (OwQ.box Ov.out Bu.out hkeep)
  replace Ba := hide (hst.ne Ba.out nq)
  replace Bb := hide (hst.ne Bb.out nq)
  replace Bu := hide hst.box
  replace hU := hU.trans (hst.bel hzu)
  clear hst hkeep
  refine anyE_done kr ?_
  clear F hQ Ba0 Bb0 Bu0
  refine then_normal (wp_ret (ret_box Bu.out rfl kr ?_))
  exact ⟨lv, sv, Av, cv, hide (by show _ = vPow _ _; rw [vPow_pos hc1 hc2 hk1 hk2 (by rw [hs]; rfl), Ev.out, Tp_.out, Ta.out, Tb.out, nb_length]), rfl, Cv, Ov, hU⟩
end
section
open Go.RowKit
set_option maxRecDepth 100000
set_option linter.unusedSimpArgs false
set_option linter.unusedVariables false
set_option maxHeartbeats 16000000 in
theorem rbinary_any (op : Int) (hop : op = 26 ∨ (41 ≤ op ∧ op ≤ 44) ∨ op = 35 ∨ op = 36 ∨ (37 ≤ op ∧ op ≤ 40) ∨ (21 ≤ op ∧ op ≤ 25) ∨ (27 ≤ op ∧ op ≤ 34)) (Aa : Option Addr) (la : List Int) (ca : Nat) (sa : Bool) (Ab : Option Addr) (lb : List Int) (cb : Nat) (sb : Bool) (w : World) (ha : la.length ≤ 4096) (hb : lb.length ≤ 4096) (hca : Hid (la.length ≤ ca ∧ ca ≤ maxLen)) (hcb : Hid (lb.length ≤ cb ∧ cb ≤ maxLen)) (hra : RQ w Aa la) (hrb : RQ w Ab lb) (ya : By la) (yb : By lb) :
    Calls Tryz.prog 15 #[.int .u8 op, .agg #[.slice Aa la.length ca, .bool sa], .agg #[.slice Ab lb.length cb, .bool sb]] w (RetC (· = binV op ⟨la, sa⟩ ⟨lb, sb⟩) w) := by
  have Oa := hide hra
  have La := hide ha
  have Ca := hca
  have Ya := hide ya
  have Ob := hide hrb
  have Lb := hide hb
  have Cb := hcb
  have Yb := hide yb
  clear ha hca hra ya hb hcb hrb yb
  have hU : Below w.heap.size w w := Below.refl _ _
  refine calls_sl (l := [.int .u8 op, .agg #[.slice Aa la.length ca, .bool sa], .agg #[.slice Ab lb.length cb, .bool sb]]) 71 Tryz.func15 rfl kr (by simp) (wp_seq (reg_lit (wpl_boxvec (A := Aa) (m := la.length) (c := ca) (s := sa) rfl kr rfl kr ?_)))
  intro w1 Na Ba hNa hb
  replace Ba := hide Ba
  replace Oa := kQ Oa hb
  replace Ob := kQ Ob hb
  have hza : w.heap.size ≤ Na := Nat.le_trans hU.size hNa
  clear hNa
  replace hU := kU hU hb
  clear hb
  refine wpl_boxvec (A := Ab) (m := lb.length) (c := cb) (s := sb) rfl kr rfl kr ?_
  intro w2 Nb Bb hNb hb
  replace Bb := hide Bb
  have neab : Na ≠ Nb := by have := Ba.out.lt; omega
  replace Oa := kQ Oa hb
  replace Ob := kQ Ob hb
  replace Ba := kB Ba hb
  have hzb : w.heap.size ≤ Nb := Nat.le_trans hU.size hNb
  clear hNb
  replace hU := kU hU hb
  clear hb
  refine wpl_al rfl kr rfl ?_
  intro w3 Nu Bu hNu hb
  replace Bu := hide Bu
  have neau : Na ≠ Nu := by have := Ba.out.lt; omega
  have nebu : Nb ≠ Nu := by have := Bb.out.lt; omega
  replace Oa := kQ Oa hb
  replace Ob := kQ Ob hb
  replace Ba := kB Ba hb
  replace Bb := kB Bb hb
  have hzu : w.heap.size ≤ Nu := Nat.le_trans hU.size hNu
  clear hNu
  replace hU := kU hU hb
  clear hb
  refine wpl_end (then_normal (wp_seq (wp_seq ?_)))
  rcases hop with hop | hop | hop | hop | hop
  subst hop
  refine reg_lit (wpl_r1 [(9, .int .u8 26)] kr (wpl_end (then_normal (wp_block (sw_t [(10, .bool true), (11, .bool true)] rfl kr kr (wp_seq (reg_lit ?_)))))))
  refine wpl_ldvec Ba.out rfl kr rfl kr (wpl_ldvec Bb.out rfl kr rfl kr ?_)
  refine wpl_call rfl kr kr ((rpower_any Aa la ca sa Ab lb cb sb _ La.out Lb.out Ca Cb Oa.out Ob.out Ya.out Yb.out).mono ?_)
  rintro e w4 ⟨lv, sv, Av, cv, Ev, rfl, Cv, Ov, hb⟩
  refine ⟨_, rfl, ?_⟩
  have k0 : w.heap.size ≤ w3.heap.size := hU.size
  replace Oa := kQ Oa hb
  replace Ob := kQ Ob hb
  replace Ba := kB Ba hb
  replace Bb := kB Bb hb
  replace Bu := kB Bu hb
  replace hU := kU hU hb
  clear hb
  replace Ov := hide (OwQ.base Ov.out k0)
  clear k0
  refine wpl_stk Bu.out rfl kr rfl kr (A2 := Av) (m2 := lv.length) (c2 := cv) (s2 := sv) kr ?_
  intro w5 hst hkeep
  replace Oa := kS hst Oa
  replace Ob := kS hst Ob
  replace Ov := hide (OwQ.box Ov.out Bu.out hkeep)
  replace Ba := hide (hst.ne Ba.out nq)
  replace Bb := hide (hst.ne Bb.out nq)
  replace Bu := hide hst.box
  replace hU := hU.trans (hst.bel hzu)
  clear hst hkeep
  refine wpl_end (then_normal (wp_ret (ret_box Bu.out rfl kr ?_)))
  exact ⟨lv, sv, Av, cv, hide (by show _ = vPow _ _; exact Ev.out), rfl, Cv, Ov, hU⟩
  refine reg_lit (wpl_r1 [(9, .int .u8 op)] kr (wpl_end (then_normal (wp_block (wp_seq (reg_lit (wpl_val rfl kr (run_eql8 (a := op) (b := 26) rfl kr kr (beq_eq_false_iff_ne.2 (by omega))) ?_)))))))
  refine wpl_r1 [(10, .bool false)] kr (wpl_end (then_normal (wp_iff kr (wp_seq (wp_seq ?_)))))
  rcases (show op = 41 ∨ op = 42 ∨ op = 43 ∨ op = 44 by omega) with rfl | rfl | rfl | rfl
  refine reg_lit (wpl_r2 [(15, .bool true), (16, .bool true)] kr (wpl_end (then_normal (wp_ift kr (wp_skip (then_normal (wp_ift kr ?_)))))))
  refine wp_seq (reg_lit (wpl_r1 [(20, .int .u8 41)] kr (wpl_ldvec Ba.out rfl kr rfl kr (wpl_ldvec Bb.out rfl kr rfl kr ?_))))
  refine wpl_call rfl kr kr ((rshift_any 41 (by decide) Aa la ca sa Ab lb cb sb _ La.out Lb.out Ca Cb Oa.out Ob.out Ya.out Yb.out).mono ?_)
  rintro e w6 ⟨lv, sv, Av, cv, Ev, rfl, Cv, Ov, hb⟩
  refine ⟨_, rfl, ?_⟩
  have k0 : w.heap.size ≤ w3.heap.size := hU.size
  replace Oa := kQ Oa hb
  replace Ob := kQ Ob hb
  replace Ba := kB Ba hb
  replace Bb := kB Bb hb
  replace Bu := kB Bu hb
  replace hU := kU hU hb
  clear hb
  replace Ov := hide (OwQ.base Ov.out k0)
  clear k0
  refine wpl_stk Bu.out rfl kr rfl kr (A2 := Av) (m2 := lv.length) (c2 := cv) (s2 := sv) kr ?_
  intro w7 hst hkeep
  replace Oa := kS hst Oa
  replace Ob := kS hst Ob
  replace Ov := hide (OwQ.box Ov.out Bu.out hkeep)
  replace Ba := hide (hst.ne Ba.out nq)
  replace Bb := hide (hst.ne Bb.out nq)
  replace Bu := hide hst.box
  replace hU := hU.trans (hst.bel hzu)
  clear hst hkeep
  refine wpl_end (then_normal (wp_ret (ret_box Bu.out rfl kr ?_)))
  exact ⟨lv, sv, Av, cv, hide (by rw [binV_shf hop]; exact Ev.out), rfl, Cv, Ov, hU⟩
  refine reg_lit (wpl_r2 [(15, .bool false), (16, .bool false)] kr (wpl_end (then_normal (wp_iff kr (sw_t [(15, .bool true), (17, .bool true)] rfl kr kr (wp_skip (then_normal ?_)))))))
  refine wp_ift kr (wp_seq (reg_lit (wpl_r1 [(20, .int .u8 42)] kr (wpl_ldvec Ba.out rfl kr rfl kr (wpl_ldvec Bb.out rfl kr rfl kr ?_)))))
  refine wpl_call rfl kr kr ((rshift_any 42 (by decide) Aa la ca sa Ab lb cb sb _ La.out Lb.out Ca Cb Oa.out Ob.out Ya.out Yb.out).mono ?_)
  rintro e w8 ⟨lv, sv, Av, cv, Ev, rfl, Cv, Ov, hb⟩
  refine ⟨_, rfl, ?_⟩
  have k0 : w.heap.size ≤ w3.heap.size := hU.size
  replace Oa := kQ Oa hb
  replace Ob := kQ Ob hb
  replace Ba := kB Ba hb
  replace Bb := kB Bb hb
  replace Bu := kB Bu hb
  replace hU := kU hU hb
  clear hb
  replace Ov := hide (OwQ.base Ov.out k0)
  clear k0
  refine wpl_stk Bu.out rfl kr rfl kr (A2 := Av) (m2 := lv.length) (c2 := cv) (s2 := sv) kr ?_
  intro w9 hst hkeep
  replace Oa := kS hst Oa
  replace Ob := kS hst Ob
  replace Ov := hide (OwQ.box Ov.out Bu.out hkeep)
  replace Ba := hide (hst.ne Ba.out nq)
  replace Bb := hide (hst.ne Bb.out nq)
  replace Bu := hide hst.box
  replace hU := hU.trans (hst.bel hzu)
  clear hst hkeep
  refine wpl_end (then_normal (wp_ret (ret_box Bu.out rfl kr ?_)))
  exact ⟨lv, sv, Av, cv, hide (by rw [binV_shf hop]; exact Ev.out), rfl, Cv, Ov, hU⟩
  refine reg_lit (wpl_r2 [(15, .bool false), (16, .bool false)] kr (wpl_end (then_normal (wp_iff kr (sw_f [(15, .bool false), (17, .bool false)] rfl kr kr (sw_t [(15, .bool true), (18, .bool true)] rfl kr kr (wp_skip ?_)))))))
  refine then_normal (wp_ift kr (wp_seq (reg_lit (wpl_r1 [(20, .int .u8 43)] kr (wpl_ldvec Ba.out rfl kr rfl kr (wpl_ldvec Bb.out rfl kr rfl kr ?_))))))
  refine wpl_call rfl kr kr ((rshift_any 43 (by decide) Aa la ca sa Ab lb cb sb _ La.out Lb.out Ca Cb Oa.out Ob.out Ya.out Yb.out).mono ?_)
  rintro e w10 ⟨lv, sv, Av, cv, Ev, rfl, Cv, Ov, hb⟩
  refine ⟨_, rfl, ?_⟩
  have k0 : w.heap.size ≤ w3.heap.size := hU.size
  replace Oa := kQ Oa hb
  replace Ob := kQ Ob hb
  replace Ba := kB Ba hb
  replace Bb := kB Bb hb
  replace Bu := kB Bu hb
  replace hU := kU hU hb
  clear hb
  replace Ov := hide (OwQ.base Ov.out k0)
  clear k0
  refine wpl_stk Bu.out rfl kr rfl kr (A2 := Av) (m2 := lv.length) (c2 := cv) (s2 := sv) kr ?_
  intro w11 hst hkeep
  replace Oa := kS hst Oa
  replace Ob := kS hst Ob
  replace Ov := hide (OwQ.box Ov.out Bu.out hkeep)
  replace Ba := hide (hst.ne Ba.out nq)
  replace Bb := hide (hst.ne Bb.out nq)
  replace Bu := hide hst.box
  replace hU := hU.trans (hst.bel hzu)
  clear hst hkeep
  refine wpl_end (then_normal (wp_ret (ret_box Bu.out rfl kr ?_)))
  exact ⟨lv, sv, Av, cv, hide (by rw [binV_shf hop]; exact Ev.out), rfl, Cv, Ov, hU⟩
  refine reg_lit (wpl_r2 [(15, .bool false), (16, .bool false)] kr (wpl_end (then_normal (wp_iff kr (sw_f [(15, .bool false), (17, .bool false)] rfl kr kr (sw_f [(15, .bool false), (18, .bool false)] rfl kr kr (reg_lit ?_)))))))
  refine wpl_r2 [(15, .bool true), (19, .bool true)] kr (wpl_end (then_normal (wp_ift kr (wp_seq (reg_lit (wpl_r1 [(20, .int .u8 44)] kr (wpl_ldvec Ba.out rfl kr rfl kr ?_)))))))
  refine wpl_ldvec Bb.out rfl kr rfl kr ?_
  refine wpl_call rfl kr kr ((rshift_any 44 (by decide) Aa la ca sa Ab lb cb sb _ La.out Lb.out Ca Cb Oa.out Ob.out Ya.out Yb.out).mono ?_)
  rintro e w12 ⟨lv, sv, Av, cv, Ev, rfl, Cv, Ov, hb⟩
  refine ⟨_, rfl, ?_⟩
  have k0 : w.heap.size ≤ w3.heap.size := hU.size
  replace Oa := kQ Oa hb
  replace Ob := kQ Ob hb
  replace Ba := kB Ba hb
  replace Bb := kB Bb hb
  replace Bu := kB Bu hb
  replace hU := kU hU hb
  clear hb
  replace Ov := hide (OwQ.base Ov.out k0)
  clear k0
  refine wpl_stk Bu.out rfl kr rfl kr (A2 := Av) (m2 := lv.length) (c2 := cv) (s2 := sv) kr ?_
  intro w13 hst hkeep
  replace Oa := kS hst Oa
  replace Ob := kS hst Ob
  replace Ov := hide (OwQ.box Ov.out Bu.out hkeep)
  replace Ba := hide (hst.ne Ba.out nq)
  replace Bb := hide (hst.ne Bb.out nq)
  replace Bu := hide hst.box
  replace hU := hU.trans (hst.bel hzu)
  clear hst hkeep
  refine wpl_end (then_normal (wp_ret (ret_box Bu.out rfl kr ?_)))
  exact ⟨lv, sv, Av, cv, hide (by rw [binV_shf hop]; exact Ev.out), rfl, Cv, Ov, hU⟩
  subst hop
  refine reg_lit (wpl_r1 [(9, .int .u8 35)] kr (wpl_end (then_normal (wp_block (sw_f [(10, .bool false), (11, .bool false)] rfl kr kr (wp_seq (sw_f [(15, .bool false), (16, .bool false)] rfl kr kr ?_)))))))
  refine sw_f [(15, .bool false), (17, .bool false)] rfl kr kr (sw_f [(15, .bool false), (18, .bool false)] rfl kr kr (reg_lit (wpl_r2 [(15, .bool false), (19, .bool false)] kr (wpl_end (then_normal (wp_iff kr (sw_t [(24, .bool true), (25, .bool true)] rfl kr kr ?_)))))))
  refine wp_seq (region_R (n := 6) (N := 7) kr kr kr kr kr kr (fun _ _ _ _ _ h => h) ?_)
  intro F hQ
  have Ba0 := Ba
  have Bb0 := Bb
  have Bu0 := Bu
  refine anyR_ldvec (i := 0) (m' := 1) Ba0.out F hQ rfl rfl kr kr kr kr kr rfl kr (anyR_ldvec (i := 2) (m' := 5) Bb0.out F hQ rfl rfl kr kr kr kr kr rfl kr ?_)
  refine anyR_call (i := 1) (m' := 7) rfl rfl kr kr kr kr kr ((rtruth_any' Aa la ca sa _ La.out Ca (by exact Oa.out) Ya.out).mono ?_)
  rintro e w14 ⟨rfl, hb⟩
  refine ⟨_, rfl, hb, ?_⟩
  replace hb : Below w3.heap.size w3 w14 := Below.trans ((Below.refl _ _).drew) hb
  replace Oa := kQ Oa hb
  replace Ob := kQ Ob hb
  replace Ba := kB Ba hb
  replace Bb := kB Bb hb
  replace Bu := kB Bu hb
  replace hU := kU hU hb
  clear hb
  refine anyR_call (i := 3) (m' := 15) rfl rfl kr kr kr kr kr ((rtruth_any' Ab lb cb sb _ Lb.out Cb Ob.out Yb.out).mono ?_)
  rintro e w15 ⟨rfl, hb⟩
  refine ⟨_, rfl, hb, ?_⟩
  replace Oa := kQ Oa hb
  replace Ob := kQ Ob hb
  replace Ba := kB Ba hb
  replace Bb := kB Bb hb
  replace Bu := kB Bu hb
  replace hU := kU hU hb
  clear hb
  refine anyR_call (i := 4) (m' := 31) rfl rfl kr kr kr kr kr ((and_m (tr ⟨la, sa⟩) (tr ⟨lb, sb⟩) (mAnd (tr ⟨la, sa⟩) (tr ⟨lb, sb⟩)) _ rfl).mono ?_)
  rintro e w16 ⟨rfl, hb⟩
  refine ⟨_, rfl, hb, ?_⟩
  replace Oa := kQ Oa hb
  replace Ob := kQ Ob hb
  replace Ba := kB Ba hb
  replace Bb := kB Bb hb
  replace Bu := kB Bu hb
  replace hU := kU hU hb
  clear hb
  refine anyR_call (i := 5) (m' := 63) rfl rfl kr kr kr kr kr ((rsingle_any (mAnd (tr ⟨la, sa⟩) (tr ⟨lb, sb⟩)) _).mono ?_)
  rintro e w17 ⟨lv, sv, Av, cv, Ev, rfl, Cv, Ov, hb⟩
  refine ⟨_, rfl, hb, ?_⟩
  have k0 : w.heap.size ≤ w16.heap.size := hU.size
  replace Oa := kQ Oa hb
  replace Ob := kQ Ob hb
  replace Ba := kB Ba hb
  replace Bb := kB Bb hb
  replace Bu := kB Bu hb
  replace hU := kU hU hb
  clear hb
  replace Ov := hide (OwQ.base Ov.out k0)
  clear k0
  refine anyR_e (anyE_stq (i := 6) (m' := 127) Bu.out rfl rfl kr kr kr kr rfl kr (A2 := Av) (m2 := lv.length) (c2 := cv) (s2 := sv) kr ?_)
  intro w18 hst hkeep
  replace Oa := kS hst Oa
  replace Ob := kS hst Ob
  replace Ov := hide (OwQ.box Ov.out Bu.out hkeep)
  replace Ba := hide (hst.ne Ba.out nq)
  replace Bb := hide (hst.ne Bb.out nq)
  replace Bu := hide hst.box
  replace hU := hU.trans (hst.bel hzu)
  clear hst hkeep
  refine anyE_done kr ?_
  clear F hQ Ba0 Bb0 Bu0
  refine then_normal (wp_ret (ret_box Bu.out rfl kr ?_))
  exact ⟨lv, sv, Av, cv, hide (by show _ = sgl (mAnd (tr ⟨la, sa⟩) (tr ⟨lb, sb⟩)); exact Ev.out), rfl, Cv, Ov, hU⟩
  subst hop
  refine reg_lit (wpl_r1 [(9, .int .u8 36)] kr (wpl_end (then_normal (wp_block (sw_f [(10, .bool false), (11, .bool false)] rfl kr kr (wp_seq (sw_f [(15, .bool false), (16, .bool false)] rfl kr kr ?_)))))))
  refine sw_f [(15, .bool false), (17, .bool false)] rfl kr kr (sw_f [(15, .bool false), (18, .bool false)] rfl kr kr (reg_lit (wpl_r2 [(15, .bool false), (19, .bool false)] kr (wpl_end (then_normal (wp_iff kr (sw_f [(24, .bool false), (25, .bool false)] rfl kr kr ?_)))))))
  refine sw_t [(32, .bool true), (33, .bool true)] rfl kr kr (wp_seq (region_R (n := 6) (N := 7) kr kr kr kr kr kr (fun _ _ _ _ _ h => h) ?_))
  intro F hQ
  have Ba0 := Ba
  have Bb0 := Bb
  have Bu0 := Bu
  refine anyR_ldvec (i := 0) (m' := 1) Ba0.out F hQ rfl rfl kr kr kr kr kr rfl kr (anyR_ldvec (i := 2) (m' := 5) Bb0.out F hQ rfl rfl kr kr kr kr kr rfl kr ?_)
  refine anyR_call (i := 1) (m' := 7) rfl rfl kr kr kr kr kr ((rtruth_any' Aa la ca sa _ La.out Ca (by exact Oa.out) Ya.out).mono ?_)
  rintro e w19 ⟨rfl, hb⟩
  refine ⟨_, rfl, hb, ?_⟩
  replace hb : Below w3.heap.size w3 w19 := Below.trans ((Below.refl _ _).drew) hb
  replace Oa := kQ Oa hb
  replace Ob := kQ Ob hb
  replace Ba := kB Ba hb
  replace Bb := kB Bb hb
  replace Bu := kB Bu hb
  replace hU := kU hU hb
  clear hb
  refine anyR_call (i := 3) (m' := 15) rfl rfl kr kr kr kr kr ((rtruth_any' Ab lb cb sb _ Lb.out Cb Ob.out Yb.out).mono ?_)
  rintro e w20 ⟨rfl, hb⟩
  refine ⟨_, rfl, hb, ?_⟩
  replace Oa := kQ Oa hb
  replace Ob := kQ Ob hb
  replace Ba := kB Ba hb
  replace Bb := kB Bb hb
  replace Bu := kB Bu hb
  replace hU := kU hU hb
  clear hb
  refine anyR_call (i := 4) (m' := 31) rfl rfl kr kr kr kr kr ((or_m (tr ⟨la, sa⟩) (tr ⟨lb, sb⟩) (mOr (tr ⟨la, sa⟩) (tr ⟨lb, sb⟩)) _ rfl).mono ?_)
  rintro e w21 ⟨rfl, hb⟩
  refine ⟨_, rfl, hb, ?_⟩
  replace Oa := kQ Oa hb
  replace Ob := kQ Ob hb
  replace Ba := kB Ba hb
  replace Bb := kB Bb hb
  replace Bu := kB Bu hb
  replace hU := kU hU hb
  clear hb
  refine anyR_call (i := 5) (m' := 63) rfl rfl kr kr kr kr kr ((rsingle_any (mOr (tr ⟨la, sa⟩) (tr ⟨lb, sb⟩)) _).mono ?_)
  rintro e w22 ⟨lv, sv, Av, cv, Ev, rfl, Cv, Ov, hb⟩
  refine ⟨_, rfl, hb, ?_⟩
  have k0 : w.heap.size ≤ w21.heap.size := hU.size
  replace Oa := kQ Oa hb
  replace Ob := kQ Ob hb
  replace Ba := kB Ba hb
  replace Bb := kB Bb hb
  replace Bu := kB Bu hb
  replace hU := kU hU hb
  clear hb
  replace Ov := hide (OwQ.base Ov.out k0)
  clear k0
  refine anyR_e (anyE_stq (i := 6) (m' := 127) Bu.out rfl rfl kr kr kr kr rfl kr (A2 := Av) (m2 := lv.length) (c2 := cv) (s2 := sv) kr ?_)
  intro w23 hst hkeep
  replace Oa := kS hst Oa
  replace Ob := kS hst Ob
  replace Ov := hide (OwQ.box Ov.out Bu.out hkeep)
  replace Ba := hide (hst.ne Ba.out nq)
  replace Bb := hide (hst.ne Bb.out nq)
  replace Bu := hide hst.box
  replace hU := hU.trans (hst.bel hzu)
  clear hst hkeep
  refine anyE_done kr ?_
  clear F hQ Ba0 Bb0 Bu0
  refine then_normal (wp_ret (ret_box Bu.out rfl kr ?_))
  exact ⟨lv, sv, Av, cv, hide (by show _ = sgl (mOr (tr ⟨la, sa⟩) (tr ⟨lb, sb⟩)); exact Ev.out), rfl, Cv, Ov, hU⟩
  obtain ⟨s1, hs1⟩ : ∃ s, s = sg ⟨la, sa⟩ ⟨lb, sb⟩ := ⟨_, rfl⟩
  obtain ⟨s2, hs2⟩ : ∃ s, s = sg ⟨la, sa⟩ ⟨lb, sb⟩ := ⟨_, rfl⟩
  refine reg_lit (wpl_r1 [(9, .int .u8 op)] kr (wpl_end (then_normal (wp_block (wp_seq (reg_lit (wpl_val rfl kr (run_eql8 (a := op) (b := 26) rfl kr kr (beq_eq_false_iff_ne.2 (by omega))) ?_)))))))
  refine wpl_r1 [(10, .bool false)] kr (wpl_end (then_normal (wp_iff kr (wp_seq (wp_seq (reg_lit (wpl_val rfl kr (run_eql8 (a := op) (b := 41) rfl kr kr (beq_eq_false_iff_ne.2 (by omega))) ?_)))))))
  refine wpl_r1 [(15, .bool false)] kr (wpl_end (then_normal (wp_iff kr (wp_seq (reg_lit (wpl_val rfl kr (run_eql8 (a := op) (b := 42) rfl kr kr (beq_eq_false_iff_ne.2 (by omega))) (wpl_r1 [(15, .bool false)] kr ?_)))))))
  refine wpl_end (then_normal (wp_iff kr (wp_seq (reg_lit (wpl_val rfl kr (run_eql8 (a := op) (b := 43) rfl kr kr (beq_eq_false_iff_ne.2 (by omega))) (wpl_r1 [(15, .bool false)] kr (wpl_end ?_)))))))
  refine then_normal (wp_iff kr (reg_lit (wpl_val rfl kr (run_eql8 (a := op) (b := 44) rfl kr kr (beq_eq_false_iff_ne.2 (by omega))) (wpl_r1 [(15, .bool false)] kr (wpl_end (then_normal (wp_iff kr ?_)))))))
  refine wp_seq (reg_lit (wpl_val rfl kr (run_eql8 (a := op) (b := 35) rfl kr kr (beq_eq_false_iff_ne.2 (by omega))) (wpl_r1 [(24, .bool false)] kr (wpl_end (then_normal (wp_iff kr (wp_seq ?_)))))))
  refine reg_lit (wpl_val rfl kr (run_eql8 (a := op) (b := 36) rfl kr kr (beq_eq_false_iff_ne.2 (by omega))) (wpl_r1 [(32, .bool false)] kr (wpl_end (then_normal (wp_iff kr (wp_skip (block_normal ?_)))))))
  refine then_normal (wp_seq (reg_lit (wpl_ldvec Ba.out rfl kr rfl kr (wpl_ldvec Bb.out rfl kr rfl kr ?_))))
  refine wpl_call rfl kr kr ((rbalance_s s1 s2 Aa Ab la lb ca cb sa sb _ hs1 hs2 La.out Lb.out Ca Cb Oa.out Ob.out Ya.out Yb.out).mono ?_)
  rintro e w24 ⟨⟨l1, A1, c1, l2, A2, c2, E1, E2, rfl, C1, C2, O1, O2, S12⟩, hb⟩
  refine ⟨_, rfl, ?_⟩
  have k0 : w.heap.size ≤ w3.heap.size := hU.size
  replace Oa := kQ Oa hb
  replace Ob := kQ Ob hb
  replace Ba := kB Ba hb
  replace Bb := kB Bb hb
  replace Bu := kB Bu hb
  replace hU := kU hU hb
  clear hb
  replace O1 := hide (OwQ.base O1.out k0)
  have HG1 := hide (show Gd l1 by rw [E1.out]; exact gd_blA (a := ⟨la, sa⟩) (b := ⟨lb, sb⟩) Ya.out Yb.out)
  have L1 := hide (show l1.length ≤ 4096 from Nat.le_trans HG1.out.le (by decide))
  have Y1 := hide HG1.out.by_
  replace O2 := hide (OwQ.base O2.out k0)
  have HG2 := hide (show Gd l2 by rw [E2.out]; exact gd_blB (a := ⟨la, sa⟩) (b := ⟨lb, sb⟩) Ya.out Yb.out)
  have L2 := hide (show l2.length ≤ 4096 from Nat.le_trans HG2.out.le (by decide))
  have Y2 := hide HG2.out.by_
  clear k0
  have hln : l2.length = l1.length := by rw [E1.out, E2.out, blA_length, blB_length]
  clear Oa Ca La Ya
  clear Ob Cb Lb Yb
  refine wpl_r3 [(45, .agg #[.slice A2 l2.length c2, .bool s2]), (44, .agg #[.slice A1 l1.length c1, .bool s1]), (40, .tuple #[.agg #[.slice A1 l1.length c1, .bool s1], .agg #[.slice A2 l2.length c2, .bool s2]])] kr (wpl_al rfl kr rfl ?_)
  intro w25 Np Bp hNp hb
  replace Bp := hide Bp
  have neap : Na ≠ Np := by have := Ba.out.lt; omega
  have nebp : Nb ≠ Np := by have := Bb.out.lt; omega
  have neup : Nu ≠ Np := by have := Bu.out.lt; omega
  replace O1 := kO O1 hb
  replace O2 := kO O2 hb
  replace Ba := kB Ba hb
  replace Bb := kB Bb hb
  replace Bu := kB Bu hb
  have hzp : w.heap.size ≤ Np := Nat.le_trans hU.size hNp
  clear hNp
  replace hU := kU hU hb
  clear hb
  refine wpl_al rfl kr rfl ?_
  intro w26 Nq Bq hNq hb
  replace Bq := hide Bq
  have neaq : Na ≠ Nq := by have := Ba.out.lt; omega
  have nebq : Nb ≠ Nq := by have := Bb.out.lt; omega
  have neuq : Nu ≠ Nq := by have := Bu.out.lt; omega
  have nepq : Np ≠ Nq := by have := Bp.out.lt; omega
  replace O1 := kO O1 hb
  replace O2 := kO O2 hb
  replace Ba := kB Ba hb
  replace Bb := kB Bb hb
  replace Bu := kB Bu hb
  replace Bp := kB Bp hb
  have hzq : w.heap.size ≤ Nq := Nat.le_trans hU.size hNq
  clear hNq
  replace hU := kU hU hb
  clear hb
  refine wpl_stk Bp.out rfl kr rfl kr (A2 := A1) (m2 := l1.length) (c2 := c1) (s2 := s1) kr ?_
  intro w27 hst hkeep
  replace O1 := hide (OwQ.box O1.out Bp.out hkeep)
  replace O2 := hide (OwQ.box O2.out Bp.out hkeep)
  replace Ba := hide (hst.ne Ba.out nq)
  replace Bb := hide (hst.ne Bb.out nq)
  replace Bu := hide (hst.ne Bu.out nq)
  replace Bq := hide (hst.ne Bq.out nq)
  replace Bp := hide hst.box
  replace hU := hU.trans (hst.bel hzp)
  clear hst hkeep
  refine wpl_stk Bq.out rfl kr rfl kr (A2 := A2) (m2 := l2.length) (c2 := c2) (s2 := s2) kr ?_
  intro w28 hst hkeep
  replace O1 := hide (OwQ.box O1.out Bq.out hkeep)
  replace O2 := hide (OwQ.box O2.out Bq.out hkeep)
  replace Ba := hide (hst.ne Ba.out nq)
  replace Bb := hide (hst.ne Bb.out nq)
  replace Bu := hide (hst.ne Bu.out nq)
  replace Bp := hide (hst.ne Bp.out nq)
  replace Bq := hide hst.box
  replace hU := hU.trans (hst.bel hzq)
  clear hst hkeep
  refine wpl_end (then_normal (wp_seq (wp_seq ?_)))
  rcases hop with hop | hop | hop
  rcases (show op = 37 ∨ op = 38 ∨ op = 39 ∨ op = 40 by omega) with rfl | rfl | rfl | rfl
  refine reg_lit (wpl_r1 [(46, .int .u8 37)] kr (wpl_end (then_normal (wp_block (wp_seq (sw_t [(47, .bool true), (48, .bool true)] rfl kr kr (wp_skip ?_)))))))
  refine then_normal (wp_ift kr (wp_seq (reg_lit (wpl_r1 [(52, .int .u8 37)] kr (wpl_ldvec Bp.out rfl kr rfl kr (wpl_ldvec Bq.out rfl kr rfl kr ?_))))))
  obtain ⟨g, eg, hg, hrow⟩ := O1.out HG1.out.pos
  obtain ⟨g2, eg2, hg2, hrow2⟩ := O2.out HG2.out.pos
  have hgg : g2 ≠ g := fun e => S12.out g g2 eg eg2 e.symm
  have hxu : Nu ≠ g := Bu.out.off hrow HG1.out.pos
  refine wpl_call rfl kr kr ((rpair_any 37 mAnd (by simp) w A1 l1 c1 s1 A2 l2 c2 s2 _ L1.out L2.out C1 C2 O1.out.rd O2.out.rd Y1.out Y2.out g g2 eg hg hrow eg2 hrow2 hgg hU hln HG1.out HG2.out).mono ?_)
  rintro e w9 ⟨rfl, hrow9, hfar, hsz, hb9⟩
  refine ⟨_, rfl, ?_⟩
  replace Bu := hide (Bu.out.blk (hfar Nu hxu Bu.out.lt) hsz)
  refine wpl_stk Bu.out rfl kr rfl kr (A2 := A1) (m2 := l1.length) (c2 := c1) (s2 := s1) kr ?_
  intro V hst hkeep
  refine wpl_end (then_normal (wp_ret (ret_box hst.box rfl kr ?_)))
  obtain ⟨G, hG⟩ : ∃ G : Nat → Int, G = fun i => mAnd (qt l1 i) (qt l2 i) := ⟨_, rfl⟩
  rw [← hG] at hrow9
  have hlq : (ql l1.length G).length = l1.length := ql_length _ _
  exact ⟨ql l1.length G, s1, A1, c1, hide (by show _ = btw mAnd _ _; unfold btw; rw [← hs1, ← E1.out, ← E2.out, hG, E1.out, blA_length]), by rw [hlq], by rw [hlq]; exact C1, hide (own_row hrow9 hkeep hxu eg hg), hb9.trans (hst.bel hzu)⟩
  refine reg_lit (wpl_r1 [(46, .int .u8 38)] kr (wpl_end (then_normal (wp_block (wp_seq (sw_f [(47, .bool false), (48, .bool false)] rfl kr kr (sw_t [(47, .bool true), (49, .bool true)] rfl kr kr ?_)))))))
  refine wp_skip (then_normal (wp_ift kr (wp_seq (reg_lit (wpl_r1 [(52, .int .u8 38)] kr (wpl_ldvec Bp.out rfl kr rfl kr (wpl_ldvec Bq.out rfl kr rfl kr ?_)))))))
  obtain ⟨g, eg, hg, hrow⟩ := O1.out HG1.out.pos
  obtain ⟨g2, eg2, hg2, hrow2⟩ := O2.out HG2.out.pos
  have hgg : g2 ≠ g := fun e => S12.out g g2 eg eg2 e.symm
  have hxu : Nu ≠ g := Bu.out.off hrow HG1.out.pos
  refine wpl_call rfl kr kr ((rpair_any 38 mOr (by simp) w A1 l1 c1 s1 A2 l2 c2 s2 _ L1.out L2.out C1 C2 O1.out.rd O2.out.rd Y1.out Y2.out g g2 eg hg hrow eg2 hrow2 hgg hU hln HG1.out HG2.out).mono ?_)
  rintro e w9 ⟨rfl, hrow9, hfar, hsz, hb9⟩
  refine ⟨_, rfl, ?_⟩
  replace Bu := hide (Bu.out.blk (hfar Nu hxu Bu.out.lt) hsz)
  refine wpl_stk Bu.out rfl kr rfl kr (A2 := A1) (m2 := l1.length) (c2 := c1) (s2 := s1) kr ?_
  intro V hst hkeep
  refine wpl_end (then_normal (wp_ret (ret_box hst.box rfl kr ?_)))
  obtain ⟨G, hG⟩ : ∃ G : Nat → Int, G = fun i => mOr (qt l1 i) (qt l2 i) := ⟨_, rfl⟩
  rw [← hG] at hrow9
  have hlq : (ql l1.length G).length = l1.length := ql_length _ _
  exact ⟨ql l1.length G, s1, A1, c1, hide (by show _ = btw mOr _ _; unfold btw; rw [← hs1, ← E1.out, ← E2.out, hG, E1.out, blA_length]), by rw [hlq], by rw [hlq]; exact C1, hide (own_row hrow9 hkeep hxu eg hg), hb9.trans (hst.bel hzu)⟩
  refine reg_lit (wpl_r1 [(46, .int .u8 39)] kr (wpl_end (then_normal (wp_block (wp_seq (sw_f [(47, .bool false), (48, .bool false)] rfl kr kr (sw_f [(47, .bool false), (49, .bool false)] rfl kr kr ?_)))))))
  refine sw_t [(47, .bool true), (50, .bool true)] rfl kr kr (wp_skip (then_normal (wp_ift kr (wp_seq (reg_lit (wpl_r1 [(52, .int .u8 39)] kr (wpl_ldvec Bp.out rfl kr rfl kr ?_)))))))
  refine wpl_ldvec Bq.out rfl kr rfl kr ?_
  obtain ⟨g, eg, hg, hrow⟩ := O1.out HG1.out.pos
  obtain ⟨g2, eg2, hg2, hrow2⟩ := O2.out HG2.out.pos
  have hgg : g2 ≠ g := fun e => S12.out g g2 eg eg2 e.symm
  have hxu : Nu ≠ g := Bu.out.off hrow HG1.out.pos
  refine wpl_call rfl kr kr ((rpair_any 39 mXor (by simp) w A1 l1 c1 s1 A2 l2 c2 s2 _ L1.out L2.out C1 C2 O1.out.rd O2.out.rd Y1.out Y2.out g g2 eg hg hrow eg2 hrow2 hgg hU hln HG1.out HG2.out).mono ?_)
  rintro e w9 ⟨rfl, hrow9, hfar, hsz, hb9⟩
  refine ⟨_, rfl, ?_⟩
  replace Bu := hide (Bu.out.blk (hfar Nu hxu Bu.out.lt) hsz)
  refine wpl_stk Bu.out rfl kr rfl kr (A2 := A1) (m2 := l1.length) (c2 := c1) (s2 := s1) kr ?_
  intro V hst hkeep
  refine wpl_end (then_normal (wp_ret (ret_box hst.box rfl kr ?_)))
  obtain ⟨G, hG⟩ : ∃ G : Nat → Int, G = fun i => mXor (qt l1 i) (qt l2 i) := ⟨_, rfl⟩
  rw [← hG] at hrow9
  have hlq : (ql l1.length G).length = l1.length := ql_length _ _
  exact ⟨ql l1.length G, s1, A1, c1, hide (by show _ = btw mXor _ _; unfold btw; rw [← hs1, ← E1.out, ← E2.out, hG, E1.out, blA_length]), by rw [hlq], by rw [hlq]; exact C1, hide (own_row hrow9 hkeep hxu eg hg), hb9.trans (hst.bel hzu)⟩
  refine reg_lit (wpl_r1 [(46, .int .u8 40)] kr (wpl_end (then_normal (wp_block (wp_seq (sw_f [(47, .bool false), (48, .bool false)] rfl kr kr (sw_f [(47, .bool false), (49, .bool false)] rfl kr kr ?_)))))))
  refine sw_f [(47, .bool false), (50, .bool false)] rfl kr kr (reg_lit (wpl_r2 [(47, .bool true), (51, .bool true)] kr (wpl_end (then_normal (wp_ift kr (wp_seq (reg_lit ?_)))))))
  refine wpl_r1 [(52, .int .u8 40)] kr (wpl_ldvec Bp.out rfl kr rfl kr (wpl_ldvec Bq.out rfl kr rfl kr ?_))
  obtain ⟨g, eg, hg, hrow⟩ := O1.out HG1.out.pos
  obtain ⟨g2, eg2, hg2, hrow2⟩ := O2.out HG2.out.pos
  have hgg : g2 ≠ g := fun e => S12.out g g2 eg eg2 e.symm
  have hxu : Nu ≠ g := Bu.out.off hrow HG1.out.pos
  refine wpl_call rfl kr kr ((rpair_any 40 mEq (by simp) w A1 l1 c1 s1 A2 l2 c2 s2 _ L1.out L2.out C1 C2 O1.out.rd O2.out.rd Y1.out Y2.out g g2 eg hg hrow eg2 hrow2 hgg hU hln HG1.out HG2.out).mono ?_)
  rintro e w9 ⟨rfl, hrow9, hfar, hsz, hb9⟩
  refine ⟨_, rfl, ?_⟩
  replace Bu := hide (Bu.out.blk (hfar Nu hxu Bu.out.lt) hsz)
  refine wpl_stk Bu.out rfl kr rfl kr (A2 := A1) (m2 := l1.length) (c2 := c1) (s2 := s1) kr ?_
  intro V hst hkeep
  refine wpl_end (then_normal (wp_ret (ret_box hst.box rfl kr ?_)))
  obtain ⟨G, hG⟩ : ∃ G : Nat → Int, G = fun i => mEq (qt l1 i) (qt l2 i) := ⟨_, rfl⟩
  rw [← hG] at hrow9
  have hlq : (ql l1.length G).length = l1.length := ql_length _ _
  exact ⟨ql l1.length G, s1, A1, c1, hide (by show _ = btw mEq _ _; unfold btw; rw [← hs1, ← E1.out, ← E2.out, hG, E1.out, blA_length]), by rw [hlq], by rw [hlq]; exact C1, hide (own_row hrow9 hkeep hxu eg hg), hb9.trans (hst.bel hzu)⟩
  rcases (show op = 21 ∨ op = 22 ∨ op = 23 ∨ op = 24 ∨ op = 25 by omega) with rfl | rfl | rfl | rfl | rfl
  refine reg_lit (wpl_r1 [(46, .int .u8 21)] kr (wpl_end (then_normal (wp_block (wp_seq (sw_f [(47, .bool false), (48, .bool false)] rfl kr kr (sw_f [(47, .bool false), (49, .bool false)] rfl kr kr ?_)))))))
  refine sw_f [(47, .bool false), (50, .bool false)] rfl kr kr (reg_lit (wpl_r2 [(47, .bool false), (51, .bool false)] kr (wpl_end (then_normal (wp_iff kr (wp_seq (sw_t [(56, .bool true), (57, .bool true)] rfl kr kr ?_)))))))
  refine wp_skip (then_normal (wp_ift kr (wp_seq (reg_lit (wpl_r1 [(62, .int .u8 21)] kr (wpl_ldvec Bp.out rfl kr rfl kr (wpl_ldvec Bq.out rfl kr rfl kr ?_)))))))
  refine wpl_call rfl kr kr ((rarith_any 21 (by decide) A1 l1 c1 s1 A2 l2 c2 s2 _ L1.out L2.out C1 C2 O1.out.rd O2.out.rd Y1.out Y2.out hln HG1.out HG2.out).mono ?_)
  rintro e w29 ⟨lv, sv, Av, cv, Ev, rfl, Cv, Ov, hb⟩
  refine ⟨_, rfl, ?_⟩
  have k0 : w.heap.size ≤ w28.heap.size := hU.size
  replace O1 := kO O1 hb
  replace O2 := kO O2 hb
  replace Ba := kB Ba hb
  replace Bb := kB Bb hb
  replace Bu := kB Bu hb
  replace Bp := kB Bp hb
  replace Bq := kB Bq hb
  replace hU := kU hU hb
  clear hb
  replace Ov := hide (OwQ.base Ov.out k0)
  clear k0
  refine wpl_stk Bu.out rfl kr rfl kr (A2 := Av) (m2 := lv.length) (c2 := cv) (s2 := sv) kr ?_
  intro w30 hst hkeep
  replace O1 := hide (OwQ.box O1.out Bu.out hkeep)
  replace O2 := hide (OwQ.box O2.out Bu.out hkeep)
  replace Ov := hide (OwQ.box Ov.out Bu.out hkeep)
  replace Ba := hide (hst.ne Ba.out nq)
  replace Bb := hide (hst.ne Bb.out nq)
  replace Bp := hide (hst.ne Bp.out nq)
  replace Bq := hide (hst.ne Bq.out nq)
  replace Bu := hide hst.box
  replace hU := hU.trans (hst.bel hzu)
  clear hst hkeep
  refine wpl_end (then_normal (wp_ret (ret_box Bu.out rfl kr ?_)))
  exact ⟨lv, sv, Av, cv, hide (by rw [binV_ar hop, ← hs1, ← E1.out, ← E2.out]; exact Ev.out), rfl, Cv, Ov, hU⟩
  refine reg_lit (wpl_r1 [(46, .int .u8 22)] kr (wpl_end (then_normal (wp_block (wp_seq (sw_f [(47, .bool false), (48, .bool false)] rfl kr kr (sw_f [(47, .bool false), (49, .bool false)] rfl kr kr ?_)))))))
  refine sw_f [(47, .bool false), (50, .bool false)] rfl kr kr (reg_lit (wpl_r2 [(47, .bool false), (51, .bool false)] kr (wpl_end (then_normal (wp_iff kr (wp_seq (sw_f [(56, .bool false), (57, .bool false)] rfl kr kr ?_)))))))
  refine sw_t [(56, .bool true), (58, .bool true)] rfl kr kr (wp_skip (then_normal (wp_ift kr (wp_seq (reg_lit (wpl_r1 [(62, .int .u8 22)] kr (wpl_ldvec Bp.out rfl kr rfl kr ?_)))))))
  refine wpl_ldvec Bq.out rfl kr rfl kr ?_
  refine wpl_call rfl kr kr ((rarith_any 22 (by decide) A1 l1 c1 s1 A2 l2 c2 s2 _ L1.out L2.out C1 C2 O1.out.rd O2.out.rd Y1.out Y2.out hln HG1.out HG2.out).mono ?_)
  rintro e w31 ⟨lv, sv, Av, cv, Ev, rfl, Cv, Ov, hb⟩
  refine ⟨_, rfl, ?_⟩
  have k0 : w.heap.size ≤ w28.heap.size := hU.size
  replace O1 := kO O1 hb
  replace O2 := kO O2 hb
  replace Ba := kB Ba hb
  replace Bb := kB Bb hb
  replace Bu := kB Bu hb
  replace Bp := kB Bp hb
  replace Bq := kB Bq hb
  replace hU := kU hU hb
  clear hb
  replace Ov := hide (OwQ.base Ov.out k0)
  clear k0
  refine wpl_stk Bu.out rfl kr rfl kr (A2 := Av) (m2 := lv.length) (c2 := cv) (s2 := sv) kr ?_
  intro w32 hst hkeep
  replace O1 := hide (OwQ.box O1.out Bu.out hkeep)
  replace O2 := hide (OwQ.box O2.out Bu.out hkeep)
  replace Ov := hide (OwQ.box Ov.out Bu.out hkeep)
  replace Ba := hide (hst.ne Ba.out nq)
  replace Bb := hide (hst.ne Bb.out nq)
  replace Bp := hide (hst.ne Bp.out nq)
  replace Bq := hide (hst.ne Bq.out nq)
  replace Bu := hide hst.box
  replace hU := hU.trans (hst.bel hzu)
  clear hst hkeep
  refine wpl_end (then_normal (wp_ret (ret_box Bu.out rfl kr ?_)))
  exact ⟨lv, sv, Av, cv, hide (by rw [binV_ar hop, ← hs1, ← E1.out, ← E2.out]; exact Ev.out), rfl, Cv, Ov, hU⟩
  refine reg_lit (wpl_r1 [(46, .int .u8 23)] kr (wpl_end (then_normal (wp_block (wp_seq (sw_f [(47, .bool false), (48, .bool false)] rfl kr kr (sw_f [(47, .bool false), (49, .bool false)] rfl kr kr ?_)))))))
  refine sw_f [(47, .bool false), (50, .bool false)] rfl kr kr (reg_lit (wpl_r2 [(47, .bool false), (51, .bool false)] kr (wpl_end (then_normal (wp_iff kr (wp_seq (sw_f [(56, .bool false), (57, .bool false)] rfl kr kr ?_)))))))
  refine sw_f [(56, .bool false), (58, .bool false)] rfl kr kr (sw_t [(56, .bool true), (59, .bool true)] rfl kr kr (wp_skip (then_normal (wp_ift kr (wp_seq (reg_lit (wpl_r1 [(62, .int .u8 23)] kr ?_)))))))
  refine wpl_ldvec Bp.out rfl kr rfl kr (wpl_ldvec Bq.out rfl kr rfl kr ?_)
  refine wpl_call rfl kr kr ((rarith_any 23 (by decide) A1 l1 c1 s1 A2 l2 c2 s2 _ L1.out L2.out C1 C2 O1.out.rd O2.out.rd Y1.out Y2.out hln HG1.out HG2.out).mono ?_)
  rintro e w33 ⟨lv, sv, Av, cv, Ev, rfl, Cv, Ov, hb⟩
  refine ⟨_, rfl, ?_⟩
  have k0 : w.heap.size ≤ w28.heap.size := hU.size
  replace O1 := kO O1 hb
  replace O2 := kO O2 hb
  replace Ba := kB Ba hb
  replace Bb := kB Bb hb
  replace Bu := kB Bu hb
  replace Bp := kB Bp hb
  replace Bq := kB Bq hb
  replace hU := kU hU hb
  clear hb
  replace Ov := hide (OwQ.base Ov.out k0)
  clear k0
  refine wpl_stk Bu.out rfl kr rfl kr (A2 := Av) (m2 := lv.length) (c2 := cv) (s2 := sv) kr ?_
  intro w34 hst hkeep
  replace O1 := hide (OwQ.box O1.out Bu.out hkeep)
  replace O2 := hide (OwQ.box O2.out Bu.out hkeep)
  replace Ov := hide (OwQ.box Ov.out Bu.out hkeep)
  replace Ba := hide (hst.ne Ba.out nq)
  replace Bb := hide (hst.ne Bb.out nq)
  replace Bp := hide (hst.ne Bp.out nq)
  replace Bq := hide (hst.ne Bq.out nq)
  replace Bu := hide hst.box
  replace hU := hU.trans (hst.bel hzu)
  clear hst hkeep
  refine wpl_end (then_normal (wp_ret (ret_box Bu.out rfl kr ?_)))
  exact ⟨lv, sv, Av, cv, hide (by rw [binV_ar hop, ← hs1, ← E1.out, ← E2.out]; exact Ev.out), rfl, Cv, Ov, hU⟩
  refine reg_lit (wpl_r1 [(46, .int .u8 24)] kr (wpl_end (then_normal (wp_block (wp_seq (sw_f [(47, .bool false), (48, .bool false)] rfl kr kr (sw_f [(47, .bool false), (49, .bool false)] rfl kr kr ?_)))))))
  refine sw_f [(47, .bool false), (50, .bool false)] rfl kr kr (reg_lit (wpl_r2 [(47, .bool false), (51, .bool false)] kr (wpl_end (then_normal (wp_iff kr (wp_seq (sw_f [(56, .bool false), (57, .bool false)] rfl kr kr ?_)))))))
  refine sw_f [(56, .bool false), (58, .bool false)] rfl kr kr (sw_f [(56, .bool false), (59, .bool false)] rfl kr kr (sw_t [(56, .bool true), (60, .bool true)] rfl kr kr (wp_skip (then_normal (wp_ift kr (wp_seq (reg_lit ?_)))))))
  refine wpl_r1 [(62, .int .u8 24)] kr (wpl_ldvec Bp.out rfl kr rfl kr (wpl_ldvec Bq.out rfl kr rfl kr ?_))
  refine wpl_call rfl kr kr ((rarith_any 24 (by decide) A1 l1 c1 s1 A2 l2 c2 s2 _ L1.out L2.out C1 C2 O1.out.rd O2.out.rd Y1.out Y2.out hln HG1.out HG2.out).mono ?_)
  rintro e w35 ⟨lv, sv, Av, cv, Ev, rfl, Cv, Ov, hb⟩
  refine ⟨_, rfl, ?_⟩
  have k0 : w.heap.size ≤ w28.heap.size := hU.size
  replace O1 := kO O1 hb
  replace O2 := kO O2 hb
  replace Ba := kB Ba hb
  replace Bb := kB Bb hb
  replace Bu := kB Bu hb
  replace Bp := kB Bp hb
  replace Bq := kB Bq hb
  replace hU := kU hU hb
  clear hb
  replace Ov := hide (OwQ.base Ov.out k0)
  clear k0
  refine wpl_stk Bu.out rfl kr rfl kr (A2 := Av) (m2 := lv.length) (c2 := cv) (s2 := sv) kr ?_
  intro w36 hst hkeep
  replace O1 := hide (OwQ.box O1.out Bu.out hkeep)
  replace O2 := hide (OwQ.box O2.out Bu.out hkeep)
  replace Ov := hide (OwQ.box Ov.out Bu.out hkeep)
  replace Ba := hide (hst.ne Ba.out nq)
  replace Bb := hide (hst.ne Bb.out nq)
  replace Bp := hide (hst.ne Bp.out nq)
  replace Bq := hide (hst.ne Bq.out nq)
  replace Bu := hide hst.box
  replace hU := hU.trans (hst.bel hzu)
  clear hst hkeep
  refine wpl_end (then_normal (wp_ret (ret_box Bu.out rfl kr ?_)))
  exact ⟨lv, sv, Av, cv, hide (by rw [binV_ar hop, ← hs1, ← E1.out, ← E2.out]; exact Ev.out), rfl, Cv, Ov, hU⟩
  refine reg_lit (wpl_r1 [(46, .int .u8 25)] kr (wpl_end (then_normal (wp_block (wp_seq (sw_f [(47, .bool false), (48, .bool false)] rfl kr kr (sw_f [(47, .bool false), (49, .bool false)] rfl kr kr ?_)))))))
  refine sw_f [(47, .bool false), (50, .bool false)] rfl kr kr (reg_lit (wpl_r2 [(47, .bool false), (51, .bool false)] kr (wpl_end (then_normal (wp_iff kr (wp_seq (sw_f [(56, .bool false), (57, .bool false)] rfl kr kr ?_)))))))
  refine sw_f [(56, .bool false), (58, .bool false)] rfl kr kr (sw_f [(56, .bool false), (59, .bool false)] rfl kr kr (sw_f [(56, .bool false), (60, .bool false)] rfl kr kr (reg_lit (wpl_r2 [(56, .bool true), (61, .bool true)] kr (wpl_end (then_normal (wp_ift kr ?_)))))))
  refine wp_seq (reg_lit (wpl_r1 [(62, .int .u8 25)] kr (wpl_ldvec Bp.out rfl kr rfl kr (wpl_ldvec Bq.out rfl kr rfl kr ?_))))
  refine wpl_call rfl kr kr ((rarith_any 25 (by decide) A1 l1 c1 s1 A2 l2 c2 s2 _ L1.out L2.out C1 C2 O1.out.rd O2.out.rd Y1.out Y2.out hln HG1.out HG2.out).mono ?_)
  rintro e w37 ⟨lv, sv, Av, cv, Ev, rfl, Cv, Ov, hb⟩
  refine ⟨_, rfl, ?_⟩
  have k0 : w.heap.size ≤ w28.heap.size := hU.size
  replace O1 := kO O1 hb
  replace O2 := kO O2 hb
  replace Ba := kB Ba hb
  replace Bb := kB Bb hb
  replace Bu := kB Bu hb
  replace Bp := kB Bp hb
  replace Bq := kB Bq hb
  replace hU := kU hU hb
  clear hb
  replace Ov := hide (OwQ.base Ov.out k0)
  clear k0
  refine wpl_stk Bu.out rfl kr rfl kr (A2 := Av) (m2 := lv.length) (c2 := cv) (s2 := sv) kr ?_
  intro w38 hst hkeep
  replace O1 := hide (OwQ.box O1.out Bu.out hkeep)
  replace O2 := hide (OwQ.box O2.out Bu.out hkeep)
  replace Ov := hide (OwQ.box Ov.out Bu.out hkeep)
  replace Ba := hide (hst.ne Ba.out nq)
  replace Bb := hide (hst.ne Bb.out nq)
  replace Bp := hide (hst.ne Bp.out nq)
  replace Bq := hide (hst.ne Bq.out nq)
  replace Bu := hide hst.box
  replace hU := hU.trans (hst.bel hzu)
  clear hst hkeep
  refine wpl_end (then_normal (wp_ret (ret_box Bu.out rfl kr ?_)))
  exact ⟨lv, sv, Av, cv, hide (by rw [binV_ar hop, ← hs1, ← E1.out, ← E2.out]; exact Ev.out), rfl, Cv, Ov, hU⟩
  refine reg_lit (wpl_r1 [(46, .int .u8 op)] kr (wpl_end (then_normal (wp_block (wp_seq (wp_seq (reg_lit ?_)))))))
  refine wpl_val rfl kr (run_eql8 (a := op) (b := 37) rfl kr kr (beq_eq_false_iff_ne.2 (by omega))) (wpl_r1 [(47, .bool false)] kr (wpl_end (then_normal (wp_iff kr (wp_seq (reg_lit (wpl_val rfl kr (run_eql8 (a := op) (b := 38) rfl kr kr (beq_eq_false_iff_ne.2 (by omega))) ?_)))))))
  refine wpl_r1 [(47, .bool false)] kr (wpl_end (then_normal (wp_iff kr (wp_seq (reg_lit (wpl_val rfl kr (run_eql8 (a := op) (b := 39) rfl kr kr (beq_eq_false_iff_ne.2 (by omega))) (wpl_r1 [(47, .bool false)] kr ?_)))))))
  refine wpl_end (then_normal (wp_iff kr (reg_lit (wpl_val rfl kr (run_eql8 (a := op) (b := 40) rfl kr kr (beq_eq_false_iff_ne.2 (by omega))) (wpl_r1 [(47, .bool false)] kr (wpl_end (then_normal ?_)))))))
  refine wp_iff kr (wp_seq (wp_seq (reg_lit (wpl_val rfl kr (run_eql8 (a := op) (b := 21) rfl kr kr (beq_eq_false_iff_ne.2 (by omega))) (wpl_r1 [(56, .bool false)] kr (wpl_end (then_normal ?_)))))))
  refine wp_iff kr (wp_seq (reg_lit (wpl_val rfl kr (run_eql8 (a := op) (b := 22) rfl kr kr (beq_eq_false_iff_ne.2 (by omega))) (wpl_r1 [(56, .bool false)] kr (wpl_end (then_normal (wp_iff kr ?_)))))))
  refine wp_seq (reg_lit (wpl_val rfl kr (run_eql8 (a := op) (b := 23) rfl kr kr (beq_eq_false_iff_ne.2 (by omega))) (wpl_r1 [(56, .bool false)] kr (wpl_end (then_normal (wp_iff kr (wp_seq ?_)))))))
  refine reg_lit (wpl_val rfl kr (run_eql8 (a := op) (b := 24) rfl kr kr (beq_eq_false_iff_ne.2 (by omega))) (wpl_r1 [(56, .bool false)] kr (wpl_end (then_normal (wp_iff kr (reg_lit (wpl_val rfl kr (run_eql8 (a := op) (b := 25) rfl kr kr (beq_eq_false_iff_ne.2 (by omega))) ?_)))))))
  refine wpl_r1 [(56, .bool false)] kr (wpl_end (then_normal (wp_iff kr (wp_skip (block_normal (then_normal (wp_seq ?_)))))))
  refine reg_lit (wpl_r1 [(66, .int .u8 op)] kr (wpl_ldvec Bp.out rfl kr rfl kr (wpl_ldvec Bq.out rfl kr rfl kr ?_)))
  refine wpl_call rfl kr kr ((rcompare_any op (by omega) A1 l1 c1 s1 A2 l2 c2 s2 _ L1.out L2.out C1 C2 O1.out.rd O2.out.rd Y1.out Y2.out hln HG1.out HG2.out).mono ?_)
  rintro e w39 ⟨rfl, hb⟩
  refine ⟨_, rfl, ?_⟩
  replace O1 := kO O1 hb
  replace O2 := kO O2 hb
  replace Ba := kB Ba hb
  replace Bb := kB Bb hb
  replace Bu := kB Bu hb
  replace Bp := kB Bp hb
  replace Bq := kB Bq hb
  replace hU := kU hU hb
  clear hb
  refine wpl_call rfl kr kr ((rsingle_any (rcmpV op l1 l2 s1) _).mono ?_)
  rintro e w40 ⟨lv, sv, Av, cv, Ev, rfl, Cv, Ov, hb⟩
  refine ⟨_, rfl, ?_⟩
  have k0 : w.heap.size ≤ w39.heap.size := hU.size
  replace O1 := kO O1 hb
  replace O2 := kO O2 hb
  replace Ba := kB Ba hb
  replace Bb := kB Bb hb
  replace Bu := kB Bu hb
  replace Bp := kB Bp hb
  replace Bq := kB Bq hb
  replace hU := kU hU hb
  clear hb
  replace Ov := hide (OwQ.base Ov.out k0)
  clear k0
  refine wpl_stk Bu.out rfl kr rfl kr (A2 := Av) (m2 := lv.length) (c2 := cv) (s2 := sv) kr ?_
  intro w41 hst hkeep
  replace O1 := hide (OwQ.box O1.out Bu.out hkeep)
  replace O2 := hide (OwQ.box O2.out Bu.out hkeep)
  replace Ov := hide (OwQ.box Ov.out Bu.out hkeep)
  replace Ba := hide (hst.ne Ba.out nq)
  replace Bb := hide (hst.ne Bb.out nq)
  replace Bp := hide (hst.ne Bp.out nq)
  replace Bq := hide (hst.ne Bq.out nq)
  replace Bu := hide hst.box
  replace hU := hU.trans (hst.bel hzu)
  clear hst hkeep
  refine wpl_end (then_normal (wp_ret (ret_box Bu.out rfl kr ?_)))
  exact ⟨lv, sv, Av, cv, hide (by rw [binV_cmp hop, ← hs1, ← E1.out, ← E2.out]; exact Ev.out), rfl, Cv, Ov, hU⟩
end
section
open Go.RowKit
set_option maxRecDepth 100000
set_option linter.unusedSimpArgs false
set_option linter.unusedVariables false
def unV (op : Int) (a : Vc) : Vc :=
  if op = 12 then vNeg a else if op = 13 then sgl (mNot (tr a)) else if op = 15 then sgl (red mAnd a) else if op = 16 then sgl (red mOr a) else if op = 17 then sgl (red mXor a)
  else if op = 18 then sgl (mNot (red mAnd a)) else if op = 19 then sgl (mNot (red mOr a)) else if op = 20 then sgl (mNot (red mXor a)) else vNot a
set_option maxHeartbeats 16000000 in
theorem runary_any (op : Int) (hop : op = 12 ∨ op = 13 ∨ op = 14 ∨ op = 15 ∨ op = 16 ∨ op = 17 ∨ op = 18 ∨ op = 19 ∨ op = 20) (Aa : Option Addr) (la : List Int) (ca : Nat) (sa : Bool) (w : World) (ha : la.length ≤ 4096) (hca : Hid (la.length ≤ ca ∧ ca ≤ maxLen)) (hra : RQ w Aa la) (ya : By la) :
    Calls Tryz.prog 12 #[.int .u8 op, .agg #[.slice Aa la.length ca, .bool sa]] w (RetC (· = unV op ⟨la, sa⟩) w) := by
  have Oa := hide hra
  have La := hide ha
  have Ca := hca
  have Ya := hide ya
  clear ha hca hra ya
  have hU : Below w.heap.size w w := Below.refl _ _
  refine calls_sl (l := [.int .u8 op, .agg #[.slice Aa la.length ca, .bool sa]]) 117 Tryz.func12 rfl kr (by simp) (wp_seq (reg_lit (wpl_boxvec (A := Aa) (m := la.length) (c := ca) (s := sa) rfl kr rfl kr ?_)))
  intro w1 Na Ba hNa hb
  replace Ba := hide Ba
  replace Oa := kQ Oa hb
  have hza : w.heap.size ≤ Na := Nat.le_trans hU.size hNa
  clear hNa
  replace hU := kU hU hb
  clear hb
  refine wpl_al rfl kr rfl ?_
  intro w2 Nu Bu hNu hb
  replace Bu := hide Bu
  have neau : Na ≠ Nu := by have := Ba.out.lt; omega
  replace Oa := kQ Oa hb
  replace Ba := kB Ba hb
  have hzu : w.heap.size ≤ Nu := Nat.le_trans hU.size hNu
  clear hNu
  replace hU := kU hU hb
  clear hb
  refine sx_n (wpl_ldvec Ba.out rfl kr rfl kr ?_)
  refine wpl_call rfl kr kr ((rnorm_any' Aa la ca sa _ La.out Ca Oa.out Ya.out).mono ?_)
  rintro e w3 ⟨l1, s1, A1, c1, E1, rfl, C1, O1, hb⟩
  refine ⟨_, rfl, ?_⟩
  have k0 : w.heap.size ≤ w2.heap.size := hU.size
  replace Oa := kQ Oa hb
  replace Ba := kB Ba hb
  replace Bu := kB Bu hb
  replace hU := kU hU hb
  clear hb
  have G1 : Gd l1 := by have h := congrArg Vc.b E1.out; dsimp only at h; rw [h]; exact (cnt_gd (v := ⟨la, sa⟩) Ya.out)
  have L1 := hide (show l1.length ≤ 4096 from Nat.le_trans G1.le (by decide))
  have Y1 := hide G1.by_
  clear G1
  replace O1 := hide (OwQ.base O1.out k0)
  clear k0
  have HG1 := hide (show Gd l1 by have h := congrArg Vc.b E1.out; dsimp only at h; rw [h]; exact cnt_gd (v := ⟨la, sa⟩) Ya.out)
  refine wpl_stk Ba.out rfl kr rfl kr (A2 := A1) (m2 := l1.length) (c2 := c1) (s2 := s1) kr ?_
  intro w4 hst hkeep
  replace Oa := kS hst Oa
  replace O1 := hide (OwQ.box O1.out Ba.out hkeep)
  replace Bu := hide (hst.ne Bu.out nq)
  replace Ba := hide hst.box
  replace hU := hU.trans (hst.bel hza)
  clear hst hkeep
  refine wpl_end (then_normal (wp_seq ?_))
  have hc1 : cnt ⟨la, sa⟩ = ⟨l1, s1⟩ := E1.out.symm
  have hcv := hc1
  have b1 := HG1.out.le
  have p1 := HG1.out.pos
  obtain ⟨q, hq⟩ : ∃ q : Nat, q + 1 = l1.length := ⟨l1.length - 1, by omega⟩
  clear Oa Ca La Ya
  obtain ⟨ad, hA, hc⟩ := RQ.bit O1.out.rd (i := 0) (by omega)
  refine region_R (n := 17) (N := 18) kr kr kr kr kr kr (fun _ _ _ _ _ h => h) ?_
  intro F hQ
  have Ba0 := Ba
  have Bu0 := Bu
  refine anyR_val (i := 0) (m' := 1) (v := .pointer (some ⟨Na, 0, none⟩)) F hQ rfl rfl kr kr kr kr kr (fun _ _ => kr) (anyR_ldsl (i := 1) (m' := 3) Ba0.out F hQ rfl rfl kr kr kr kr kr rfl kr (anyR_val (i := 2) (m' := 7) (v := .pointer (some (ad.add 0))) F hQ rfl rfl kr kr kr kr kr (fun _ _ => run_ix (k := 0) (m := l1.length) (cc := c1) rfl kr hA kr (by omega)) (anyR_val (i := 3) (m' := 15) (v := .int .u8 ((qt l1 0))) F hQ rfl rfl kr kr kr kr kr (fun _ hb => run_ldbit rfl kr (hc _ hb)) (anyR_val (i := 5) (m' := 47) (v := .pointer (some ⟨Na, 0, none⟩)) F hQ rfl rfl kr kr kr kr kr (fun _ _ => kr) (anyR_ldsl (i := 6) (m' := 111) Ba0.out F hQ rfl rfl kr kr kr kr kr rfl kr (anyR_val (i := 7) (m' := 239) (v := .pointer (some (ad.add 0))) F hQ rfl rfl kr kr kr kr kr (fun _ _ => run_ix (k := 0) (m := l1.length) (cc := c1) rfl kr hA kr (by omega)) (anyR_val (i := 8) (m' := 495) (v := .int .u8 ((qt l1 0))) F hQ rfl rfl kr kr kr kr kr (fun _ hb => run_ldbit rfl kr (hc _ hb)) ?_)))))))
  refine anyR_val (i := 10) (m' := 1519) (v := .pointer (some ⟨Na, 0, none⟩)) F hQ rfl rfl kr kr kr kr kr (fun _ _ => kr) (anyR_ldsl (i := 11) (m' := 3567) Ba0.out F hQ rfl rfl kr kr kr kr kr rfl kr (anyR_val (i := 12) (m' := 7663) (v := .pointer (some (ad.add 0))) F hQ rfl rfl kr kr kr kr kr (fun _ _ => run_ix (k := 0) (m := l1.length) (cc := c1) rfl kr hA kr (by omega)) (anyR_val (i := 13) (m' := 15855) (v := .int .u8 ((qt l1 0))) F hQ rfl rfl kr kr kr kr kr (fun _ hb => run_ldbit rfl kr (hc _ hb)) ?_)))
  refine anyR_call (i := 4) (m' := 15871) rfl rfl kr kr kr kr kr ((buf_m (qt l1 0) (rd mAnd l1 0) _ (HG1.out.bd 0).1 rfl).mono ?_)
  rintro e w5 ⟨rfl, hb⟩
  refine ⟨_, rfl, hb, ?_⟩
  replace hb : Below w4.heap.size w4 w5 := Below.trans ((Below.refl _ _).drew) hb
  replace O1 := kO O1 hb
  replace Ba := kB Ba hb
  replace Bu := kB Bu hb
  replace hU := kU hU hb
  clear hb
  refine anyR_call (i := 9) (m' := 16383) rfl rfl kr kr kr kr kr ((buf_m (qt l1 0) (rd mOr l1 0) _ (HG1.out.bd 0).1 rfl).mono ?_)
  rintro e w6 ⟨rfl, hb⟩
  refine ⟨_, rfl, hb, ?_⟩
  replace O1 := kO O1 hb
  replace Ba := kB Ba hb
  replace Bu := kB Bu hb
  replace hU := kU hU hb
  clear hb
  refine anyR_call (i := 14) (m' := 32767) rfl rfl kr kr kr kr kr ((buf_m (qt l1 0) (rd mXor l1 0) _ (HG1.out.bd 0).1 rfl).mono ?_)
  rintro e w7 ⟨rfl, hb⟩
  refine ⟨_, rfl, hb, ?_⟩
  replace O1 := kO O1 hb
  replace Ba := kB Ba hb
  replace Bu := kB Bu hb
  replace hU := kU hU hb
  clear hb
  refine anyR_val (i := 15) (m' := 65535) (v := .int .u8 ((rd mAnd l1 0))) F hQ rfl rfl kr kr kr kr kr (fun _ _ => kr) (anyR_val (i := 16) (m' := 131071) (v := .int .u8 ((rd mOr l1 0))) F hQ rfl rfl kr kr kr kr kr (fun _ _ => kr) (anyR_e (anyR_last (i := 17) (m' := 262143) (v := .int .u8 ((rd mXor l1 0))) rfl rfl kr kr kr kr kr (anyE_done kr ?_))))
  clear F hQ Ba0 Bu0
  refine then_normal (wp_seq (wp_seq (reg_lit (wpl_r1 [(8, .int .i64 1)] kr (wpl_end (then_normal (wp_block ?_)))))))
  have O1k := O1
  refine loop_r (q + 1) ?_
  refine loop_inv (N := q) (fun k E W => Kp [(8, .int .i64 ((k + 1 : Nat) : Int)), (5, .int .u8 ((rd mAnd l1 k))), (6, .int .u8 ((rd mOr l1 k))), (7, .int .u8 ((rd mXor l1 k))), (0, .int .u8 op), (3, .pointer (some ⟨Na, 0, none⟩)), (4, .pointer (some ⟨Nu, 0, none⟩))] E ∧ Below w.heap.size w W ∧ OwQ w.heap.size W A1 l1 ∧ Box Na A1 l1.length c1 s1 W ∧ Box Nu none 0 0 false W) ?_ _ 0 _ _ (Nat.zero_le _) (by omega) ⟨Kp_c kr (Kp_c kr (Kp_c kr (Kp_c kr (Kp_c kr (Kp_c kr (Kp_c kr (Kp_n))))))), hU, O1.out, Ba.out, Bu.out⟩
  clear hU O1 Ba Bu
  intro k E w8 next hk hI hnext
  obtain ⟨hKp, hU, O1, Ba, Bu⟩ := hI
  replace O1 := hide O1
  replace Ba := hide Ba
  replace Bu := hide Bu
  refine wp_keep _ hKp (fun X => ?_)
  clear hKp
  refine wp_seq (wp_seq ?_)
  skip
  obtain ⟨i, hi⟩ : ∃ i : Nat, k + 1 = i := ⟨_, rfl⟩
  rw [hi]
  rcases Nat.lt_or_ge i l1.length with hil | hil
  have hlt : k < q := by omega
  refine reg_lit (wpl_r2 [(28, .pointer (some ⟨Na, 0, none⟩)), (27, .int .i64 ((i : Nat)))] kr (wpl_ldsl Ba.out rfl kr rfl kr (wpl_r1 [(30, .int .i64 ((l1.length : Nat)))] kr (wpl_val rfl kr (run_lss (a := (i : Int)) (b := (l1.length : Int)) rfl kr kr (decide_eq_true (by omega))) (wpl_end (then_normal (wp_ift kr ?_)))))))
  refine wp_skip (then_normal (wp_seq (wp_block (wp_seq ?_))))
  obtain ⟨ad, hA, hc⟩ := RQ.bit O1.out.rd hil
  refine reg_lit (wpl_r2 [(35, .pointer (some ⟨Na, 0, none⟩)), (34, .int .u8 ((rd mAnd l1 k)))] kr (wpl_ldsl Ba.out rfl kr rfl kr (wpl_r1 [(37, .int .i64 ((i : Nat)))] kr (wpl_val rfl kr (run_ix (k := i) (m := l1.length) (cc := c1) rfl kr hA kr hil) (wpl_val rfl kr (run_ldbit rfl kr (hc _ (Below.refl _ _))) ?_)))))
  refine wpl_call rfl kr kr ((and_m (rd mAnd l1 k) (qt l1 i) (rd mAnd l1 (k + 1)) _ (by rw [← hi]; rfl)).mono ?_)
  rintro e w9 ⟨rfl, hb⟩
  refine ⟨_, rfl, ?_⟩
  replace O1 := kO O1 hb
  replace Ba := kB Ba hb
  replace Bu := kB Bu hb
  replace hU := kU hU hb
  clear hb
  refine wpl_r1 [(5, .int .u8 ((rd mAnd l1 (k + 1))))] kr (wpl_end (then_normal (wp_seq ?_)))
  obtain ⟨ad, hA, hc⟩ := RQ.bit O1.out.rd hil
  refine reg_lit (wpl_r2 [(42, .pointer (some ⟨Na, 0, none⟩)), (41, .int .u8 ((rd mOr l1 k)))] kr (wpl_ldsl Ba.out rfl kr rfl kr (wpl_r1 [(44, .int .i64 ((i : Nat)))] kr (wpl_val rfl kr (run_ix (k := i) (m := l1.length) (cc := c1) rfl kr hA kr hil) (wpl_val rfl kr (run_ldbit rfl kr (hc _ (Below.refl _ _))) ?_)))))
  refine wpl_call rfl kr kr ((or_m (rd mOr l1 k) (qt l1 i) (rd mOr l1 (k + 1)) _ (by rw [← hi]; rfl)).mono ?_)
  rintro e w10 ⟨rfl, hb⟩
  refine ⟨_, rfl, ?_⟩
  replace O1 := kO O1 hb
  replace Ba := kB Ba hb
  replace Bu := kB Bu hb
  replace hU := kU hU hb
  clear hb
  refine wpl_r1 [(6, .int .u8 ((rd mOr l1 (k + 1))))] kr (wpl_end (then_normal ?_))
  obtain ⟨ad, hA, hc⟩ := RQ.bit O1.out.rd hil
  refine reg_lit (wpl_r2 [(49, .pointer (some ⟨Na, 0, none⟩)), (48, .int .u8 ((rd mXor l1 k)))] kr (wpl_ldsl Ba.out rfl kr rfl kr (wpl_r1 [(51, .int .i64 ((i : Nat)))] kr (wpl_val rfl kr (run_ix (k := i) (m := l1.length) (cc := c1) rfl kr hA kr hil) (wpl_val rfl kr (run_ldbit rfl kr (hc _ (Below.refl _ _))) ?_)))))
  refine wpl_call rfl kr kr ((xor_m (rd mXor l1 k) (qt l1 i) (rd mXor l1 (k + 1)) _ (rdx_nn HG1.out k) (HG1.out.bd i).1 (by rw [← hi]; rfl)).mono ?_)
  rintro e w11 ⟨rfl, hb⟩
  refine ⟨_, rfl, ?_⟩
  replace O1 := kO O1 hb
  replace Ba := kB Ba hb
  replace Bu := kB Bu hb
  replace hU := kU hU hb
  clear hb
  refine wpl_r1 [(7, .int .u8 ((rd mXor l1 (k + 1))))] kr (wpl_end (block_normal (then_normal (reg_lit (wpl_r1 [(32, .int .i64 ((i : Nat)))] kr (wpl_val rfl kr (run_add (a := (i : Int)) (b := 1) (c := ((k + 1 + 1 : Int) : Int)) rfl kr kr (by omega) (by omega) (by omega)) (wpl_r1 [(8, .int .i64 (((k + 1 + 1 : Nat) : Int)))] kr ?_)))))))
  refine wpl_end ?_
  refine then_normal (hnext _ _ hlt ⟨Kp_c kr (Kp_c kr (Kp_c kr (Kp_c kr (Kp_c kr (Kp_c kr (Kp_c kr (Kp_n))))))), hU, O1.out, Ba.out, Bu.out⟩)
  obtain rfl : k = q := by omega
  refine reg_lit (wpl_r2 [(28, .pointer (some ⟨Na, 0, none⟩)), (27, .int .i64 ((i : Nat)))] kr (wpl_ldsl Ba.out rfl kr rfl kr (wpl_r1 [(30, .int .i64 ((l1.length : Nat)))] kr (wpl_val rfl kr (run_lss (a := (i : Int)) (b := (l1.length : Int)) rfl kr kr (decide_eq_false (by omega))) (wpl_end (then_normal (wp_iff kr ?_)))))))
  refine wp_exit (then_exit (then_exit (exit_here (then_normal (wp_seq (wp_seq ?_))))))
  rcases hop with rfl | rfl | rfl | rfl | rfl | rfl | rfl | rfl | rfl
  refine reg_lit (wpl_r1 [(55, .int .u8 12)] kr (wpl_end (then_normal (wp_block (sw_t [(56, .bool true), (57, .bool true)] rfl kr kr (wp_seq (region_R (n := 8) (N := 9) kr kr kr kr kr kr (fun _ _ _ _ _ h => h) ?_)))))))
  intro F hQ
  have Ba0 := Ba
  have Bu0 := Bu
  refine anyR_val (i := 0) (m' := 1) (v := .pointer (some ⟨Na, 0, none⟩)) F hQ rfl rfl kr kr kr kr kr (fun _ _ => kr) (anyR_ldsl (i := 1) (m' := 3) Ba0.out F hQ rfl rfl kr kr kr kr kr rfl kr (anyR_val (i := 2) (m' := 7) (v := .int .i64 ((l1.length : Nat))) F hQ rfl rfl kr kr kr kr kr (fun _ _ => kr) (anyR_val (i := 3) (m' := 15) (v := .pointer (some ⟨Na, 1, none⟩)) F hQ rfl rfl kr kr kr kr kr (fun _ _ => kr) (anyR_ldsg (i := 4) (m' := 31) Ba0.out F hQ rfl rfl kr kr kr kr kr rfl kr (anyR_ldvec (i := 6) (m' := 95) Ba0.out F hQ rfl rfl kr kr kr kr kr rfl kr ?_)))))
  refine anyR_call (i := 5) (m' := 127) rfl rfl kr kr kr kr kr ((rfill_any 0 l1.length s1 _ (by omega)).mono ?_)
  rintro e w12 ⟨lz, sz, Az, cz, Ez, rfl, Cz, Oz, hb⟩
  refine ⟨_, rfl, hb, ?_⟩
  replace hb : Below w8.heap.size w8 w12 := Below.trans ((Below.refl _ _).drew) hb
  replace O1 := kO O1 hb
  replace Ba := kB Ba hb
  replace Bu := kB Bu hb
  replace Oz := hide Oz.out.rd
  replace hU := kU hU hb
  clear hb
  have Gz : Gd lz := by have h := congrArg Vc.b Ez.out; dsimp only at h; rw [h]; exact (gd_ql (f := fun _ => 0) (n := l1.length) (by omega) (by omega) fun _ _ => by decide)
  have Lz := hide (show lz.length ≤ 4096 from Nat.le_trans Gz.le (by decide))
  have Yz := hide Gz.by_
  clear Gz
  refine anyR_call (i := 7) (m' := 255) rfl rfl kr kr kr kr kr ((rbinary_any 22 (by decide) Az lz cz sz A1 l1 c1 s1 _ Lz.out L1.out Cz C1 Oz.out O1.out.rd Yz.out Y1.out).mono ?_)
  rintro e w13 ⟨lv, sv, Av, cv, Ev, rfl, Cv, Ov, hb⟩
  refine ⟨_, rfl, hb, ?_⟩
  have k0 : w.heap.size ≤ w12.heap.size := hU.size
  replace O1 := kO O1 hb
  replace Oz := kQ Oz hb
  replace Ba := kB Ba hb
  replace Bu := kB Bu hb
  replace hU := kU hU hb
  clear hb
  replace Ov := hide (OwQ.base Ov.out k0)
  clear k0
  refine anyR_e (anyE_stq (i := 8) (m' := 511) Bu.out rfl rfl kr kr kr kr rfl kr (A2 := Av) (m2 := lv.length) (c2 := cv) (s2 := sv) kr ?_)
  intro w14 hst hkeep
  replace O1 := hide (OwQ.box O1.out Bu.out hkeep)
  replace Oz := kS hst Oz
  replace Ov := hide (OwQ.box Ov.out Bu.out hkeep)
  replace Ba := hide (hst.ne Ba.out nq)
  replace Bu := hide hst.box
  replace hU := hU.trans (hst.bel hzu)
  clear hst hkeep
  refine anyE_done kr ?_
  clear F hQ Ba0 Bu0
  refine then_normal (wp_ret (ret_box Bu.out rfl kr ?_))
  exact ⟨lv, sv, Av, cv, hide (by show _ = vNeg _; rw [← neg_bin hc1 Ez.out]; exact Ev.out), rfl, Cv, Ov, hU⟩
  refine reg_lit (wpl_r1 [(55, .int .u8 13)] kr (wpl_end (then_normal (wp_block (sw_f [(56, .bool false), (57, .bool false)] rfl kr kr (sw_t [(66, .bool true), (67, .bool true)] rfl kr kr (wp_seq ?_)))))))
  refine reg_lit (wpl_ldvec Ba.out rfl kr rfl kr ?_)
  refine wpl_call rfl kr kr ((rtruth_any' A1 l1 c1 s1 _ L1.out C1 O1.out.rd Y1.out).mono ?_)
  rintro e w15 ⟨rfl, hb⟩
  refine ⟨_, rfl, ?_⟩
  replace O1 := kO O1 hb
  replace Ba := kB Ba hb
  replace Bu := kB Bu hb
  replace hU := kU hU hb
  clear hb
  refine wpl_call rfl kr kr ((not_m (tr ⟨l1, s1⟩) (mNot (tr ⟨l1, s1⟩)) _ rfl).mono ?_)
  rintro e w16 ⟨rfl, hb⟩
  refine ⟨_, rfl, ?_⟩
  replace O1 := kO O1 hb
  replace Ba := kB Ba hb
  replace Bu := kB Bu hb
  replace hU := kU hU hb
  clear hb
  refine wpl_call rfl kr kr ((rsingle_any (mNot (tr ⟨l1, s1⟩)) _).mono ?_)
  rintro e w17 ⟨lv, sv, Av, cv, Ev, rfl, Cv, Ov, hb⟩
  refine ⟨_, rfl, ?_⟩
  have k0 : w.heap.size ≤ w16.heap.size := hU.size
  replace O1 := kO O1 hb
  replace Ba := kB Ba hb
  replace Bu := kB Bu hb
  replace hU := kU hU hb
  clear hb
  replace Ov := hide (OwQ.base Ov.out k0)
  clear k0
  refine wpl_stk Bu.out rfl kr rfl kr (A2 := Av) (m2 := lv.length) (c2 := cv) (s2 := sv) kr ?_
  intro w18 hst hkeep
  replace O1 := hide (OwQ.box O1.out Bu.out hkeep)
  replace Ov := hide (OwQ.box Ov.out Bu.out hkeep)
  replace Ba := hide (hst.ne Ba.out nq)
  replace Bu := hide hst.box
  replace hU := hU.trans (hst.bel hzu)
  clear hst hkeep
  refine wpl_end (then_normal (wp_ret (ret_box Bu.out rfl kr ?_)))
  exact ⟨lv, sv, Av, cv, hide (by show _ = sgl (mNot (tr _)); rw [← tr_cnt hc1]; exact Ev.out), rfl, Cv, Ov, hU⟩
  refine reg_lit (wpl_r1 [(55, .int .u8 14)] kr (wpl_end (then_normal (wp_block (sw_f [(56, .bool false), (57, .bool false)] rfl kr kr (sw_f [(66, .bool false), (67, .bool false)] rfl kr kr (sw_f [(72, .bool false), (73, .bool false)] rfl kr kr ?_)))))))
  refine sw_f [(76, .bool false), (77, .bool false)] rfl kr kr (sw_f [(80, .bool false), (81, .bool false)] rfl kr kr (sw_f [(84, .bool false), (85, .bool false)] rfl kr kr (sw_f [(89, .bool false), (90, .bool false)] rfl kr kr (sw_f [(94, .bool false), (95, .bool false)] rfl kr kr (wp_skip (block_normal (then_normal ?_)))))))
  refine wp_seq (wp_seq (reg_lit (wpl_r1 [(9, .int .i64 0)] kr (wpl_end (then_normal (wp_block ?_))))))
  obtain ⟨g, eg, hg, hrow⟩ := O1.out HG1.out.pos
  obtain ⟨F, hF⟩ : ∃ F : Nat → Int, F = fun i => mNot (qt l1 i) := ⟨_, rfl⟩
  have hxa : Na ≠ g := Ba.out.off hrow HG1.out.pos
  have hxu : Nu ≠ g := Bu.out.off hrow HG1.out.pos
  refine loop_r (l1.length + 1) ?_
  refine loop_inv (N := l1.length) (fun k E W => Kp [(9, .int .i64 (k : Nat)), (0, .int .u8 14), (3, .pointer (some ⟨Na, 0, none⟩)), (4, .pointer (some ⟨Nu, 0, none⟩))] E ∧ PutQ w w8 g l1.length (cdg l1 F k) W) ?_ _ 0 _ _ (Nat.zero_le _) (by omega) ⟨Kp_c kr (Kp_c kr (Kp_c kr (Kp_c kr (Kp_n)))), (PutQ.start hrow hU).congr (fun i _ => cdg_0 l1 F i)⟩
  intro k E W next hk hI hnext
  obtain ⟨hKp, HP⟩ := hI
  replace HP := hide HP
  refine wp_keep _ hKp (fun X => ?_)
  clear hKp
  refine wp_seq (wp_seq ?_)
  rcases Nat.lt_or_ge k l1.length with hlt | hge
  refine reg_lit (wpl_r2 [(100, .pointer (some ⟨Na, 0, none⟩)), (99, .int .i64 ((k : Nat)))] kr (wpl_ldsl (HP.out.box Ba.out hxa) rfl kr rfl kr (wpl_r1 [(102, .int .i64 ((l1.length : Nat)))] kr (wpl_val rfl kr (run_lss (a := (k : Int)) (b := (l1.length : Int)) rfl kr kr (decide_eq_true (by omega))) (wpl_end (then_normal (wp_ift kr ?_)))))))
  refine wp_skip (then_normal (wp_seq (wp_block ?_)))
  have hc1 : ∀ w', w' = W.drew → w'.cell? ((⟨g, 0, none⟩ : Addr).add k) = some (.int .u8 (qt l1 k)) := fun w' e => by rw [e, addr_add]; have h := HP.out.row.cell hlt; rw [cdg_at] at h; exact h
  have hv : F k = mNot (qt l1 k) := by rw [hF]
  refine gregion (n := 10) (N := 11) (fun x => x = W.drew) kr kr kr kr kr kr rfl (fun _ _ _ _ _ h => h) ?_
  intro Fr hQ
  refine gany_val (i := 0) (m' := 1) (v := .pointer (some ⟨Na, 0, none⟩)) Fr hQ rfl rfl kr kr kr kr kr (fun _ hb => by kernel_rfl) (gany_val (i := 1) (m' := 3) (v := .slice A1 l1.length c1) Fr hQ rfl rfl kr kr kr kr kr (fun _ hb => run_ldsl rfl kr (Box.drewq (HP.out.box Ba.out hxa) hb)) (gany_val (i := 2) (m' := 7) (v := .int .i64 ((k : Nat))) Fr hQ rfl rfl kr kr kr kr kr (fun _ hb => by kernel_rfl) (gany_val (i := 3) (m' := 15) (v := .pointer (some ⟨Na, 0, none⟩)) Fr hQ rfl rfl kr kr kr kr kr (fun _ hb => by kernel_rfl) (gany_val (i := 4) (m' := 31) (v := .slice A1 l1.length c1) Fr hQ rfl rfl kr kr kr kr kr (fun _ hb => run_ldsl rfl kr (Box.drewq (HP.out.box Ba.out hxa) hb)) (gany_val (i := 5) (m' := 63) (v := .int .i64 ((k : Nat))) Fr hQ rfl rfl kr kr kr kr kr (fun _ hb => by kernel_rfl) (gany_val (i := 6) (m' := 127) (v := .pointer (some ((⟨g, 0, none⟩ : Addr).add k))) Fr hQ rfl rfl kr kr kr kr kr (fun _ hb => run_ix (k := k) (m := l1.length) (cc := c1) rfl kr eg kr hlt) (gany_val (i := 7) (m' := 255) (v := .int .u8 ((qt l1 k))) Fr hQ rfl rfl kr kr kr kr kr (fun _ hb => run_ldbit rfl kr (hc1 _ hb)) ?_)))))))
  refine gany_one (i := 8) kr (gstep_call (m' := 511) rfl rfl kr kr kr kr (rnot_q (qt l1 k) _) (gany_val (i := 9) (m' := 1023) (v := .pointer (some ((⟨g, 0, none⟩ : Addr).add k))) Fr hQ rfl rfl kr kr kr kr kr (fun _ hb => run_ix (k := k) (m := l1.length) (cc := c1) rfl kr eg kr hlt) (gany_e (gany_none (i := 10) (m' := 2047) (w' := W.drew.setCell ⟨g, k, none⟩ (.int .u8 (mNot (qt l1 k)))) rfl rfl kr kr kr kr (run_stbit rfl kr (addr_add g k) kr HP.out.drew.row hlt) (gany_done kr ?_)))))
  have HS := (HP.out.drew.step hg k (mNot (qt l1 k))).congr (fun i _ => cdg_nv l1 F k i _ hv)
  clear Fr hQ
  refine block_normal (then_normal (reg_lit (wpl_r1 [(104, .int .i64 ((k : Nat)))] kr (wpl_val rfl kr (run_add (a := (k : Int)) (b := 1) (c := ((k + 1 : Int) : Int)) rfl kr kr (by omega) (by omega) (by omega)) (wpl_r1 [(9, .int .i64 (((k + 1 : Nat) : Int)))] kr (wpl_end ?_))))))
  refine then_normal (hnext _ _ hlt ⟨Kp_c kr (Kp_c kr (Kp_c kr (Kp_c kr (Kp_n)))), HS⟩)
  refine reg_lit (wpl_r2 [(100, .pointer (some ⟨Na, 0, none⟩)), (99, .int .i64 ((k : Nat)))] kr (wpl_ldsl (HP.out.box Ba.out hxa) rfl kr rfl kr (wpl_r1 [(102, .int .i64 ((l1.length : Nat)))] kr (wpl_val rfl kr (run_lss (a := (k : Int)) (b := (l1.length : Int)) rfl kr kr (decide_eq_false (by omega))) (wpl_end (then_normal (wp_iff kr ?_)))))))
  refine wp_exit (then_exit (then_exit (exit_here (then_normal (wp_seq (reg_lit (wpl_ldvec (HP.out.box Ba.out hxa) rfl kr rfl kr ?_)))))))
  refine wpl_stk (HP.out.box Bu.out hxu) rfl kr rfl kr (A2 := A1) (m2 := l1.length) (c2 := c1) (s2 := s1) kr ?_
  intro w19 hst hkeep
  refine wpl_end (then_normal (wp_ret ?_))
  obtain rfl : k = l1.length := by omega
  refine ret_box hst.box rfl kr ?_
  have hrow9 : RowQ W g l1.length F := HP.out.row.congr fun i hi2 => by unfold cdg; rw [if_pos hi2]
  have hlq : (ql l1.length F).length = l1.length := ql_length _ _
  exact ⟨ql l1.length F, s1, A1, c1, hide (by show _ = vNot _; unfold vNot; rw [hcv, hF]), by rw [hlq], by rw [hlq]; exact C1, hide (own_row hrow9 hkeep hxu eg hg), HP.out.bel.trans (hst.bel hzu)⟩
  refine reg_lit (wpl_r1 [(55, .int .u8 15)] kr (wpl_end (then_normal (wp_block (sw_f [(56, .bool false), (57, .bool false)] rfl kr kr (sw_f [(66, .bool false), (67, .bool false)] rfl kr kr (sw_t [(72, .bool true), (73, .bool true)] rfl kr kr ?_)))))))
  refine wp_seq (reg_lit (wpl_r1 [(74, .int .u8 ((rd mAnd l1 k)))] kr ?_))
  refine wpl_call rfl kr kr ((rsingle_any (rd mAnd l1 k) _).mono ?_)
  rintro e w20 ⟨lv, sv, Av, cv, Ev, rfl, Cv, Ov, hb⟩
  refine ⟨_, rfl, ?_⟩
  have k0 : w.heap.size ≤ w8.heap.size := hU.size
  replace O1 := kO O1 hb
  replace Ba := kB Ba hb
  replace Bu := kB Bu hb
  replace hU := kU hU hb
  clear hb
  replace Ov := hide (OwQ.base Ov.out k0)
  clear k0
  refine wpl_stk Bu.out rfl kr rfl kr (A2 := Av) (m2 := lv.length) (c2 := cv) (s2 := sv) kr ?_
  intro w21 hst hkeep
  replace O1 := hide (OwQ.box O1.out Bu.out hkeep)
  replace Ov := hide (OwQ.box Ov.out Bu.out hkeep)
  replace Ba := hide (hst.ne Ba.out nq)
  replace Bu := hide hst.box
  replace hU := hU.trans (hst.bel hzu)
  clear hst hkeep
  refine wpl_end (then_normal (wp_ret (ret_box Bu.out rfl kr ?_)))
  exact ⟨lv, sv, Av, cv, hide (by show _ = sgl (red mAnd _); rw [red_at hc1 hq]; exact Ev.out), rfl, Cv, Ov, hU⟩
  refine reg_lit (wpl_r1 [(55, .int .u8 16)] kr (wpl_end (then_normal (wp_block (sw_f [(56, .bool false), (57, .bool false)] rfl kr kr (sw_f [(66, .bool false), (67, .bool false)] rfl kr kr (sw_f [(72, .bool false), (73, .bool false)] rfl kr kr ?_)))))))
  refine sw_t [(76, .bool true), (77, .bool true)] rfl kr kr (wp_seq (reg_lit (wpl_r1 [(78, .int .u8 ((rd mOr l1 k)))] kr ?_)))
  refine wpl_call rfl kr kr ((rsingle_any (rd mOr l1 k) _).mono ?_)
  rintro e w22 ⟨lv, sv, Av, cv, Ev, rfl, Cv, Ov, hb⟩
  refine ⟨_, rfl, ?_⟩
  have k0 : w.heap.size ≤ w8.heap.size := hU.size
  replace O1 := kO O1 hb
  replace Ba := kB Ba hb
  replace Bu := kB Bu hb
  replace hU := kU hU hb
  clear hb
  replace Ov := hide (OwQ.base Ov.out k0)
  clear k0
  refine wpl_stk Bu.out rfl kr rfl kr (A2 := Av) (m2 := lv.length) (c2 := cv) (s2 := sv) kr ?_
  intro w23 hst hkeep
  replace O1 := hide (OwQ.box O1.out Bu.out hkeep)
  replace Ov := hide (OwQ.box Ov.out Bu.out hkeep)
  replace Ba := hide (hst.ne Ba.out nq)
  replace Bu := hide hst.box
  replace hU := hU.trans (hst.bel hzu)
  clear hst hkeep
  refine wpl_end (then_normal (wp_ret (ret_box Bu.out rfl kr ?_)))
  exact ⟨lv, sv, Av, cv, hide (by show _ = sgl (red mOr _); rw [red_at hc1 hq]; exact Ev.out), rfl, Cv, Ov, hU⟩
  refine reg_lit (wpl_r1 [(55, .int .u8 17)] kr (wpl_end (then_normal (wp_block (sw_f [(56, .bool false), (57, .bool false)] rfl kr kr (sw_f [(66, .bool false), (67, .bool false)] rfl kr kr (sw_f [(72, .bool false), (73, .bool false)] rfl kr kr ?_)))))))
  refine sw_f [(76, .bool false), (77, .bool false)] rfl kr kr (sw_t [(80, .bool true), (81, .bool true)] rfl kr kr (wp_seq (reg_lit (wpl_r1 [(82, .int .u8 ((rd mXor l1 k)))] kr ?_))))
  refine wpl_call rfl kr kr ((rsingle_any (rd mXor l1 k) _).mono ?_)
  rintro e w24 ⟨lv, sv, Av, cv, Ev, rfl, Cv, Ov, hb⟩
  refine ⟨_, rfl, ?_⟩
  have k0 : w.heap.size ≤ w8.heap.size := hU.size
  replace O1 := kO O1 hb
  replace Ba := kB Ba hb
  replace Bu := kB Bu hb
  replace hU := kU hU hb
  clear hb
  replace Ov := hide (OwQ.base Ov.out k0)
  clear k0
  refine wpl_stk Bu.out rfl kr rfl kr (A2 := Av) (m2 := lv.length) (c2 := cv) (s2 := sv) kr ?_
  intro w25 hst hkeep
  replace O1 := hide (OwQ.box O1.out Bu.out hkeep)
  replace Ov := hide (OwQ.box Ov.out Bu.out hkeep)
  replace Ba := hide (hst.ne Ba.out nq)
  replace Bu := hide hst.box
  replace hU := hU.trans (hst.bel hzu)
  clear hst hkeep
  refine wpl_end (then_normal (wp_ret (ret_box Bu.out rfl kr ?_)))
  exact ⟨lv, sv, Av, cv, hide (by show _ = sgl (red mXor _); rw [red_at hc1 hq]; exact Ev.out), rfl, Cv, Ov, hU⟩
  refine reg_lit (wpl_r1 [(55, .int .u8 18)] kr (wpl_end (then_normal (wp_block (sw_f [(56, .bool false), (57, .bool false)] rfl kr kr (sw_f [(66, .bool false), (67, .bool false)] rfl kr kr (sw_f [(72, .bool false), (73, .bool false)] rfl kr kr ?_)))))))
  refine sw_f [(76, .bool false), (77, .bool false)] rfl kr kr (sw_f [(80, .bool false), (81, .bool false)] rfl kr kr (sw_t [(84, .bool true), (85, .bool true)] rfl kr kr (wp_seq (reg_lit (wpl_r1 [(86, .int .u8 ((rd mAnd l1 k)))] kr ?_)))))
  refine wpl_call rfl kr kr ((not_m (rd mAnd l1 k) (mNot (rd mAnd l1 k)) _ rfl).mono ?_)
  rintro e w26 ⟨rfl, hb⟩
  refine ⟨_, rfl, ?_⟩
  replace O1 := kO O1 hb
  replace Ba := kB Ba hb
  replace Bu := kB Bu hb
  replace hU := kU hU hb
  clear hb
  refine wpl_call rfl kr kr ((rsingle_any (mNot (rd mAnd l1 k)) _).mono ?_)
  rintro e w27 ⟨lv, sv, Av, cv, Ev, rfl, Cv, Ov, hb⟩
  refine ⟨_, rfl, ?_⟩
  have k0 : w.heap.size ≤ w26.heap.size := hU.size
  replace O1 := kO O1 hb
  replace Ba := kB Ba hb
  replace Bu := kB Bu hb
  replace hU := kU hU hb
  clear hb
  replace Ov := hide (OwQ.base Ov.out k0)
  clear k0
  refine wpl_stk Bu.out rfl kr rfl kr (A2 := Av) (m2 := lv.length) (c2 := cv) (s2 := sv) kr ?_
  intro w28 hst hkeep
  replace O1 := hide (OwQ.box O1.out Bu.out hkeep)
  replace Ov := hide (OwQ.box Ov.out Bu.out hkeep)
  replace Ba := hide (hst.ne Ba.out nq)
  replace Bu := hide hst.box
  replace hU := hU.trans (hst.bel hzu)
  clear hst hkeep
  refine wpl_end (then_normal (wp_ret (ret_box Bu.out rfl kr ?_)))
  exact ⟨lv, sv, Av, cv, hide (by show _ = sgl (mNot (red mAnd _)); rw [red_at hc1 hq]; exact Ev.out), rfl, Cv, Ov, hU⟩
  refine reg_lit (wpl_r1 [(55, .int .u8 19)] kr (wpl_end (then_normal (wp_block (sw_f [(56, .bool false), (57, .bool false)] rfl kr kr (sw_f [(66, .bool false), (67, .bool false)] rfl kr kr (sw_f [(72, .bool false), (73, .bool false)] rfl kr kr ?_)))))))
  refine sw_f [(76, .bool false), (77, .bool false)] rfl kr kr (sw_f [(80, .bool false), (81, .bool false)] rfl kr kr (sw_f [(84, .bool false), (85, .bool false)] rfl kr kr (sw_t [(89, .bool true), (90, .bool true)] rfl kr kr (wp_seq (reg_lit (wpl_r1 [(91, .int .u8 ((rd mOr l1 k)))] kr ?_))))))
  refine wpl_call rfl kr kr ((not_m (rd mOr l1 k) (mNot (rd mOr l1 k)) _ rfl).mono ?_)
  rintro e w29 ⟨rfl, hb⟩
  refine ⟨_, rfl, ?_⟩
  replace O1 := kO O1 hb
  replace Ba := kB Ba hb
  replace Bu := kB Bu hb
  replace hU := kU hU hb
  clear hb
  refine wpl_call rfl kr kr ((rsingle_any (mNot (rd mOr l1 k)) _).mono ?_)
  rintro e w30 ⟨lv, sv, Av, cv, Ev, rfl, Cv, Ov, hb⟩
  refine ⟨_, rfl, ?_⟩
  have k0 : w.heap.size ≤ w29.heap.size := hU.size
  replace O1 := kO O1 hb
  replace Ba := kB Ba hb
  replace Bu := kB Bu hb
  replace hU := kU hU hb
  clear hb
  replace Ov := hide (OwQ.base Ov.out k0)
  clear k0
  refine wpl_stk Bu.out rfl kr rfl kr (A2 := Av) (m2 := lv.length) (c2 := cv) (s2 := sv) kr ?_
  intro w31 hst hkeep
  replace O1 := hide (OwQ.box O1.out Bu.out hkeep)
  replace Ov := hide (OwQ.box Ov.out Bu.out hkeep)
  replace Ba := hide (hst.ne Ba.out nq)
  replace Bu := hide hst.box
  replace hU := hU.trans (hst.bel hzu)
  clear hst hkeep
  refine wpl_end (then_normal (wp_ret (ret_box Bu.out rfl kr ?_)))
  exact ⟨lv, sv, Av, cv, hide (by show _ = sgl (mNot (red mOr _)); rw [red_at hc1 hq]; exact Ev.out), rfl, Cv, Ov, hU⟩
  refine reg_lit (wpl_r1 [(55, .int .u8 20)] kr (wpl_end (then_normal (wp_block (sw_f [(56, .bool false), (57, .bool false)] rfl kr kr (sw_f [(66, .bool false), (67, .bool false)] rfl kr kr (sw_f [(72, .bool false), (73, .bool false)] rfl kr kr ?_)))))))
  refine sw_f [(76, .bool false), (77, .bool false)] rfl kr kr (sw_f [(80, .bool false), (81, .bool false)] rfl kr kr (sw_f [(84, .bool false), (85, .bool false)] rfl kr kr (sw_f [(89, .bool false), (90, .bool false)] rfl kr kr (sw_t [(94, .bool true), (95, .bool true)] rfl kr kr (wp_seq (reg_lit (wpl_r1 [(96, .int .u8 ((rd mXor l1 k)))] kr ?_)))))))
  refine wpl_call rfl kr kr ((not_m (rd mXor l1 k) (mNot (rd mXor l1 k)) _ rfl).mono ?_)
  rintro e w32 ⟨rfl, hb⟩
  refine ⟨_, rfl, ?_⟩
  replace O1 := kO O1 hb
  replace Ba := kB Ba hb
  replace Bu := kB Bu hb
  replace hU := kU hU hb
  clear hb
  refine wpl_call rfl kr kr ((rsingle_any (mNot (rd mXor l1 k)) _).mono ?_)
  rintro e w33 ⟨lv, sv, Av, cv, Ev, rfl, Cv, Ov, hb⟩
  refine ⟨_, rfl, ?_⟩
  have k0 : w.heap.size ≤ w32.heap.size := hU.size
  replace O1 := kO O1 hb
  replace Ba := kB Ba hb
  replace Bu := kB Bu hb
  replace hU := kU hU hb
  clear hb
  replace Ov := hide (OwQ.base Ov.out k0)
  clear k0
  refine wpl_stk Bu.out rfl kr rfl kr (A2 := Av) (m2 := lv.length) (c2 := cv) (s2 := sv) kr ?_
  intro w34 hst hkeep
  replace O1 := hide (OwQ.box O1.out Bu.out hkeep)
  replace Ov := hide (OwQ.box Ov.out Bu.out hkeep)
  replace Ba := hide (hst.ne Ba.out nq)
  replace Bu := hide hst.box
  replace hU := hU.trans (hst.bel hzu)
  clear hst hkeep
  refine wpl_end (then_normal (wp_ret (ret_box Bu.out rfl kr ?_)))
  exact ⟨lv, sv, Av, cv, hide (by show _ = sgl (mNot (red mXor _)); rw [red_at hc1 hq]; exact Ev.out), rfl, Cv, Ov, hU⟩
end
section
open Go.RowKit
set_option maxRecDepth 100000
set_option linter.unusedSimpArgs false
set_option linter.unusedVariables false
theorem alZ_p {p q : Int} (h : p = 3) : alZ p q = true := by unfold alZ; rw [h]; rfl
theorem alZ_q {p q : Int} (h : q = 3) : alZ p q = true := by unfold alZ; rw [h]; simp
theorem alX_p {p q : Int} (h : p = 3 ∨ p = 2) : alX p q = true := by unfold alX mKnown; rcases h with rfl | rfl <;> rfl
theorem alX_q {p q : Int} (h : q = 3 ∨ q = 2) : alX p q = true := by unfold alX mKnown; rcases h with rfl | rfl <;> simp
theorem alZ_s {p q : Int} (h : p = q) : alZ p q = true := by unfold alZ mSame; rw [h]; simp
theorem alX_s {p q : Int} (h : p = q) : alX p q = true := by unfold alX mSame; rw [h]; simp
theorem bst_v3 {p : Int} (h : p ≤ 3) : bst p = p := by unfold bst; rw [if_neg (by omega)]
theorem alZ_n {p q : Int} (hp : p ≤ 3) (hq : q ≤ 3) (h1 : p ≠ 3) (h2 : q ≠ 3) (h : p ≠ q) : alZ p q = false := by
  unfold alZ mSame; rw [bst_v3 hp, bst_v3 hq, decide_eq_false h]; simp [h1, h2]
theorem alX_n {p q : Int} (hp : 0 ≤ p ∧ p ≤ 3) (hq : 0 ≤ q ∧ q ≤ 3) (h1 : p ≠ 3) (h2 : q ≠ 3) (h3 : p ≠ 2) (h4 : q ≠ 2) (h : p ≠ q) : alX p q = false := by
  unfold alX mSame; rw [bst_v3 hp.2, bst_v3 hq.2, decide_eq_false h]
  rcases (show p = 0 ∨ p = 1 by omega) with rfl | rfl <;> rcases (show q = 0 ∨ q = 1 by omega) with rfl | rfl <;> first | rfl | exact absurd rfl h
set_option maxHeartbeats 8000000 in
theorem rmatch_z (Aa : Option Addr) (la : List Int) (ca : Nat) (sa : Bool) (Ab : Option Addr) (lb : List Int) (cb : Nat) (sb : Bool) (w : World) (ha : la.length ≤ 4096) (hb : lb.length ≤ 4096) (hca : Hid (la.length ≤ ca ∧ ca ≤ maxLen)) (hcb : Hid (lb.length ≤ cb ∧ cb ≤ maxLen)) (hra : RQ w Aa la) (hrb : RQ w Ab lb) (ya : By la) (yb : By lb) :
    Calls Tryz.prog 17 #[.agg #[.slice Aa la.length ca, .bool sa], .agg #[.slice Ab lb.length cb, .bool sb], .bool false] w (Mk (.bool (mtc alZ ⟨la, sa⟩ ⟨lb, sb⟩)) w) := by
  have Oa := hide hra
  have La := hide ha
  have Ca := hca
  have Ya := hide ya
  have Ob := hide hrb
  have Lb := hide hb
  have Cb := hcb
  have Yb := hide yb
  clear ha hca hra ya hb hcb hrb yb
  obtain ⟨s1, hs1⟩ : ∃ s, s = sg ⟨la, sa⟩ ⟨lb, sb⟩ := ⟨_, rfl⟩
  obtain ⟨s2, hs2⟩ : ∃ s, s = sg ⟨la, sa⟩ ⟨lb, sb⟩ := ⟨_, rfl⟩
  have hU : Below w.heap.size w w := Below.refl _ _
  refine calls_sl (l := [.agg #[.slice Aa la.length ca, .bool sa], .agg #[.slice Ab lb.length cb, .bool sb], .bool false]) 55 Tryz.func17 rfl kr (by simp) (wp_seq (reg_lit (wpl_boxvec (A := Aa) (m := la.length) (c := ca) (s := sa) rfl kr rfl kr ?_)))
  intro w1 Na Ba hNa hb
  replace Ba := hide Ba
  replace Oa := kQ Oa hb
  replace Ob := kQ Ob hb
  have hza : w.heap.size ≤ Na := Nat.le_trans hU.size hNa
  clear hNa
  replace hU := kU hU hb
  clear hb
  refine wpl_boxvec (A := Ab) (m := lb.length) (c := cb) (s := sb) rfl kr rfl kr ?_
  intro w2 Nb Bb hNb hb
  replace Bb := hide Bb
  have neab : Na ≠ Nb := by have := Ba.out.lt; omega
  replace Oa := kQ Oa hb
  replace Ob := kQ Ob hb
  replace Ba := kB Ba hb
  have hzb : w.heap.size ≤ Nb := Nat.le_trans hU.size hNb
  clear hNb
  replace hU := kU hU hb
  clear hb
  refine wpl_r1 [(6, .bool false)] kr (sx_n (wpl_ldvec Ba.out rfl kr rfl kr (wpl_ldvec Bb.out rfl kr rfl kr ?_)))
  refine wpl_call rfl kr kr ((rbalance_s s1 s2 Aa Ab la lb ca cb sa sb _ hs1 hs2 La.out Lb.out Ca Cb Oa.out Ob.out Ya.out Yb.out).mono ?_)
  rintro e w3 ⟨⟨l1, A1, c1, l2, A2, c2, E1, E2, rfl, C1, C2, O1, O2, S12⟩, hb⟩
  refine ⟨_, rfl, ?_⟩
  replace Oa := kQ Oa hb
  replace Ob := kQ Ob hb
  replace Ba := kB Ba hb
  replace Bb := kB Bb hb
  replace hU := kU hU hb
  clear hb
  replace O1 := hide O1.out.rd
  have HG1 := hide (show Gd l1 by rw [E1.out]; exact gd_blA (a := ⟨la, sa⟩) (b := ⟨lb, sb⟩) Ya.out Yb.out)
  have L1 := hide (show l1.length ≤ 4096 from Nat.le_trans HG1.out.le (by decide))
  have Y1 := hide HG1.out.by_
  replace O2 := hide O2.out.rd
  have HG2 := hide (show Gd l2 by rw [E2.out]; exact gd_blB (a := ⟨la, sa⟩) (b := ⟨lb, sb⟩) Ya.out Yb.out)
  have L2 := hide (show l2.length ≤ 4096 from Nat.le_trans HG2.out.le (by decide))
  have Y2 := hide HG2.out.by_
  have hln : l2.length = l1.length := by rw [E1.out, E2.out, blA_length, blB_length]
  have hl1 := HG1.out.le
  have HM : mtc alZ ⟨la, sa⟩ ⟨lb, sb⟩ = true ↔ ∀ i, i < l1.length → alZ (qt l1 i) (qt l2 i) = true := by rw [mtc_iff, E1.out, E2.out, blA_length]
  clear Oa Ca La Ya
  clear Ob Cb Lb Yb
  refine wpl_r3 [(17, .agg #[.slice A2 l2.length c2, .bool s2]), (16, .agg #[.slice A1 l1.length c1, .bool s1]), (12, .tuple #[.agg #[.slice A1 l1.length c1, .bool s1], .agg #[.slice A2 l2.length c2, .bool s2]])] kr (wpl_al rfl kr rfl ?_)
  intro w4 Np Bp hNp hb
  replace Bp := hide Bp
  have neap : Na ≠ Np := by have := Ba.out.lt; omega
  have nebp : Nb ≠ Np := by have := Bb.out.lt; omega
  replace O1 := kQ O1 hb
  replace O2 := kQ O2 hb
  replace Ba := kB Ba hb
  replace Bb := kB Bb hb
  have hzp : w.heap.size ≤ Np := Nat.le_trans hU.size hNp
  clear hNp
  replace hU := kU hU hb
  clear hb
  refine wpl_al rfl kr rfl ?_
  intro w5 Nq Bq hNq hb
  replace Bq := hide Bq
  have neaq : Na ≠ Nq := by have := Ba.out.lt; omega
  have nebq : Nb ≠ Nq := by have := Bb.out.lt; omega
  have nepq : Np ≠ Nq := by have := Bp.out.lt; omega
  replace O1 := kQ O1 hb
  replace O2 := kQ O2 hb
  replace Ba := kB Ba hb
  replace Bb := kB Bb hb
  replace Bp := kB Bp hb
  have hzq : w.heap.size ≤ Nq := Nat.le_trans hU.size hNq
  clear hNq
  replace hU := kU hU hb
  clear hb
  refine wpl_stk Bp.out rfl kr rfl kr (A2 := A1) (m2 := l1.length) (c2 := c1) (s2 := s1) kr ?_
  intro w6 hst hkeep
  replace O1 := kS hst O1
  replace O2 := kS hst O2
  replace Ba := hide (hst.ne Ba.out nq)
  replace Bb := hide (hst.ne Bb.out nq)
  replace Bq := hide (hst.ne Bq.out nq)
  replace Bp := hide hst.box
  replace hU := hU.trans (hst.bel hzp)
  clear hst hkeep
  refine wpl_stk Bq.out rfl kr rfl kr (A2 := A2) (m2 := l2.length) (c2 := c2) (s2 := s2) kr ?_
  intro w7 hst hkeep
  replace O1 := kS hst O1
  replace O2 := kS hst O2
  replace Ba := hide (hst.ne Ba.out nq)
  replace Bb := hide (hst.ne Bb.out nq)
  replace Bp := hide (hst.ne Bp.out nq)
  replace Bq := hide hst.box
  replace hU := hU.trans (hst.bel hzq)
  clear hst hkeep
  refine wpl_end (then_normal (wp_seq (wp_seq (reg_lit (wpl_r1 [(9, .int .i64 0)] kr (wpl_end (then_normal ?_)))))))
  refine wp_block (loop_r (l1.length + 1) ?_)
  refine loop_inv (N := l1.length) (fun k E W => Kp [(9, .int .i64 (k : Nat)), (2, .bool false), (7, .pointer (some ⟨Np, 0, none⟩)), (8, .pointer (some ⟨Nq, 0, none⟩))] E ∧ Below w.heap.size w W ∧ RQ W A1 l1 ∧ RQ W A2 l2 ∧ Box Na Aa la.length ca sa W ∧ Box Nb Ab lb.length cb sb W ∧ Box Np A1 l1.length c1 s1 W ∧ Box Nq A2 l2.length c2 s2 W ∧ ∀ j, j < k → alZ (qt l1 j) (qt l2 j) = true) ?_ _ 0 _ _ (Nat.zero_le _) (by omega) ⟨Kp_c kr (Kp_c kr (Kp_c kr (Kp_c kr (Kp_n)))), hU, O1.out, O2.out, Ba.out, Bb.out, Bp.out, Bq.out, (fun j hj => absurd hj (by omega))⟩
  clear hU O1 O2 Ba Bb Bp Bq
  intro k E w8 next hk hI hnext
  obtain ⟨hKp, hU, O1, O2, Ba, Bb, Bp, Bq, hno⟩ := hI
  replace O1 := hide O1
  replace O2 := hide O2
  replace Ba := hide Ba
  replace Bb := hide Bb
  replace Bp := hide Bp
  replace Bq := hide Bq
  refine wp_keep _ hKp (fun X => ?_)
  clear hKp
  refine wp_seq (wp_seq ?_)
  rcases Nat.lt_or_ge k l1.length with hlt | hge
  refine reg_lit (wpl_r2 [(19, .pointer (some ⟨Np, 0, none⟩)), (18, .int .i64 ((k : Nat)))] kr (wpl_ldsl Bp.out rfl kr rfl kr (wpl_r1 [(21, .int .i64 ((l1.length : Nat)))] kr (wpl_val rfl kr (run_lss (a := (k : Int)) (b := (l1.length : Int)) rfl kr kr (decide_eq_true (by omega))) (wpl_end (then_normal (wp_ift kr ?_)))))))
  refine wp_skip (then_normal (wp_seq (wp_block (wp_seq ?_))))
  obtain ⟨ad1, hA1, hc1⟩ := RQ.bit O1.out hlt
  obtain ⟨ad2, hA2, hc2⟩ := RQ.bit O2.out (i := k) (by omega)
  refine region_R (n := 11) (N := 12) kr kr kr kr kr kr (fun _ _ _ _ _ h => h) ?_
  intro F hQ
  have Ba0 := Ba
  have Bb0 := Bb
  have Bp0 := Bp
  have Bq0 := Bq
  refine anyR_val (i := 0) (m' := 1) (v := .pointer (some ⟨Np, 0, none⟩)) F hQ rfl rfl kr kr kr kr kr (fun _ _ => kr) (anyR_ldsl (i := 1) (m' := 3) Bp0.out F hQ rfl rfl kr kr kr kr kr rfl kr (anyR_val (i := 2) (m' := 7) (v := .int .i64 ((k : Nat))) F hQ rfl rfl kr kr kr kr kr (fun _ _ => kr) (anyR_val (i := 3) (m' := 15) (v := .pointer (some (ad1.add k))) F hQ rfl rfl kr kr kr kr kr (fun _ _ => run_ix (k := k) (m := l1.length) (cc := c1) rfl kr hA1 kr hlt) (anyR_val (i := 4) (m' := 31) (v := .int .u8 ((qt l1 k))) F hQ rfl rfl kr kr kr kr kr (fun _ hb => run_ldbit rfl kr (hc1 _ hb)) (anyR_val (i := 5) (m' := 63) (v := .pointer (some ⟨Nq, 0, none⟩)) F hQ rfl rfl kr kr kr kr kr (fun _ _ => kr) (anyR_ldsl (i := 6) (m' := 127) Bq0.out F hQ rfl rfl kr kr kr kr kr rfl kr (anyR_val (i := 7) (m' := 255) (v := .int .i64 ((k : Nat))) F hQ rfl rfl kr kr kr kr kr (fun _ _ => kr) ?_)))))))
  refine anyR_val (i := 8) (m' := 511) (v := .pointer (some (ad2.add k))) F hQ rfl rfl kr kr kr kr kr (fun _ _ => run_ix (k := k) (m := l2.length) (cc := c2) rfl kr hA2 kr (by omega)) (anyR_val (i := 9) (m' := 1023) (v := .int .u8 ((qt l2 k))) F hQ rfl rfl kr kr kr kr kr (fun _ hb => run_ldbit rfl kr (hc2 _ hb)) (anyR_val (i := 10) (m' := 2047) (v := .int .u8 ((qt l1 k))) F hQ rfl rfl kr kr kr kr kr (fun _ _ => kr) (anyR_e (anyR_last (i := 11) (m' := 4095) (v := .int .u8 ((qt l2 k))) rfl rfl kr kr kr kr kr (anyE_done kr ?_)))))
  clear F hQ Ba0 Bb0 Bp0 Bq0
  generalize hw : World.drew w8 = w9
  have hb : Below w8.heap.size w8 w9 := by rw [← hw]; exact (Below.refl _ _).drew
  clear hw
  replace O1 := kQ O1 hb
  replace O2 := kQ O2 hb
  replace Ba := kB Ba hb
  replace Bb := kB Bb hb
  replace Bp := kB Bp hb
  replace Bq := kB Bq hb
  replace hU := kU hU hb
  clear hb
  refine then_normal (wp_seq (wp_seq ?_))
  have bp := HG1.out.bd k
  have bq := HG2.out.bd k
  by_cases h1 : (qt l1 k) = 3
  have hx : alZ (qt l1 k) (qt l2 k) = true := alZ_p h1
  refine reg_lit (wpl_r1 [(35, .int .u8 ((qt l1 k)))] kr (wpl_val rfl kr (run_eql8 (a := (qt l1 k)) (b := 3) rfl kr kr (beq_iff_eq.2 h1)) (wpl_r15 [(51, .bool true), (50, undef), (49, undef), (48, undef), (47, undef), (46, undef), (45, undef), (44, undef), (43, undef), (42, undef), (41, .bool true), (40, .bool true), (39, undef), (38, undef), (37, .bool true)] kr (wpl_end (then_normal (wp_ift kr (wp_exit ?_)))))))
  refine then_exit (exit_here (then_normal (reg_lit (wpl_r1 [(23, .int .i64 ((k : Nat)))] kr (wpl_val rfl kr (run_add (a := (k : Int)) (b := 1) (c := ((k + 1 : Int) : Int)) rfl kr kr (by omega) (by omega) (by omega)) (wpl_r1 [(9, .int .i64 (((k + 1 : Nat) : Int)))] kr (wpl_end ?_)))))))
  refine then_normal (hnext _ _ hlt ⟨Kp_c kr (Kp_c kr (Kp_c kr (Kp_c kr (Kp_n)))), hU, O1.out, O2.out, Ba.out, Bb.out, Bp.out, Bq.out, (fun j hj => by rcases Nat.lt_succ_iff_lt_or_eq.1 hj with h | h; exact hno j h; rw [h]; exact hx)⟩)
  by_cases h2 : (qt l2 k) = 3
  have hx : alZ (qt l1 k) (qt l2 k) = true := alZ_q h2
  refine reg_lit (wpl_r1 [(35, .int .u8 ((qt l1 k)))] kr (wpl_val rfl kr (run_eql8 (a := (qt l1 k)) (b := 3) rfl kr kr (beq_eq_false_iff_ne.2 h1)) (wpl_r2 [(38, .int .u8 ((qt l2 k))), (37, .bool false)] kr (wpl_val rfl kr (run_eql8 (a := (qt l2 k)) (b := 3) rfl kr kr (beq_iff_eq.2 h2)) (wpl_r12 [(51, .bool true), (50, undef), (49, undef), (48, undef), (47, undef), (46, undef), (45, undef), (44, undef), (43, undef), (42, undef), (41, .bool true), (40, .bool true)] kr (wpl_end (then_normal ?_)))))))
  refine wp_ift kr (wp_exit (then_exit (exit_here (then_normal (reg_lit (wpl_r1 [(23, .int .i64 ((k : Nat)))] kr (wpl_val rfl kr (run_add (a := (k : Int)) (b := 1) (c := ((k + 1 : Int) : Int)) rfl kr kr (by omega) (by omega) (by omega)) ?_)))))))
  refine wpl_r1 [(9, .int .i64 (((k + 1 : Nat) : Int)))] kr (wpl_end ?_)
  refine then_normal (hnext _ _ hlt ⟨Kp_c kr (Kp_c kr (Kp_c kr (Kp_c kr (Kp_n)))), hU, O1.out, O2.out, Ba.out, Bb.out, Bp.out, Bq.out, (fun j hj => by rcases Nat.lt_succ_iff_lt_or_eq.1 hj with h | h; exact hno j h; rw [h]; exact hx)⟩)
  by_cases he : (qt l1 k) = (qt l2 k)
  have hx : alZ (qt l1 k) (qt l2 k) = true := alZ_s he
  refine reg_lit (wpl_r1 [(35, .int .u8 ((qt l1 k)))] kr (wpl_val rfl kr (run_eql8 (a := (qt l1 k)) (b := 3) rfl kr kr (beq_eq_false_iff_ne.2 h1)) (wpl_r2 [(38, .int .u8 ((qt l2 k))), (37, .bool false)] kr (wpl_val rfl kr (run_eql8 (a := (qt l2 k)) (b := 3) rfl kr kr (beq_eq_false_iff_ne.2 h2)) (wpl_r12 [(51, .bool false), (50, .bool false), (49, undef), (48, undef), (47, undef), (46, undef), (45, undef), (44, undef), (43, .bool false), (42, .bool false), (41, .bool false), (40, .bool false)] kr (wpl_end (then_normal ?_)))))))
  refine wp_iff kr (wp_skip (then_normal (wp_seq (reg_lit (wpl_r2 [(53, .int .u8 ((qt l2 k))), (52, .int .u8 ((qt l1 k)))] kr (wpl_val rfl kr (run_nequ8 (a := (qt l1 k)) (b := (qt l2 k)) rfl kr kr (bne_eq_false_iff_eq.2 he)) (wpl_end ?_)))))))
  refine then_normal (wp_iff kr (wp_skip (block_normal (then_normal (reg_lit (wpl_r1 [(23, .int .i64 ((k : Nat)))] kr (wpl_val rfl kr (run_add (a := (k : Int)) (b := 1) (c := ((k + 1 : Int) : Int)) rfl kr kr (by omega) (by omega) (by omega)) ?_)))))))
  refine wpl_r1 [(9, .int .i64 (((k + 1 : Nat) : Int)))] kr (wpl_end ?_)
  refine then_normal (hnext _ _ hlt ⟨Kp_c kr (Kp_c kr (Kp_c kr (Kp_c kr (Kp_n)))), hU, O1.out, O2.out, Ba.out, Bb.out, Bp.out, Bq.out, (fun j hj => by rcases Nat.lt_succ_iff_lt_or_eq.1 hj with h | h; exact hno j h; rw [h]; exact hx)⟩)
  have hx : alZ (qt l1 k) (qt l2 k) = false := alZ_n bp.2 bq.2 h1 h2 he
  refine reg_lit (wpl_r1 [(35, .int .u8 ((qt l1 k)))] kr (wpl_val rfl kr (run_eql8 (a := (qt l1 k)) (b := 3) rfl kr kr (beq_eq_false_iff_ne.2 h1)) (wpl_r2 [(38, .int .u8 ((qt l2 k))), (37, .bool false)] kr (wpl_val rfl kr (run_eql8 (a := (qt l2 k)) (b := 3) rfl kr kr (beq_eq_false_iff_ne.2 h2)) (wpl_r12 [(51, .bool false), (50, .bool false), (49, undef), (48, undef), (47, undef), (46, undef), (45, undef), (44, undef), (43, .bool false), (42, .bool false), (41, .bool false), (40, .bool false)] kr (wpl_end (then_normal ?_)))))))
  refine wp_iff kr (wp_skip (then_normal (wp_seq (reg_lit (wpl_r2 [(53, .int .u8 ((qt l2 k))), (52, .int .u8 ((qt l1 k)))] kr (wpl_val rfl kr (run_nequ8 (a := (qt l1 k)) (b := (qt l2 k)) rfl kr kr (bne_iff_ne.2 he)) (wpl_end ?_)))))))
  refine then_normal (wp_ift kr (wp_seq (reg_lit (wpl_r1 [(6, .bool false)] kr (wpl_end (then_normal (wp_ret ?_)))))))
  refine (show bodyPost _ _ _ .ret _ _ from ret_sl (.bool false) rfl kr ?_)
  exact ⟨congrArg (fun b => Ending.returned (.bool b)) (by cases hm : mtc alZ ⟨la, sa⟩ ⟨lb, sb⟩; rfl; rw [HM.1 hm k hlt] at hx; cases hx), hU⟩
  refine reg_lit (wpl_r2 [(19, .pointer (some ⟨Np, 0, none⟩)), (18, .int .i64 ((k : Nat)))] kr (wpl_ldsl Bp.out rfl kr rfl kr (wpl_r1 [(21, .int .i64 ((l1.length : Nat)))] kr (wpl_val rfl kr (run_lss (a := (k : Int)) (b := (l1.length : Int)) rfl kr kr (decide_eq_false (by omega))) (wpl_end (then_normal (wp_iff kr ?_)))))))
  refine wp_exit (then_exit (then_exit (exit_here (then_normal (wp_seq (reg_lit (wpl_r1 [(6, .bool true)] kr ?_)))))))
  refine wpl_end (then_normal (wp_ret ?_))
  refine (show bodyPost _ _ _ .ret _ _ from ret_sl (.bool true) rfl kr ?_)
  exact ⟨congrArg (fun b => Ending.returned (.bool b)) (HM.2 fun i hi => hno i (by omega)).symm, hU⟩
set_option maxHeartbeats 8000000 in
theorem rmatch_x (Aa : Option Addr) (la : List Int) (ca : Nat) (sa : Bool) (Ab : Option Addr) (lb : List Int) (cb : Nat) (sb : Bool) (w : World) (ha : la.length ≤ 4096) (hb : lb.length ≤ 4096) (hca : Hid (la.length ≤ ca ∧ ca ≤ maxLen)) (hcb : Hid (lb.length ≤ cb ∧ cb ≤ maxLen)) (hra : RQ w Aa la) (hrb : RQ w Ab lb) (ya : By la) (yb : By lb) :
    Calls Tryz.prog 17 #[.agg #[.slice Aa la.length ca, .bool sa], .agg #[.slice Ab lb.length cb, .bool sb], .bool true] w (Mk (.bool (mtc alX ⟨la, sa⟩ ⟨lb, sb⟩)) w) := by
  have Oa := hide hra
  have La := hide ha
  have Ca := hca
  have Ya := hide ya
  have Ob := hide hrb
  have Lb := hide hb
  have Cb := hcb
  have Yb := hide yb
  clear ha hca hra ya hb hcb hrb yb
  obtain ⟨s1, hs1⟩ : ∃ s, s = sg ⟨la, sa⟩ ⟨lb, sb⟩ := ⟨_, rfl⟩
  obtain ⟨s2, hs2⟩ : ∃ s, s = sg ⟨la, sa⟩ ⟨lb, sb⟩ := ⟨_, rfl⟩
  have hU : Below w.heap.size w w := Below.refl _ _
  refine calls_sl (l := [.agg #[.slice Aa la.length ca, .bool sa], .agg #[.slice Ab lb.length cb, .bool sb], .bool true]) 55 Tryz.func17 rfl kr (by simp) (wp_seq (reg_lit (wpl_boxvec (A := Aa) (m := la.length) (c := ca) (s := sa) rfl kr rfl kr ?_)))
  intro w1 Na Ba hNa hb
  replace Ba := hide Ba
  replace Oa := kQ Oa hb
  replace Ob := kQ Ob hb
  have hza : w.heap.size ≤ Na := Nat.le_trans hU.size hNa
  clear hNa
  replace hU := kU hU hb
  clear hb
  refine wpl_boxvec (A := Ab) (m := lb.length) (c := cb) (s := sb) rfl kr rfl kr ?_
  intro w2 Nb Bb hNb hb
  replace Bb := hide Bb
  have neab : Na ≠ Nb := by have := Ba.out.lt; omega
  replace Oa := kQ Oa hb
  replace Ob := kQ Ob hb
  replace Ba := kB Ba hb
  have hzb : w.heap.size ≤ Nb := Nat.le_trans hU.size hNb
  clear hNb
  replace hU := kU hU hb
  clear hb
  refine wpl_r1 [(6, .bool false)] kr (sx_n (wpl_ldvec Ba.out rfl kr rfl kr (wpl_ldvec Bb.out rfl kr rfl kr ?_)))
  refine wpl_call rfl kr kr ((rbalance_s s1 s2 Aa Ab la lb ca cb sa sb _ hs1 hs2 La.out Lb.out Ca Cb Oa.out Ob.out Ya.out Yb.out).mono ?_)
  rintro e w3 ⟨⟨l1, A1, c1, l2, A2, c2, E1, E2, rfl, C1, C2, O1, O2, S12⟩, hb⟩
  refine ⟨_, rfl, ?_⟩
  replace Oa := kQ Oa hb
  replace Ob := kQ Ob hb
  replace Ba := kB Ba hb
  replace Bb := kB Bb hb
  replace hU := kU hU hb
  clear hb
  replace O1 := hide O1.out.rd
  have HG1 := hide (show Gd l1 by rw [E1.out]; exact gd_blA (a := ⟨la, sa⟩) (b := ⟨lb, sb⟩) Ya.out Yb.out)
  have L1 := hide (show l1.length ≤ 4096 from Nat.le_trans HG1.out.le (by decide))
  have Y1 := hide HG1.out.by_
  replace O2 := hide O2.out.rd
  have HG2 := hide (show Gd l2 by rw [E2.out]; exact gd_blB (a := ⟨la, sa⟩) (b := ⟨lb, sb⟩) Ya.out Yb.out)
  have L2 := hide (show l2.length ≤ 4096 from Nat.le_trans HG2.out.le (by decide))
  have Y2 := hide HG2.out.by_
  have hln : l2.length = l1.length := by rw [E1.out, E2.out, blA_length, blB_length]
  have hl1 := HG1.out.le
  have HM : mtc alX ⟨la, sa⟩ ⟨lb, sb⟩ = true ↔ ∀ i, i < l1.length → alX (qt l1 i) (qt l2 i) = true := by rw [mtc_iff, E1.out, E2.out, blA_length]
  clear Oa Ca La Ya
  clear Ob Cb Lb Yb
  refine wpl_r3 [(17, .agg #[.slice A2 l2.length c2, .bool s2]), (16, .agg #[.slice A1 l1.length c1, .bool s1]), (12, .tuple #[.agg #[.slice A1 l1.length c1, .bool s1], .agg #[.slice A2 l2.length c2, .bool s2]])] kr (wpl_al rfl kr rfl ?_)
  intro w4 Np Bp hNp hb
  replace Bp := hide Bp
  have neap : Na ≠ Np := by have := Ba.out.lt; omega
  have nebp : Nb ≠ Np := by have := Bb.out.lt; omega
  replace O1 := kQ O1 hb
  replace O2 := kQ O2 hb
  replace Ba := kB Ba hb
  replace Bb := kB Bb hb
  have hzp : w.heap.size ≤ Np := Nat.le_trans hU.size hNp
  clear hNp
  replace hU := kU hU hb
  clear hb
  refine wpl_al rfl kr rfl ?_
  intro w5 Nq Bq hNq hb
  replace Bq := hide Bq
  have neaq : Na ≠ Nq := by have := Ba.out.lt; omega
  have nebq : Nb ≠ Nq := by have := Bb.out.lt; omega
  have nepq : Np ≠ Nq := by have := Bp.out.lt; omega
  replace O1 := kQ O1 hb
  replace O2 := kQ O2 hb
  replace Ba := kB Ba hb
  replace Bb := kB Bb hb
  replace Bp := kB Bp hb
  have hzq : w.heap.size ≤ Nq := Nat.le_trans hU.size hNq
  clear hNq
  replace hU := kU hU hb
  clear hb
  refine wpl_stk Bp.out rfl kr rfl kr (A2 := A1) (m2 := l1.length) (c2 := c1) (s2 := s1) kr ?_
  intro w6 hst hkeep
  replace O1 := kS hst O1
  replace O2 := kS hst O2
  replace Ba := hide (hst.ne Ba.out nq)
  replace Bb := hide (hst.ne Bb.out nq)
  replace Bq := hide (hst.ne Bq.out nq)
  replace Bp := hide hst.box
  replace hU := hU.trans (hst.bel hzp)
  clear hst hkeep
  refine wpl_stk Bq.out rfl kr rfl kr (A2 := A2) (m2 := l2.length) (c2 := c2) (s2 := s2) kr ?_
  intro w7 hst hkeep
  replace O1 := kS hst O1
  replace O2 := kS hst O2
  replace Ba := hide (hst.ne Ba.out nq)
  replace Bb := hide (hst.ne Bb.out nq)
  replace Bp := hide (hst.ne Bp.out nq)
  replace Bq := hide hst.box
  replace hU := hU.trans (hst.bel hzq)
  clear hst hkeep
  refine wpl_end (then_normal (wp_seq (wp_seq (reg_lit (wpl_r1 [(9, .int .i64 0)] kr (wpl_end (then_normal ?_)))))))
  refine wp_block (loop_r (l1.length + 1) ?_)
  refine loop_inv (N := l1.length) (fun k E W => Kp [(9, .int .i64 (k : Nat)), (2, .bool true), (7, .pointer (some ⟨Np, 0, none⟩)), (8, .pointer (some ⟨Nq, 0, none⟩))] E ∧ Below w.heap.size w W ∧ RQ W A1 l1 ∧ RQ W A2 l2 ∧ Box Na Aa la.length ca sa W ∧ Box Nb Ab lb.length cb sb W ∧ Box Np A1 l1.length c1 s1 W ∧ Box Nq A2 l2.length c2 s2 W ∧ ∀ j, j < k → alX (qt l1 j) (qt l2 j) = true) ?_ _ 0 _ _ (Nat.zero_le _) (by omega) ⟨Kp_c kr (Kp_c kr (Kp_c kr (Kp_c kr (Kp_n)))), hU, O1.out, O2.out, Ba.out, Bb.out, Bp.out, Bq.out, (fun j hj => absurd hj (by omega))⟩
  clear hU O1 O2 Ba Bb Bp Bq
  intro k E w8 next hk hI hnext
  obtain ⟨hKp, hU, O1, O2, Ba, Bb, Bp, Bq, hno⟩ := hI
  replace O1 := hide O1
  replace O2 := hide O2
  replace Ba := hide Ba
  replace Bb := hide Bb
  replace Bp := hide Bp
  replace Bq := hide Bq
  refine wp_keep _ hKp (fun X => ?_)
  clear hKp
  refine wp_seq (wp_seq ?_)
  rcases Nat.lt_or_ge k l1.length with hlt | hge
  refine reg_lit (wpl_r2 [(19, .pointer (some ⟨Np, 0, none⟩)), (18, .int .i64 ((k : Nat)))] kr (wpl_ldsl Bp.out rfl kr rfl kr (wpl_r1 [(21, .int .i64 ((l1.length : Nat)))] kr (wpl_val rfl kr (run_lss (a := (k : Int)) (b := (l1.length : Int)) rfl kr kr (decide_eq_true (by omega))) (wpl_end (then_normal (wp_ift kr ?_)))))))
  refine wp_skip (then_normal (wp_seq (wp_block (wp_seq ?_))))
  obtain ⟨ad1, hA1, hc1⟩ := RQ.bit O1.out hlt
  obtain ⟨ad2, hA2, hc2⟩ := RQ.bit O2.out (i := k) (by omega)
  refine region_R (n := 11) (N := 12) kr kr kr kr kr kr (fun _ _ _ _ _ h => h) ?_
  intro F hQ
  have Ba0 := Ba
  have Bb0 := Bb
  have Bp0 := Bp
  have Bq0 := Bq
  refine anyR_val (i := 0) (m' := 1) (v := .pointer (some ⟨Np, 0, none⟩)) F hQ rfl rfl kr kr kr kr kr (fun _ _ => kr) (anyR_ldsl (i := 1) (m' := 3) Bp0.out F hQ rfl rfl kr kr kr kr kr rfl kr (anyR_val (i := 2) (m' := 7) (v := .int .i64 ((k : Nat))) F hQ rfl rfl kr kr kr kr kr (fun _ _ => kr) (anyR_val (i := 3) (m' := 15) (v := .pointer (some (ad1.add k))) F hQ rfl rfl kr kr kr kr kr (fun _ _ => run_ix (k := k) (m := l1.length) (cc := c1) rfl kr hA1 kr hlt) (anyR_val (i := 4) (m' := 31) (v := .int .u8 ((qt l1 k))) F hQ rfl rfl kr kr kr kr kr (fun _ hb => run_ldbit rfl kr (hc1 _ hb)) (anyR_val (i := 5) (m' := 63) (v := .pointer (some ⟨Nq, 0, none⟩)) F hQ rfl rfl kr kr kr kr kr (fun _ _ => kr) (anyR_ldsl (i := 6) (m' := 127) Bq0.out F hQ rfl rfl kr kr kr kr kr rfl kr (anyR_val (i := 7) (m' := 255) (v := .int .i64 ((k : Nat))) F hQ rfl rfl kr kr kr kr kr (fun _ _ => kr) ?_)))))))
  refine anyR_val (i := 8) (m' := 511) (v := .pointer (some (ad2.add k))) F hQ rfl rfl kr kr kr kr kr (fun _ _ => run_ix (k := k) (m := l2.length) (cc := c2) rfl kr hA2 kr (by omega)) (anyR_val (i := 9) (m' := 1023) (v := .int .u8 ((qt l2 k))) F hQ rfl rfl kr kr kr kr kr (fun _ hb => run_ldbit rfl kr (hc2 _ hb)) (anyR_val (i := 10) (m' := 2047) (v := .int .u8 ((qt l1 k))) F hQ rfl rfl kr kr kr kr kr (fun _ _ => kr) (anyR_e (anyR_last (i := 11) (m' := 4095) (v := .int .u8 ((qt l2 k))) rfl rfl kr kr kr kr kr (anyE_done kr ?_)))))
  clear F hQ Ba0 Bb0 Bp0 Bq0
  generalize hw : World.drew w8 = w9
  have hb : Below w8.heap.size w8 w9 := by rw [← hw]; exact (Below.refl _ _).drew
  clear hw
  replace O1 := kQ O1 hb
  replace O2 := kQ O2 hb
  replace Ba := kB Ba hb
  replace Bb := kB Bb hb
  replace Bp := kB Bp hb
  replace Bq := kB Bq hb
  replace hU := kU hU hb
  clear hb
  refine then_normal (wp_seq (wp_seq ?_))
  have bp := HG1.out.bd k
  have bq := HG2.out.bd k
  by_cases h1 : (qt l1 k) = 3
  have hx : alX (qt l1 k) (qt l2 k) = true := alX_p (Or.inl h1)
  refine reg_lit (wpl_r1 [(35, .int .u8 ((qt l1 k)))] kr (wpl_val rfl kr (run_eql8 (a := (qt l1 k)) (b := 3) rfl kr kr (beq_iff_eq.2 h1)) (wpl_r15 [(51, .bool true), (50, undef), (49, undef), (48, undef), (47, undef), (46, undef), (45, undef), (44, undef), (43, undef), (42, undef), (41, .bool true), (40, .bool true), (39, undef), (38, undef), (37, .bool true)] kr (wpl_end (then_normal (wp_ift kr (wp_exit ?_)))))))
  refine then_exit (exit_here (then_normal (reg_lit (wpl_r1 [(23, .int .i64 ((k : Nat)))] kr (wpl_val rfl kr (run_add (a := (k : Int)) (b := 1) (c := ((k + 1 : Int) : Int)) rfl kr kr (by omega) (by omega) (by omega)) (wpl_r1 [(9, .int .i64 (((k + 1 : Nat) : Int)))] kr (wpl_end ?_)))))))
  refine then_normal (hnext _ _ hlt ⟨Kp_c kr (Kp_c kr (Kp_c kr (Kp_c kr (Kp_n)))), hU, O1.out, O2.out, Ba.out, Bb.out, Bp.out, Bq.out, (fun j hj => by rcases Nat.lt_succ_iff_lt_or_eq.1 hj with h | h; exact hno j h; rw [h]; exact hx)⟩)
  by_cases h2 : (qt l2 k) = 3
  have hx : alX (qt l1 k) (qt l2 k) = true := alX_q (Or.inl h2)
  refine reg_lit (wpl_r1 [(35, .int .u8 ((qt l1 k)))] kr (wpl_val rfl kr (run_eql8 (a := (qt l1 k)) (b := 3) rfl kr kr (beq_eq_false_iff_ne.2 h1)) (wpl_r2 [(38, .int .u8 ((qt l2 k))), (37, .bool false)] kr (wpl_val rfl kr (run_eql8 (a := (qt l2 k)) (b := 3) rfl kr kr (beq_iff_eq.2 h2)) (wpl_r12 [(51, .bool true), (50, undef), (49, undef), (48, undef), (47, undef), (46, undef), (45, undef), (44, undef), (43, undef), (42, undef), (41, .bool true), (40, .bool true)] kr (wpl_end (then_normal ?_)))))))
  refine wp_ift kr (wp_exit (then_exit (exit_here (then_normal (reg_lit (wpl_r1 [(23, .int .i64 ((k : Nat)))] kr (wpl_val rfl kr (run_add (a := (k : Int)) (b := 1) (c := ((k + 1 : Int) : Int)) rfl kr kr (by omega) (by omega) (by omega)) ?_)))))))
  refine wpl_r1 [(9, .int .i64 (((k + 1 : Nat) : Int)))] kr (wpl_end ?_)
  refine then_normal (hnext _ _ hlt ⟨Kp_c kr (Kp_c kr (Kp_c kr (Kp_c kr (Kp_n)))), hU, O1.out, O2.out, Ba.out, Bb.out, Bp.out, Bq.out, (fun j hj => by rcases Nat.lt_succ_iff_lt_or_eq.1 hj with h | h; exact hno j h; rw [h]; exact hx)⟩)
  by_cases h3 : (qt l1 k) = 2
  have hx : alX (qt l1 k) (qt l2 k) = true := alX_p (Or.inr h3)
  refine reg_lit (wpl_r1 [(35, .int .u8 ((qt l1 k)))] kr (wpl_val rfl kr (run_eql8 (a := (qt l1 k)) (b := 3) rfl kr kr (beq_eq_false_iff_ne.2 h1)) (wpl_r2 [(38, .int .u8 ((qt l2 k))), (37, .bool false)] kr (wpl_val rfl kr (run_eql8 (a := (qt l2 k)) (b := 3) rfl kr kr (beq_eq_false_iff_ne.2 h2)) (wpl_r5 [(44, .int .u8 ((qt l1 k))), (43, .bool true), (42, .bool true), (41, .bool false), (40, .bool false)] kr (wpl_val rfl kr (run_eql8 (a := (qt l1 k)) (b := 2) rfl kr kr (beq_iff_eq.2 h3)) (wpl_r6 [(51, .bool true), (50, .bool true), (49, .bool true), (48, undef), (47, undef), (46, .bool true)] kr ?_)))))))
  refine wpl_end (then_normal (wp_ift kr (wp_exit (then_exit (exit_here (then_normal (reg_lit ?_)))))))
  refine wpl_r1 [(23, .int .i64 ((k : Nat)))] kr (wpl_val rfl kr (run_add (a := (k : Int)) (b := 1) (c := ((k + 1 : Int) : Int)) rfl kr kr (by omega) (by omega) (by omega)) (wpl_r1 [(9, .int .i64 (((k + 1 : Nat) : Int)))] kr (wpl_end ?_)))
  refine then_normal (hnext _ _ hlt ⟨Kp_c kr (Kp_c kr (Kp_c kr (Kp_c kr (Kp_n)))), hU, O1.out, O2.out, Ba.out, Bb.out, Bp.out, Bq.out, (fun j hj => by rcases Nat.lt_succ_iff_lt_or_eq.1 hj with h | h; exact hno j h; rw [h]; exact hx)⟩)
  by_cases h4 : (qt l2 k) = 2
  have hx : alX (qt l1 k) (qt l2 k) = true := alX_q (Or.inr h4)
  refine reg_lit (wpl_r1 [(35, .int .u8 ((qt l1 k)))] kr (wpl_val rfl kr (run_eql8 (a := (qt l1 k)) (b := 3) rfl kr kr (beq_eq_false_iff_ne.2 h1)) (wpl_r2 [(38, .int .u8 ((qt l2 k))), (37, .bool false)] kr (wpl_val rfl kr (run_eql8 (a := (qt l2 k)) (b := 3) rfl kr kr (beq_eq_false_iff_ne.2 h2)) (wpl_r5 [(44, .int .u8 ((qt l1 k))), (43, .bool true), (42, .bool true), (41, .bool false), (40, .bool false)] kr (wpl_val rfl kr (run_eql8 (a := (qt l1 k)) (b := 2) rfl kr kr (beq_eq_false_iff_ne.2 h3)) (wpl_r2 [(47, .int .u8 ((qt l2 k))), (46, .bool false)] kr ?_)))))))
  refine wpl_val rfl kr (run_eql8 (a := (qt l2 k)) (b := 2) rfl kr kr (beq_iff_eq.2 h4)) (wpl_r3 [(51, .bool true), (50, .bool true), (49, .bool true)] kr (wpl_end (then_normal (wp_ift kr (wp_exit (then_exit (exit_here ?_)))))))
  refine then_normal (reg_lit (wpl_r1 [(23, .int .i64 ((k : Nat)))] kr (wpl_val rfl kr (run_add (a := (k : Int)) (b := 1) (c := ((k + 1 : Int) : Int)) rfl kr kr (by omega) (by omega) (by omega)) (wpl_r1 [(9, .int .i64 (((k + 1 : Nat) : Int)))] kr (wpl_end ?_)))))
  refine then_normal (hnext _ _ hlt ⟨Kp_c kr (Kp_c kr (Kp_c kr (Kp_c kr (Kp_n)))), hU, O1.out, O2.out, Ba.out, Bb.out, Bp.out, Bq.out, (fun j hj => by rcases Nat.lt_succ_iff_lt_or_eq.1 hj with h | h; exact hno j h; rw [h]; exact hx)⟩)
  by_cases he : (qt l1 k) = (qt l2 k)
  have hx : alX (qt l1 k) (qt l2 k) = true := alX_s he
  refine reg_lit (wpl_r1 [(35, .int .u8 ((qt l1 k)))] kr (wpl_val rfl kr (run_eql8 (a := (qt l1 k)) (b := 3) rfl kr kr (beq_eq_false_iff_ne.2 h1)) (wpl_r2 [(38, .int .u8 ((qt l2 k))), (37, .bool false)] kr (wpl_val rfl kr (run_eql8 (a := (qt l2 k)) (b := 3) rfl kr kr (beq_eq_false_iff_ne.2 h2)) (wpl_r5 [(44, .int .u8 ((qt l1 k))), (43, .bool true), (42, .bool true), (41, .bool false), (40, .bool false)] kr (wpl_val rfl kr (run_eql8 (a := (qt l1 k)) (b := 2) rfl kr kr (beq_eq_false_iff_ne.2 h3)) (wpl_r2 [(47, .int .u8 ((qt l2 k))), (46, .bool false)] kr ?_)))))))
  refine wpl_val rfl kr (run_eql8 (a := (qt l2 k)) (b := 2) rfl kr kr (beq_eq_false_iff_ne.2 h4)) (wpl_r3 [(51, .bool false), (50, .bool false), (49, .bool false)] kr (wpl_end (then_normal (wp_iff kr (wp_skip (then_normal (wp_seq ?_)))))))
  refine reg_lit (wpl_r2 [(53, .int .u8 ((qt l2 k))), (52, .int .u8 ((qt l1 k)))] kr (wpl_val rfl kr (run_nequ8 (a := (qt l1 k)) (b := (qt l2 k)) rfl kr kr (bne_eq_false_iff_eq.2 he)) (wpl_end (then_normal (wp_iff kr (wp_skip (block_normal ?_)))))))
  refine then_normal (reg_lit (wpl_r1 [(23, .int .i64 ((k : Nat)))] kr (wpl_val rfl kr (run_add (a := (k : Int)) (b := 1) (c := ((k + 1 : Int) : Int)) rfl kr kr (by omega) (by omega) (by omega)) (wpl_r1 [(9, .int .i64 (((k + 1 : Nat) : Int)))] kr (wpl_end ?_)))))
  refine then_normal (hnext _ _ hlt ⟨Kp_c kr (Kp_c kr (Kp_c kr (Kp_c kr (Kp_n)))), hU, O1.out, O2.out, Ba.out, Bb.out, Bp.out, Bq.out, (fun j hj => by rcases Nat.lt_succ_iff_lt_or_eq.1 hj with h | h; exact hno j h; rw [h]; exact hx)⟩)
  have hx : alX (qt l1 k) (qt l2 k) = false := alX_n bp bq h1 h2 h3 h4 he
  refine reg_lit (wpl_r1 [(35, .int .u8 ((qt l1 k)))] kr (wpl_val rfl kr (run_eql8 (a := (qt l1 k)) (b := 3) rfl kr kr (beq_eq_false_iff_ne.2 h1)) (wpl_r2 [(38, .int .u8 ((qt l2 k))), (37, .bool false)] kr (wpl_val rfl kr (run_eql8 (a := (qt l2 k)) (b := 3) rfl kr kr (beq_eq_false_iff_ne.2 h2)) (wpl_r5 [(44, .int .u8 ((qt l1 k))), (43, .bool true), (42, .bool true), (41, .bool false), (40, .bool false)] kr (wpl_val rfl kr (run_eql8 (a := (qt l1 k)) (b := 2) rfl kr kr (beq_eq_false_iff_ne.2 h3)) (wpl_r2 [(47, .int .u8 ((qt l2 k))), (46, .bool false)] kr ?_)))))))
  refine wpl_val rfl kr (run_eql8 (a := (qt l2 k)) (b := 2) rfl kr kr (beq_eq_false_iff_ne.2 h4)) (wpl_r3 [(51, .bool false), (50, .bool false), (49, .bool false)] kr (wpl_end (then_normal (wp_iff kr (wp_skip (then_normal (wp_seq ?_)))))))
  refine reg_lit (wpl_r2 [(53, .int .u8 ((qt l2 k))), (52, .int .u8 ((qt l1 k)))] kr (wpl_val rfl kr (run_nequ8 (a := (qt l1 k)) (b := (qt l2 k)) rfl kr kr (bne_iff_ne.2 he)) (wpl_end (then_normal (wp_ift kr (wp_seq (reg_lit ?_)))))))
  refine wpl_r1 [(6, .bool false)] kr (wpl_end (then_normal (wp_ret ?_)))
  refine (show bodyPost _ _ _ .ret _ _ from ret_sl (.bool false) rfl kr ?_)
  exact ⟨congrArg (fun b => Ending.returned (.bool b)) (by cases hm : mtc alX ⟨la, sa⟩ ⟨lb, sb⟩; rfl; rw [HM.1 hm k hlt] at hx; cases hx), hU⟩
  refine reg_lit (wpl_r2 [(19, .pointer (some ⟨Np, 0, none⟩)), (18, .int .i64 ((k : Nat)))] kr (wpl_ldsl Bp.out rfl kr rfl kr (wpl_r1 [(21, .int .i64 ((l1.length : Nat)))] kr (wpl_val rfl kr (run_lss (a := (k : Int)) (b := (l1.length : Int)) rfl kr kr (decide_eq_false (by omega))) (wpl_end (then_normal (wp_iff kr ?_)))))))
  refine wp_exit (then_exit (then_exit (exit_here (then_normal (wp_seq (reg_lit (wpl_r1 [(6, .bool true)] kr ?_)))))))
  refine wpl_end (then_normal (wp_ret ?_))
  refine (show bodyPost _ _ _ .ret _ _ from ret_sl (.bool true) rfl kr ?_)
  exact ⟨congrArg (fun b => Ending.returned (.bool b)) (HM.2 fun i hi => hno i (by omega)).symm, hU⟩
end
section
open Go.RowKit
set_option maxRecDepth 100000
set_option linter.unusedSimpArgs false
set_option linter.unusedVariables false
structure Judge (N : Nat) (h : Int → Bool) : Prop where
  cf : Ent N
  ct : ∀ z w, Calls Tryz.prog N #[.int .i64 z] w fun e w' => e = .returned (.bool (h z)) ∧ w = w'
theorem judge_lt : Judge 132 (fun z => decide (z < 0)) := by
  refine ⟨Tryz.call132, fun z w => ?_⟩
  go_enter Tryz.func132, Tryz.ntmps132
  go_wp2
  go_ret
  exact ⟨rfl, rfl⟩
theorem judge_le : Judge 133 (fun z => decide (z ≤ 0)) := by
  refine ⟨Tryz.call133, fun z w => ?_⟩
  go_enter Tryz.func133, Tryz.ntmps133
  go_wp2
  go_ret
  exact ⟨rfl, rfl⟩
theorem judge_gt : Judge 134 (fun z => decide (0 < z)) := by
  refine ⟨Tryz.call134, fun z w => ?_⟩
  go_enter Tryz.func134, Tryz.ntmps134
  go_wp2
  go_ret
  exact ⟨rfl, rfl⟩
theorem judge_ge : Judge 135 (fun z => decide (0 ≤ z)) := by
  refine ⟨Tryz.call135, fun z w => ?_⟩
  go_enter Tryz.func135, Tryz.ntmps135
  go_wp2
  go_ret
  exact ⟨rfl, rfl⟩
set_option maxHeartbeats 2000000 in
theorem compare_any (N : Nat) (h : Int → Bool) (hop : Judge N h) (A B : Option Addr) (a b : List Int) (c d : Nat) (s t : Bool) (w : World) (ha : a.length ≤ 4096) (hb : b.length ≤ 4096) (hca : Hid (a.length ≤ c ∧ c ≤ maxLen)) (hcb : Hid (b.length ≤ d ∧ d ≤ maxLen)) (hA : RQ w A a) (hB : RQ w B b) (ya : By a) (yb : By b) :
    Calls Tryz.prog 131 #[.agg #[.slice A a.length c, .bool s], .agg #[.slice B b.length d, .bool t], .func (.func N) #[] #[]] w (RetC (· = vCmp h ⟨a, s⟩ ⟨b, t⟩) w) := by
  have hcf : ∀ args w, (callFunc N args).run Tryz.prog w = .ok (.enter N args) w := hop.cf
  have HO := hide hop
  have hwd := wd_bd (a := ⟨a, s⟩) (b := ⟨b, t⟩) ya yb
  have HA := hide hA
  have HBB := hide hB
  have LA := hide ha
  have LB := hide hb
  have YA := hide ya
  have YB := hide yb
  clear hA hB ha hb ya yb
  clear hop
  obtain ⟨n, hn⟩ : ∃ n, n = wd ⟨a, s⟩ ⟨b, t⟩ := ⟨_, rfl⟩
  have hcall := hide fun W (hW : Below w.heap.size w W) => balance_any A B a b c d s t W LA.out LB.out hca hcb (HA.out.below hW) (HBB.out.below hW) YA.out YB.out
  unfold RetB at hcall
  obtain ⟨σ, hσ⟩ : ∃ σ, σ = sg ⟨a, s⟩ ⟨b, t⟩ := ⟨_, rfl⟩
  rw [← hσ] at hcall
  obtain ⟨R, hR⟩ : ∃ R, R = vCmp h ⟨a, s⟩ ⟨b, t⟩ := ⟨_, rfl⟩
  rw [← hR]
  unfold vCmp cpr at hR
  rw [← hσ] at hR
  rw [← hn] at hwd
  have HN := hide hn
  have HR := hide hR
  clear hn hσ hR
  go_enter Tryz.func131, Tryz.ntmps131
  go_wp2_with fail
  refine (hcall.out _ belo).mono ?_
  rintro e w1 ⟨p, P, pc, q, Q, qc, Ep, Eq, rfl, Cp, Cq, Op, Oq, -, hb⟩
  replace Op := hide (Op.out.base (show w.heap.size + 3 ≤ _ by first | omega | (simp; omega) | (simp; done)))
  replace Oq := hide (Oq.out.base (show w.heap.size + 3 ≤ _ by first | omega | (simp; omega) | (simp; done)))
  have hB1 : Below w.heap.size w w1 := Below.trans belo (hb.mono as4)
  obtain ⟨kc1, kf1⟩ := bcell hb
  have hz1 := hb.size
  (try simp at hz1)
  have n1_0 : w.heap.size < w1.heap.size := by omega
  have n1_1 : w.heap.size + 1 < w1.heap.size := by omega
  have n1_2 : w.heap.size + 2 < w1.heap.size := by omega
  have r1_0 : w1.cell? ⟨w.heap.size + 2, 0, none⟩ = some (.slice none 0 0) := (kc1 _ _ as0).trans as2
  have g1_0 : w1.frozen? ⟨w.heap.size + 2, 0, none⟩ = false := (kf1 _ _ as0).trans as2
  have r1_1 : w1.cell? ⟨w.heap.size + 2, 1, none⟩ = some (.bool false) := (kc1 _ _ as0).trans as2
  have g1_1 : w1.frozen? ⟨w.heap.size + 2, 1, none⟩ = false := (kf1 _ _ as0).trans as2
  clear hb
  have lp : p.length = n := by rw [Ep.out, blA_length, HN.out]
  have lq : q.length = n := by rw [Eq.out, blB_length, HN.out]
  rw [← Ep.out, ← Eq.out] at HR
  have L1 : p.length ≤ 4096 := by omega
  have L2 : q.length ≤ 4096 := by omega
  have L3 : 0 < p.length := by omega
  clear lp lq
  have k1 := hide (known_any P p pc w1 L1 Op.out.rd)
  have k2 := hide (known_any Q q qc w1 L2 Oq.out.rd)
  cases hk1 : kn p
  · rw [hk1] at k1 HR
    clear hk1
    go_wp2_with fail
    refine (k1.out).mono ?_
    rintro e w' ⟨rfl, rfl⟩
    go_wp2_with fail
    refine (single_any _ _).mono ?_
    rintro e w2 ⟨l1, s1, A1, c1, E1, rfl, C1, O1, hb⟩
    replace Op := hide ((show OwQ (w.heap.size + 3) _ _ _ from owT Op).kept hb)
    replace Oq := hide ((show OwQ (w.heap.size + 3) _ _ _ from owT Oq).kept hb)
    replace O1 := hide (O1.out.base (show w.heap.size + 3 ≤ _ by first | omega | (simp; omega) | (simp; done)))
    have hB2 : Below w.heap.size w w2 := Below.trans belo (hb.mono as4)
    obtain ⟨kc2, kf2⟩ := bcell hb
    have hz2 := hb.size
    (try simp at hz2)
    have n2_0 : w.heap.size < w2.heap.size := by omega
    have n2_1 : w.heap.size + 1 < w2.heap.size := by omega
    have n2_2 : w.heap.size + 2 < w2.heap.size := by omega
    have r2_0 : w2.cell? ⟨w.heap.size + 2, 0, none⟩ = some (.slice none 0 0) := (kc2 _ _ as0).trans as2
    have g2_0 : w2.frozen? ⟨w.heap.size + 2, 0, none⟩ = false := (kf2 _ _ as0).trans as2
    have r2_1 : w2.cell? ⟨w.heap.size + 2, 1, none⟩ = some (.bool false) := (kc2 _ _ as0).trans as2
    have g2_1 : w2.frozen? ⟨w.heap.size + 2, 1, none⟩ = false := (kf2 _ _ as0).trans as2
    clear hb
    go_wp2
    refine bodyPost_ret (v := .agg #[.slice A1 l1.length c1, .bool s1]) (by simp [results, Tryz.results131, go_sem, *]) rfl ?_
    exact ⟨l1, s1, A1, c1, hide (E1.out.trans (by rw [HR.out]; simp)), rfl, C1, hide (OwQ.base (B := w.heap.size + 3) (owT O1) (by omega)), belo⟩
  · cases hk2 : kn q
    · rw [hk1] at k1 HR
      rw [hk2] at k2 HR
      clear hk1 hk2
      go_wp2_with fail
      refine (k1.out).mono ?_
      rintro e w' ⟨rfl, rfl⟩
      go_wp2_with fail
      refine (k2.out).mono ?_
      rintro e w' ⟨rfl, rfl⟩
      go_wp2_with fail
      refine (single_any _ _).mono ?_
      rintro e w2 ⟨l1, s1, A1, c1, E1, rfl, C1, O1, hb⟩
      replace Op := hide ((show OwQ (w.heap.size + 3) _ _ _ from owT Op).kept hb)
      replace Oq := hide ((show OwQ (w.heap.size + 3) _ _ _ from owT Oq).kept hb)
      replace O1 := hide (O1.out.base (show w.heap.size + 3 ≤ _ by first | omega | (simp; omega) | (simp; done)))
      have hB2 : Below w.heap.size w w2 := Below.trans belo (hb.mono as4)
      obtain ⟨kc2, kf2⟩ := bcell hb
      have hz2 := hb.size
      (try simp at hz2)
      have n2_0 : w.heap.size < w2.heap.size := by omega
      have n2_1 : w.heap.size + 1 < w2.heap.size := by omega
      have n2_2 : w.heap.size + 2 < w2.heap.size := by omega
      have r2_0 : w2.cell? ⟨w.heap.size + 2, 0, none⟩ = some (.slice none 0 0) := (kc2 _ _ as0).trans as2
      have g2_0 : w2.frozen? ⟨w.heap.size + 2, 0, none⟩ = false := (kf2 _ _ as0).trans as2
      have r2_1 : w2.cell? ⟨w.heap.size + 2, 1, none⟩ = some (.bool false) := (kc2 _ _ as0).trans as2
      have g2_1 : w2.frozen? ⟨w.heap.size + 2, 1, none⟩ = false := (kf2 _ _ as0).trans as2
      clear hb
      go_wp2
      refine bodyPost_ret (v := .agg #[.slice A1 l1.length c1, .bool s1]) (by simp [results, Tryz.results131, go_sem, *]) rfl ?_
      exact ⟨l1, s1, A1, c1, hide (E1.out.trans (by rw [HR.out]; simp)), rfl, C1, hide (OwQ.base (B := w.heap.size + 3) (owT O1) (by omega)), belo⟩
    · rw [hk1] at k1 HR
      rw [hk2] at k2 HR
      clear hk1 hk2
      cases σ
      · go_wp2_with fail
        refine (k1.out).mono ?_
        rintro e w' ⟨rfl, rfl⟩
        go_wp2_with fail
        refine (k2.out).mono ?_
        rintro e w' ⟨rfl, rfl⟩
        go_wp2_with fail
        refine (number_q P p pc _ L1 Op.out.rd).mono ?_
        rintro e w2 ⟨lm, Am, cm, Em, rfl, Cm, Om, hb⟩
        replace Op := hide ((show OwQ (w.heap.size + 3) _ _ _ from owT Op).kept hb)
        replace Oq := hide ((show OwQ (w.heap.size + 3) _ _ _ from owT Oq).kept hb)
        replace Om := hide Om.out.rd
        have hB2 : Below w.heap.size w w2 := Below.trans belo (hb.mono as4)
        obtain ⟨kc2, kf2⟩ := bcell hb
        have hz2 := hb.size
        (try simp at hz2)
        have n2_0 : w.heap.size < w2.heap.size := by omega
        have n2_1 : w.heap.size + 1 < w2.heap.size := by omega
        have n2_2 : w.heap.size + 2 < w2.heap.size := by omega
        have r2_0 : w2.cell? ⟨w.heap.size + 2, 0, none⟩ = some (.slice none 0 0) := (kc2 _ _ as0).trans as2
        have g2_0 : w2.frozen? ⟨w.heap.size + 2, 0, none⟩ = false := (kf2 _ _ as0).trans as2
        have r2_1 : w2.cell? ⟨w.heap.size + 2, 1, none⟩ = some (.bool false) := (kc2 _ _ as0).trans as2
        have g2_1 : w2.frozen? ⟨w.heap.size + 2, 1, none⟩ = false := (kf2 _ _ as0).trans as2
        clear hb
        go_wp2_with fail
        refine (number_q Q q qc _ L2 Oq.out.rd).mono ?_
        rintro e w3 ⟨lk, Ak, ck, Ek, rfl, Ck, Ok, hb⟩
        replace Op := hide ((show OwQ (w.heap.size + 3) _ _ _ from owT Op).kept hb)
        replace Oq := hide ((show OwQ (w.heap.size + 3) _ _ _ from owT Oq).kept hb)
        replace Om := hide (Om.out.below hb)
        replace Ok := hide Ok.out.rd
        have hB3 : Below w.heap.size w w3 := Below.trans belo (hb.mono as4)
        obtain ⟨kc3, kf3⟩ := bcell hb
        have hz3 := hb.size
        (try simp at hz3)
        have n3_0 : w.heap.size < w3.heap.size := by omega
        have n3_1 : w.heap.size + 1 < w3.heap.size := by omega
        have n3_2 : w.heap.size + 2 < w3.heap.size := by omega
        have r3_0 : w3.cell? ⟨w.heap.size + 2, 0, none⟩ = some (.slice none 0 0) := (kc3 _ _ as0).trans as2
        have g3_0 : w3.frozen? ⟨w.heap.size + 2, 0, none⟩ = false := (kf3 _ _ as0).trans as2
        have r3_1 : w3.cell? ⟨w.heap.size + 2, 1, none⟩ = some (.bool false) := (kc3 _ _ as0).trans as2
        have g3_1 : w3.frozen? ⟨w.heap.size + 2, 1, none⟩ = false := (kf3 _ _ as0).trans as2
        clear hb
        have em : lm.length ≤ 4096 := by rw [Em.out, nb_length]; exact L1
        have ek : lk.length ≤ 4096 := by rw [Ek.out, nb_length]; exact L2
        go_wp2_with fail
        refine (cmp_any Am Ak lm lk cm ck _ em ek Om.out Ok.out).mono ?_
        rintro e w' ⟨rfl, rfl⟩
        go_wp2_with fail
        refine (HO.out.ct _ _).mono ?_
        rintro e w' ⟨rfl, rfl⟩
        go_wp2_with fail
        refine (from_q _ _).mono ?_
        rintro e w' ⟨rfl, rfl⟩
        go_wp2_with fail
        refine (single_any _ _).mono ?_
        rintro e w4 ⟨l1, s1, A1, c1, E1, rfl, C1, O1, hb⟩
        replace Op := hide ((show OwQ (w.heap.size + 3) _ _ _ from owT Op).kept hb)
        replace Oq := hide ((show OwQ (w.heap.size + 3) _ _ _ from owT Oq).kept hb)
        replace Om := hide (Om.out.below hb)
        replace Ok := hide (Ok.out.below hb)
        replace O1 := hide (O1.out.base (show w.heap.size + 3 ≤ _ by first | omega | (simp; omega) | (simp; done)))
        have hB4 : Below w.heap.size w w4 := Below.trans belo (hb.mono as4)
        obtain ⟨kc4, kf4⟩ := bcell hb
        have hz4 := hb.size
        (try simp at hz4)
        have n4_0 : w.heap.size < w4.heap.size := by omega
        have n4_1 : w.heap.size + 1 < w4.heap.size := by omega
        have n4_2 : w.heap.size + 2 < w4.heap.size := by omega
        have r4_0 : w4.cell? ⟨w.heap.size + 2, 0, none⟩ = some (.slice none 0 0) := (kc4 _ _ as0).trans as2
        have g4_0 : w4.frozen? ⟨w.heap.size + 2, 0, none⟩ = false := (kf4 _ _ as0).trans as2
        have r4_1 : w4.cell? ⟨w.heap.size + 2, 1, none⟩ = some (.bool false) := (kc4 _ _ as0).trans as2
        have g4_1 : w4.frozen? ⟨w.heap.size + 2, 1, none⟩ = false := (kf4 _ _ as0).trans as2
        clear hb
        go_wp2
        refine bodyPost_ret (v := .agg #[.slice A1 l1.length c1, .bool s1]) (by simp [results, Tryz.results131, go_sem, *]) rfl ?_
        exact ⟨l1, s1, A1, c1, hide (E1.out.trans (by rw [HR.out, Em.out, Ek.out]; simp)), rfl, C1, hide (OwQ.base (B := w.heap.size + 3) (owT O1) (by omega)), belo⟩
      · go_wp2_with fail
        refine (k1.out).mono ?_
        rintro e w' ⟨rfl, rfl⟩
        go_wp2_with fail
        refine (k2.out).mono ?_
        rintro e w' ⟨rfl, rfl⟩
        go_wp2_with fail
        refine (number_q P p pc _ L1 Op.out.rd).mono ?_
        rintro e w2 ⟨lm, Am, cm, Em, rfl, Cm, Om, hb⟩
        replace Op := hide ((show OwQ (w.heap.size + 3) _ _ _ from owT Op).kept hb)
        replace Oq := hide ((show OwQ (w.heap.size + 3) _ _ _ from owT Oq).kept hb)
        replace Om := hide Om.out.rd
        have hB2 : Below w.heap.size w w2 := Below.trans belo (hb.mono as4)
        obtain ⟨kc2, kf2⟩ := bcell hb
        have hz2 := hb.size
        (try simp at hz2)
        have n2_0 : w.heap.size < w2.heap.size := by omega
        have n2_1 : w.heap.size + 1 < w2.heap.size := by omega
        have n2_2 : w.heap.size + 2 < w2.heap.size := by omega
        have r2_0 : w2.cell? ⟨w.heap.size + 2, 0, none⟩ = some (.slice none 0 0) := (kc2 _ _ as0).trans as2
        have g2_0 : w2.frozen? ⟨w.heap.size + 2, 0, none⟩ = false := (kf2 _ _ as0).trans as2
        have r2_1 : w2.cell? ⟨w.heap.size + 2, 1, none⟩ = some (.bool false) := (kc2 _ _ as0).trans as2
        have g2_1 : w2.frozen? ⟨w.heap.size + 2, 1, none⟩ = false := (kf2 _ _ as0).trans as2
        clear hb
        go_wp2_with fail
        refine (number_q Q q qc _ L2 Oq.out.rd).mono ?_
        rintro e w3 ⟨lk, Ak, ck, Ek, rfl, Ck, Ok, hb⟩
        replace Op := hide ((show OwQ (w.heap.size + 3) _ _ _ from owT Op).kept hb)
        replace Oq := hide ((show OwQ (w.heap.size + 3) _ _ _ from owT Oq).kept hb)
        replace Om := hide (Om.out.below hb)
        replace Ok := hide Ok.out.rd
        have hB3 : Below w.heap.size w w3 := Below.trans belo (hb.mono as4)
        obtain ⟨kc3, kf3⟩ := bcell hb
        have hz3 := hb.size
        (try simp at hz3)
        have n3_0 : w.heap.size < w3.heap.size := by omega
        have n3_1 : w.heap.size + 1 < w3.heap.size := by omega
        have n3_2 : w.heap.size + 2 < w3.heap.size := by omega
        have r3_0 : w3.cell? ⟨w.heap.size + 2, 0, none⟩ = some (.slice none 0 0) := (kc3 _ _ as0).trans as2
        have g3_0 : w3.frozen? ⟨w.heap.size + 2, 0, none⟩ = false := (kf3 _ _ as0).trans as2
        have r3_1 : w3.cell? ⟨w.heap.size + 2, 1, none⟩ = some (.bool false) := (kc3 _ _ as0).trans as2
        have g3_1 : w3.frozen? ⟨w.heap.size + 2, 1, none⟩ = false := (kf3 _ _ as0).trans as2
        clear hb
        have em : lm.length ≤ 4096 := by rw [Em.out, nb_length]; exact L1
        have ek : lk.length ≤ 4096 := by rw [Ek.out, nb_length]; exact L2
        go_wp2_with fail
        refine (scmp_any Am Ak lm lk cm ck _ em ek Om.out Ok.out).mono ?_
        rintro e w' ⟨rfl, rfl⟩
        go_wp2_with fail
        refine (HO.out.ct _ _).mono ?_
        rintro e w' ⟨rfl, rfl⟩
        go_wp2_with fail
        refine (from_q _ _).mono ?_
        rintro e w' ⟨rfl, rfl⟩
        go_wp2_with fail
        refine (single_any _ _).mono ?_
        rintro e w4 ⟨l1, s1, A1, c1, E1, rfl, C1, O1, hb⟩
        replace Op := hide ((show OwQ (w.heap.size + 3) _ _ _ from owT Op).kept hb)
        replace Oq := hide ((show OwQ (w.heap.size + 3) _ _ _ from owT Oq).kept hb)
        replace Om := hide (Om.out.below hb)
        replace Ok := hide (Ok.out.below hb)
        replace O1 := hide (O1.out.base (show w.heap.size + 3 ≤ _ by first | omega | (simp; omega) | (simp; done)))
        have hB4 : Below w.heap.size w w4 := Below.trans belo (hb.mono as4)
        obtain ⟨kc4, kf4⟩ := bcell hb
        have hz4 := hb.size
        (try simp at hz4)
        have n4_0 : w.heap.size < w4.heap.size := by omega
        have n4_1 : w.heap.size + 1 < w4.heap.size := by omega
        have n4_2 : w.heap.size + 2 < w4.heap.size := by omega
        have r4_0 : w4.cell? ⟨w.heap.size + 2, 0, none⟩ = some (.slice none 0 0) := (kc4 _ _ as0).trans as2
        have g4_0 : w4.frozen? ⟨w.heap.size + 2, 0, none⟩ = false := (kf4 _ _ as0).trans as2
        have r4_1 : w4.cell? ⟨w.heap.size + 2, 1, none⟩ = some (.bool false) := (kc4 _ _ as0).trans as2
        have g4_1 : w4.frozen? ⟨w.heap.size + 2, 1, none⟩ = false := (kf4 _ _ as0).trans as2
        clear hb
        go_wp2
        refine bodyPost_ret (v := .agg #[.slice A1 l1.length c1, .bool s1]) (by simp [results, Tryz.results131, go_sem, *]) rfl ?_
        exact ⟨l1, s1, A1, c1, hide (E1.out.trans (by rw [HR.out, Em.out, Ek.out]; simp)), rfl, C1, hide (OwQ.base (B := w.heap.size + 3) (owT O1) (by omega)), belo⟩
theorem vLt_any (A B : Option Addr) (a b : List Int) (c d : Nat) (s t : Bool) (w : World) (ha : a.length ≤ 4096) (hb : b.length ≤ 4096) (hca : Hid (a.length ≤ c ∧ c ≤ maxLen)) (hcb : Hid (b.length ≤ d ∧ d ≤ maxLen)) (hA : RQ w A a) (hB : RQ w B b) (ya : By a) (yb : By b) :
    Calls Tryz.prog 47 #[.agg #[.slice A a.length c, .bool s], .agg #[.slice B b.length d, .bool t]] w (RetC (· = vCmp (fun z => decide (z < 0)) ⟨a, s⟩ ⟨b, t⟩) w) := by
  have HA := hide hA
  have HBB := hide hB
  have LA := hide ha
  have LB := hide hb
  have YA := hide ya
  have YB := hide yb
  clear hA hB ha hb ya yb
  go_enter Tryz.func47, Tryz.ntmps47
  go_wp2_with fail
  refine (compare_any _ _ judge_lt A B a b c d s t _ LA.out LB.out hca hcb (HA.out.below belo) (HBB.out.below belo) YA.out YB.out).mono ?_
  rintro e w1 ⟨l1, s1, A1, c1, E1, rfl, C1, O1, hb⟩
  replace O1 := hide (O1.out.base (show w.heap.size + 3 ≤ _ by first | omega | (simp; omega) | (simp; done)))
  have hB1 : Below w.heap.size w w1 := Below.trans belo (hb.mono as4)
  obtain ⟨kc1, kf1⟩ := bcell hb
  have hz1 := hb.size
  (try simp at hz1)
  have n1_0 : w.heap.size < w1.heap.size := by omega
  have n1_1 : w.heap.size + 1 < w1.heap.size := by omega
  have n1_2 : w.heap.size + 2 < w1.heap.size := by omega
  have r1_0 : w1.cell? ⟨w.heap.size + 2, 0, none⟩ = some (.slice none 0 0) := (kc1 _ _ as0).trans as2
  have g1_0 : w1.frozen? ⟨w.heap.size + 2, 0, none⟩ = false := (kf1 _ _ as0).trans as2
  have r1_1 : w1.cell? ⟨w.heap.size + 2, 1, none⟩ = some (.bool false) := (kc1 _ _ as0).trans as2
  have g1_1 : w1.frozen? ⟨w.heap.size + 2, 1, none⟩ = false := (kf1 _ _ as0).trans as2
  clear hb
  go_wp2
  refine bodyPost_ret (v := .agg #[.slice A1 l1.length c1, .bool s1]) (by simp [results, Tryz.results47, go_sem, *]) rfl ?_
  exact ⟨l1, s1, A1, c1, hide (E1.out), rfl, C1, hide (OwQ.base (B := w.heap.size + 3) (owT O1) (by omega)), belo⟩
theorem vLe_any (A B : Option Addr) (a b : List Int) (c d : Nat) (s t : Bool) (w : World) (ha : a.length ≤ 4096) (hb : b.length ≤ 4096) (hca : Hid (a.length ≤ c ∧ c ≤ maxLen)) (hcb : Hid (b.length ≤ d ∧ d ≤ maxLen)) (hA : RQ w A a) (hB : RQ w B b) (ya : By a) (yb : By b) :
    Calls Tryz.prog 48 #[.agg #[.slice A a.length c, .bool s], .agg #[.slice B b.length d, .bool t]] w (RetC (· = vCmp (fun z => decide (z ≤ 0)) ⟨a, s⟩ ⟨b, t⟩) w) := by
  have HA := hide hA
  have HBB := hide hB
  have LA := hide ha
  have LB := hide hb
  have YA := hide ya
  have YB := hide yb
  clear hA hB ha hb ya yb
  go_enter Tryz.func48, Tryz.ntmps48
  go_wp2_with fail
  refine (compare_any _ _ judge_le A B a b c d s t _ LA.out LB.out hca hcb (HA.out.below belo) (HBB.out.below belo) YA.out YB.out).mono ?_
  rintro e w1 ⟨l1, s1, A1, c1, E1, rfl, C1, O1, hb⟩
  replace O1 := hide (O1.out.base (show w.heap.size + 3 ≤ _ by first | omega | (simp; omega) | (simp; done)))
  have hB1 : Below w.heap.size w w1 := Below.trans belo (hb.mono as4)
  obtain ⟨kc1, kf1⟩ := bcell hb
  have hz1 := hb.size
  (try simp at hz1)
  have n1_0 : w.heap.size < w1.heap.size := by omega
  have n1_1 : w.heap.size + 1 < w1.heap.size := by omega
  have n1_2 : w.heap.size + 2 < w1.heap.size := by omega
  have r1_0 : w1.cell? ⟨w.heap.size + 2, 0, none⟩ = some (.slice none 0 0) := (kc1 _ _ as0).trans as2
  have g1_0 : w1.frozen? ⟨w.heap.size + 2, 0, none⟩ = false := (kf1 _ _ as0).trans as2
  have r1_1 : w1.cell? ⟨w.heap.size + 2, 1, none⟩ = some (.bool false) := (kc1 _ _ as0).trans as2
  have g1_1 : w1.frozen? ⟨w.heap.size + 2, 1, none⟩ = false := (kf1 _ _ as0).trans as2
  clear hb
  go_wp2
  refine bodyPost_ret (v := .agg #[.slice A1 l1.length c1, .bool s1]) (by simp [results, Tryz.results48, go_sem, *]) rfl ?_
  exact ⟨l1, s1, A1, c1, hide (E1.out), rfl, C1, hide (OwQ.base (B := w.heap.size + 3) (owT O1) (by omega)), belo⟩
theorem vGt_any (A B : Option Addr) (a b : List Int) (c d : Nat) (s t : Bool) (w : World) (ha : a.length ≤ 4096) (hb : b.length ≤ 4096) (hca : Hid (a.length ≤ c ∧ c ≤ maxLen)) (hcb : Hid (b.length ≤ d ∧ d ≤ maxLen)) (hA : RQ w A a) (hB : RQ w B b) (ya : By a) (yb : By b) :
    Calls Tryz.prog 49 #[.agg #[.slice A a.length c, .bool s], .agg #[.slice B b.length d, .bool t]] w (RetC (· = vCmp (fun z => decide (0 < z)) ⟨a, s⟩ ⟨b, t⟩) w) := by
  have HA := hide hA
  have HBB := hide hB
  have LA := hide ha
  have LB := hide hb
  have YA := hide ya
  have YB := hide yb
  clear hA hB ha hb ya yb
  go_enter Tryz.func49, Tryz.ntmps49
  go_wp2_with fail
  refine (compare_any _ _ judge_gt A B a b c d s t _ LA.out LB.out hca hcb (HA.out.below belo) (HBB.out.below belo) YA.out YB.out).mono ?_
  rintro e w1 ⟨l1, s1, A1, c1, E1, rfl, C1, O1, hb⟩
  replace O1 := hide (O1.out.base (show w.heap.size + 3 ≤ _ by first | omega | (simp; omega) | (simp; done)))
  have hB1 : Below w.heap.size w w1 := Below.trans belo (hb.mono as4)
  obtain ⟨kc1, kf1⟩ := bcell hb
  have hz1 := hb.size
  (try simp at hz1)
  have n1_0 : w.heap.size < w1.heap.size := by omega
  have n1_1 : w.heap.size + 1 < w1.heap.size := by omega
  have n1_2 : w.heap.size + 2 < w1.heap.size := by omega
  have r1_0 : w1.cell? ⟨w.heap.size + 2, 0, none⟩ = some (.slice none 0 0) := (kc1 _ _ as0).trans as2
  have g1_0 : w1.frozen? ⟨w.heap.size + 2, 0, none⟩ = false := (kf1 _ _ as0).trans as2
  have r1_1 : w1.cell? ⟨w.heap.size + 2, 1, none⟩ = some (.bool false) := (kc1 _ _ as0).trans as2
  have g1_1 : w1.frozen? ⟨w.heap.size + 2, 1, none⟩ = false := (kf1 _ _ as0).trans as2
  clear hb
  go_wp2
  refine bodyPost_ret (v := .agg #[.slice A1 l1.length c1, .bool s1]) (by simp [results, Tryz.results49, go_sem, *]) rfl ?_
  exact ⟨l1, s1, A1, c1, hide (E1.out), rfl, C1, hide (OwQ.base (B := w.heap.size + 3) (owT O1) (by omega)), belo⟩
theorem vGe_any (A B : Option Addr) (a b : List Int) (c d : Nat) (s t : Bool) (w : World) (ha : a.length ≤ 4096) (hb : b.length ≤ 4096) (hca : Hid (a.length ≤ c ∧ c ≤ maxLen)) (hcb : Hid (b.length ≤ d ∧ d ≤ maxLen)) (hA : RQ w A a) (hB : RQ w B b) (ya : By a) (yb : By b) :
    Calls Tryz.prog 50 #[.agg #[.slice A a.length c, .bool s], .agg #[.slice B b.length d, .bool t]] w (RetC (· = vCmp (fun z => decide (0 ≤ z)) ⟨a, s⟩ ⟨b, t⟩) w) := by
  have HA := hide hA
  have HBB := hide hB
  have LA := hide ha
  have LB := hide hb
  have YA := hide ya
  have YB := hide yb
  clear hA hB ha hb ya yb
  go_enter Tryz.func50, Tryz.ntmps50
  go_wp2_with fail
  refine (compare_any _ _ judge_ge A B a b c d s t _ LA.out LB.out hca hcb (HA.out.below belo) (HBB.out.below belo) YA.out YB.out).mono ?_
  rintro e w1 ⟨l1, s1, A1, c1, E1, rfl, C1, O1, hb⟩
  replace O1 := hide (O1.out.base (show w.heap.size + 3 ≤ _ by first | omega | (simp; omega) | (simp; done)))
  have hB1 : Below w.heap.size w w1 := Below.trans belo (hb.mono as4)
  obtain ⟨kc1, kf1⟩ := bcell hb
  have hz1 := hb.size
  (try simp at hz1)
  have n1_0 : w.heap.size < w1.heap.size := by omega
  have n1_1 : w.heap.size + 1 < w1.heap.size := by omega
  have n1_2 : w.heap.size + 2 < w1.heap.size := by omega
  have r1_0 : w1.cell? ⟨w.heap.size + 2, 0, none⟩ = some (.slice none 0 0) := (kc1 _ _ as0).trans as2
  have g1_0 : w1.frozen? ⟨w.heap.size + 2, 0, none⟩ = false := (kf1 _ _ as0).trans as2
  have r1_1 : w1.cell? ⟨w.heap.size + 2, 1, none⟩ = some (.bool false) := (kc1 _ _ as0).trans as2
  have g1_1 : w1.frozen? ⟨w.heap.size + 2, 1, none⟩ = false := (kf1 _ _ as0).trans as2
  clear hb
  go_wp2
  refine bodyPost_ret (v := .agg #[.slice A1 l1.length c1, .bool s1]) (by simp [results, Tryz.results50, go_sem, *]) rfl ?_
  exact ⟨l1, s1, A1, c1, hide (E1.out), rfl, C1, hide (OwQ.base (B := w.heap.size + 3) (owT O1) (by omega)), belo⟩
end
section
open Go.RowKit
set_option maxRecDepth 100000
set_option linter.unusedSimpArgs false
set_option linter.unusedVariables false
def oneT : List (Int × Nat) := [(14, 65), (12, 60), (13, 56), (15, 66), (16, 67), (17, 68), (18, 69), (19, 70), (20, 71)]
structure One (N : Nat) (w : World) : Prop where
  lt : N < w.heap.size
  c0 : ∀ k (h : k < oneT.length), w.cell? ⟨N, k * 2, none⟩ = some (.int .u8 oneT[k].1)
  c1 : ∀ k (h : k < oneT.length), w.cell? ⟨N, k * 2 + 1, none⟩ = some (.func (.func oneT[k].2) #[] #[])
theorem One.kept {N : Nat} {w w' : World} (h : One N w) (hb : Below w.heap.size w w') : One N w' :=
  ⟨Nat.lt_of_lt_of_le h.lt hb.size, fun k hk => (hb.cell (p := ⟨N, k * 2, none⟩) h.lt).trans (h.c0 k hk), fun k hk => (hb.cell (p := ⟨N, k * 2 + 1, none⟩) h.lt).trans (h.c1 k hk)⟩
section
variable {Q : Exit → Act → World → Prop} {ops : Array Oper} {o o2 : Oper} {rest : List Oper} {x y : Operand} {w W : World} {N n d k op F : Nat} {E : Env} {z : Int} {ρ : Operand → Value} {u v : Value}
theorem run_ldone (ho : o.op = .load 31 x) (hx : ρ x = .pointer (some ⟨N, k * 2, none⟩)) (T : One N w) (hk : k < oneT.length) :
    (execOp ρ o).run Tryz.prog w = .ok (.value (.agg #[.int .u8 oneT[k].1, .func (.func oneT[k].2) #[] #[]])) w := by
  have h0 := T.c0 k hk
  have h1 := T.c1 k hk
  unfold execOp
  rw [ho]
  simp only [hx]
  simp [go_sem, h0, h1]
theorem run_alone (ho : o.op = .alloc 31) : (execOp ρ o).run Tryz.prog w = .ok (.value (.pointer (some ⟨w.heap.size, 0, none⟩))) (w.alloc (.cells #[.int .u8 0, .nilFunc] 31)) := by
  unfold execOp
  rw [ho]
  simp [go_sem]
theorem run_stone (ho : o.op = .store 31 x y) (hx : ρ x = .pointer (some ⟨w.heap.size, 0, none⟩)) (hy : ρ y = .agg #[.int .u8 z, .func (.func F) #[] #[]]) :
    (execOp ρ o).run Tryz.prog (w.alloc (.cells #[.int .u8 0, .nilFunc] 31)) = .ok .skip (w.alloc (.cells #[.int .u8 z, .func (.func F) #[] #[]] 31)) := by
  unfold execOp
  rw [ho]
  simp only [hx, hy]
  simp [go_sem]
theorem wpl_ldone (T : One N w) (k : Nat) (hk : k < oneT.length) (hd : o.dst = some d) (hw : wnt ops n E o = true) (ho : o.op = .load 31 x) (hx : evl n E x = .pointer (some ⟨N, k * 2, none⟩))
    (h : WL Tryz.prog ops Q rest n ((d, .agg #[.int .u8 oneT[k].1, .func (.func oneT[k].2) #[] #[]]) :: E) w) : WL Tryz.prog ops Q (o :: rest) n E w := wpl_val hd hw (run_ldone ho hx T hk) h
theorem wpl_made1 (z : Int) (F : Nat) (hd : o.dst = some d) (hg : o.guard = none) (ho : o.op = .alloc 31) (hd2 : o2.dst = none) (hg2 : o2.guard = none) (ho2 : o2.op = .store 31 x y)
    (hx : ∀ v : Value, evl n ((d, v) :: E) x = v) (hy : ∀ p : Value, evl n ((d, p) :: E) y = .agg #[.int .u8 z, .func (.func F) #[] #[]])
    (h : ∀ (V : World) (N : Nat), Bx2 N (.int .u8 z) (.func (.func F) #[] #[]) V → Below w.heap.size w V → WL Tryz.prog ops Q rest n ((d, .pointer (some ⟨N, 0, none⟩)) :: E) V) : WL Tryz.prog ops Q (o :: o2 :: rest) n E w :=
  wpl_val hd (by unfold wnt; rw [hg]) (run_alone ho) (wpl_none hd2 (by unfold wnt; rw [hg2]) (run_stone ho2 (hx _) (hy _)) (h _ w.heap.size ⟨by simp, by simp [go_sem], by simp [go_sem]⟩ ((Below.refl _ _).alloc (Nat.le_refl _) _)))
theorem run_ldop (ho : o.op = .load 5 x) (hx : ρ x = .pointer (some ⟨N, 0, none⟩)) (B : Bx2 N u v w) : (execOp ρ o).run Tryz.prog w = .ok (.value u) w := by
  have h0 := B.c0
  unfold execOp
  rw [ho]
  simp only [hx]
  simp [go_sem, h0]
theorem run_ldfn1 (ho : o.op = .load 27 x) (hx : ρ x = .pointer (some ⟨N, 1, none⟩)) (B : Bx2 N u v w) : (execOp ρ o).run Tryz.prog w = .ok (.value v) w := by
  have h1 := B.c1
  unfold execOp
  rw [ho]
  simp only [hx]
  simp [go_sem, h1]
theorem run_ldfn2 (ho : o.op = .load 37 x) (hx : ρ x = .pointer (some ⟨N, 1, none⟩)) (B : Bx2 N u v w) : (execOp ρ o).run Tryz.prog w = .ok (.value v) w := by
  have h1 := B.c1
  unfold execOp
  rw [ho]
  simp only [hx]
  simp [go_sem, h1]
end
set_option maxHeartbeats 1000000 in
theorem vones_any (w : World) : Calls Tryz.prog 10 #[] w fun e w' => ∃ N, e = .returned (.slice (some ⟨N, 0, none⟩) 9 9) ∧ One N w' ∧ Below w.heap.size w w' := by
  go_enter Tryz.func10, Tryz.ntmps10
  go_wp2
  go_ret
  refine ⟨_, rfl, ⟨by simp, fun k hk => ?_, fun k hk => ?_⟩, (Below.refl _ _).alloc (Nat.le_refl _) _⟩
  all_goals
    have hk' : k < 9 := hk
    (repeat (rcases k with _ | k; · simp [go_sem, oneT]))
    omega
theorem gm_sgl {x : Int} (h : 0 ≤ x ∧ x ≤ 3) : Gd (sgl x).b := ⟨by show 0 < 1; decide, by show 1 ≤ 128; decide, fun i => by
  rcases i with _ | i
  · exact h
  · have e : qt (sgl x).b (i + 1) = 0 := qt_ge (by show 1 ≤ i + 1; omega)
    omega⟩
theorem gm_3 {x : Int} (h : x = 0 ∨ x = 1 ∨ x = 2) : Gd (sgl x).b := gm_sgl (by omega)
theorem bd_3 {x : Int} (h : x = 0 ∨ x = 1 ∨ x = 2) : 0 ≤ x ∧ x ≤ 3 := by omega
theorem gm_not {a : Vc} (ha : By a.b) : Gd (vNot a).b := by
  unfold vNot
  exact gd_ql (cnt_gd ha).pos (cnt_gd ha).le fun i _ => bd_3 (mNot_3 _)
theorem gm_btw {a b : Vc} (ha : By a.b) (hb : By b.b) {f : Int → Int → Int} (h3 : ∀ p q, f p q = 0 ∨ f p q = 1 ∨ f p q = 2) : Gd (btw f a b).b := by
  unfold btw
  exact gd_ql (wd_bd ha hb).1 (wd_bd ha hb).2 fun i _ => bd_3 (h3 _ _)
theorem gm_red {a : Vc} {f : Int → Int → Int} (h3 : ∀ p q, f p q = 0 ∨ f p q = 1 ∨ f p q = 2) : Gd (sgl (red f a)).b := by
  refine gm_3 ?_
  unfold red
  cases (cnt a).b.length - 1
  · exact mBuf_3 _
  · exact h3 _ _
theorem gm_ar {a b : Vc} (ha : By a.b) (hb : By b.b) {f : List Bool → List Bool → Bool → Option (List Bool)} (hl : ∀ m n s l, f m n s = some l → l.length = m.length) : Gd (ar f a b).b := by
  obtain ⟨h0, h1⟩ := wd_bd ha hb
  unfold ar
  split
  · split
    · rename_i l hl'
      have e := hl _ _ _ _ hl'
      rw [nb_length, blA_length] at e
      exact gd_fb (by omega) (by omega)
    · exact gd_xs h0 h1
  · exact gd_xs h0 h1
theorem gm_neg {a : Vc} (ha : By a.b) : Gd (vNeg a).b := by
  have h0 := (cnt_gd ha).pos
  have h1 := (cnt_gd ha).le
  have hz : Gd (zr a).b := by
    unfold zr
    exact gd_ql h0 h1 fun i _ => ⟨Int.le_refl 0, by decide⟩
  unfold vNeg vSub
  exact gm_ar hz.by_ (cnt_gd ha).by_ hlen_sub
theorem gm_pow {a b : Vc} (ha : By a.b) : Gd (vPow a b).b := by
  have h0 := (cnt_gd ha).pos
  have h1 := (cnt_gd ha).le
  have hz : Gd (zr (cnt a)).b := gd_ql (by rw [cnt_cnt]; exact h0) (by rw [cnt_cnt]; exact h1) fun i _ => by decide
  have hf : ∀ z : Int, Gd (fb (vz (cnt a).b.length z)) := fun z => gd_fb (by rw [vz_length]; exact h0) (by rw [vz_length]; exact h1)
  unfold vPow
  simp only
  (repeat' split) <;> first | exact gd_xs h0 h1 | exact hf _ | exact hz
theorem gm_shf {a b : Vc} (ha : By a.b) {m : Vc → Nat → List Int} (hm : ∀ c n, Gd c.b → Gd (m c n)) : Gd (shf m a b).b := by
  unfold shf
  split
  · exact hm _ _ (cnt_gd ha)
  · exact gd_xs (cnt_gd ha).pos (cnt_gd ha).le
theorem gmm_shl (c : Vc) (n : Nat) (h : Gd c.b) : Gd (mShl c n) := gd_wdw h h.pos h.le (by decide)
theorem gmm_shr (c : Vc) (n : Nat) (h : Gd c.b) : Gd (mShr c n) := gd_wdw h h.pos h.le (by decide)
theorem gmm_ashr (c : Vc) (n : Nat) (h : Gd c.b) : Gd (mAShr c n) := gd_wdw h h.pos h.le (xt_bd h)
section
variable {a b c d : Vc} (h : Rf a c) (k : Rf b d)
include h
include k
end
end
end Go.Proofs.YtbcpeagannjgpaaGreatDoor
