/-
  The walk of BvDivision.
-/
import Derived.Test.YtkjiaflmaniplaaBvDD
namespace Go.Proofs.Ytkjiaflmaniplaa
open Go.RowKit
set_option linter.unusedSimpArgs false
set_option linter.unusedVariables false

def allz (b : List Bool) (k : Nat) : Bool := decide (nf (bt b) k = 0)
theorem allz_step (b : List Bool) (k : Nat) : allz b (k + 1) = (allz b k && !bt b k) := by
  unfold allz
  rw [nf_succ]
  have : 0 < 2 ^ k := Nat.pow_pos (by decide)
  cases bt b k
  · simp
  · simp
theorem allz_yes {b : List Bool} (h : nv b = 0) : allz b b.length = true := decide_eq_true h
theorem allz_no {b : List Bool} (h : ¬ nv b = 0) : allz b b.length = false := decide_eq_false h
def RetDC (P Q : List Bool → Prop) (w : World) (e : Ending) (w' : World) : Prop :=
  ∃ q A c r B d, Hid (P q) ∧ Hid (Q r) ∧ e = .returned (.tuple #[.slice A q.length c, .slice B r.length d, .int .i64 0]) ∧ Hid (r.length ≤ d ∧ d ≤ maxLen) ∧ Hid (Own w.heap.size w' A q) ∧ Hid (Own w.heap.size w' B r) ∧ Below w.heap.size w w'
theorem sdiv_c (A B : Option Addr) (a b : List Bool) (c d : Nat) (w : World) (ha : a.length ≤ 4096) (hb : b.length ≤ 4096) (hA : Rd w A a) (hB : Rd w B b) (h0 : 0 < nv b) : Calls Try.prog 33 #[.slice A a.length c, .slice B b.length d] w (RetDC (fun q => q = vz a.length ((sv a).tdiv (sv b))) (fun r => r = vz a.length ((sv a).tmod (sv b))) w) :=
  (sdiv_any A B a b c d w ha hb hA hB h0).mono fun _ _ ⟨A, c, B, d, he, _, _, h3, h4, h5, h6, h7⟩ => ⟨_, A, c, _, B, d, hide rfl, hide rfl, he, hide ⟨h3, h4⟩, hide h5, hide h6, h7⟩
set_option maxRecDepth 100000 in
set_option maxHeartbeats 8000000 in
theorem BvDivision_walk (A : Option Addr) (ra : List Bool) (ca : Nat) (B : Option Addr) (rb : List Bool) (cb : Nat) (w : World) (ka : ra.length ≤ maxLen) (Ra0 : Rd w A ra) (kb : rb.length ≤ maxLen) (Rb0 : Rd w B rb) (Ca : Hid (ra.length ≤ ca ∧ ca ≤ maxLen)) (Cb : Hid (rb.length ≤ cb ∧ cb ≤ maxLen)) :
    Calls Try.prog 9 #[.slice A ra.length ca, .slice B rb.length cb] w (Mk (.bool true) w) := by
  have HB := hide (Below.refl w.heap.size w)
  have Ra := hide Ra0
  have Rb := hide Rb0
  clear Ra0 Rb0
  by_cases hl : ra.length ≤ 140 ∧ rb.length ≤ 140
  · obtain ⟨ha, hbb⟩ := hl
    have La : ra.length ≤ 4096 := by omega
    have Lb : rb.length ≤ 4096 := by omega
    go_enter Try.func9, Try.ntmps9
    go_wp2_with fail
    have hb := (Below.refl w.heap.size w).alloc (Nat.le_refl _) (.cells #[.slice A ra.length ca, .slice B rb.length cb] 22)
    replace Ra := hide (Ra.out.below hb)
    replace Rb := hide (Rb.out.below hb)
    replace HB := hide (HB.out.trans (hb.mono HB.out.size))
    clear hb
    refine (long_no w.heap.size 2 [(A, ra.length, ca), (B, rb.length, cb)] _ (by simp) (sls2 w A B _ _ _ _) (by intro i hi; match i, hi with | 0, _ => exact ha | 1, _ => exact hbb)).mono ?_
    rintro e w' ⟨rfl, rfl⟩
    go_wp2_with fail
    refine (awake_any _).mono ?_
    rintro e w1 ⟨rfl, hb⟩
    replace Ra := hide (Ra.out.below hb)
    replace Rb := hide (Rb.out.below hb)
    replace HB := hide (HB.out.trans (hb.mono HB.out.size))
    clear hb
    go_wp2
    go_loop [5, 6] (fun z i => ∃ k : Nat, k ≤ rb.length ∧ i = .int .i64 k ∧ z = .bool (allz rb k)) (fun _ i => rb.length - (intOf i).toNat)
    case atStart => exact ⟨0, Nat.zero_le _, rfl, rfl⟩
    case round =>
      obtain ⟨k, hk, rfl, rfl⟩ := hrel
      by_cases hlt : k < rb.length
      · obtain ⟨ad, rfl, hlt1, hc⟩ := Rb.out.at_ hlt
        have hst := hide (allz_step rb k)
        obtain ⟨z, hz⟩ : ∃ z, z = allz rb k := ⟨_, rfl⟩
        rw [← hz] at hst ⊢
        clear hz
        cases hx : bt rb k <;> cases z
        all_goals
          rw [hx] at hc hst
          clear hx
          go_wp2
          go_round
          case rel => exact ⟨k + 1, by omega, by go_num, by rw [hst.out]; rfl⟩
          case measure => simp [intOf]; omega
      · have e : k = rb.length := by omega
        subst e
        by_cases h0 : nv rb = 0
        · have hz : allz rb rb.length = true := allz_yes h0
          have HZ0 := hide h0
          clear h0
          go_wp2_with fail
          refine (div_zero _ _ ra rb _ _ _ La Lb Rb.out HZ0.out).mono ?_
          rintro e w' ⟨rfl, rfl⟩
          go_wp2_with fail
          refine (sdiv_zero _ _ ra rb _ _ _ La Lb Ra.out Rb.out HZ0.out).mono ?_
          rintro e w2 ⟨rfl, hb⟩
          replace Ra := hide (Ra.out.below hb)
          replace Rb := hide (Rb.out.below hb)
          replace HB := hide (HB.out.trans (hb.mono HB.out.size))
          clear hb
          go_wp2
          go_ret
          exact ⟨rfl, HB.out⟩
        · have hz : allz rb rb.length = false := allz_no h0
          have H0 : Hid (0 < nv rb) := hide (by omega)
          clear h0
          go_wp2_with fail
          refine (div_r _ _ ra rb _ _ _ La Lb Ra.out Rb.out H0.out).mono ?_
          rintro e w2 ⟨rq, Aq, cq, rr, Ar, cr, Eq, Er, rfl, Oq, Or, hb⟩
          have Lq : rq.length ≤ 4096 := by rw [Eq.out, vz_length]; first | omega | simp
          have Lr : rr.length ≤ 4096 := by rw [Er.out, vz_length]; first | omega | simp
          replace Ra := hide (Ra.out.below hb)
          replace Rb := hide (Rb.out.below hb)
          replace HB := hide (HB.out.trans (hb.mono HB.out.size))
          clear hb
          have Rq := hide Oq.out.rd
          clear Oq
          have Rr := hide Or.out.rd
          clear Or
          go_wp2_with fail
          refine (sdiv_c _ _ ra rb _ _ _ La Lb Ra.out Rb.out H0.out).mono ?_
          rintro e w3 ⟨rs, As, cs, rt, At, ct, Es, Et, rfl, Ct, Os, Ot, hb⟩
          have Ls : rs.length ≤ 4096 := by rw [Es.out, vz_length]; omega
          have Lt : rt.length ≤ 4096 := by rw [Et.out, vz_length]; omega
          replace Ra := hide (Ra.out.below hb)
          replace Rb := hide (Rb.out.below hb)
          replace Rq := hide (Rq.out.below hb)
          replace Rr := hide (Rr.out.below hb)
          replace HB := hide (HB.out.trans (hb.mono HB.out.size))
          clear hb
          have Rs := hide Os.out.rd
          have Rt := hide Ot.out.rd
          have hlq : rq.length = ra.length := by rw [Eq.out, vz_length]
          have HLq := hide hlq
          have fq : ((rq.length : Int) != (ra.length : Int)) = false := by rw [hlq]; simp
          have dq : (rq.length != ra.length) = false := by rw [hlq]; simp
          have eq : (rq.length == ra.length) = true := by rw [hlq]; simp
          have iq : decide (rq.length = ra.length) = true := by rw [hlq]; simp
          clear hlq
          have hlr : rr.length = ra.length := by rw [Er.out, vz_length]
          have HLr := hide hlr
          have fr : ((rr.length : Int) != (ra.length : Int)) = false := by rw [hlr]; simp
          have dr : (rr.length != ra.length) = false := by rw [hlr]; simp
          have er : (rr.length == ra.length) = true := by rw [hlr]; simp
          have ir : decide (rr.length = ra.length) = true := by rw [hlr]; simp
          clear hlr
          have hls : rs.length = ra.length := by rw [Es.out, vz_length]
          have HLs := hide hls
          have fs : ((rs.length : Int) != (ra.length : Int)) = false := by rw [hls]; simp
          have ds : (rs.length != ra.length) = false := by rw [hls]; simp
          have es : (rs.length == ra.length) = true := by rw [hls]; simp
          have is : decide (rs.length = ra.length) = true := by rw [hls]; simp
          clear hls
          have hlt : rt.length = ra.length := by rw [Et.out, vz_length]
          have HLt := hide hlt
          have ft : ((rt.length : Int) != (ra.length : Int)) = false := by rw [hlt]; simp
          have dt : (rt.length != ra.length) = false := by rw [hlt]; simp
          have et : (rt.length == ra.length) = true := by rw [hlt]; simp
          have it : decide (rt.length = ra.length) = true := by rw [hlt]; simp
          clear hlt
          go_wp2_with fail
          refine (mul_r _ _ rq rb _ _ _ Lq Lb Rq.out Rb.out).mono ?_
          rintro e w4 ⟨rm, Am, cm, Em, rfl, Cm, Om, hb⟩
          have Lm : rm.length ≤ 4096 := by rw [Em.out, vz_length]; exact Lq
          replace Ra := hide (Ra.out.below hb)
          replace Rb := hide (Rb.out.below hb)
          replace Rq := hide (Rq.out.below hb)
          replace Rr := hide (Rr.out.below hb)
          replace Rs := hide (Rs.out.below hb)
          replace Rt := hide (Rt.out.below hb)
          replace HB := hide (HB.out.trans (hb.mono HB.out.size))
          clear hb
          have Rm := hide Om.out.rd
          clear Om
          go_wp2_with fail
          refine (add_r _ _ rm rr _ _ _ Lm Lr Rm.out Rr.out).mono ?_
          rintro e w5 ⟨rx, Ax, cx, Ex, rfl, Cx, Ox, hb⟩
          have Lx : rx.length ≤ 4096 := by rw [Ex.out, vz_length]; exact Lm
          replace Ra := hide (Ra.out.below hb)
          replace Rb := hide (Rb.out.below hb)
          replace Rq := hide (Rq.out.below hb)
          replace Rr := hide (Rr.out.below hb)
          replace Rs := hide (Rs.out.below hb)
          replace Rt := hide (Rt.out.below hb)
          replace Rm := hide (Rm.out.below hb)
          replace HB := hide (HB.out.trans (hb.mono HB.out.size))
          clear hb
          have Rx := hide Ox.out.rd
          clear Ox
          go_wp2_with fail
          refine (same_yes _ _ _ _ _ _ _ Lx Rx.out Ra.out (by rw [Ex.out, Em.out, Eq.out, Er.out]; simp only [vz_length]; exact div_back ra rb)).mono ?_
          rintro e w6 ⟨rfl, hb⟩
          replace Ra := hide (Ra.out.below hb)
          replace Rb := hide (Rb.out.below hb)
          replace Rq := hide (Rq.out.below hb)
          replace Rr := hide (Rr.out.below hb)
          replace Rs := hide (Rs.out.below hb)
          replace Rt := hide (Rt.out.below hb)
          replace Rm := hide (Rm.out.below hb)
          replace Rx := hide (Rx.out.below hb)
          replace HB := hide (HB.out.trans (hb.mono HB.out.size))
          clear hb
          clear Rm
          clear Rx
          clear Rq
          go_wp2_with fail
          have hc := cmp_any _ _ rr rb cr cb _ Lr Lb Rr.out Rb.out
          obtain ⟨z, ez, hz⟩ : ∃ z, cmp (nv rr) (nv rb) = z ∧ z < 0 := ⟨_, rfl, cmp_lt.mpr (by rw [Er.out]; exact rem_lt H0.out)⟩
          rw [ez] at hc
          clear ez
          refine hc.mono ?_
          rintro e w' ⟨rfl, rfl⟩
          clear hc
          clear Rr
          go_wp2_with fail
          have HW := hide (Below.refl w6.heap.size w6)
          have Qa := hide Ra.out
          have Qb := hide Rb.out
          have Qs := hide Rs.out
          have Qt := hide Rt.out
          have QB := hide HB.out
          refine (fit_any _ rb cb ra.length _ Lb La Rb.out).mono ?_
          rintro e w7 ⟨rd, Ad, cd, Ed, rfl, Cd, Od, hb⟩
          have Ld : rd.length ≤ 4096 := by rw [Ed.out, vz_length]; exact La
          replace HW := hide (HW.out.trans (hb.mono HW.out.size))
          replace Ra := hide (Ra.out.below hb)
          replace Rb := hide (Rb.out.below hb)
          replace Rs := hide (Rs.out.below hb)
          replace Rt := hide (Rt.out.below hb)
          replace HB := hide (HB.out.trans (hb.mono HB.out.size))
          clear hb
          have Rd := hide Od.out.rd
          clear Ra
          clear Rb
          clear Rs
          clear Rt
          have hld : rd.length = ra.length := by rw [Ed.out, vz_length]
          have HLd := hide hld
          have D0 := hide (DR.start Od.out Ed.out HW.out)
          clear Rd Od HW HB
          go_wp2
          go_loopw [14] (fun i wr => ∃ k : Nat, i = .int .i64 k ∧ DR w6 Ad ra.length rb k wr) (fun i _ => ra.length - (intOf i).toNat)
          case atStart => exact ⟨rb.length, rfl, D0.out⟩
          case round =>
            clear D0
            obtain ⟨k, rfl, hR⟩ := hrel
            have hRH := hide hR
            clear hR
            have hkb : k ≤ 140 := by have := hRH.out.kn; omega
            by_cases hlt : k < ra.length
            · obtain ⟨g, rfl, hg, hrow⟩ := hRH.out.row (by omega)
              have hcg : wr.cell? ⟨g, k, none⟩ = some (.bool (Dk rb k k)) := hrow.cell hlt
              have hf : wr.frozen? ⟨g, k, none⟩ = false := hrow.free _
              have hgl := hrow.lt
              have hkd : k < rd.length := by omega
              have hn := hide (rneg_any B rb cb wr Lb (Qb.out.below hRH.out.bel))
              clear hrow
              go_wp2_with (go_at_call 51; (with_reducible refine (hn.out).mono ?_); rintro e w' ⟨rfl, rfl⟩)
              go_roundw
              case rel => exact ⟨k + 1, by go_num, hRH.out.next hlt hg⟩
              case measure => simp [intOf]; omega
            · skip
              obtain ⟨rd2, Ed2⟩ : ∃ l, Hid (l = vz ra.length (sv rb)) := ⟨_, hide rfl⟩
              have Od2 := hide (hRH.out.done hlt)
              rw [← Ed2.out] at Od2
              have Ld2 : rd2.length ≤ 4096 := by rw [Ed2.out, vz_length]; exact La
              have HLd2 := hide (show rd2.length = ra.length by rw [Ed2.out, vz_length])
              have Rd2 := hide Od2.out.rd
              clear Od2
              have Ra := hide (Qa.out.below hRH.out.bel)
              have Rb := hide (Qb.out.below hRH.out.bel)
              have Rs := hide (Qs.out.below hRH.out.bel)
              have Rt := hide (Qt.out.below hRH.out.bel)
              have HB := hide (QB.out.trans (hRH.out.bel.mono QB.out.size))
              clear Qa Qb Qs Qt QB hRH
              go_wp2_with fail
              have hm := mul_r _ _ rs rd2 cs cd _ Ls Ld2 Rs.out Rd2.out
              rw [HLd2.out] at hm
              refine hm.mono ?_
              rintro e wj1 ⟨rm2, Am2, cm2, Em2, rfl, Cm2, Om2, hb⟩
              clear hm
              have Lm2 : rm2.length ≤ 4096 := by rw [Em2.out, vz_length]; exact Ls
              replace Ra := hide (Ra.out.below hb)
              replace Rb := hide (Rb.out.below hb)
              replace Rs := hide (Rs.out.below hb)
              replace Rt := hide (Rt.out.below hb)
              replace Rd2 := hide (Rd2.out.below hb)
              replace HB := hide (HB.out.trans (hb.mono HB.out.size))
              clear hb
              have Rm2 := hide Om2.out.rd
              clear Om2
              clear Rs
              clear Rd2
              go_wp2_with fail
              refine (add_r _ _ rm2 rt _ _ _ Lm2 Lt Rm2.out Rt.out).mono ?_
              rintro e wj2 ⟨rx2, Ax2, cx2, Ex2, rfl, Cx2, Ox2, hb⟩
              have Lx2 : rx2.length ≤ 4096 := by rw [Ex2.out, vz_length]; exact Lm2
              replace Ra := hide (Ra.out.below hb)
              replace Rb := hide (Rb.out.below hb)
              replace Rt := hide (Rt.out.below hb)
              replace Rm2 := hide (Rm2.out.below hb)
              replace HB := hide (HB.out.trans (hb.mono HB.out.size))
              clear hb
              have Rx2 := hide Ox2.out.rd
              clear Ox2
              go_wp2_with fail
              refine (same_yes _ _ _ _ _ _ _ Lx2 Rx2.out Ra.out (by rw [Ex2.out, Em2.out, Es.out, Et.out, Ed2.out]; simp only [vz_length]; exact sdiv_back ra rb)).mono ?_
              rintro e wj3 ⟨rfl, hb⟩
              replace Ra := hide (Ra.out.below hb)
              replace Rb := hide (Rb.out.below hb)
              replace Rt := hide (Rt.out.below hb)
              replace Rm2 := hide (Rm2.out.below hb)
              replace Rx2 := hide (Rx2.out.below hb)
              replace HB := hide (HB.out.trans (hb.mono HB.out.size))
              clear hb
              clear Rm2
              clear Rx2
              go_wp2_with fail
              refine (size_any _ rt ct _ (by have := HLt.out; omega) Ct Rt.out).mono ?_
              rintro e wj4 ⟨ry1, Ay1, cy1, Ey1, rfl, Cy1, Oy1, hb⟩
              have Ly1 : ry1.length ≤ 4096 := by have := Ey1.out.2; have := HLt.out; omega
              replace Ra := hide (Ra.out.below hb)
              replace Rb := hide (Rb.out.below hb)
              replace Rt := hide (Rt.out.below hb)
              replace HB := hide (HB.out.trans (hb.mono HB.out.size))
              clear hb
              have Ry1 := hide Oy1.out.rd
              clear Oy1
              go_wp2_with fail
              refine (size_any _ rb cb _ (by omega) Cb Rb.out).mono ?_
              rintro e wj5 ⟨ry2, Ay2, cy2, Ey2, rfl, Cy2, Oy2, hb⟩
              have Ly2 : ry2.length ≤ 4096 := by have := Ey2.out.2; omega
              replace Ra := hide (Ra.out.below hb)
              replace Rb := hide (Rb.out.below hb)
              replace Rt := hide (Rt.out.below hb)
              replace Ry1 := hide (Ry1.out.below hb)
              replace HB := hide (HB.out.trans (hb.mono HB.out.size))
              clear hb
              have Ry2 := hide Oy2.out.rd
              clear Oy2
              go_wp2_with fail
              have hc := cmp_any _ _ ry1 ry2 cy1 cy2 _ Ly1 Ly2 Ry1.out Ry2.out
              obtain ⟨z, ez, hz⟩ : ∃ z, cmp (nv ry1) (nv ry2) = z ∧ z < 0 := ⟨_, rfl, cmp_lt.mpr (by rw [Ey1.out.1, Ey2.out.1, Et.out]; exact tm_lt H0.out)⟩
              rw [ez] at hc
              clear ez
              refine hc.mono ?_
              rintro e w' ⟨rfl, rfl⟩
              clear hc
              clear Ry1
              clear Ry2
              go_wp2_with fail
              have hc := cmp_any _ none rt [] ct 0 _ Lt (by simp) Rt.out (fun h => absurd h (by simp))
              have hn1 := hide (rneg_any _ rt ct _ Lt Rt.out)
              have hn2 := hide (rneg_any _ ra ca _ La Ra.out)
              by_cases hn0 : nv rt = 0
              · rw [show cmp (nv rt) (nv []) = 0 from cmp_eq_zero.mpr (by rw [hn0]; rfl)] at hc
                clear hn0
                refine hc.mono ?_
                rintro e w' ⟨rfl, rfl⟩
                clear hc
                go_wp2
                go_ret
                exact ⟨rfl, HB.out⟩
              · rw [show cmp (nv rt) (nv []) = 1 from by
                  have e0 : nv [] = 0 := rfl
                  unfold cmp; rw [e0, if_neg (by omega), if_pos (by omega)]] at hc
                have HE := hide (show ng rt = ng ra by rw [Et.out] at hn0 ⊢; exact ng_tm hn0)
                rw [HE.out] at hn1
                clear hn0 HE
                refine hc.mono ?_
                rintro e w' ⟨rfl, rfl⟩
                clear hc
                cases ng ra
                all_goals
                  go_wp2_with (go_at_call 51; first | ((with_reducible refine (hn1.out).mono ?_); rintro e w' ⟨rfl, rfl⟩) | ((with_reducible refine (hn2.out).mono ?_); rintro e w' ⟨rfl, rfl⟩))
                  go_ret
                  exact ⟨rfl, HB.out⟩
  · have HK := hide hl
    have HA := hide ka
    have HBb := hide kb
    clear hl ka kb
    go_enter Try.func9, Try.ntmps9
    go_wp2_with fail
    refine (long_yes w.heap.size 2 [(A, ra.length, ca), (B, rb.length, cb)] _ (by simp) (sls2 w A B _ _ _ _) (long2 HK.out) (by intro i hi; match i, hi with | 0, _ => exact HA.out | 1, _ => exact HBb.out)).mono ?_
    rintro e w' ⟨rfl, rfl⟩
    go_wp2_with fail
    refine (awake_any _).mono ?_
    rintro e w1 ⟨rfl, hb⟩
    go_wp2_with fail
    go_ret
    exact ⟨rfl, ((Below.refl _ _).alloc (Nat.le_refl _) _).trans (hb.mono (by simp))⟩
end Go.Proofs.Ytkjiaflmaniplaa
