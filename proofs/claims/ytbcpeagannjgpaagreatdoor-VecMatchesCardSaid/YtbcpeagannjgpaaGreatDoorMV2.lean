/-
  Texts of MV joined (BvV, BvW, BvY, BvZ, VecM, QA, VecA, VecB, VecC, VecC2, VecD, VecE, VecG).
-/
import Derived.Test.YtbcpeagannjgpaaGreatDoorProg
import Derived.WalkKit
import Derived.WalkSpells
import Derived.WalkLawsBesides
import Derived.Deep.QuietTactic
import Derived.BigQuiet
import Derived.Lib.Hide
import Derived.Handy
import Derived.Laws.CopyOwn
import Derived.Deep.RegionLaw
import Derived.Test.YtbcpeagannjgpaaGreatDoorMV1
set_option linter.unusedVariables false
set_option linter.unusedSimpArgs false
set_option linter.unusedSectionVars false
namespace Go.Proofs.YtbcpeagannjgpaaGreatDoor
section
open Go.RowKit
set_option maxRecDepth 100000
set_option linter.unusedSimpArgs false
set_option linter.unusedVariables false
theorem og_top {f g : Nat → Bool} {i n : Nat} (hi : i < n) (h : ∀ j, i < j → f j = g j) (hne : f i ≠ g i) : og f g n = if g i then -1 else 1 := by
  induction n with
  | zero => omega
  | succ n ih =>
    by_cases e : i = n
    · subst e
      unfold og
      cases hf : f i <;> cases hg : g i <;> simp_all
    · rw [og_eq (h n (by omega)) rfl]; exact ih (by omega)
theorem cmp_top {a b : List Bool} {i : Nat} (hi : i < a.length) (hl : a.length = b.length) (h : ∀ j, i < j → bt a j = bt b j) (hne : bt a i ≠ bt b i) : cmp (nv a) (nv b) = if bt b i then -1 else 1 := by
  rw [← og_top hi h hne, og_spec]
  unfold nv; rw [← hl]
theorem trimmed_lt {a b x y : List Bool} (ha : Trimmed a x) (hb : Trimmed b y) (h : x.length < y.length) : cmp (nv a) (nv b) = -1 := by
  have h1 := nv_lt x
  have h2 := nf_big (f := bt y) (n := y.length) (i := y.length - 1) (by omega) (hb.2.2 (by omega))
  have h3 : 2 ^ x.length ≤ 2 ^ (y.length - 1) := Nat.pow_le_pow_right (by decide) (by omega)
  have e1 := ha.1
  have e2 := hb.1
  have : nf (bt y) y.length = nv y := rfl
  unfold cmp; rw [if_pos (by omega)]
theorem trimmed_gt {a b x y : List Bool} (ha : Trimmed a x) (hb : Trimmed b y) (h : y.length < x.length) : cmp (nv a) (nv b) = 1 := by
  have h1 := nv_lt y
  have h2 := nf_big (f := bt x) (n := x.length) (i := x.length - 1) (by omega) (ha.2.2 (by omega))
  have h3 : 2 ^ y.length ≤ 2 ^ (x.length - 1) := Nat.pow_le_pow_right (by decide) (by omega)
  have e1 := ha.1
  have e2 := hb.1
  have : nf (bt x) x.length = nv x := rfl
  unfold cmp; rw [if_neg (by omega), if_pos (by omega)]
set_option maxHeartbeats 2000000 in
theorem rcmp_any (A B : Option Addr) (a b : List Bool) (c d : Nat) (w : World) (ha : a.length ≤ 4096) (hb : b.length ≤ 4096) (hca : Hid (a.length ≤ c ∧ c ≤ maxLen)) (hcb : Hid (b.length ≤ d ∧ d ≤ maxLen)) (hA : Rd w A a) (hB : Rd w B b) :
    Calls Tryz.prog 153 #[.slice A a.length c, .slice B b.length d] w (Mk (.int .i64 (cmp (nv a) (nv b))) w) := by
  have HA := hide hA
  have HB := hide hB
  clear hA hB
  obtain ⟨z, hz⟩ : ∃ z, z = cmp (nv a) (nv b) := ⟨_, rfl⟩
  rw [← hz]
  have HZ := hide hz
  clear hz
  go_enter Tryz.func153, Tryz.ntmps153
  go_wp2_with fail
  refine (trim_any A a c w ha hca HA.out).mono ?_
  rintro e w1 ⟨x, X, cx, Ex, rfl, Cx, Ox, hb1⟩
  have HB1 := hide (HB.out.below hb1)
  have B1 := hide hb1
  clear hb1
  go_wp2_with fail
  refine (trim_any B b d w1 hb hcb HB1.out).mono ?_
  rintro e w2 ⟨y, Y, cy, Ey, rfl, Cy, Oy, hb2⟩
  have Rx := hide (Ox.out.kept hb2).rd
  have Ry := hide Oy.out.rd
  have B2 := hide (B1.out.trans (hb2.mono B1.out.size))
  have hx4 : x.length ≤ 4096 := Nat.le_trans Ex.out.2.1 ha
  have hy4 : y.length ≤ 4096 := Nat.le_trans Ey.out.2.1 hb
  clear hb2
  rcases Nat.lt_trichotomy x.length y.length with h | h | h
  · have hr := hide (trimmed_lt Ex.out Ey.out h)
    go_wp2
    go_ret
    exact ⟨ret_int (by rw [HZ.out, hr.out]), B2.out⟩
  · have HL := hide h
    rw [← h]
    clear h
    go_wp2
    go_loopw [5] (fun i wr => ∃ k : Nat, k ≤ x.length ∧ i = .int .i64 ((k : Int) - 1) ∧ Hid (∀ j, k ≤ j → bt x j = bt y j) ∧ ∃ n, wr = w2.drewN n) (fun i _ => (intOf i + 1).toNat)
    case atStart => exact ⟨x.length, Nat.le_refl _, rfl, hide fun j hj => by rw [bt_ge hj, bt_ge (by rw [← HL.out]; exact hj)], 0, rfl⟩
    case round =>
      obtain ⟨k, hk, rfl, hno, n, rfl⟩ := hrel
      rcases Nat.eq_zero_or_pos k with h0 | h0
      · subst h0
        have hr : Hid (cmp (nv a) (nv b) = 0) := hide (by
          rw [← Ex.out.1, ← Ey.out.1, show x = y from list_ext HL.out fun i hi => hno.out i (Nat.zero_le _)]
          unfold cmp; simp)
        go_wp2
        go_ret
        exact ⟨ret_int (by rw [HZ.out, hr.out]), below_drewN B2.out _⟩
      · obtain ⟨m, rfl⟩ : ∃ m, k = m + 1 := ⟨k - 1, by omega⟩
        rw [show (((m + 1 : Nat)) : Int) - 1 = m by omega]
        have hmx : m < x.length := by omega
        obtain ⟨ad, rfl, hlt1, hc1⟩ := Rx.out.at_ hmx
        obtain ⟨bd, rfl, hlt2, hc2⟩ := Ry.out.at_ (i := m) (by rw [← HL.out]; exact hmx)
        have hr := cmp_top (a := x) (b := y) hmx HL.out fun j hj => hno.out j (by omega)
        rw [Ex.out.1, Ey.out.1] at hr
        cases h1 : bt x m <;> cases h2 : bt y m
        all_goals
          rw [h1] at hc1
          rw [h2] at hc2
          rw [h1, h2] at hr
          have HR := hide hr
          have H1 := hide h1
          have H2 := hide h2
          clear hr h1 h2
          go_wp2
          go_quiet (fail)
          go_wp2
        · go_roundw
          case rel => exact ⟨m, by omega, rfl, hide fun j hj => by
            by_cases e : j = m
            · subst e; rw [H1.out, H2.out]
            · exact hno.out j (by omega), _, rfl⟩
          case measure => first | (simp [intOf]; done) | (simp [intOf]; omega)
        · go_ret
          exact ⟨ret_int (by rw [HZ.out, HR.out (by simp)]; rfl), below_drewN B2.out _⟩
        · go_ret
          exact ⟨ret_int (by rw [HZ.out, HR.out (by simp)]; rfl), below_drewN B2.out _⟩
        · go_roundw
          case rel => exact ⟨m, by omega, rfl, hide fun j hj => by
            by_cases e : j = m
            · subst e; rw [H1.out, H2.out]
            · exact hno.out j (by omega), _, rfl⟩
          case measure => first | (simp [intOf]; done) | (simp [intOf]; omega)
  · have hr := hide (trimmed_gt Ex.out Ey.out h)
    have hn : ¬ x.length < y.length := by omega
    have hn2 : ¬ x.length = y.length := by omega
    go_wp2
    go_ret
    exact ⟨ret_int (by rw [HZ.out, hr.out]), B2.out⟩
theorem size_any (A : Option Addr) (a : List Bool) (c : Nat) (w : World) (ha : a.length ≤ 4000) (hca : Hid (a.length ≤ c ∧ c ≤ maxLen)) (hA : Rd w A a) :
    Calls Tryz.prog 152 #[.slice A a.length c] w (RetP (fun l => nv l = mg a ∧ l.length ≤ a.length + 1) w) := by
  have HA := hide hA
  clear hA
  have hn := hide (rneg_any A a c w (by omega) HA.out)
  cases hx : ng a
  · rw [hx] at hn
    have e : mg a = nv a := by unfold mg sv; rw [hx]; simp
    have E := hide e
    clear e hx
    go_enter Tryz.func152, Tryz.ntmps152
    go_wp2_with fail
    refine (hn.out).mono ?_
    rintro e w' ⟨rfl, rfl⟩
    go_wp2_with fail
    refine (trim_any A a c w (by omega) hca HA.out).mono ?_
    rintro e w1 ⟨x, X, cx, Ex, rfl, Cx, Ox, hb1⟩
    go_wp2
    go_ret
    exact ⟨x, X, cx, hide ⟨by rw [Ex.out.1, E.out], by have := Ex.out.2.1; omega⟩, rfl, Cx, Ox, hb1⟩
  · rw [hx] at hn
    have e : mg a = 2 ^ a.length - nv a ∧ nv a ≤ 2 ^ a.length := by
      have k := nv_lt a
      have p := two_cast a.length
      have q : sv a = (nv a : Int) - 2 ^ a.length := by unfold sv; rw [hx]; simp
      unfold mg; omega
    have E := hide e
    clear e hx
    go_enter Tryz.func152, Tryz.ntmps152
    go_wp2_with fail
    refine (hn.out).mono ?_
    rintro e w' ⟨rfl, rfl⟩
    go_wp2_with fail
    refine (power_any a.length w (by omega)).mono ?_
    rintro e w1 ⟨x, X, cx, Ex, rfl, Cx, Ox, hb1⟩
    have HA1 := hide (HA.out.below hb1)
    have B1 := hide hb1
    have hx4 : x.length ≤ 4096 := by have := Ex.out.2; omega
    clear hb1
    go_wp2_with fail
    refine (minus_any X A x a cx c w1 hx4 (by omega) Ox.out.rd HA1.out (by rw [Ex.out.1]; exact E.out.2)).mono ?_
    rintro e w2 ⟨y, Y, cy, Ey, rfl, Cy, Oy, hb2⟩
    have B2 := hide (B1.out.trans (hb2.mono B1.out.size))
    have OY := hide (Oy.out.base B1.out.size)
    clear hb2
    go_wp2
    go_ret
    exact ⟨y, Y, cy, hide ⟨by rw [Ey.out.1, Ex.out.1, E.out.1], by rw [Ey.out.2, Ex.out.2]; omega⟩, rfl, Cy, OY, B2.out⟩
theorem mg_cmp_pp {a b : List Bool} (h : ng a = false) (k : ng b = false) : cmp (mg a) (mg b) = cmp (sv a) (sv b) := by
  rw [sv_mg a, sv_mg b, h, k]; simp
theorem mg_cmp_nn {a b : List Bool} (h : ng a = true) (k : ng b = true) : cmp (mg b) (mg a) = cmp (sv a) (sv b) := by
  rw [sv_mg a, sv_mg b, h, k]; unfold cmp; simp
set_option maxHeartbeats 1000000 in
theorem rscmp_any (A B : Option Addr) (a b : List Bool) (c d : Nat) (w : World) (ha : a.length ≤ 4000) (hb : b.length ≤ 4000) (hca : Hid (a.length ≤ c ∧ c ≤ maxLen)) (hcb : Hid (b.length ≤ d ∧ d ≤ maxLen)) (hA : Rd w A a) (hB : Rd w B b) :
    Calls Tryz.prog 163 #[.slice A a.length c, .slice B b.length d] w (Mk (.int .i64 (cmp (sv a) (sv b))) w) := by
  have HA := hide hA
  have HB := hide hB
  clear hA hB
  have hna := hide (rneg_any A a c w (by omega) HA.out)
  have hnb := hide (rneg_any B b d w (by omega) HB.out)
  cases hx : ng a <;> cases hy : ng b
  all_goals
    rw [hx] at hna
    rw [hy] at hnb
  · rw [← mg_cmp_pp hx hy]
    clear hx hy
    go_enter Tryz.func163, Tryz.ntmps163
    go_wp2_with fail
    refine (hna.out).mono ?_
    rintro e w' ⟨rfl, rfl⟩
    go_wp2_with fail
    refine (hnb.out).mono ?_
    rintro e w' ⟨rfl, rfl⟩
    go_wp2_with fail
    refine (hna.out).mono ?_
    rintro e w' ⟨rfl, rfl⟩
    go_wp2_with fail
    refine (size_any A a c w ha hca HA.out).mono ?_
    rintro e w1 ⟨x, X, cx, Ex, rfl, Cx, Ox, hb1⟩
    have HB1 := hide (HB.out.below hb1)
    have B1 := hide hb1
    clear hb1
    go_wp2_with fail
    refine (size_any B b d w1 hb hcb HB1.out).mono ?_
    rintro e w2 ⟨y, Y, cy, Ey, rfl, Cy, Oy, hb2⟩
    have Rx := hide (Ox.out.kept hb2).rd
    have B2 := hide (B1.out.trans (hb2.mono B1.out.size))
    clear hb2
    go_wp2_with fail
    refine (rcmp_any X Y x y cx cy w2 (by have := Ex.out.2; omega) (by have := Ey.out.2; omega) Cx Cy Rx.out Oy.out.rd).mono ?_
    rintro e w3 ⟨rfl, hb3⟩
    have B3 := hide (B2.out.trans (hb3.mono B2.out.size))
    clear hb3
    go_wp2
    go_ret
    exact ⟨ret_int (by rw [Ex.out.1, Ey.out.1]), B3.out⟩
  · rw [scmp_gt hx hy]
    clear hx hy
    go_enter Tryz.func163, Tryz.ntmps163
    go_wp2_with fail
    refine (hna.out).mono ?_
    rintro e w' ⟨rfl, rfl⟩
    go_wp2_with fail
    refine (hnb.out).mono ?_
    rintro e w' ⟨rfl, rfl⟩
    go_wp2_with fail
    refine (hna.out).mono ?_
    rintro e w' ⟨rfl, rfl⟩
    go_wp2
    go_ret
    exact ⟨rfl, Below.refl _ _⟩
  · rw [scmp_lt hx hy]
    clear hx hy
    go_enter Tryz.func163, Tryz.ntmps163
    go_wp2_with fail
    refine (hna.out).mono ?_
    rintro e w' ⟨rfl, rfl⟩
    go_wp2_with fail
    refine (hnb.out).mono ?_
    rintro e w' ⟨rfl, rfl⟩
    go_wp2_with fail
    refine (hna.out).mono ?_
    rintro e w' ⟨rfl, rfl⟩
    go_wp2
    go_ret
    exact ⟨rfl, Below.refl _ _⟩
  · rw [← mg_cmp_nn hx hy]
    clear hx hy
    go_enter Tryz.func163, Tryz.ntmps163
    go_wp2_with fail
    refine (hna.out).mono ?_
    rintro e w' ⟨rfl, rfl⟩
    go_wp2_with fail
    refine (hnb.out).mono ?_
    rintro e w' ⟨rfl, rfl⟩
    go_wp2_with fail
    refine (hna.out).mono ?_
    rintro e w' ⟨rfl, rfl⟩
    go_wp2_with fail
    refine (size_any B b d w hb hcb HB.out).mono ?_
    rintro e w1 ⟨y, Y, cy, Ey, rfl, Cy, Oy, hb1⟩
    have HA1 := hide (HA.out.below hb1)
    have B1 := hide hb1
    clear hb1
    go_wp2_with fail
    refine (size_any A a c w1 ha hca HA1.out).mono ?_
    rintro e w2 ⟨x, X, cx, Ex, rfl, Cx, Ox, hb2⟩
    have Ry := hide (Oy.out.kept hb2).rd
    have B2 := hide (B1.out.trans (hb2.mono B1.out.size))
    clear hb2
    go_wp2_with fail
    refine (rcmp_any Y X y x cy cx w2 (by have := Ey.out.2; omega) (by have := Ex.out.2; omega) Cy Cx Ry.out Ox.out.rd).mono ?_
    rintro e w3 ⟨rfl, hb3⟩
    have B3 := hide (B2.out.trans (hb3.mono B2.out.size))
    clear hb3
    go_wp2
    go_ret
    exact ⟨ret_int (by rw [Ex.out.1, Ey.out.1]), B3.out⟩
end
section
open Go.RowKit
set_option maxRecDepth 100000
set_option linter.unusedSimpArgs false
set_option linter.unusedVariables false
theorem radd_any (A B : Option Addr) (a b : List Bool) (c d : Nat) (w : World) (ha : a.length ≤ 4000) (hb : b.length ≤ 4000) (hA : Rd w A a) (hB : Rd w B b) :
    Calls Tryz.prog 157 #[.slice A a.length c, .slice B b.length d] w (RetP (fun l => l = vz a.length ((nv a : Int) + nv b)) w) := by
  go_enter Tryz.func157, Tryz.ntmps157
  go_wp2_with fail
  refine (sum_any A B a b c d w (by omega) (by omega) hA hB).mono ?_
  rintro e w1 ⟨x, X, cx, Ex, rfl, Cx, Ox, hb1⟩
  have B1 := hide hb1
  clear hb1
  go_wp2_with fail
  refine (fit_any X x cx a.length w1 (by have := Ex.out.2; omega) (by omega) Ox.out.rd).mono ?_
  rintro e w2 ⟨y, Y, cy, Ey, rfl, Cy, Oy, hb2⟩
  have B2 := hide (B1.out.trans (hb2.mono B1.out.size))
  have OY := hide (Oy.out.base B1.out.size)
  clear hb2
  go_wp2
  go_ret
  exact ⟨y, Y, cy, hide (by show y = _; rw [Ey.out, Ex.out.1]; simp), rfl, Cy, OY, B2.out⟩
theorem rneg2_any (A : Option Addr) (a : List Bool) (c : Nat) (w : World) (ha : a.length ≤ 4000) (hA : Rd w A a) :
    Calls Tryz.prog 188 #[.slice A a.length c] w (RetP (fun l => l = vz a.length (-(nv a : Int))) w) := by
  have HA := hide hA
  clear hA
  go_enter Tryz.func188, Tryz.ntmps188
  go_wp2_with fail
  refine (power_any a.length w (by omega)).mono ?_
  rintro e w1 ⟨x, X, cx, Ex, rfl, Cx, Ox, hb1⟩
  have HA1 := hide (HA.out.below hb1)
  have B1 := hide hb1
  have hx4 : x.length ≤ 4096 := by have := Ex.out.2; omega
  clear hb1
  go_wp2_with fail
  refine (minus_any X A x a cx c w1 hx4 (by omega) Ox.out.rd HA1.out (by rw [Ex.out.1]; exact Nat.le_of_lt (nv_lt a))).mono ?_
  rintro e w2 ⟨y, Y, cy, Ey, rfl, Cy, Oy, hb2⟩
  have B2 := hide (B1.out.trans (hb2.mono B1.out.size))
  clear hb2
  go_wp2_with fail
  refine (fit_any Y y cy a.length w2 (by have := Ey.out.2; omega) (by omega) Oy.out.rd).mono ?_
  rintro e w3 ⟨z, Z, cz, Ez, rfl, Cz, Oz, hb3⟩
  have B3 := hide (B2.out.trans (hb3.mono B2.out.size))
  have OZ := hide (Oz.out.base B2.out.size)
  clear hb3
  go_wp2
  go_ret
  refine ⟨z, Z, cz, hide ?_, rfl, Cz, OZ, B3.out⟩
  show z = _
  rw [Ez.out, Ey.out.1, Ex.out.1]
  apply vz_eq
  have h := nv_lt a
  have e : ((2 ^ a.length - nv a : Nat) : Int) = -(nv a : Int) + 2 ^ a.length * 1 := by
    have := two_cast a.length; omega
  rw [e, Int.add_mul_emod_self_left]
theorem rsub_any (A B : Option Addr) (a b : List Bool) (c d : Nat) (w : World) (ha : a.length ≤ 4000) (hb : b.length ≤ 4000) (hA : Rd w A a) (hB : Rd w B b) :
    Calls Tryz.prog 158 #[.slice A a.length c, .slice B b.length d] w (RetP (fun l => l = vz a.length ((nv a : Int) - nv b)) w) := by
  have HA := hide hA
  clear hA
  go_enter Tryz.func158, Tryz.ntmps158
  go_wp2_with fail
  refine (fit_any B b d a.length w (by omega) (by omega) hB).mono ?_
  rintro e w1 ⟨x, X, cx, Ex, rfl, Cx, Ox, hb1⟩
  have B1 := hide hb1
  have HA1 := hide (HA.out.below hb1)
  have hx4 : x.length ≤ 4000 := by rw [Ex.out, vz_length]; exact ha
  clear hb1
  go_wp2_with fail
  refine (rneg2_any X x cx w1 hx4 Ox.out.rd).mono ?_
  rintro e w2 ⟨y, Y, cy, Ey, rfl, Cy, Oy, hb2⟩
  have B2 := hide (B1.out.trans (hb2.mono B1.out.size))
  have HA2 := hide (HA1.out.below hb2)
  have hy4 : y.length ≤ 4000 := by rw [Ey.out, vz_length]; exact hx4
  clear hb2
  go_wp2_with fail
  refine (radd_any A Y a y c cy w2 ha hy4 HA2.out Oy.out.rd).mono ?_
  rintro e w3 ⟨z, Z, cz, Ez, rfl, Cz, Oz, hb3⟩
  have B3 := hide (B2.out.trans (hb3.mono B2.out.size))
  have OZ := hide (Oz.out.base B2.out.size)
  clear hb3
  go_wp2
  go_ret
  refine ⟨z, Z, cz, hide ?_, rfl, Cz, OZ, B3.out⟩
  show z = _
  rw [Ez.out, Ey.out, Ex.out, vz_length, vz_neg, vz_addr, Int.sub_eq_add_neg]
structure TimR (w : World) (a b : List Bool) (k : Nat) (A : Option Addr) (l : List Bool) (wr : World) : Prop where
  val : nv l = nv a * nf (bt b) k
  len : l.length ≤ a.length + 2 * k
  own : Own w.heap.size wr A l
  bel : Below w.heap.size w wr
set_option maxHeartbeats 1000000 in
theorem times_any (A B : Option Addr) (a b : List Bool) (c d : Nat) (w : World) (ha : a.length ≤ 1000) (hb : b.length ≤ 1000) (hA : Rd w A a) (hB : Rd w B b) :
    Calls Tryz.prog 189 #[.slice A a.length c, .slice B b.length d] w (RetP (fun l => nv l = nv a * nv b ∧ l.length ≤ a.length + 2 * b.length) w) := by
  have HA := hide hA
  have HB := hide hB
  clear hA hB
  go_enter Tryz.func189, Tryz.ntmps189
  go_wp2
  go_loopw [5, 6] (fun v i wr => ∃ (k : Nat) (X : Option Addr) (x : List Bool) (cx : Nat), k ≤ b.length ∧ i = .int .i64 k ∧ v = .slice X x.length cx ∧ Hid (x.length ≤ cx ∧ cx ≤ maxLen) ∧ TimR w a b k X x wr) (fun _ i _ => b.length - (intOf i).toNat)
  case atStart => exact ⟨0, none, [], 0, Nat.zero_le _, rfl, rfl, hide ⟨Nat.le_refl _, by simp [maxLen]⟩, ⟨by simp [nv, nf], by simp, fun h => absurd h (by simp), Below.refl _ _⟩⟩
  case round =>
    obtain ⟨k, X, x, cx, hk, rfl, rfl, hcx, hR⟩ := hrel
    have hRH := hide hR
    clear hR
    have hx4 : x.length ≤ 4000 := by have := hRH.out.len; omega
    by_cases hlt : k < b.length
    · have hRdB := HB.out.below hRH.out.bel
      obtain ⟨ad, rfl, hlt1, hc⟩ := hRdB.at_ hlt
      clear hRdB
      have hst := hide (nf_succ (bt b) k)
      cases hx : bt b k
      · rw [hx] at hc
        have hx' := hide hx
        clear hx
        go_wp2
        go_roundw
        case rel => exact ⟨k + 1, X, x, cx, by omega, by go_num, rfl, hcx, ⟨by rw [hRH.out.val, hst.out, hx'.out]; simp, by have := hRH.out.len; omega, hRH.out.own, hRH.out.bel⟩⟩
        case measure => simp [intOf]; omega
      · rw [hx] at hc
        have hx' := hide hx
        clear hx
        go_wp2_with (first
          | (at_make; refine wpList_make_ow _ rfl _ _ rfl _ _ k rfl rfl rfl rfl (by omega) ?_; intro w1 hr1 hb1 hz1; have HR := hide hr1; clear hr1; have HA1 := hide ((HA.out.below hRH.out.bel).below hb1); have HB1 := hide hb1; clear hb1)
          | (at_builtin; refine wpList_append_bv _ rfl _ _ rfl wr.heap.size _ k (List.replicate k false) rfl HR.out A _ c a rfl rfl HA1.out (by simp; omega) (by have := HB1.out.size; omega) ?_; intro v' w2 hown hb2; obtain ⟨y, hy⟩ : ∃ y, y = List.replicate k false ++ a := ⟨_, rfl⟩; rw [← hy] at hown; obtain ⟨Y, cy, rfl, h1, h2, h3⟩ := own_open hown; have OY := hide h3; have HB2 := hide (HB1.out.trans hb2); have HY := hide hy; clear hown hb2 h1 h2 h3 hy))
        have hy4 : y.length ≤ 4000 := by rw [HY.out]; simp; omega
        have Rx := hide ((hRH.out.own.kept HB2.out).rd)
        refine (sum_any X Y x y cx cy w2 (by omega) (by omega) Rx.out OY.out.rd).mono ?_
        rintro e w3 ⟨z, Z, cz, Ez, rfl, Cz, Oz, hb3⟩
        have B2 := hide (hRH.out.bel.trans (HB2.out.mono hRH.out.bel.size))
        have B3 := hide (B2.out.trans (hb3.mono B2.out.size))
        have OZ := hide (Oz.out.base B2.out.size)
        clear hb3
        go_wp2
        go_roundw
        case rel =>
          refine ⟨k + 1, Z, z, cz, by omega, by go_num, rfl, Cz, ⟨?_, ?_, OZ.out, B3.out⟩⟩
          · rw [Ez.out.1, HY.out, hRH.out.val, hst.out, hx'.out, nv_append, nv_zeros, List.length_replicate]
            simp only [Bool.toNat_true, Nat.mul_one, Nat.zero_add, Nat.mul_add]
            rw [Nat.mul_comm (2 ^ k)]
          · have h1 := Ez.out.2
            have h2 := hRH.out.len
            rw [HY.out, List.length_append, List.length_replicate] at h1
            omega
        case measure => simp [intOf]; omega
    · have e : k = b.length := by omega
      subst e
      go_wp2
      go_ret
      exact ⟨x, X, cx, hide ⟨hRH.out.val, hRH.out.len⟩, rfl, hcx, hide hRH.out.own, hRH.out.bel⟩
theorem rmul_any (A B : Option Addr) (a b : List Bool) (c d : Nat) (w : World) (ha : a.length ≤ 1000) (hb : b.length ≤ 4000) (hA : Rd w A a) (hB : Rd w B b) :
    Calls Tryz.prog 159 #[.slice A a.length c, .slice B b.length d] w (RetP (fun l => l = vz a.length ((nv a : Int) * nv b)) w) := by
  have HA := hide hA
  clear hA
  go_enter Tryz.func159, Tryz.ntmps159
  go_wp2_with fail
  refine (fit_any B b d a.length w (by omega) (by omega) hB).mono ?_
  rintro e w1 ⟨x, X, cx, Ex, rfl, Cx, Ox, hb1⟩
  have B1 := hide hb1
  have HA1 := hide (HA.out.below hb1)
  have hx4 : x.length ≤ 1000 := by rw [Ex.out, vz_length]; exact ha
  clear hb1
  go_wp2_with fail
  refine (times_any A X a x c cx w1 ha hx4 HA1.out Ox.out.rd).mono ?_
  rintro e w2 ⟨y, Y, cy, Ey, rfl, Cy, Oy, hb2⟩
  have B2 := hide (B1.out.trans (hb2.mono B1.out.size))
  have hy4 : y.length ≤ 4096 := by have := Ey.out.2; omega
  clear hb2
  go_wp2_with fail
  refine (fit_any Y y cy a.length w2 hy4 (by omega) Oy.out.rd).mono ?_
  rintro e w3 ⟨z, Z, cz, Ez, rfl, Cz, Oz, hb3⟩
  have B3 := hide (B2.out.trans (hb3.mono B2.out.size))
  have OZ := hide (Oz.out.base B2.out.size)
  clear hb3
  go_wp2
  go_ret
  refine ⟨z, Z, cz, hide ?_, rfl, Cz, OZ, B3.out⟩
  show z = _
  rw [Ez.out, Ey.out.1, Ex.out]
  have e : ((nv a * nv (vz a.length (nv b)) : Nat) : Int) = (nv a : Int) * (nv (vz a.length (nv b)) : Int) := by simp
  rw [e, vz_mulr]
end
section
open Go.RowKit
set_option maxRecDepth 100000
set_option linter.unusedSimpArgs false
set_option linter.unusedVariables false
theorem half_step (b : List Bool) (m : Nat) : nv b / 2 ^ m = 2 * (nv b / 2 ^ (m + 1)) + (bt b m).toNat := by
  have h := zb_nv b m
  unfold zb at h
  have p : ((nv b / 2 ^ m : Nat) : Int) = (nv b : Int) / 2 ^ m := by simp
  rw [← p] at h
  rw [Nat.pow_succ, ← Nat.div_div_eq_div_mul]
  generalize nv b / 2 ^ m = x at *
  cases hb : bt b m
  · rw [hb] at h
    have := of_decide_eq_false h
    simp; omega
  · rw [hb] at h
    have := of_decide_eq_true h
    simp; omega
theorem full_zero (b : List Bool) : nv b / 2 ^ b.length = 0 := Nat.div_eq_of_lt (nv_lt b)
structure RPowR (w : World) (n a e : Nat) (l : List Bool) (A : Option Addr) (wr : World) : Prop where
  len : l.length = n
  val : (nv l : Int) % 2 ^ n = (a : Int) ^ e % 2 ^ n
  own : Own w.heap.size wr A l
  bel : Below w.heap.size w wr
theorem rpow_sq {n a e : Nat} {x : Int} (h : x % 2 ^ n = (a : Int) ^ e % 2 ^ n) : (x * x) % 2 ^ n = (a : Int) ^ (2 * e) % 2 ^ n := by
  rw [Int.mul_emod, h, ← Int.mul_emod, ← Int.pow_add, Nat.two_mul]
theorem rpow_mul {n a e : Nat} {x : Int} (h : x % 2 ^ n = (a : Int) ^ e % 2 ^ n) : (x * a) % 2 ^ n = (a : Int) ^ (e + 1) % 2 ^ n := by
  rw [Int.mul_emod, h, ← Int.mul_emod, Int.pow_succ]
set_option maxHeartbeats 1000000 in
theorem rpow_any (A B : Option Addr) (a b : List Bool) (c d : Nat) (w : World) (ha : a.length ≤ 1000) (hb : b.length ≤ 1000) (hA : Rd w A a) (hB : Rd w B b) :
    Calls Tryz.prog 151 #[.slice A a.length c, .slice B b.length d] w (RetP (fun l => l = vz a.length ((nv a : Int) ^ nv b)) w) := by
  have HA := hide hA
  have HB := hide hB
  clear hA hB
  go_enter Tryz.func151, Tryz.ntmps151
  go_wp2_with fail
  refine (fit_any _ [true] 1 a.length _ (by simp) (by omega) (one_rd w true)).mono ?_
  rintro e w1 ⟨x, X, cx, Ex, rfl, Cx, Ox, hb1⟩
  have B1 := hide (((Below.refl w.heap.size w).alloc (Nat.le_refl _) (.cells #[.bool true] 4)).trans (hb1.mono (by simp)))
  have OX := hide (Ox.out.base (show w.heap.size ≤ _ by simp))
  clear hb1 Ox
  go_wp2
  go_loopw [5, 6] (fun v i wr => ∃ (k : Nat) (P : Option Addr) (p : List Bool) (cp : Nat), k ≤ b.length ∧ i = .int .i64 ((k : Int) - 1) ∧ v = .slice P p.length cp ∧ Hid (p.length ≤ cp ∧ cp ≤ maxLen) ∧ RPowR w a.length (nv a) (nv b / 2 ^ k) p P wr) (fun _ i _ => (intOf i + 1).toNat)
  case atStart =>
    refine ⟨b.length, X, x, cx, Nat.le_refl _, rfl, rfl, Cx, ⟨by rw [Ex.out, vz_length], ?_, OX.out, B1.out⟩⟩
    rw [Ex.out, nv_vz_mod, full_zero, Int.pow_zero]; rfl
  case round =>
    obtain ⟨k, P, p, cp, hk, rfl, rfl, hcp, hR⟩ := hrel
    have hRH := hide hR
    clear hR
    have hp : p.length ≤ 1000 := by have := hRH.out.len; omega
    rcases Nat.eq_zero_or_pos k with h0 | h0
    · subst h0
      go_wp2
      go_ret
      have e : p = vz a.length ((nv a : Int) ^ nv b) := eq_vz hRH.out.len (by have := hRH.out.val; rw [Nat.pow_zero, Nat.div_one] at this; exact this)
      exact ⟨p, P, cp, hide e, rfl, hcp, hide hRH.out.own, hRH.out.bel⟩
    · obtain ⟨m, rfl⟩ : ∃ m, k = m + 1 := ⟨k - 1, by omega⟩
      rw [show (((m + 1 : Nat)) : Int) - 1 = m by omega]
      have hmb : m < b.length := by omega
      have hst := hide (half_step b m)
      have HBr := hide (HB.out.below hRH.out.bel)
      go_wp2_with fail
      refine (rmul_any P P p p cp cp wr hp (by omega) hRH.out.own.rd hRH.out.own.rd).mono ?_
      rintro e w2 ⟨y, Y, cy, Ey, rfl, Cy, Oy, hb2⟩
      have B2 := hide (hRH.out.bel.trans (hb2.mono hRH.out.bel.size))
      have hy : y.length ≤ 1000 := by rw [Ey.out, vz_length]; exact hp
      have HB2 := HBr.out.below hb2
      have HA2 := hide (HA.out.below B2.out)
      obtain ⟨ad, rfl, hlt1, hc⟩ := HB2.at_ hmb
      have OY := hide (Oy.out.base hRH.out.bel.size)
      clear hb2 HB2 Oy
      cases hx : bt b m
      · rw [hx] at hc
        have hx' := hide hx
        clear hx
        go_wp2
        go_roundw
        case rel => exact ⟨m, Y, y, cy, by omega, rfl, rfl, Cy, ⟨by rw [Ey.out, vz_length]; exact hRH.out.len, by rw [hst.out, hx'.out, Ey.out, hRH.out.len, nv_vz_mod]; exact rpow_sq hRH.out.val, OY.out, B2.out⟩⟩
        case measure => first | (simp [intOf]; done) | (simp [intOf]; omega)
      · rw [hx] at hc
        have hx' := hide hx
        clear hx
        go_wp2_with fail
        refine (rmul_any Y A y a cy c w2 hy (by omega) OY.out.rd HA2.out).mono ?_
        rintro e w3 ⟨z, Z, cz, Ez, rfl, Cz, Oz, hb3⟩
        have B3 := hide (B2.out.trans (hb3.mono B2.out.size))
        have OZ := hide (Oz.out.base B2.out.size)
        clear hb3 Oz
        go_wp2
        go_roundw
        case rel => exact ⟨m, Z, z, cz, by omega, rfl, rfl, Cz, ⟨by rw [Ez.out, vz_length, Ey.out, vz_length]; exact hRH.out.len, by
          rw [hst.out, hx'.out, Ez.out, Ey.out, vz_length, hRH.out.len, nv_vz_mod]
          exact rpow_mul (by rw [nv_vz_mod]; exact rpow_sq hRH.out.val), OZ.out, B3.out⟩⟩
        case measure => first | (simp [intOf]; done) | (simp [intOf]; omega)
theorem less_any (A B : Option Addr) (a b : List Bool) (c d : Nat) (w : World) (ha : a.length ≤ 4096) (hb : b.length ≤ 4096) (hca : Hid (a.length ≤ c ∧ c ≤ maxLen)) (hcb : Hid (b.length ≤ d ∧ d ≤ maxLen)) (hA : Rd w A a) (hB : Rd w B b) :
    Calls Tryz.prog 202 #[.slice A a.length c, .slice B b.length d] w (Mk (.bool (decide (nv a < nv b))) w) := by
  obtain ⟨z, hz⟩ : ∃ z, z = cmp (nv a) (nv b) := ⟨_, rfl⟩
  have hc := rcmp_any A B a b c d w ha hb hca hcb hA hB
  rw [← hz] at hc
  have e : decide (nv a < nv b) = decide (z < 0) := by
    rw [decide_eq_decide, hz, cmp_lt]; omega
  rw [e]
  have HC := hide hc
  clear hz hc e
  go_enter Tryz.func202, Tryz.ntmps202
  go_wp2_with fail
  refine (HC.out).mono ?_
  rintro e w1 ⟨rfl, hb1⟩
  go_wp2
  go_ret
  exact ⟨rfl, hb1⟩
theorem own_lit (w : World) (B : Nat) (x : Bool) (hB : B ≤ w.heap.size) : (w.alloc (.cells #[.bool x] 4)).ownsRow B 4 1 (.slice (some ⟨w.heap.size, 0, none⟩) 1 1) 1 ([x].map Value.bool) := by
  have h := World.ownsRow_lit (base := B) (e := 4) (size := 1) w #[.bool x] 1 hB (by simp [maxLen]) rfl
  exact h
structure RDivR (w : World) (a : List Bool) (D g k : Nat) (r : List Bool) (H : Option Addr) (wr : World) : Prop where
  len : r.length + k ≤ a.length
  rem : nv r = nv a / 2 ^ k % D
  row : RowF wr g a.length (zb (((nv a / 2 ^ k / D : Nat) : Int) * 2 ^ k))
  own : Own w.heap.size wr H r
  bel : Below w.heap.size w wr
theorem nv_cons (x : Bool) (r : List Bool) : nv ([x] ++ r) = 2 * nv r + x.toNat := by
  rw [nv_append]; simp [nv, nf, bt]; omega
def RetQ (P Q : List Bool → Prop) (w : World) (e : Ending) (w' : World) : Prop :=
  ∃ q A c r B d, Hid (P q) ∧ Hid (Q r) ∧ e = .returned (.tuple #[.slice A q.length c, .slice B r.length d]) ∧ Hid (Own w.heap.size w' A q) ∧ Hid (Own w.heap.size w' B r) ∧ Below w.heap.size w w'
set_option maxHeartbeats 2000000 in
theorem divide_any (A B : Option Addr) (a b : List Bool) (c d : Nat) (w : World) (ha : a.length ≤ 4000) (hb : b.length ≤ 4000) (hcb : Hid (b.length ≤ d ∧ d ≤ maxLen)) (hA : Rd w A a) (hB : Rd w B b) (h0 : 0 < nv b) :
    Calls Tryz.prog 190 #[.slice A a.length c, .slice B b.length d] w (RetQ (fun q => nv q = nv a / nv b ∧ q.length = a.length) (fun r => nv r = nv a % nv b ∧ r.length ≤ a.length) w) := by
  have HA := hide hA
  have HB := hide hB
  have H0 := hide h0
  clear hA hB h0
  go_enter Tryz.func190, Tryz.ntmps190
  go_wp2_with (at_make; refine wpList_make_bv _ rfl _ _ rfl _ _ a.length rfl rfl rfl rfl (by omega) ?_; intro w1 hr1 hb1 hz1; have HR := hide hr1; have B1 := hide hb1; clear hr1 hb1 hz1)
  go_loopw [7, 8] (fun v i wr => ∃ (k : Nat) (H : Option Addr) (r : List Bool) (ch : Nat), k ≤ a.length ∧ i = .int .i64 ((k : Int) - 1) ∧ v = .slice H r.length ch ∧ Hid (r.length ≤ ch ∧ ch ≤ maxLen) ∧ RDivR w a (nv b) w.heap.size k r H wr) (fun _ i _ => (intOf i + 1).toNat)
  case atStart =>
    refine ⟨a.length, none, [], 0, Nat.le_refl _, rfl, rfl, hide ⟨Nat.le_refl _, by simp [maxLen]⟩, ⟨by simp, ?_, ?_, fun h => absurd h (by simp), B1.out⟩⟩
    · rw [full_zero]; simp [nv, nf]
    · rw [full_zero]; simp; exact HR.out.congr fun i _ => (zb_zero i).symm
  case round =>
    obtain ⟨k, H, r, ch, hk, rfl, rfl, hch, hR⟩ := hrel
    have hRH := hide hR
    clear hR
    rcases Nat.eq_zero_or_pos k with h0 | h0
    · subst h0
      have hrow := hRH.out.row
      have hrem := hRH.out.rem
      rw [Nat.pow_zero, Nat.div_one] at hrem
      rw [Nat.pow_zero, Nat.div_one, Int.pow_zero, Int.mul_one] at hrow
      have HRow := hide hrow
      have HRem := hide hrem
      clear hrow hrem
      go_wp2
      go_ret2
      have hq : nv (vz a.length ((nv a / nv b : Nat) : Int)) = nv a / nv b := nv_vz_nat (Nat.lt_of_le_of_lt (Nat.div_le_self _ _) (nv_lt a))
      have hl := vz_length a.length ((nv a / nv b : Nat) : Int)
      refine ⟨vz a.length ((nv a / nv b : Nat) : Int), some ⟨w.heap.size, 0, none⟩, a.length, r, H, ch, hide ⟨hq, hl⟩, hide ⟨HRem.out, by have := hRH.out.len; omega⟩, ?_, ?_, hide hRH.out.own, hRH.out.bel⟩
      · rw [hl]; rfl
      · exact hide fun _ => ⟨_, rfl, Nat.le_refl _, by rw [hl]; exact HRow.out.congr fun i hi => (bt_bl_lt hi).symm⟩
    · obtain ⟨m, rfl⟩ : ∃ m, k = m + 1 := ⟨k - 1, by omega⟩
      rw [show (((m + 1 : Nat)) : Int) - 1 = m by omega]
      have hma : m < a.length := by omega
      have hr4 : r.length ≤ 4000 := by have := hRH.out.len; omega
      have hst := hide (half_step a m)
      obtain ⟨ad, rfl, hlt1, hc⟩ := (HA.out.below hRH.out.bel).at_ hma
      have hgw : w.heap.size < wr.heap.size := hRH.out.row.lt
      go_wp2_with (at_builtin; refine wpList_append_bv _ rfl _ _ rfl wr.heap.size _ 1 [bt a m] rfl (own_lit wr wr.heap.size _ (Nat.le_refl _)) H _ ch r rfl rfl (hRH.out.own.rd.below ((Below.refl _ _).alloc (Nat.le_refl _) _)) (by simp; omega) (by simp) ?_; intro v' w2 hown hb2; obtain ⟨y, hy⟩ : ∃ y, y = [bt a m] ++ r := ⟨_, rfl⟩; rw [← hy] at hown; obtain ⟨Y, cy, rfl, h1, h2, h3⟩ := own_open hown; have OY := hide h3; have HB2 := hide (((Below.refl _ _).alloc (Nat.le_refl _) _).trans hb2); have HY := hide hy; have CY := hide (And.intro h1 h2); clear hown hb2 h1 h2 h3 hy)
      have hy4 : y.length ≤ 4096 := by rw [HY.out]; simp; omega
      have hyl : Hid (y.length = r.length + 1) := hide (by rw [HY.out, List.length_append, List.length_singleton]; omega)
      have hyv : Hid (nv y = 2 * (nv a / 2 ^ (m + 1) % nv b) + (bt a m).toNat) := hide (by rw [HY.out, nv_cons, hRH.out.rem])
      have B2 := hide (hRH.out.bel.trans (HB2.out.mono hRH.out.bel.size))
      have HBr := hide (HB.out.below B2.out)
      have hrow2 := hide (hRH.out.row.kept HB2.out)
      refine (less_any Y B y b cy d w2 hy4 (by omega) CY hcb OY.out.rd HBr.out).mono ?_
      rintro e w3 ⟨rfl, hb3⟩
      have B3 := hide (B2.out.trans (hb3.mono B2.out.size))
      have hrow3 := hide (hrow2.out.kept hb3)
      have OY3 := hide (OY.out.kept hb3)
      have HB3 := hide (HBr.out.below hb3)
      have hD := hide H0.out
      have hs3 : w2.heap.size ≤ w3.heap.size := hb3.size
      clear hb3
      by_cases hge : nv y < nv b
      · have hd : decide (nv y < nv b) = true := by simpa using hge
        have HGE := hide hge
        clear hge
        go_wp2
        go_roundw
        case rel =>
          have dn := div_no (X := nv a / 2 ^ (m + 1)) (b := (bt a m).toNat) hD.out (by rw [← hyv.out]; exact HGE.out)
          refine ⟨m, Y, y, cy, by omega, rfl, rfl, CY, ⟨?_, ?_, ?_, OY3.out.base (by omega), B3.out⟩⟩
          · have := hRH.out.len; have := hyl.out; omega
          · rw [hyv.out, hst.out, dn.1]
          · rw [hst.out, dn.2]
            refine hrow3.out.congr fun j hj => ?_
            rw [Int.pow_succ]
            congr 1
            simp
            grind
        case measure => first | (simp [intOf]; done) | (simp [intOf]; omega)
      · have hd : decide (nv y < nv b) = false := by simpa using hge
        have HGE := hide hge
        clear hge
        go_wp2_with fail
        refine (minus_any Y B y b cy d w3 hy4 (by omega) OY3.out.rd HB3.out (by have := HGE.out; omega)).mono ?_
        rintro e w4 ⟨z, Z, cz, Ez, rfl, Cz, Oz, hb4⟩
        have B4 := hide (B3.out.trans (hb4.mono B3.out.size))
        have hrow4 := hrow3.out.kept hb4
        have hcq := hrow4.cell hma
        have hfq := hrow4.free m
        have HROW4 := hide hrow4
        have hs4 : w3.heap.size ≤ w4.heap.size := hb4.size
        have hs2 : wr.heap.size ≤ w2.heap.size := HB2.out.size
        clear hb4 hrow4
        go_wp2
        go_roundw
        case rel =>
          have dy := div_yes (X := nv a / 2 ^ (m + 1)) (b := (bt a m).toNat) hD.out (by rcases toNat_01 (bt a m) with h | h <;> omega) (by rw [← hyv.out]; have := HGE.out; omega)
          refine ⟨m, Z, z, cz, by omega, rfl, rfl, Cz, ⟨?_, ?_, ?_, ?_, B4.out.setCell (by simp) _⟩⟩
          · have := hRH.out.len; have := hyl.out; have := Ez.out.2; omega
          · rw [Ez.out.1, hyv.out, hst.out, dy.1]
          · rw [hst.out, dy.2]
            refine (HROW4.out.set_ m true).congr fun j hj => ?_
            have q := quo_bit ((nv a / 2 ^ (m + 1) / nv b : Nat) : Int) m j true
            have e : ((2 * (nv a / 2 ^ (m + 1) / nv b) + 1 : Nat) : Int) = 2 * ((nv a / 2 ^ (m + 1) / nv b : Nat) : Int) + (true.toNat : Nat) := by simp
            rw [e, q]
          · intro hn
            obtain ⟨g3, e, hB3, hr3⟩ := Oz.out hn
            exact ⟨g3, e, by omega, hr3.far (by simp; omega) _⟩
        case measure => first | (simp [intOf]; done) | (simp [intOf]; omega)
end
section
open Go.RowKit
set_option maxRecDepth 100000
set_option linter.unusedSimpArgs false
set_option linter.unusedVariables false
theorem trimmed_zero {b x : List Bool} (h : Trimmed b x) (h0 : nv b = 0) : x.length = 0 := by
  rcases Nat.eq_zero_or_pos x.length with h1 | h1
  · exact h1
  · have := nf_big (f := bt x) (n := x.length) (i := x.length - 1) (by omega) (h.2.2 h1)
    have e : nf (bt x) x.length = nv x := rfl
    have := h.1
    have : 0 < 2 ^ (x.length - 1) := Nat.pow_pos (by decide)
    omega
theorem trimmed_pos {b x : List Bool} (h : Trimmed b x) (h0 : 0 < nv b) : 0 < x.length := by
  rcases Nat.eq_zero_or_pos x.length with h1 | h1
  · have := nv_lt x; rw [h1] at this; have := h.1; omega
  · exact h1
def Zero3 (w : World) (e : Ending) (w' : World) : Prop := e = .returned (.tuple #[.slice none 0 0, .slice none 0 0, .int .i64 7]) ∧ Below w.heap.size w w'
theorem rdiv_zero (A B : Option Addr) (a b : List Bool) (c d : Nat) (w : World) (hb : b.length ≤ 4000) (hcb : Hid (b.length ≤ d ∧ d ≤ maxLen)) (hB : Rd w B b) (h0 : nv b = 0) :
    Calls Tryz.prog 160 #[.slice A a.length c, .slice B b.length d] w (Zero3 w) := by
  have H0 := hide h0
  clear h0
  go_enter Tryz.func160, Tryz.ntmps160
  go_wp2_with fail
  refine (trim_any B b d w (by omega) hcb hB).mono ?_
  rintro e w1 ⟨x, X, cx, Ex, rfl, Cx, Ox, hb1⟩
  have hx := trimmed_zero Ex.out H0.out
  go_wp2
  go_ret3
  exact ⟨rfl, hb1⟩
theorem rsdiv_zero (A B : Option Addr) (a b : List Bool) (c d : Nat) (w : World) (hb : b.length ≤ 4000) (hcb : Hid (b.length ≤ d ∧ d ≤ maxLen)) (hB : Rd w B b) (h0 : nv b = 0) :
    Calls Tryz.prog 161 #[.slice A a.length c, .slice B b.length d] w (Zero3 w) := by
  have H0 := hide h0
  clear h0
  go_enter Tryz.func161, Tryz.ntmps161
  go_wp2_with fail
  refine (trim_any B b d w (by omega) hcb hB).mono ?_
  rintro e w1 ⟨x, X, cx, Ex, rfl, Cx, Ox, hb1⟩
  have hx := trimmed_zero Ex.out H0.out
  go_wp2
  go_ret3
  exact ⟨rfl, hb1⟩
set_option maxHeartbeats 1000000 in
theorem rdiv_any (A B : Option Addr) (a b : List Bool) (c d : Nat) (w : World) (ha : a.length ≤ 4000) (hb : b.length ≤ 4000) (hcb : Hid (b.length ≤ d ∧ d ≤ maxLen)) (hA : Rd w A a) (hB : Rd w B b) (h0 : 0 < nv b) :
    Calls Tryz.prog 160 #[.slice A a.length c, .slice B b.length d] w (RetD (fun q => q = vz a.length ((nv a / nv b : Nat) : Int)) (fun r => r = vz a.length ((nv a % nv b : Nat) : Int)) w) := by
  have HA := hide hA
  have HB := hide hB
  have H0 := hide h0
  clear hA hB h0
  go_enter Tryz.func160, Tryz.ntmps160
  go_wp2_with fail
  refine (trim_any B b d w (by omega) hcb HB.out).mono ?_
  rintro e w1 ⟨x, X, cx, Ex, rfl, Cx, Ox, hb1⟩
  have hx := trimmed_pos Ex.out H0.out
  have B1 := hide hb1
  have HA1 := hide (HA.out.below hb1)
  have HB1 := hide (HB.out.below hb1)
  clear hb1
  go_wp2_with fail
  refine (divide_any A B a b c d w1 ha hb hcb HA1.out HB1.out H0.out).mono ?_
  rintro e w2 ⟨q, Q, cq, r, R, cr, Eq, Er, rfl, Oq, Or, hb2⟩
  have B2 := hide (B1.out.trans (hb2.mono B1.out.size))
  have hq4 : q.length ≤ 4096 := by have := Eq.out.2; omega
  have hr4 : r.length ≤ 4096 := by have := Er.out.2; omega
  clear hb2
  go_wp2_with fail
  refine (fit_any Q q cq a.length w2 hq4 (by omega) Oq.out.rd).mono ?_
  rintro e w3 ⟨y, Y, cy, Ey, rfl, Cy, Oy, hb3⟩
  have B3 := hide (B2.out.trans (hb3.mono B2.out.size))
  have Rr := hide (Or.out.kept hb3).rd
  clear hb3
  go_wp2_with fail
  refine (fit_any R r cr a.length w3 hr4 (by omega) Rr.out).mono ?_
  rintro e w4 ⟨z, Z, cz, Ez, rfl, Cz, Oz, hb4⟩
  have B4 := hide (B3.out.trans (hb4.mono B3.out.size))
  have OY := hide ((Oy.out.kept hb4).base B2.out.size)
  have OZ := hide (Oz.out.base B3.out.size)
  clear hb4
  go_wp2
  go_ret3
  exact ⟨y, Y, cy, z, Z, cz, hide (by show y = _; rw [Ey.out, Eq.out.1]), hide (by show z = _; rw [Ez.out, Er.out.1]), rfl, OY, OZ, B4.out⟩
set_option maxHeartbeats 2000000 in
theorem rsdiv_any (A B : Option Addr) (a b : List Bool) (c d : Nat) (w : World) (ha : a.length ≤ 3000) (hb : b.length ≤ 3000) (hca : Hid (a.length ≤ c ∧ c ≤ maxLen)) (hcb : Hid (b.length ≤ d ∧ d ≤ maxLen)) (hA : Rd w A a) (hB : Rd w B b) (h0 : 0 < nv b) :
    Calls Tryz.prog 161 #[.slice A a.length c, .slice B b.length d] w (RetD (fun q => q = vz a.length ((sv a).tdiv (sv b))) (fun r => r = vz a.length ((sv a).tmod (sv b))) w) := by
  have HA := hide hA
  have HB := hide hB
  have H0 := hide h0
  clear hA hB h0
  go_enter Tryz.func161, Tryz.ntmps161
  go_wp2_with fail
  refine (trim_any B b d w (by omega) hcb HB.out).mono ?_
  rintro e w1 ⟨x, X, cx, Ex, rfl, Cx, Ox, hb1⟩
  have hx := trimmed_pos Ex.out H0.out
  have B1 := hide hb1
  have HA1 := hide (HA.out.below hb1)
  have HB1 := hide (HB.out.below hb1)
  clear hb1
  go_wp2_with fail
  refine (size_any A a c w1 (by omega) hca HA1.out).mono ?_
  rintro e w2 ⟨s, S, cs, Es, rfl, Cs, Os, hb2⟩
  have B2 := hide (B1.out.trans (hb2.mono B1.out.size))
  have HB2 := hide (HB1.out.below hb2)
  clear hb2
  go_wp2_with fail
  refine (size_any B b d w2 (by omega) hcb HB2.out).mono ?_
  rintro e w3 ⟨t, T, ct, Et, rfl, Ct, Ot, hb3⟩
  have B3 := hide (B2.out.trans (hb3.mono B2.out.size))
  have Rs := hide (Os.out.kept hb3).rd
  clear hb3
  go_wp2_with fail
  refine (divide_any S T s t cs ct w3 (by have := Es.out.2; omega) (by have := Et.out.2; omega) Ct Rs.out Ot.out.rd (by rw [Et.out.1]; exact Nat.pos_of_ne_zero fun h => by have := (mg_zero b).1 h; have := H0.out; omega)).mono ?_
  rintro e w4 ⟨q, Q, cq, r, R, cr, Eq, Er, rfl, Oq, Or, hb4⟩
  have B4 := hide (B3.out.trans (hb4.mono B3.out.size))
  have hq4 : q.length ≤ 4096 := by have := Eq.out.2; have := Es.out.2; omega
  have hr4 : r.length ≤ 4096 := by have := Er.out.2; have := Es.out.2; omega
  clear hb4
  go_wp2_with fail
  refine (fit_any Q q cq a.length w4 hq4 (by omega) Oq.out.rd).mono ?_
  rintro e w5 ⟨y, Y, cy, Ey, rfl, Cy, Oy, hb5⟩
  have B5 := hide (B4.out.trans (hb5.mono B4.out.size))
  have Rr := hide (Or.out.kept hb5).rd
  clear hb5
  go_wp2_with fail
  refine (fit_any R r cr a.length w5 hr4 (by omega) Rr.out).mono ?_
  rintro e w6 ⟨z, Z, cz, Ez, rfl, Cz, Oz, hb6⟩
  have B6 := hide (B5.out.trans (hb6.mono B5.out.size))
  have OY := hide ((Oy.out.kept hb6).base B4.out.size)
  have OZ := hide (Oz.out.base B5.out.size)
  have LY : Hid (y.length = a.length) := hide (by rw [Ey.out, vz_length])
  have LZ : Hid (z.length = a.length) := hide (by rw [Ez.out, vz_length])
  have EY : Hid (y = vz a.length ((mg a / mg b : Nat) : Int)) := hide (by rw [Ey.out, Eq.out.1, Es.out.1, Et.out.1])
  have EZ : Hid (z = vz a.length ((mg a % mg b : Nat) : Int)) := hide (by rw [Ez.out, Er.out.1, Es.out.1, Et.out.1])
  have hy4 : y.length ≤ 4000 := by have := LY.out; omega
  have hz4 : z.length ≤ 4000 := by have := LZ.out; omega
  have HA6 := hide (HA.out.below B6.out)
  have HB6 := hide (HB.out.below B6.out)
  clear hb6
  have hna := hide (rneg_any A a c w6 (by omega) HA6.out)
  have hnb := hide (rneg_any B b d w6 (by omega) HB6.out)
  cases hx : ng a <;> cases hy : ng b
  · have hs := hide (sdiv_pp hx hy)
    rw [hx] at hna
    rw [hy] at hnb
    clear hx hy
    go_wp2_with fail
    refine (hna.out).mono ?_
    rintro e w' ⟨rfl, rfl⟩
    go_wp2_with fail
    refine (hnb.out).mono ?_
    rintro e w' ⟨rfl, rfl⟩
    go_wp2_with fail
    refine (hna.out).mono ?_
    rintro e w' ⟨rfl, rfl⟩
    go_wp2
    go_ret3
    exact ⟨y, Y, cy, z, Z, cz, hide (by show y = _; rw [EY.out, hs.out.1]), hide (by show z = _; rw [EZ.out, hs.out.2]), rfl, OY, OZ, B6.out⟩
  · have hs := hide (sdiv_pn hx hy)
    rw [hx] at hna
    rw [hy] at hnb
    have HX := hide hx
    clear hx hy
    go_wp2_with fail
    refine (hna.out).mono ?_
    rintro e w' ⟨rfl, rfl⟩
    go_wp2_with fail
    refine (hnb.out).mono ?_
    rintro e w' ⟨rfl, rfl⟩
    go_wp2_with fail
    refine (rneg2_any Y y cy w6 hy4 OY.out.rd).mono ?_
    rintro e w7 ⟨u, U, cu, Eu, rfl, Cu, Ou, hb7⟩
    have B7 := hide (B6.out.trans (hb7.mono B6.out.size))
    have OU := hide (Ou.out.base B6.out.size)
    have OZ7 := hide (OZ.out.kept hb7)
    have hna7 := rneg_any A a c w7 (by omega) (HA6.out.below hb7)
    rw [HX.out] at hna7
    have HN7 := hide hna7
    clear hb7 hna7
    go_wp2_with fail
    refine (HN7.out).mono ?_
    rintro e w' ⟨rfl, rfl⟩
    go_wp2
    go_ret3
    exact ⟨u, U, cu, z, Z, cz, hide (by show u = _; rw [Eu.out, EY.out, vz_length, vz_neg, hs.out.1]), hide (by show z = _; rw [EZ.out, hs.out.2]), rfl, OU, OZ7, B7.out⟩
  · have hs := hide (sdiv_np hx hy)
    rw [hx] at hna
    rw [hy] at hnb
    have HX := hide hx
    clear hx hy
    go_wp2_with fail
    refine (hna.out).mono ?_
    rintro e w' ⟨rfl, rfl⟩
    go_wp2_with fail
    refine (hnb.out).mono ?_
    rintro e w' ⟨rfl, rfl⟩
    go_wp2_with fail
    refine (rneg2_any Y y cy w6 hy4 OY.out.rd).mono ?_
    rintro e w7 ⟨u, U, cu, Eu, rfl, Cu, Ou, hb7⟩
    have B7 := hide (B6.out.trans (hb7.mono B6.out.size))
    have OU := hide (Ou.out.base B6.out.size)
    have OZ7 := hide (OZ.out.kept hb7)
    have hna7 := rneg_any A a c w7 (by omega) (HA6.out.below hb7)
    rw [HX.out] at hna7
    have HN7 := hide hna7
    clear hb7 hna7
    go_wp2_with fail
    refine (HN7.out).mono ?_
    rintro e w' ⟨rfl, rfl⟩
    go_wp2_with fail
    refine (rneg2_any Z z cz w7 hz4 OZ7.out.rd).mono ?_
    rintro e w8 ⟨v, V, cv, Ev, rfl, Cv, Ov, hb8⟩
    have B8 := hide (B7.out.trans (hb8.mono B7.out.size))
    have OV := hide (Ov.out.base B7.out.size)
    have OU8 := hide (OU.out.kept hb8)
    clear hb8
    go_wp2
    go_ret3
    exact ⟨u, U, cu, v, V, cv, hide (by show u = _; rw [Eu.out, EY.out, vz_length, vz_neg, hs.out.1]), hide (by show v = _; rw [Ev.out, EZ.out, vz_length, vz_neg, hs.out.2]), rfl, OU8, OV, B8.out⟩
  · have hs := hide (sdiv_nn hx hy)
    rw [hx] at hna
    rw [hy] at hnb
    clear hx hy
    go_wp2_with fail
    refine (hna.out).mono ?_
    rintro e w' ⟨rfl, rfl⟩
    go_wp2_with fail
    refine (hnb.out).mono ?_
    rintro e w' ⟨rfl, rfl⟩
    go_wp2_with fail
    refine (hna.out).mono ?_
    rintro e w' ⟨rfl, rfl⟩
    go_wp2_with fail
    refine (rneg2_any Z z cz w6 hz4 OZ.out.rd).mono ?_
    rintro e w8 ⟨v, V, cv, Ev, rfl, Cv, Ov, hb8⟩
    have B8 := hide (B6.out.trans (hb8.mono B6.out.size))
    have OV := hide (Ov.out.base B6.out.size)
    have OY8 := hide (OY.out.kept hb8)
    clear hb8
    go_wp2
    go_ret3
    exact ⟨y, Y, cy, v, V, cv, hide (by show y = _; rw [EY.out, hs.out.1]), hide (by show v = _; rw [Ev.out, EZ.out, vz_length, vz_neg, hs.out.2]), rfl, OY8, OV, B8.out⟩
end
section
def qt (l : List Int) (i : Nat) : Int := l.getD i 0
def ql (n : Nat) (f : Nat → Int) : List Int := (List.range n).map f
theorem ql_length (n : Nat) (f : Nat → Int) : (ql n f).length = n := by simp [ql]
theorem qt_ql_lt {n : Nat} {f : Nat → Int} {i : Nat} (h : i < n) : qt (ql n f) i = f i := by
  unfold qt ql
  rw [List.getD_eq_getElem?_getD, List.getElem?_map, List.getElem?_range h]
  rfl
theorem qt_ge {l : List Int} {i : Nat} (h : l.length ≤ i) : qt l i = 0 := by
  unfold qt; rw [List.getD_eq_getElem?_getD, List.getElem?_eq_none h]; rfl
theorem qt_get {l : List Int} {i : Nat} (h : i < l.length) : qt l i = l[i] := by
  unfold qt; rw [List.getD_eq_getElem?_getD, List.getElem?_eq_getElem h]; rfl
theorem qlist_ext {l m : List Int} (h : l.length = m.length) (k : ∀ i, i < l.length → qt l i = qt m i) : l = m := by
  apply List.ext_getElem h
  intro i h1 h2
  have := k i h1
  rw [qt_get h1, qt_get h2] at this
  exact this
theorem ql_qt (l : List Int) : ql l.length (qt l) = l :=
  qlist_ext (ql_length _ _) fun i hi => by rw [ql_length] at hi; rw [qt_ql_lt hi]
theorem ql_congr {n : Nat} {f g : Nat → Int} (h : ∀ i, i < n → f i = g i) : ql n f = ql n g :=
  qlist_ext (by rw [ql_length, ql_length]) fun i hi => by rw [ql_length] at hi; rw [qt_ql_lt hi, qt_ql_lt hi, h i hi]
theorem eq_ql {l : List Int} {n : Nat} {f : Nat → Int} (hl : l.length = n) (h : ∀ i, i < n → qt l i = f i) : l = ql n f :=
  qlist_ext (by rw [ql_length, hl]) fun i hi => by rw [qt_ql_lt (by omega)]; exact h i (by omega)
theorem ql_snoc (k : Nat) (f : Nat → Int) : ql (k + 1) f = ql k f ++ [f k] := by unfold ql; rw [List.range_succ, List.map_append]; rfl
structure Vc where
  b : List Int
  s : Bool
theorem Vc.ext' {x y : Vc} (h : x.b = y.b) (k : x.s = y.s) : x = y := by cases x; cases y; simp_all
def By (l : List Int) : Prop := ∀ i, 0 ≤ qt l i ∧ qt l i ≤ 255
structure Gd (l : List Int) : Prop where
  pos : 0 < l.length
  le : l.length ≤ 128
  bd : ∀ i, 0 ≤ qt l i ∧ qt l i ≤ 3
def okB (l : List Int) : Bool := l.all fun x => decide (x ≤ 3)
def chk (l : List Int) : Int := if l.length = 0 then 4 else if 128 < l.length then 5 else if okB l then 0 else 1
def cnt (v : Vc) : Vc := if chk v.b = 0 then v else ⟨[2], false⟩
theorem okB_iff (l : List Int) : okB l = true ↔ ∀ i, i < l.length → qt l i ≤ 3 := by
  unfold okB
  rw [List.all_eq_true]
  constructor
  · intro h i hi
    have := h (l[i]) (List.getElem_mem hi)
    rw [qt_get hi]; exact of_decide_eq_true this
  · intro h x hx
    obtain ⟨i, hi, e⟩ := List.getElem_of_mem hx
    have := h i hi
    rw [qt_get hi, e] at this
    exact decide_eq_true this
theorem chk_0 {l : List Int} : chk l = 0 ↔ 0 < l.length ∧ l.length ≤ 128 ∧ okB l = true := by
  unfold chk
  by_cases h1 : l.length = 0 <;> by_cases h2 : 128 < l.length <;> cases okB l <;> simp [h1, h2] <;> omega
theorem gd_x : Gd [2] := by
  refine ⟨by decide, by decide, fun i => ?_⟩
  rcases i with _ | i
  · decide
  · have e : qt [2] (i + 1) = 0 := qt_ge (by simp)
    omega
theorem Gd.by_ {l : List Int} (h : Gd l) : By l := fun i => by have := h.bd i; omega
theorem cnt_gd {v : Vc} (h : By v.b) : Gd (cnt v).b := by
  unfold cnt
  split
  · rename_i h0
    obtain ⟨h1, h2, h3⟩ := chk_0.1 h0
    refine ⟨h1, h2, fun i => ⟨(h i).1, ?_⟩⟩
    rcases Nat.lt_or_ge i v.b.length with hi | hi
    · exact (okB_iff _).1 h3 i hi
    · rw [qt_ge hi]; decide
  · exact gd_x
theorem gd_chk {l : List Int} (h : Gd l) : chk l = 0 := chk_0.2 ⟨h.pos, h.le, (okB_iff _).2 fun i _ => (h.bd i).2⟩
theorem cnt_of_gd {v : Vc} (h : Gd v.b) : cnt v = v := by unfold cnt; rw [if_pos (gd_chk h)]
theorem gd_ql {n : Nat} {f : Nat → Int} (h0 : 0 < n) (h1 : n ≤ 128) (h : ∀ i, i < n → 0 ≤ f i ∧ f i ≤ 3) : Gd (ql n f) := by
  refine ⟨by rw [ql_length]; exact h0, by rw [ql_length]; exact h1, fun i => ?_⟩
  rcases Nat.lt_or_ge i n with hi | hi
  · rw [qt_ql_lt hi]; exact h i hi
  · rw [qt_ge (by rw [ql_length]; exact hi)]; decide
def xt (v : Vc) : Int := if v.s then qt v.b (v.b.length - 1) else 0
def rsz (v : Vc) (n : Nat) : List Int := ql n fun i => if i < v.b.length then qt v.b i else xt v
theorem xt_bd {v : Vc} (h : Gd v.b) : 0 ≤ xt v ∧ xt v ≤ 3 := by unfold xt; split; exact h.bd _; decide
theorem gd_rsz {v : Vc} {n : Nat} (h : Gd v.b) (h0 : 0 < n) (h1 : n ≤ 128) : Gd (rsz v n) := gd_ql h0 h1 fun i _ => by
  split
  · exact h.bd _
  · exact xt_bd h
theorem rsz_length (v : Vc) (n : Nat) : (rsz v n).length = n := ql_length _ _
theorem rsz_self (v : Vc) : rsz v v.b.length = v.b := (eq_ql rfl fun i hi => by rw [if_pos hi]).symm
def sg (a b : Vc) : Bool := (cnt a).s && (cnt b).s
def wd (a b : Vc) : Nat := max (cnt a).b.length (cnt b).b.length
def blA (a b : Vc) : List Int := rsz ⟨(cnt a).b, sg a b⟩ (wd a b)
def blB (a b : Vc) : List Int := rsz ⟨(cnt b).b, sg a b⟩ (wd a b)
section
variable {a b : Vc} (ha : By a.b) (hb : By b.b)
include ha hb
theorem wd_bd : 0 < wd a b ∧ wd a b ≤ 128 := by
  have h1 := cnt_gd ha
  have h2 := cnt_gd hb
  have := h1.pos; have := h1.le; have := h2.le
  unfold wd; omega
theorem gd_blA : Gd (blA a b) := gd_rsz (cnt_gd ha) (wd_bd ha hb).1 (wd_bd ha hb).2
theorem gd_blB : Gd (blB a b) := gd_rsz (cnt_gd hb) (wd_bd ha hb).1 (wd_bd ha hb).2
end
theorem blA_length (a b : Vc) : (blA a b).length = wd a b := rsz_length _ _
theorem blB_length (a b : Vc) : (blB a b).length = wd a b := rsz_length _ _
def kn (l : List Int) : Bool := l.all mKnown
theorem kn_iff (l : List Int) : kn l = true ↔ ∀ i, i < l.length → mKnown (qt l i) = true := by
  unfold kn
  rw [List.all_eq_true]
  constructor
  · intro h i hi
    rw [qt_get hi]; exact h _ (List.getElem_mem hi)
  · intro h x hx
    obtain ⟨i, hi, e⟩ := List.getElem_of_mem hx
    have := h i hi
    rw [qt_get hi, e] at this
    exact this
def nb (l : List Int) : List Bool := bl l.length fun i => decide (qt l i = 1)
def fb (n : List Bool) : List Int := ql n.length fun i => mFrom (bt n i)
theorem nb_length (l : List Int) : (nb l).length = l.length := bl_length _ _
theorem fb_length (n : List Bool) : (fb n).length = n.length := ql_length _ _
theorem fb_nb {l : List Int} (h : kn l = true) (hb : ∀ i, 0 ≤ qt l i) : fb (nb l) = l := by
  refine qlist_ext (by rw [fb_length, nb_length]) fun i hi => ?_
  rw [fb_length, nb_length] at hi
  have h1 := (kn_iff l).1 h i hi
  have h2 := hb i
  unfold fb
  rw [qt_ql_lt (by rw [nb_length]; exact hi)]
  unfold nb
  rw [bt_bl_lt hi]
  unfold mKnown at h1
  have h3 := of_decide_eq_true h1
  rcases (show qt l i = 0 ∨ qt l i = 1 by omega) with e | e <;> rw [e] <;> rfl
theorem mFrom_bd (v : Bool) : 0 ≤ mFrom v ∧ mFrom v ≤ 3 := by cases v <;> decide
theorem gd_fb {n : List Bool} (h0 : 0 < n.length) (h1 : n.length ≤ 128) : Gd (fb n) := gd_ql h0 h1 fun i _ => mFrom_bd _
def xs (n : Nat) (s : Bool) : Vc := ⟨ql n fun _ => 2, s⟩
theorem gd_xs {n : Nat} {s : Bool} (h0 : 0 < n) (h1 : n ≤ 128) : Gd (xs n s).b := gd_ql h0 h1 fun i _ => by decide
def btw (f : Int → Int → Int) (a b : Vc) : Vc := ⟨ql (wd a b) fun i => f (qt (blA a b) i) (qt (blB a b) i), sg a b⟩
def rd (f : Int → Int → Int) (l : List Int) : Nat → Int
  | 0 => mBuf (qt l 0)
  | n + 1 => f (rd f l n) (qt l (n + 1))
def red (f : Int → Int → Int) (a : Vc) : Int := rd f (cnt a).b ((cnt a).b.length - 1)
def sgl (x : Int) : Vc := ⟨[x], false⟩
def tr (a : Vc) : Int := red mOr a
def vNot (a : Vc) : Vc := ⟨ql (cnt a).b.length fun i => mNot (qt (cnt a).b i), (cnt a).s⟩
def vCond (c a b : Vc) : Vc := if tr c = 1 then ⟨blA a b, sg a b⟩ else if tr c = 0 then ⟨blB a b, sg a b⟩ else btw (mMux 2) a b
def ar (f : List Bool → List Bool → Bool → Option (List Bool)) (a b : Vc) : Vc :=
  if kn (blA a b) && kn (blB a b) then (match f (nb (blA a b)) (nb (blB a b)) (sg a b) with | some l => ⟨fb l, sg a b⟩ | none => xs (wd a b) (sg a b)) else xs (wd a b) (sg a b)
def fAdd (m n : List Bool) (_ : Bool) : Option (List Bool) := some (vz m.length ((nv m : Int) + nv n))
def fSub (m n : List Bool) (_ : Bool) : Option (List Bool) := some (vz m.length ((nv m : Int) - nv n))
def fMul (m n : List Bool) (_ : Bool) : Option (List Bool) := some (vz m.length ((nv m : Int) * nv n))
def fDiv (m n : List Bool) (s : Bool) : Option (List Bool) := if nv n = 0 then none else some (vz m.length (if s then (sv m).tdiv (sv n) else ((nv m / nv n : Nat) : Int)))
def fMod (m n : List Bool) (s : Bool) : Option (List Bool) := if nv n = 0 then none else some (vz m.length (if s then (sv m).tmod (sv n) else ((nv m % nv n : Nat) : Int)))
def vAdd := ar fAdd
def vSub := ar fSub
def vMul := ar fMul
def vDiv := ar fDiv
def vMod := ar fMod
def zr (a : Vc) : Vc := ⟨ql (cnt a).b.length fun _ => 0, (cnt a).s⟩
def vNeg (a : Vc) : Vc := vSub (zr a) (cnt a)
def vl (l : List Int) (s : Bool) : Int := if s then sv (nb l) else nv (nb l)
def vPow (a b : Vc) : Vc :=
  let p := cnt a
  let q := cnt b
  if kn p.b && kn q.b then
    if q.s && decide (xt q = 1) then
      if vl p.b p.s = 0 then xs p.b.length p.s
      else if vl p.b p.s = 1 ∨ vl p.b p.s = -1 then ⟨fb (vz p.b.length ((nv (nb p.b) : Int) ^ nv (nb q.b))), p.s⟩
      else zr p
    else ⟨fb (vz p.b.length ((nv (nb p.b) : Int) ^ nv (nb q.b))), p.s⟩
  else xs p.b.length p.s
def cpr (a b : Vc) : Int := if sg a b then cmp (sv (nb (blA a b))) (sv (nb (blB a b))) else cmp (nv (nb (blA a b))) (nv (nb (blB a b)))
def vCmp (h : Int → Bool) (a b : Vc) : Vc := sgl (if kn (blA a b) && kn (blB a b) then mFrom (h (cpr a b)) else 2)
def mtc (f : Int → Int → Bool) (a b : Vc) : Bool := (List.range (wd a b)).all fun i => f (qt (blA a b) i) (qt (blB a b) i)
theorem mtc_iff (f : Int → Int → Bool) (a b : Vc) : mtc f a b = true ↔ ∀ i, i < wd a b → f (qt (blA a b) i) (qt (blB a b) i) = true := by
  unfold mtc; rw [List.all_eq_true]
  exact ⟨fun h i hi => h i (List.mem_range.2 hi), fun h i hi => h i (List.mem_range.1 hi)⟩
def vEq (a b : Vc) : Vc := sgl (red mAnd (btw mEq a b))
def vCase (a b : Vc) : Vc := sgl (mFrom (mtc mSame a b))
def alZ (p q : Int) : Bool := p == 3 || q == 3 || mSame p q
def alX (p q : Int) : Bool := !mKnown p || !mKnown q || mSame p q
def wdw (l : List Int) (lo : Int) (n : Nat) (f : Int) : List Int := ql n fun i => if 0 ≤ lo + i ∧ lo + i < l.length then qt l (lo + i).toNat else f
theorem gd_wdw {l : List Int} {lo : Int} {n : Nat} {f : Int} (h : Gd l) (h0 : 0 < n) (h1 : n ≤ 128) (hf : 0 ≤ f ∧ f ≤ 3) : Gd (wdw l lo n f) := gd_ql h0 h1 fun i _ => by
  split
  · exact h.bd _
  · exact hf
theorem rsz_wdw (v : Vc) (n : Nat) : wdw v.b 0 n (xt v) = rsz v n := ql_congr fun i hi => by
  by_cases h : i < v.b.length
  · rw [if_pos h, if_pos (by omega)]; congr 1; omega
  · rw [if_neg h, if_neg (by omega)]
def dst (a b : Vc) : Nat := min (nv (nb (cnt b).b)) (cnt a).b.length
def shf (m : Vc → Nat → List Int) (a b : Vc) : Vc := if kn (cnt b).b then ⟨m (cnt a) (dst a b), (cnt a).s⟩ else xs (cnt a).b.length (cnt a).s
def mShl (a : Vc) (n : Nat) : List Int := wdw a.b (-(n : Int)) a.b.length 0
def mShr (a : Vc) (n : Nat) : List Int := wdw a.b n a.b.length 0
def mAShr (a : Vc) (n : Nat) : List Int := wdw a.b n a.b.length (xt a)
end
section
open Go.RowKit
set_option maxRecDepth 100000
def Tab1 (g : Nat) (f : Int → Int) (w : World) : Prop := ∀ a : Int, 0 ≤ a → w.cell? ⟨g, (bst a).toNat, none⟩ = some (.int .u8 (f a))
def Tab2 (g : Nat) (f : Int → Int → Int) (w : World) : Prop := ∀ a b : Int, 0 ≤ a → 0 ≤ b → w.cell? ⟨g, (bst a).toNat * 4 + (bst b).toNat, none⟩ = some (.int .u8 (f a b))
theorem Tab1.draw {g : Nat} {f : Int → Int} {w : World} (h : Tab1 g f w) (n : Nat) : Tab1 g f (w.drewN n) := h
theorem Tab2.draw {g : Nat} {f : Int → Int → Int} {w : World} (h : Tab2 g f w) (n : Nat) : Tab2 g f (w.drewN n) := h
def Gives (v : Value) (w : World) (e : Ending) (w' : World) : Prop := e = .returned v ∧ ∃ n, w' = w.drewN n
set_option maxHeartbeats 400000 in
theorem state_q (a : Int) (w : World) :
    Calls Tryz.prog 165 #[.int .u8 a] w fun e w' => e = .returned (.int .u8 (bst a)) ∧ w' = w := by
  by_cases h : 3 < a
  · have e : bst a = 2 := by unfold bst; rw [if_pos h]
    rw [e]
    go_enter Tryz.func165, Tryz.ntmps165
    go_wp2
    go_ret
    exact ⟨rfl, rfl⟩
  · have e : bst a = a := by unfold bst; rw [if_neg h]
    rw [e]
    go_enter Tryz.func165, Tryz.ntmps165
    go_wp2
    go_ret
    exact ⟨rfl, rfl⟩
set_option maxHeartbeats 400000 in
theorem not_q (a : Int) (w : World) (h0 : 0 ≤ a) (ht : Tab1 4 mNot w) :
    Calls Tryz.prog 137 #[.int .u8 a] w (Gives (.int .u8 (mNot a)) w) := by
  have hc := ht a h0
  obtain ⟨b0, b1⟩ := bst_bd a h0
  clear ht
  go_enter Tryz.func137, Tryz.ntmps137
  go_wp2_with (go_at_call 165; refine (state_q _ _).mono ?_; rintro e w' ⟨rfl, rfl⟩)
  go_ret
  exact ⟨rfl, 0, rfl⟩
set_option maxHeartbeats 400000 in
theorem buf_q (a : Int) (w : World) (h0 : 0 ≤ a) (ht : Tab1 5 mBuf w) :
    Calls Tryz.prog 168 #[.int .u8 a] w (Gives (.int .u8 (mBuf a)) w) := by
  have hc := ht a h0
  obtain ⟨b0, b1⟩ := bst_bd a h0
  clear ht
  go_enter Tryz.func168, Tryz.ntmps168
  go_wp2_with (go_at_call 165; refine (state_q _ _).mono ?_; rintro e w' ⟨rfl, rfl⟩)
  go_ret
  exact ⟨rfl, 0, rfl⟩
set_option maxHeartbeats 400000 in
theorem and_q (a b : Int) (w : World) (h0 : 0 ≤ a) (h1 : 0 ≤ b) (ht : Tab2 1 mAnd w) :
    Calls Tryz.prog 124 #[.int .u8 a, .int .u8 b] w (Gives (.int .u8 (mAnd a b)) w) := by
  have hc := ht a b h0 h1
  obtain ⟨b0, b1⟩ := bst_bd a h0
  obtain ⟨b2, b3⟩ := bst_bd b h1
  clear ht
  go_enter Tryz.func124, Tryz.ntmps124
  go_wp2
  go_quiet ((go_at_call 165; exact Calls.quiet_of_same (state_q _ _)))
  go_wp2
  go_ret
  exact ⟨rfl, _, rfl⟩
set_option maxHeartbeats 400000 in
theorem or_q (a b : Int) (w : World) (h0 : 0 ≤ a) (h1 : 0 ≤ b) (ht : Tab2 2 mOr w) :
    Calls Tryz.prog 125 #[.int .u8 a, .int .u8 b] w (Gives (.int .u8 (mOr a b)) w) := by
  have hc := ht a b h0 h1
  obtain ⟨b0, b1⟩ := bst_bd a h0
  obtain ⟨b2, b3⟩ := bst_bd b h1
  clear ht
  go_enter Tryz.func125, Tryz.ntmps125
  go_wp2
  go_quiet ((go_at_call 165; exact Calls.quiet_of_same (state_q _ _)))
  go_wp2
  go_ret
  exact ⟨rfl, _, rfl⟩
set_option maxHeartbeats 400000 in
theorem xor_q (a b : Int) (w : World) (h0 : 0 ≤ a) (h1 : 0 ≤ b) (ht : Tab2 3 mXor w) :
    Calls Tryz.prog 126 #[.int .u8 a, .int .u8 b] w (Gives (.int .u8 (mXor a b)) w) := by
  have hc := ht a b h0 h1
  obtain ⟨b0, b1⟩ := bst_bd a h0
  obtain ⟨b2, b3⟩ := bst_bd b h1
  clear ht
  go_enter Tryz.func126, Tryz.ntmps126
  go_wp2
  go_quiet ((go_at_call 165; exact Calls.quiet_of_same (state_q _ _)))
  go_wp2
  go_ret
  exact ⟨rfl, _, rfl⟩
set_option maxHeartbeats 400000 in
theorem eq_q (a b : Int) (w : World) (h0 : 0 ≤ a) (h1 : 0 ≤ b) (ht : Tab2 3 mXor w) (hn : Tab1 4 mNot w) :
    Calls Tryz.prog 127 #[.int .u8 a, .int .u8 b] w (Gives (.int .u8 (mEq a b)) w) := by
  go_enter Tryz.func127, Tryz.ntmps127
  go_wp2_with (first
    | (go_at_call 126; refine (xor_q _ _ _ h0 h1 ht).mono ?_; rintro e w' ⟨rfl, n, rfl⟩)
    | (go_at_call 137; refine (not_q _ _ (mXor_nn _ _) (hn.draw _)).mono ?_; rintro e w' ⟨rfl, n, rfl⟩))
  go_ret
  exact ⟨rfl, _, rfl⟩
set_option maxHeartbeats 400000 in
theorem mux_1 (a b : Int) (w : World) (h0 : 0 ≤ a) (ht : Tab1 5 mBuf w) :
    Calls Tryz.prog 110 #[.int .u8 1, .int .u8 a, .int .u8 b] w (Gives (.int .u8 (mBuf a)) w) := by
  go_enter Tryz.func110, Tryz.ntmps110
  go_wp2_with (go_at_call 168; refine (buf_q _ _ h0 ht).mono ?_; rintro e w' ⟨rfl, n, rfl⟩)
  go_ret
  exact ⟨rfl, _, rfl⟩
set_option maxHeartbeats 400000 in
theorem mux_0 (a b : Int) (w : World) (h1 : 0 ≤ b) (ht : Tab1 5 mBuf w) :
    Calls Tryz.prog 110 #[.int .u8 0, .int .u8 a, .int .u8 b] w (Gives (.int .u8 (mBuf b)) w) := by
  go_enter Tryz.func110, Tryz.ntmps110
  go_wp2_with (go_at_call 168; refine (buf_q _ _ h1 ht).mono ?_; rintro e w' ⟨rfl, n, rfl⟩)
  go_ret
  exact ⟨rfl, _, rfl⟩
set_option maxHeartbeats 400000 in
theorem mux_x (s a b : Int) (w : World) (hs0 : (s == 0) = false) (hs1 : (s == 1) = false) (h0 : 0 ≤ a) (h1 : 0 ≤ b) (ht : Tab2 0 mAgree w) :
    Calls Tryz.prog 110 #[.int .u8 s, .int .u8 a, .int .u8 b] w (Gives (.int .u8 (mAgree a b)) w) := by
  have hc := ht a b h0 h1
  obtain ⟨b0, b1⟩ := bst_bd a h0
  obtain ⟨b2, b3⟩ := bst_bd b h1
  clear ht
  go_enter Tryz.func110, Tryz.ntmps110
  go_wp2
  go_quiet ((go_at_call 165; exact Calls.quiet_of_same (state_q _ _)))
  go_wp2
  go_ret
  exact ⟨rfl, _, rfl⟩
theorem mux_q (s a b : Int) (w : World) (h0 : 0 ≤ a) (h1 : 0 ≤ b) (ht : Tab1 5 mBuf w) (hg : Tab2 0 mAgree w) :
    Calls Tryz.prog 110 #[.int .u8 s, .int .u8 a, .int .u8 b] w (Gives (.int .u8 (mMux s a b)) w) := by
  unfold mMux
  by_cases e1 : s = 1
  · subst e1; rw [if_pos rfl]; exact mux_1 a b w h0 ht
  · rw [if_neg e1]
    by_cases e0 : s = 0
    · subst e0; rw [if_pos rfl]; exact mux_0 a b w h1 ht
    · rw [if_neg e0]; exact mux_x s a b w (by simpa using e0) (by simpa using e1) h0 h1 hg
set_option maxHeartbeats 400000 in
theorem valid_q (a : Int) (w : World) :
    Calls Tryz.prog 192 #[.int .u8 a] w fun e w' => e = .returned (.bool (mValid a)) ∧ w' = w := by
  go_enter Tryz.func192, Tryz.ntmps192
  go_wp2
  go_ret
  exact ⟨rfl, rfl⟩
set_option maxHeartbeats 400000 in
theorem known_q (a : Int) (w : World) :
    Calls Tryz.prog 94 #[.int .u8 a] w fun e w' => e = .returned (.bool (mKnown a)) ∧ w' = w := by
  go_enter Tryz.func94, Tryz.ntmps94
  go_wp2
  go_ret
  exact ⟨rfl, rfl⟩
set_option maxHeartbeats 400000 in
theorem same_q (a b : Int) (w : World) :
    Calls Tryz.prog 92 #[.int .u8 a, .int .u8 b] w fun e w' => e = .returned (.bool (mSame a b)) ∧ w' = w := by
  go_enter Tryz.func92, Tryz.ntmps92
  go_wp2_with (go_at_call 165; refine (state_q _ _).mono ?_; rintro e w' ⟨rfl, rfl⟩)
  go_ret
  exact ⟨rfl, rfl⟩
set_option maxHeartbeats 400000 in
theorem from_q (v : Bool) (w : World) :
    Calls Tryz.prog 57 #[.bool v] w fun e w' => e = .returned (.int .u8 (mFrom v)) ∧ w' = w := by
  cases v
  all_goals
    go_enter Tryz.func57, Tryz.ntmps57
    go_wp2
    go_ret
    exact ⟨rfl, rfl⟩
theorem beq_f {a b : Int} (h : a ≠ b) : (a == b) = false := by simpa using h
end
section
open Go.RowKit
set_option maxRecDepth 100000
set_option linter.unusedSimpArgs false
set_option linter.unusedVariables false
theorem belo {n : Nat} {w w' : World} (h : Below n w w' := by (repeat (first | with_reducible exact Below.refl _ _ | with_reducible assumption | with_reducible refine Below.setCell ?_ as3 _ | with_reducible refine Below.alloc ?_ as3 _ | with_reducible refine below_drewN ?_ _ | with_reducible refine Below.drew ?_))) : Below n w w' := h
def RQ (w : World) (A : Option Addr) (l : List Int) : Prop :=
  0 < l.length → ∃ ad, A = some ad ∧ ad.block < w.heap.size ∧ ∀ i, i < l.length → w.cell? (ad.add i) = some (.int .u8 (qt l i))
def RowQ (w : World) (g n : Nat) (F : Nat → Int) : Prop := ∃ cs : Array Value, w.heap[g]? = some (.cells cs 65 (0, 0)) ∧ ∀ i, i < n → cs[i]? = some (.int .u8 (F i))
def OwQ (B : Nat) (w : World) (A : Option Addr) (l : List Int) : Prop :=
  0 < l.length → ∃ g, A = some ⟨g, 0, none⟩ ∧ B ≤ g ∧ RowQ w g l.length (qt l)
section
variable {w w' : World} {g n : Nat} {F G : Nat → Int}
theorem RowQ.lt (h : RowQ w g n F) : g < w.heap.size := by
  obtain ⟨cs, hg, _⟩ := h
  exact lt_of_block hg
theorem RowQ.cell (h : RowQ w g n F) {i : Nat} (hi : i < n) : w.cell? ⟨g, i, none⟩ = some (.int .u8 (F i)) := by
  obtain ⟨cs, hg, hc⟩ := h
  rw [cell_of_row w g i _ _ _ hg]
  exact hc i hi
theorem RowQ.free (h : RowQ w g n F) (i : Nat) : w.frozen? ⟨g, i, none⟩ = false := by
  obtain ⟨cs, hg, hc⟩ := h
  exact frozen_of_row w g i _ _ hg
theorem RowQ.congr (h : RowQ w g n F) (k : ∀ i, i < n → F i = G i) : RowQ w g n G := by
  obtain ⟨cs, hg, hc⟩ := h
  exact ⟨cs, hg, fun i hi => by rw [hc i hi, k i hi]⟩
theorem RowQ.set_ (h : RowQ w g n F) (i : Nat) (v : Int) : RowQ (w.setCell ⟨g, i, none⟩ (.int .u8 v)) g n (fun j => if j = i then v else F j) := by
  obtain ⟨cs, hg, hc⟩ := h
  refine ⟨_, heap_setCell_same w g i cs _ _ hg, fun j hj => ?_⟩
  have hjs : j < cs.size := by
    rcases Nat.lt_or_ge j cs.size with h1 | h1
    · exact h1
    · have := hc j hj; rw [Array.getElem?_eq_none h1] at this; cases this
  by_cases e : j = i
  · subst e; simp [hjs]
  · rw [Array.getElem?_setIfInBounds_ne (by omega), hc j hj]; simp [e]
theorem RowQ.far (h : RowQ w g n F) {p : Addr} (hp : g ≠ p.block) (u : Value) : RowQ (w.setCell p u) g n F := by
  obtain ⟨cs, hg, hc⟩ := h
  exact ⟨cs, by rw [heap_setCell_other w p g u hp]; exact hg, hc⟩
theorem RowQ.alloc (h : RowQ w g n F) (o : Obj) : RowQ (w.alloc o) g n F := by
  have hlt := h.lt
  obtain ⟨cs, hg, hc⟩ := h
  exact ⟨cs, (Below.heap_alloc w o g hlt).trans hg, hc⟩
theorem RowQ.drew (h : RowQ w g n F) : RowQ w.drew g n F := h
theorem RowQ.drewN (h : RowQ w g n F) (k : Nat) : RowQ (w.drewN k) g n F := h
theorem RowQ.below (h : RowQ w g n F) {B : Nat} (hb : Below B w w') (hB : g < B) : RowQ w' g n F := by
  obtain ⟨cs, hg, hc⟩ := h
  exact ⟨cs, by rw [hb.block g hB]; exact hg, hc⟩
theorem RowQ.kept (h : RowQ w g n F) (hb : Below w.heap.size w w') : RowQ w' g n F := h.below hb h.lt
end
def MkQ (l : List Int) (w : World) (e : Ending) (w' : World) : Prop :=
  ∃ A c, e = .returned (.slice A l.length c) ∧ l.length ≤ c ∧ c ≤ maxLen ∧ OwQ w.heap.size w' A l ∧ Below w.heap.size w w'
theorem RQ.below {w w' : World} {A : Option Addr} {l : List Int} (h : RQ w A l) (hb : Below w.heap.size w w') : RQ w' A l := fun hn => by
  obtain ⟨ad, e, hlt, hc⟩ := h hn
  exact ⟨ad, e, Nat.lt_of_lt_of_le hlt hb.size, fun i hi => (hb.cell (p := ad.add i) (by rw [block_of_add]; exact hlt)).trans (hc i hi)⟩
section
variable {B B' : Nat} {w w' : World} {A : Option Addr} {l : List Int}
theorem OwQ.lt (h : OwQ B w A l) (hn : 0 < l.length) : ∃ g, A = some ⟨g, 0, none⟩ ∧ B ≤ g ∧ g < w.heap.size := by
  obtain ⟨g, e, hB, hr⟩ := h hn
  exact ⟨g, e, hB, hr.lt⟩
theorem OwQ.rd (h : OwQ B w A l) : RQ w A l := fun hn => by
  obtain ⟨g, e, hB, hr⟩ := h hn
  exact ⟨_, e, hr.lt, fun i hi => by rw [addr_add]; exact hr.cell hi⟩
theorem OwQ.kept (h : OwQ B w A l) (hb : Below w.heap.size w w') : OwQ B w' A l := fun hn => by
  obtain ⟨g, e, hB, hr⟩ := h hn
  exact ⟨g, e, hB, hr.kept hb⟩
theorem OwQ.base (h : OwQ B w A l) (hB : B' ≤ B) : OwQ B' w A l := fun hn => by
  obtain ⟨g, e, hB2, hr⟩ := h hn
  exact ⟨g, e, by omega, hr⟩
theorem OwQ.of_row {g : Nat} (h : RowQ w g l.length (qt l)) (hB : B ≤ g) : OwQ B w (some ⟨g, 0, none⟩) l := fun _ => ⟨g, rfl, hB, h⟩
theorem RQ.lt (h : RQ w A l) (hn : 0 < l.length) : ∃ ad, A = some ad ∧ ad.block < w.heap.size := by
  obtain ⟨ad, e, hlt, _⟩ := h hn
  exact ⟨ad, e, hlt⟩
end
theorem RQ.at_ {w : World} {A : Option Addr} {l : List Int} (h : RQ w A l) {i : Nat} (hi : i < l.length) : ∃ ad, A = some ad ∧ ad.block < w.heap.size ∧ w.cell? (ad.add i) = some (.int .u8 (qt l i)) := by
  obtain ⟨ad, e, hlt, hc⟩ := h (by omega)
  exact ⟨ad, e, hlt, hc i hi⟩
theorem bit_info : (Tryz.prog.info? 65).map (fun i => (i.zero, i.size, i.bytes)) = some (some (.int .u8 0), 1, 1) := by kernel_rfl
theorem row_of_owq {w : World} {B g cap : Nat} {l : List Int} (h : w.ownsRow B 65 1 (.slice (some ⟨g, 0, none⟩) l.length cap) l.length (l.map (Value.int .u8))) : RowQ w g l.length (qt l) := by
  rcases h.2 with ⟨h0, _⟩ | ⟨g', cap', cur, hv, hB, hg, hn, hc, hs, hx⟩
  · cases h0
  · injection hv with e1 e2 e3
    injection e1 with e1
    injection e1 with e1
    subst e1
    refine ⟨cur, hg, fun i hi => ?_⟩
    have h1 : (cur.toList.take (l.length * 1))[i]? = (l.map (Value.int .u8))[i]? := by rw [hx]
    rw [List.getElem?_take, if_pos (by omega), Array.getElem?_toList] at h1
    rw [h1, List.getElem?_map, List.getElem?_eq_getElem hi, qt_get hi]
    rfl
theorem owq_open {w : World} {B n : Nat} {l : List Int} {v : Value} (h : w.ownsRow B 65 1 v n (l.map (Value.int .u8))) : ∃ A c, v = .slice A l.length c ∧ l.length ≤ c ∧ c ≤ maxLen ∧ OwQ B w A l := by
  have hl : n = l.length := by have := h.1; simpa using this.symm
  subst hl
  have h' := h
  rcases h.2 with ⟨h0, h1⟩ | ⟨g, cap, cur, hv, hB, hg, hn, hc, hs, hx⟩
  · exact ⟨none, 0, by rw [h0, h1], by omega, by simp [maxLen], fun h2 => by omega⟩
  · subst hv
    exact ⟨_, cap, rfl, hn, hc, fun _ => ⟨g, rfl, hB, row_of_owq h'⟩⟩
theorem owq_nil (w : World) (B : Nat) : w.ownsRow B 65 1 (.slice none 0 0) 0 (([] : List Int).map (Value.int .u8)) := World.ownsRow_nil _ _ _ _
theorem owq_empty (w : World) (B : Nat) (hB : B ≤ w.heap.size) : (w.alloc (.cells #[] 65)).ownsRow B 65 1 (.slice (some ⟨w.heap.size, 0, none⟩) 0 0) 0 (([] : List Int).map (Value.int .u8)) :=
  World.ownsRow_made w #[] 0 hB (by simp [maxLen]) rfl
theorem wpList_make_q (w : World) {ops : Array Oper} {rest : List Oper} {o : Oper} {a : Act} {Q : Exit → Act → World → Prop} (hg : o.guard = none) (x y : Operand) (hop : o.op = Op.makeSlice 22 x y)
    (L C : Int) (n : Nat) (hl : a.eval x = .int .i64 L) (hc : a.eval y = .int .i64 C) (hL : L = n) (hC : C = n) (hn : n ≤ 4096)
    (hK : ∀ w', RowQ w' w.heap.size n (fun _ => 0) → Below w.heap.size w w' → w.heap.size < w'.heap.size → wpList Tryz.prog ops Q rest (a.put o.dst (.slice (some ⟨w.heap.size, 0, none⟩) n n)) w') :
    wpList Tryz.prog ops Q (o :: rest) a w := by
  obtain ⟨i0, hi, hz0, hz1, hz2⟩ := info_parts bit_info
  refine wpList_make_full w hg x y 22 hop w.heap.size 65 i0 (.int .u8 0) 1 Tryz.underlying22 hi hz0 hz1 .i64 .i64 L C n hl hc hL hC (by rw [hz2]; omega) (by simp only [maxLen]; omega) (Nat.le_refl _) ?_
  intro w' hown hgrow
  have hlen : (madeCells (Value.int .u8 0).cells (n * 1)).toList = (List.replicate n (0 : Int)).map (Value.int .u8) := by
    rw [Nat.mul_one, show (Value.int .u8 0).cells = #[.int .u8 0] from rfl, toList_madeCells_one, List.map_replicate]
  rw [hlen] at hown
  have hlt := (hown.lt _ rfl).2
  have hr : RowQ w' w.heap.size n (fun _ => 0) := by
    have h1 : (List.replicate n (0 : Int)).length = n := by simp
    have h2 := row_of_owq (l := List.replicate n (0 : Int)) (by rw [h1]; exact hown)
    rw [h1] at h2
    exact h2.congr fun i hi => by unfold qt; simp [hi]
  exact hK w' hr ((Below.refl _ _).grown hgrow (Nat.le_refl _) (fun k hk => by cases hk)) hlt
theorem run_append_nullq (w : World) (ty : TypeId) {B : Nat} {v : Value} {n : Nat} {xs : List Value} (hown : w.ownsRow B 65 1 v n xs) (c : Nat) :
    (Builtin.append_ #[22, 22] ty #[v, .slice none 0 c]).run Tryz.prog w = .ok v w := by
  obtain ⟨i0, hi, hz0, hz1, hz2⟩ := info_parts bit_info
  rcases hown.2 with ⟨rfl, rfl⟩ | ⟨g, cap, cur, rfl, _, _, hle, _⟩
  · simp [Builtin.append_, run_underlying Tryz.underlying22, sizeOf, typeInfo, hi, Builtin.lenOf, Builtin.firstCells]
  · simp [Builtin.append_, run_underlying Tryz.underlying22, sizeOf, typeInfo, hi, Builtin.lenOf, Builtin.firstCells, hle, storeCells]
theorem wpList_append_q (w : World) {ops : Array Oper} {rest : List Oper} {o : Oper} {a : Act} {Q : Exit → Act → World → Prop} (hgd : o.guard = none) (s x : Operand)
    (ho : o.op = .call { callee := .builtin .append, args := #[s, x], argTypes := #[22, 22] })
    (B : Nat) (v : Value) (n : Nat) (xs : List Int) (hs : a.eval s = v) (hown : w.ownsRow B 65 1 v n (xs.map (Value.int .u8)))
    (A : Option Addr) (m c : Nat) (news : List Int) (hx : a.eval x = .slice A m c) (hm : m = news.length) (hr : RQ w A news) (hn : xs.length + news.length ≤ 16384) (hB : B ≤ w.heap.size)
    (hK : ∀ v' w', w'.ownsRow B 65 1 v' (n + m) ((xs ++ news).map (Value.int .u8)) → Below B w w' → wpList Tryz.prog ops Q rest (a.put o.dst v') w') : wpList Tryz.prog ops Q (o :: rest) a w := by
  obtain ⟨i0, hi, hz0, hz1, hz2⟩ := info_parts bit_info
  have hnl : n = xs.length := by have := hown.1; simpa using this.symm
  subst hm
  rcases A with _ | ad
  · have h0 : news = [] := by
      cases news with
      | nil => rfl
      | cons b l => obtain ⟨ad, e, _⟩ := hr (by simp); cases e
    subst h0
    refine wpList_plain hgd fun K hK' => ?_
    have hrun := run_append_nullq w o.type hown c
    unfold Oper.wp
    simp [execOp, ho, resolve, invoke, builtin, hs, hx, hrun, Result.andThen]
    exact hK' _ _ (hK v w (by simpa using hown) (Below.refl _ _))
  · refine wpList_append_own w hgd s x 22 ho B 65 i0 (.int .u8 0) 1 1 Tryz.underlying22 hi hz0 hz1 hz2 rfl (by omega) v n (xs.map (Value.int .u8)) hs hown ad news.length c (news.map (Value.int .u8)) hx (by simp) ?_ ?_ (by simp only [maxLen]; omega) (by omega) hB ?_
    · intro j u hj
      rw [List.getElem?_map] at hj
      have hlt : j < news.length := by
        rcases Nat.lt_or_ge j news.length with h | h
        · exact h
        · rw [List.getElem?_eq_none h] at hj; cases hj
      obtain ⟨ad', e, _, hc⟩ := hr (by omega)
      injection e with e
      subst e
      rw [List.getElem?_eq_getElem hlt] at hj
      rw [hc j hlt, qt_get hlt]
      exact hj
    · intro u hu
      simp only [List.mem_map] at hu
      obtain ⟨b, _, rfl⟩ := hu
      rfl
    · intro v' w' hown' hgrow _
      exact hK v' w' (by rw [List.map_append]; exact hown') ((Below.refl _ _).grown hgrow hB fun k hk => (hown.lt k hk).1)
theorem MkQ.mk_row {l : List Int} {w w' : World} {g n c : Nat} {F : Nat → Int} (h : RowQ w' g n F) (hl : l = ql n F) (hB : w.heap.size ≤ g) (hb : Below w.heap.size w w') (hn : n ≤ c) (hc : c ≤ maxLen) :
    MkQ l w (.returned (.slice (some ⟨g, 0, none⟩) n c)) w' := by
  subst hl
  refine ⟨some ⟨g, 0, none⟩, c, by rw [ql_length], by rw [ql_length]; exact hn, hc, OwQ.of_row ?_ hB, hb⟩
  rw [ql_length]
  exact h.congr fun i hi => by rw [qt_ql_lt hi]
def ParQ (k : Nat) (f : Nat → Int) (j : Nat) : Int := if j < k then f j else 0
theorem ParQ.step (k : Nat) (f : Nat → Int) (j : Nat) : (if j = k then f k else ParQ k f j) = ParQ (k + 1) f j := by
  unfold ParQ
  by_cases h : j = k
  · subst h; rw [if_pos rfl, if_pos (by omega)]
  · rw [if_neg h]
    by_cases h1 : j < k
    · rw [if_pos h1, if_pos (by omega)]
    · rw [if_neg h1, if_neg (by omega)]
structure FillQ (w : World) (n k : Nat) (f : Nat → Int) (wr : World) : Prop where
  row : RowQ wr w.heap.size n (ParQ k f)
  bel : Below w.heap.size w wr
theorem FillQ.step {w wr : World} {n k : Nat} {f : Nat → Int} (h : FillQ w n k f wr) : FillQ w n (k + 1) f (wr.setCell ⟨w.heap.size, k, none⟩ (.int .u8 (f k))) where
  row := (h.row.set_ k _).congr fun j _ => ParQ.step k f j
  bel := h.bel.setCell (by simp) _
theorem FillQ.start {w w1 : World} {n : Nat} {f : Nat → Int} (h : RowQ w1 w.heap.size n (fun _ => 0)) (hb : Below w.heap.size w w1) : FillQ w n 0 f w1 := ⟨h.congr fun j _ => by simp [ParQ], hb⟩
theorem FillQ.drew {w wr : World} {n k : Nat} {f : Nat → Int} (h : FillQ w n k f wr) : FillQ w n k f wr.drew := ⟨h.row.drew, h.bel.drew⟩
theorem FillQ.done {w wr : World} {n c : Nat} {f : Nat → Int} {l : List Int} (h : FillQ w n n f wr) (hl : l = ql n f) (hn : n ≤ 4096) : MkQ l w (.returned (.slice (some ⟨w.heap.size, 0, none⟩) n n)) wr :=
  MkQ.mk_row h.row (hl.trans (ql_congr fun i hi => by simp [ParQ, hi])) (Nat.le_refl _) h.bel (Nat.le_refl _) (max_4096 hn)
def RetQP (P : List Int → Prop) (w : World) (e : Ending) (w' : World) : Prop :=
  ∃ l A c, Hid (P l) ∧ e = .returned (.slice A l.length c) ∧ Hid (l.length ≤ c ∧ c ≤ maxLen) ∧ Hid (OwQ w.heap.size w' A l) ∧ Below w.heap.size w w'
theorem RetQP.of_mkV {l : List Int} {w w' : World} {e : Ending} {P : List Int → Prop} (hp : P l) (h : MkQ l w e w') : RetQP P w e w' := by
  obtain ⟨A, c, he, h1, h2, h3, h4⟩ := h
  exact ⟨l, A, c, hide hp, he, hide ⟨h1, h2⟩, hide h3, h4⟩
structure OwnLQ (w : World) (v : Value) (l : List Int) (wr : World) : Prop where
  own : wr.ownsRow w.heap.size 65 1 v l.length (l.map (Value.int .u8))
  bel : Below w.heap.size w wr
theorem OwnLQ.nil (w : World) : OwnLQ w (.slice none 0 0) [] w := ⟨owq_nil w _, Below.refl _ _⟩
theorem OwnLQ.add {w wr w1 : World} {v' : Value} {l m : List Int} {n k : Nat} (hb : Below w.heap.size w wr) (h : w1.ownsRow w.heap.size 65 1 v' (n + k) ((l ++ m).map (Value.int .u8))) (hb1 : Below w.heap.size wr w1) : OwnLQ w v' (l ++ m) w1 := by
  have hl : n + k = (l ++ m).length := by have := h.1; simpa using this.symm
  rw [hl] at h
  exact ⟨h, hb.trans hb1⟩
theorem OwnLQ.done {w wr : World} {v : Value} {l : List Int} {P : List Int → Prop} (h : OwnLQ w v l wr) (hp : P l) : RetQP P w (.returned v) wr := by
  obtain ⟨A, c, rfl, h1, h2, h3⟩ := owq_open h.own
  exact ⟨l, A, c, hide hp, rfl, hide ⟨h1, h2⟩, hide h3, h.bel⟩
theorem one_rq (w : World) (x : Int) : RQ (w.alloc (.cells #[.int .u8 x] 65)) (some ⟨w.heap.size, 0, none⟩) [x] := fun _ => by
  refine ⟨_, rfl, by simp, fun i hi => ?_⟩
  obtain rfl : i = 0 := by simpa using hi
  rw [addr_add, cell_of_row _ _ _ _ _ _ (heap_alloc_new w _)]
  rfl
end
section
open Go.RowKit
set_option maxRecDepth 100000
set_option linter.unusedSimpArgs false
set_option linter.unusedVariables false
def Ent (N : Nat) : Prop := ∀ args w, (callFunc N args).run Tryz.prog w = .ok (.enter N args) w
structure Tells (N : Nat) (p : Int → Bool) : Prop where
  cf : Ent N
  ct : ∀ x w, Calls Tryz.prog N #[.int .u8 x] w fun e w' => e = .returned (.bool (p x)) ∧ w = w'
theorem tells_invalid : Tells 191 (fun x => !mValid x) := by
  refine ⟨Tryz.call191, fun x w => ?_⟩
  go_enter Tryz.func191, Tryz.ntmps191
  go_wp2_with (go_at_call 192; refine (valid_q _ _).mono ?_; rintro e w' ⟨rfl, rfl⟩)
  go_ret
  exact ⟨rfl, rfl⟩
theorem tells_unknown : Tells 170 (fun x => !mKnown x) := by
  refine ⟨Tryz.call170, fun x w => ?_⟩
  go_enter Tryz.func170, Tryz.ntmps170
  go_wp2_with (go_at_call 94; refine (known_q _ _).mono ?_; rintro e w' ⟨rfl, rfl⟩)
  go_ret
  exact ⟨rfl, rfl⟩
theorem indexf_q (N : Nat) (p : Int → Bool) (hp : Tells N p) (A : Option Addr) (a : List Int) (c : Nat) (w : World) (ha : a.length ≤ 4096) (hA : RQ w A a) :
    Calls Tryz.prog 195 #[.slice A a.length c, .func (.func N) #[] #[]] w fun e w' => (∃ i : Int, e = .returned (.int .i64 i) ∧ (0 ≤ i ↔ a.any p = true)) ∧ w = w' := by
  have HA := hide hA
  have hcf : ∀ args w, (callFunc N args).run Tryz.prog w = .ok (.enter N args) w := hp.cf
  have Hp := hide hp.ct
  clear hA hp
  show Calls _ _ _ _ (fun e w' => (fun (e : Ending) => ∃ i : Int, e = .returned (.int .i64 i) ∧ (0 ≤ i ↔ a.any p = true)) e ∧ w = w')
  generalize hP : (fun (e : Ending) => ∃ i : Int, e = .returned (.int .i64 i) ∧ (0 ≤ i ↔ a.any p = true)) = PP
  have HP := hide hP
  clear hP
  go_enter Tryz.func195, Tryz.ntmps195
  go_wp2
  go_loop [8] (fun i => ∃ k : Nat, k ≤ a.length ∧ i = .int .i64 k ∧ Hid (∀ j, j < k → p (qt a j) = false)) (fun i => a.length - (intOf i).toNat)
  case atStart => exact ⟨0, Nat.zero_le _, rfl, hide fun j hj => by omega⟩
  case round =>
    obtain ⟨k, hk, rfl, hno⟩ := hrel
    by_cases hlt : k < a.length
    · obtain ⟨ad, rfl, hlt1, hc⟩ := HA.out.at_ hlt
      have hcall := hide (Hp.out (qt a k) w)
      cases hx : p (qt a k)
      · rw [hx] at hcall
        have hx' := hide hx
        clear hx
        go_wp2_with (refine (hcall.out).mono ?_; rintro e w' ⟨rfl, rfl⟩)
        go_round
        case rel => exact ⟨k + 1, by omega, by go_num, hide fun j hj => by
          by_cases e : j = k
          · subst e; exact hx'.out
          · exact hno.out j (by omega)⟩
        case measure => simp [intOf]; omega
      · rw [hx] at hcall
        have hx' := hide hx
        clear hx
        go_wp2_with (refine (hcall.out).mono ?_; rintro e w' ⟨rfl, rfl⟩)
        go_ret
        refine ⟨?_, rfl⟩
        rw [← HP.out]
        exact ⟨k, rfl, by
          constructor <;> intro _
          · exact List.any_eq_true.2 ⟨a[k], List.getElem_mem hlt, by rw [← qt_get hlt]; exact hx'.out⟩
          · omega⟩
    · go_wp2
      go_ret
      refine ⟨?_, rfl⟩
      rw [← HP.out]
      refine ⟨-1, rfl, ?_⟩
      constructor <;> intro h
      · omega
      · exfalso
        obtain ⟨x, hx, h2⟩ := List.any_eq_true.1 h
        obtain ⟨i, hi, rfl⟩ := List.getElem_of_mem hx
        have := hno.out i (by omega)
        rw [qt_get hi, h2] at this
        cases this
theorem containsf_q (N : Nat) (p : Int → Bool) (hp : Tells N p) (A : Option Addr) (a : List Int) (c : Nat) (w : World) (ha : a.length ≤ 4096) (hA : RQ w A a) :
    Calls Tryz.prog 169 #[.slice A a.length c, .func (.func N) #[] #[]] w fun e w' => e = .returned (.bool (a.any p)) ∧ w = w' := by
  go_enter Tryz.func169, Tryz.ntmps169
  go_wp2_with fail
  refine (indexf_q N p hp _ _ _ _ ha hA).mono ?_
  rintro e w' ⟨⟨i, rfl, hi⟩, rfl⟩
  have HI := hide hi
  clear hi
  go_wp2
  go_ret
  refine ⟨ret_bool ?_, rfl⟩
  cases hx : a.any p
  · exact decide_eq_false fun h => by rw [HI.out.1 h] at hx; cases hx
  · exact decide_eq_true (HI.out.2 hx)
theorem any_ok (l : List Int) : (l.any fun x => !mValid x) = !okB l := by
  unfold okB mValid; rw [List.all_eq_not_any_not, Bool.not_not]
theorem any_kn (l : List Int) : (l.any fun x => !mKnown x) = !kn l := by
  unfold kn; rw [List.all_eq_not_any_not, Bool.not_not]
theorem check_any (A : Option Addr) (a : List Int) (c : Nat) (s : Bool) (w : World) (ha : a.length ≤ 4096) (hA : RQ w A a) :
    Calls Tryz.prog 166 #[.agg #[.slice A a.length c, .bool s]] w (Mk (.int .i64 (chk a)) w) := by
  have HA := hide hA
  clear hA
  have hcall := hide fun ha' => containsf_q _ _ tells_invalid A a c (w.alloc (.cells #[.slice A a.length c, .bool s] 24)) ha' (HA.out.below ((Below.refl _ _).alloc (Nat.le_refl _) _))
  rw [any_ok] at hcall
  obtain ⟨r, hr⟩ : ∃ r, r = chk a := ⟨_, rfl⟩
  rw [← hr]
  have HR := hide hr
  clear hr
  unfold chk at HR
  by_cases h1 : a.length = 0
  · rw [if_pos h1] at HR
    have e := HR.out
    subst e
    clear HR
    go_enter Tryz.func166, Tryz.ntmps166
    go_wp2
    go_ret
    exact ⟨rfl, (Below.refl _ _).alloc (Nat.le_refl _) _⟩
  · rw [if_neg h1] at HR
    by_cases h2 : 128 < a.length
    · rw [if_pos h2] at HR
      have e := HR.out
      subst e
      clear HR
      go_enter Tryz.func166, Tryz.ntmps166
      go_wp2
      go_ret
      exact ⟨rfl, (Below.refl _ _).alloc (Nat.le_refl _) _⟩
    · rw [if_neg h2] at HR
      cases hk : okB a <;> rw [hk] at hcall HR
      all_goals
        have e := HR.out
        subst e
        clear HR
        go_enter Tryz.func166, Tryz.ntmps166
        go_wp2_with (refine (hcall.out ha).mono ?_; rintro e w' ⟨rfl, rfl⟩)
        go_ret
        exact ⟨rfl, (Below.refl _ _).alloc (Nat.le_refl _) _⟩
def RetC (P : Vc → Prop) (w : World) (e : Ending) (w' : World) : Prop :=
  ∃ l s A c, Hid (P ⟨l, s⟩) ∧ e = .returned (.agg #[.slice A l.length c, .bool s]) ∧ Hid (l.length ≤ c ∧ c ≤ maxLen) ∧ Hid (OwQ w.heap.size w' A l) ∧ Below w.heap.size w w'
def RG (B0 B1 : Nat) (w : World) (A : Option Addr) (l : List Int) : Prop :=
  0 < l.length → ∃ ad, A = some ad ∧ ad.block < w.heap.size ∧ (ad.block < B0 ∨ B1 ≤ ad.block) ∧ ∀ i, i < l.length → w.cell? (ad.add i) = some (.int .u8 (qt l i))
section
variable {B0 B1 B : Nat} {w w' : World} {A : Option Addr} {l : List Int}
theorem RG.rd (h : RG B0 B1 w A l) : RQ w A l := fun hn => by
  obtain ⟨ad, e, h1, _, h3⟩ := h hn
  exact ⟨ad, e, h1, h3⟩
theorem RG.setc (h : RG B0 B1 w A l) {p : Addr} (h0 : B0 ≤ p.block) (h1 : p.block < B1) (u : Value) : RG B0 B1 (w.setCell p u) A l := fun hn => by
  obtain ⟨ad, e, hl, hg, hc⟩ := h hn
  refine ⟨ad, e, by simpa using hl, hg, fun i hi => ?_⟩
  rw [World.cell?_setCell_other _ _ _ _ (by intro k; have := congrArg Addr.block k; rw [block_of_add] at this; omega)]
  exact hc i hi
theorem RG.kept (h : RG B0 B1 w A l) (hb : Below w.heap.size w w') : RG B0 B1 w' A l := fun hn => by
  obtain ⟨ad, e, hl, hg, hc⟩ := h hn
  exact ⟨ad, e, Nat.lt_of_lt_of_le hl hb.size, hg, fun i hi => (hb.cell (p := ad.add i) (by rw [block_of_add]; exact hl)).trans (hc i hi)⟩
theorem RG.allc (h : RG B0 B1 w A l) (o : Obj) : RG B0 B1 (w.alloc o) A l := h.kept ((Below.refl _ _).alloc (Nat.le_refl _) _)
theorem RG.drew (h : RG B0 B1 w A l) : RG B0 B1 w.drew A l := h
theorem RG.drewN (h : RG B0 B1 w A l) (n : Nat) : RG B0 B1 (w.drewN n) A l := h
theorem RQ.rg (h : RQ w A l) (h0 : w.heap.size ≤ B0) : RG B0 B1 w A l := fun hn => by
  obtain ⟨ad, e, hl, hc⟩ := h hn
  exact ⟨ad, e, hl, Or.inl (by omega), hc⟩
theorem OwQ.rg (h : OwQ B w A l) (h0 : B1 ≤ B) : RG B0 B1 w A l := fun hn => by
  obtain ⟨g, e, hB, hr⟩ := h hn
  exact ⟨_, e, hr.lt, Or.inr (by show B1 ≤ g; omega), fun i hi => by rw [addr_add]; exact hr.cell hi⟩
theorem OwQ.far (h : OwQ B w A l) {p : Addr} (h1 : p.block < B) (u : Value) : OwQ B (w.setCell p u) A l := fun hn => by
  obtain ⟨g, e, hB, hr⟩ := h hn
  exact ⟨g, e, hB, hr.far (by omega) u⟩
theorem OwQ.allc (h : OwQ B w A l) (o : Obj) : OwQ B (w.alloc o) A l := h.kept ((Below.refl _ _).alloc (Nat.le_refl _) _)
theorem OwQ.drew (h : OwQ B w A l) : OwQ B w.drew A l := h
theorem OwQ.drewN (h : OwQ B w A l) (n : Nat) : OwQ B (w.drewN n) A l := h
end
theorem cset_ne {w : World} {b o b2 o2 : Nat} {u : Value} {r : Option Value} (h : b ≠ b2 ∨ o ≠ o2) (k : w.cell? ⟨b2, o2, none⟩ = r) : (w.setCell ⟨b, o, none⟩ u).cell? ⟨b2, o2, none⟩ = r := by
  rw [World.cell?_setCell_other _ _ _ _ (by intro e; injection e with e1 e2; omega)]; exact k
theorem cset_eq {w : World} {b o : Nat} {u v : Value} (k : w.cell? ⟨b, o, none⟩ = some v) : (w.setCell ⟨b, o, none⟩ u).cell? ⟨b, o, none⟩ = some u := World.cell?_setCell_same _ _ _ k
theorem cset_eq' {w : World} {b o : Nat} {u : Value} (k : ∃ v, w.cell? ⟨b, o, none⟩ = some v) : (w.setCell ⟨b, o, none⟩ u).cell? ⟨b, o, none⟩ = some u := by obtain ⟨v, k⟩ := k; exact cset_eq k
theorem fset {w : World} {p : Addr} {b o : Nat} {u : Value} (k : w.frozen? ⟨b, o, none⟩ = false) : (w.setCell p u).frozen? ⟨b, o, none⟩ = false := by simpa using k
theorem cset_ex {w : World} {p : Addr} {b o : Nat} {u : Value} (k : ∃ v, w.cell? ⟨b, o, none⟩ = some v) : ∃ v, (w.setCell p u).cell? ⟨b, o, none⟩ = some v := by obtain ⟨v, k⟩ := k; exact cell?_setCell_some k
def RetK (P : Vc → Prop) (w0 w : World) (e : Ending) (w' : World) : Prop :=
  ∃ l s A c, Hid (P ⟨l, s⟩) ∧ e = .returned (.agg #[.slice A l.length c, .bool s]) ∧ Hid (l.length ≤ c ∧ c ≤ maxLen) ∧ Hid (RG w0.heap.size w.heap.size w' A l) ∧ Below w.heap.size w w'
theorem RetC.mono {P Q : Vc → Prop} {w w' : World} {e : Ending} (h : RetC P w e w') (k : ∀ v, P v → Q v) : RetC Q w e w' := by
  obtain ⟨l, s, A, c, h1, h2⟩ := h
  exact ⟨l, s, A, c, hide (k _ h1.out), h2⟩
theorem single_any (x : Int) (w : World) :
    Calls Tryz.prog 136 #[.int .u8 x] w (RetC (· = sgl x) w) := by
  go_enter Tryz.func136, Tryz.ntmps136
  go_wp2
  refine bodyPost_ret (v := .agg #[.slice (some ⟨w.heap.size + 1, 0, none⟩) 1 1, .bool false]) (by simp [results, Tryz.results136, go_sem]) rfl ?_
  refine ⟨[x], false, _, 1, hide rfl, rfl, hide ⟨Nat.le_refl _, by simp [maxLen]⟩, hide fun _ => ⟨_, rfl, by omega, ⟨#[.int .u8 x], by simpa using heap_alloc_new (w.alloc _) _, fun i hi => ?_⟩⟩, by (repeat (first | exact Below.refl _ _ | assumption | refine Below.setCell ?_ (by first | (simp; done) | (simp; omega) | omega) _ | refine Below.alloc ?_ (by first | (simp; done) | (simp; omega) | omega) _ | refine below_drewN ?_ _ | refine Below.drew ?_))⟩
  obtain rfl : i = 0 := by simpa using hi
  rfl
theorem counted_any (A : Option Addr) (a : List Int) (c : Nat) (s : Bool) (w0 w : World) (ha : a.length ≤ 4096) (hca : Hid (a.length ≤ c ∧ c ≤ maxLen)) (hA : RQ w0 A a) (h0 : Below w0.heap.size w0 w) :
    Calls Tryz.prog 101 #[.agg #[.slice A a.length c, .bool s]] w (RetK (· = cnt ⟨a, s⟩) w0 w) := by
  have HA := hide (hA.below h0)
  have HA0 := hide hA
  have H0 := hide h0
  clear hA h0
  obtain ⟨r, hr⟩ : ∃ r, r = chk a := ⟨_, rfl⟩
  have hcall := hide fun W (hB : Below w.heap.size w W) => check_any A a c s W ha (HA.out.below hB)
  rw [← hr] at hcall
  by_cases h0 : r = 0
  · have HC := hide (show (⟨a, s⟩ : Vc) = cnt ⟨a, s⟩ by unfold cnt; rw [if_pos (hr.symm.trans h0)])
    subst h0
    clear hr
    go_enter Tryz.func101, Tryz.ntmps101
    go_wp2_with fail
    refine (hcall.out _ belo).mono ?_
    rintro e w1 ⟨rfl, hb⟩
    have hB1 : Below w.heap.size w w1 := Below.trans belo (hb.mono as4)
    obtain ⟨kc1, kf1⟩ := bcell hb
    have hz1 := hb.size
    (try simp at hz1)
    have n1_0 : w.heap.size < w1.heap.size := by omega
    have n1_1 : w.heap.size + 1 < w1.heap.size := by omega
    clear hb
    go_wp2
    refine bodyPost_ret (v := .agg #[.slice A a.length c, .bool s]) (by simp [results, Tryz.results101, go_sem, *]) rfl ?_
    exact ⟨a, s, A, c, HC, rfl, hca, hide ((HA0.out.rg (Nat.le_refl _)).kept (H0.out.trans (Below.mono (w := w) belo H0.out.size))), belo⟩
  · have HC := hide (show sgl 2 = cnt ⟨a, s⟩ by unfold cnt; rw [if_neg (by rw [← hr]; exact h0)]; rfl)
    clear hr
    go_enter Tryz.func101, Tryz.ntmps101
    go_wp2_with fail
    refine (hcall.out _ belo).mono ?_
    rintro e w1 ⟨rfl, hb⟩
    have hB1 : Below w.heap.size w w1 := Below.trans belo (hb.mono as4)
    obtain ⟨kc1, kf1⟩ := bcell hb
    have hz1 := hb.size
    (try simp at hz1)
    have n1_0 : w.heap.size < w1.heap.size := by omega
    have n1_1 : w.heap.size + 1 < w1.heap.size := by omega
    clear hb
    go_wp2_with fail
    refine (single_any _ _).mono ?_
    rintro e w2 ⟨l, t, B, d, hl, rfl, hd, ho, hb⟩
    have hB2 : Below w.heap.size w w2 := Below.trans belo (hb.mono as4)
    obtain ⟨kc2, kf2⟩ := bcell hb
    have hz2 := hb.size
    (try simp at hz2)
    have n2_0 : w.heap.size < w2.heap.size := by omega
    have n2_1 : w.heap.size + 1 < w2.heap.size := by omega
    clear hb
    go_wp2
    refine bodyPost_ret (v := .agg #[.slice B l.length d, .bool t]) (by simp [results, Tryz.results101, go_sem, *]) rfl ?_
    exact ⟨l, t, B, d, hide (hl.out.trans HC.out), rfl, hd, hide (OwQ.rg (OwQ.far (OwQ.far ho.out (by simp; omega) _) (by simp; omega) _) (by omega)), belo⟩
theorem known_any (A : Option Addr) (a : List Int) (c : Nat) (w : World) (ha : a.length ≤ 4096) (hA : RQ w A a) :
    Calls Tryz.prog 116 #[.slice A a.length c] w fun e w' => e = .returned (.bool (kn a)) ∧ w = w' := by
  have hcall := hide (containsf_q _ _ tells_unknown A a c w ha hA)
  rw [any_kn] at hcall
  clear hA
  go_enter Tryz.func116, Tryz.ntmps116
  go_wp2_with (refine (hcall.out).mono ?_; rintro e w' ⟨rfl, rfl⟩)
  go_ret
  exact ⟨by simp, rfl⟩
set_option maxHeartbeats 1000000 in
theorem number_any (A : Option Addr) (a : List Int) (c : Nat) (w : World) (ha : a.length ≤ 4096) (hA : RQ w A a) :
    Calls Tryz.prog 117 #[.slice A a.length c] w (MkV (nb a) w) := by
  have HA := hide hA
  clear hA
  go_enter Tryz.func117, Tryz.ntmps117
  go_wp2_with (at_make; refine wpList_make_bv _ rfl _ _ rfl _ _ a.length rfl rfl rfl rfl ha ?_; intro w1 hr1 hb1 hz1)
  go_loopw [11] (fun i wr => ∃ k : Nat, k ≤ a.length ∧ i = .int .i64 k ∧ FillR w a.length k (fun i => decide (qt a i = 1)) wr) (fun i _ => a.length - (intOf i).toNat)
  case atStart => exact ⟨0, Nat.zero_le _, rfl, FillR.start hr1 hb1⟩
  case round =>
    obtain ⟨k, hk, rfl, hR⟩ := hrel
    clear hr1 hb1
    by_cases hlt : k < a.length
    · have hRH := hide hR
      have hcg : wr.cell? ⟨w.heap.size, k, none⟩ = some (.bool (Par k (fun i => decide (qt a i = 1)) k)) := hR.row.cell hlt
      have hf : wr.frozen? ⟨w.heap.size, k, none⟩ = false := hR.row.free _
      obtain ⟨ad, rfl, hlt1, hc⟩ := (HA.out.below hR.bel).at_ hlt
      clear hR
      go_wp2
      go_roundw
      case rel => exact ⟨k + 1, by omega, by go_num, hRH.out.step⟩
      case measure => simp [intOf]; omega
    · have hRH := hide hR
      clear hR
      go_wp2
      go_ret
      have e : k = a.length := by omega
      subst e
      exact FillR.done (c := 0) hRH.out rfl ha
end
section
open Go.RowKit
set_option maxRecDepth 100000
set_option linter.unusedSimpArgs false
set_option linter.unusedVariables false
theorem extension_any (A : Option Addr) (a : List Int) (c : Nat) (s : Bool) (w0 w : World) (h1 : 0 < a.length) (ha : a.length ≤ 4096) (hA : RQ w A a) :
    Calls Tryz.prog 141 #[.agg #[.slice A a.length c, .bool s]] w (Mk (.int .u8 (xt ⟨a, s⟩)) w) := by
  obtain ⟨ad, rfl, hb, hc⟩ := hA.at_ (i := a.length - 1) (by omega)
  clear hA
  have e : xt ⟨a, s⟩ = if s then qt a (a.length - 1) else 0 := rfl
  rw [e]
  clear e
  obtain ⟨n, hn⟩ : ∃ n, a.length = n + 1 := ⟨a.length - 1, by omega⟩
  have hm : n ≤ 4096 := by omega
  rw [hn] at hc ⊢
  simp only [Nat.add_sub_cancel] at hc ⊢
  generalize qt a n = v at *
  clear hn ha h1
  have HB := hide hb
  cases s
  · go_enter Tryz.func141, Tryz.ntmps141
    go_wp2
    go_ret
    exact ⟨rfl, (Below.refl _ _).alloc (Nat.le_refl _) _⟩
  · go_enter Tryz.func141, Tryz.ntmps141
    have hc2 : (w.alloc (.cells #[.slice (some ad) (n + 1) c, .bool true] 24)).cell? (ad.add n) = some (.int .u8 v) := ((Below.refl w.heap.size w).alloc (Nat.le_refl _) _).cell (p := ad.add n) (by rw [block_of_add]; exact hb) |>.trans hc
    go_wp2
    go_ret
    exact ⟨rfl, (Below.refl _ _).alloc (Nat.le_refl _) _⟩
theorem FillQ.step2 {w wr : World} {n k : Nat} {f : Nat → Int} (h : FillQ w n k f wr) (u : Int) : FillQ w n (k + 1) f ((wr.setCell ⟨w.heap.size, k, none⟩ (.int .u8 u)).setCell ⟨w.heap.size, k, none⟩ (.int .u8 (f k))) where
  row := ((h.row.set_ k _).set_ k _).congr fun j _ => by
    rw [← ParQ.step k f j]
    by_cases e : j = k <;> simp [e]
  bel := (h.bel.setCell (by simp) _).setCell (by simp) _
set_option maxHeartbeats 1000000 in
theorem window_any (A : Option Addr) (a : List Int) (c n : Nat) (lo f : Int) (w : World) (ha : a.length ≤ 4096) (hn : n ≤ 4096) (h1 : -9223372036854775808 ≤ lo) (h2 : lo + n ≤ 9223372036854775808) (hA : RQ w A a) :
    Calls Tryz.prog 106 #[.slice A a.length c, .int .i64 lo, .int .i64 n, .int .u8 f] w (MkQ (wdw a lo n f) w) := by
  have HA := hide hA
  clear hA
  obtain ⟨F, hF⟩ : ∃ F : Nat → Int, F = fun (i : Nat) => if 0 ≤ lo + i ∧ lo + i < a.length then qt a (lo + i).toNat else f := ⟨_, rfl⟩
  have HF := hide hF
  clear hF
  have HE : Hid (wdw a lo n f = ql n F) := hide (by rw [HF.out]; rfl)
  go_enter Tryz.func106, Tryz.ntmps106
  go_wp2_with (at_make; refine wpList_make_q _ rfl _ _ rfl _ _ n rfl rfl rfl rfl hn ?_; intro w1 hr1 hb1 hz1)
  go_loopw [16] (fun i wr => ∃ k : Nat, k ≤ n ∧ i = .int .i64 k ∧ FillQ w n k F wr) (fun i _ => n - (intOf i).toNat)
  case atStart => exact ⟨0, Nat.zero_le _, rfl, FillQ.start hr1 hb1⟩
  case round =>
    obtain ⟨k, hk, rfl, hR⟩ := hrel
    clear hr1 hb1
    by_cases hlt : k < n
    · have hRH := hide hR
      have hcg : wr.cell? ⟨w.heap.size, k, none⟩ = some (.int .u8 (ParQ k F k)) := hR.row.cell hlt
      have hf : wr.frozen? ⟨w.heap.size, k, none⟩ = false := hR.row.free _
      have hb3 : -9223372036854775808 ≤ lo + k := by omega
      have hb4 : lo + k ≤ 9223372036854775807 := by omega
      by_cases hin : 0 ≤ lo + k ∧ lo + k < a.length
      · obtain ⟨ad, rfl, hlt1, hc0⟩ := HA.out.at_ (i := (lo + k).toNat) (by omega)
        have hc : (wr.setCell ⟨w.heap.size, k, none⟩ (.int .u8 f)).cell? (ad.add (lo + k).toNat) = some (.int .u8 (qt a (lo + k).toNat)) := ((hR.bel.setCell (by simp) _).cell (p := ad.add (lo + k).toNat) (by rw [block_of_add]; exact hlt1)).trans hc0
        have hval : Hid (F k = qt a (lo + k).toNat) := hide (by rw [HF.out]; exact if_pos hin)
        clear hR
        obtain ⟨h5, h6⟩ := hin
        go_wp2
        go_roundw
        case rel => exact ⟨k + 1, by omega, by go_num, by rw [← hval.out]; exact hRH.out.step2 f⟩
        case measure => simp [intOf]; omega
      · have hval : Hid (F k = f) := hide (by rw [HF.out]; exact if_neg hin)
        clear hR
        rcases (show lo + (k : Int) < 0 ∨ (0 ≤ lo + (k : Int) ∧ (a.length : Int) ≤ lo + k) by omega) with h5 | ⟨h5, h6⟩
        all_goals
          clear hin
          go_wp2
          go_roundw
          case rel => exact ⟨k + 1, by omega, by go_num, by rw [← hval.out]; exact hRH.out.step⟩
          case measure => simp [intOf]; omega
    · have hRH := hide hR
      clear hR
      go_wp2
      go_ret
      have e : k = n := by omega
      subst e
      exact FillQ.done (c := 0) hRH.out HE.out hn
section
variable {w W w' : World} {g g2 : Nat} {x y x2 y2 : Value}
theorem k1_bel (h : Below w.heap.size w W ∧ g < W.heap.size ∧ W.cell? ⟨g, 0, none⟩ = some x ∧ W.cell? ⟨g, 1, none⟩ = some y) : Below w.heap.size w W := h.1
theorem k1_call (h : Below w.heap.size w W ∧ g < W.heap.size ∧ W.cell? ⟨g, 0, none⟩ = some x ∧ W.cell? ⟨g, 1, none⟩ = some y) (hb : Below W.heap.size W w') : Below w.heap.size w w' ∧ g < w'.heap.size ∧ w'.cell? ⟨g, 0, none⟩ = some x ∧ w'.cell? ⟨g, 1, none⟩ = some y := by
  obtain ⟨h0, h1, h2, h3⟩ := h
  exact ⟨h0.trans (hb.mono h0.size), Nat.lt_of_lt_of_le h1 hb.size, (hb.cell (p := ⟨g, 0, none⟩) h1).trans h2, (hb.cell (p := ⟨g, 1, none⟩) h1).trans h3⟩
end
theorem resized_any (A : Option Addr) (a : List Int) (c n : Nat) (s : Bool) (w : World) (h1 : 0 < a.length) (ha : a.length ≤ 4096) (hn : n ≤ 4096) (hA : RQ w A a) :
    Calls Tryz.prog 102 #[.agg #[.slice A a.length c, .bool s], .int .i64 n] w (MkQ (rsz ⟨a, s⟩ n) w) := by
  have HA := hide hA
  have HX := hide (rsz_wdw ⟨a, s⟩ n)
  clear hA
  go_enter Tryz.func102, Tryz.ntmps102
  go_wp2_with fail
  go_region_held3 (fun w' => Below w.heap.size w w' ∧ w.heap.size < w'.heap.size ∧ w'.cell? ⟨w.heap.size, 0, none⟩ = some (.slice A a.length c) ∧ w'.cell? ⟨w.heap.size, 1, none⟩ = some (.bool s))
    (first
      | exact ⟨by (repeat (first | exact Below.refl _ _ | assumption | refine Below.setCell ?_ as3 _ | refine Below.alloc ?_ as3 _ | refine below_drewN ?_ _ | refine Below.drew ?_)), by simp, by simp, by simp⟩
      | exact k1_call (by assumption) hb)
    (first
      | (go_at_call 141; (with_reducible refine (extension_any A a c s w _ h1 ha (HA.out.below (k1_bel (by assumption)))).mono ?_); rintro e wz ⟨rfl, hb⟩; have hz9 := hb.size; (try simp at hz9))
      | (go_at_call 106; (with_reducible refine (window_any A a c n 0 _ _ ha hn (by omega) (by omega) (HA.out.below (k1_bel (by assumption)))).mono ?_); rintro e wz ⟨A2, c2, rfl, hc1, hc2, ho, hb⟩))
  go_wp2
  go_ret
  rw [← HX.out]
  exact ⟨A2, c2, rfl, hc1, hc2, ho.base (by omega), k1_bel (by assumption)⟩
end
section
open Go.RowKit
set_option maxRecDepth 100000
set_option linter.unusedSimpArgs false
set_option linter.unusedVariables false
def Sep (P Q : Option Addr) : Prop := ∀ g h, P = some ⟨g, 0, none⟩ → Q = some ⟨h, 0, none⟩ → g ≠ h
def RetB (a b : Vc) (w : World) (e : Ending) (w' : World) : Prop :=
  ∃ p P c q Q d, Hid (p = blA a b) ∧ Hid (q = blB a b) ∧ e = .returned (.tuple #[.slice P p.length c, .slice Q q.length d, .bool (sg a b)]) ∧ Hid (p.length ≤ c ∧ c ≤ maxLen) ∧ Hid (q.length ≤ d ∧ d ≤ maxLen) ∧ Hid (OwQ w.heap.size w' P p) ∧ Hid (OwQ w.heap.size w' Q q) ∧ Hid (Sep P Q) ∧ Below w.heap.size w w'
theorem RG.lower {B0 B1 B2 : Nat} {w : World} {A : Option Addr} {l : List Int} (h : RG B0 B1 w A l) (h2 : B2 ≤ B1) : RG B0 B2 w A l := fun hn => by
  obtain ⟨ad, e, hl, hg, hc⟩ := h hn
  exact ⟨ad, e, hl, by omega, hc⟩
set_option maxHeartbeats 2000000 in
theorem balance_any (A B : Option Addr) (a b : List Int) (c d : Nat) (s t : Bool) (w : World) (ha : a.length ≤ 4096) (hb : b.length ≤ 4096) (hca : Hid (a.length ≤ c ∧ c ≤ maxLen)) (hcb : Hid (b.length ≤ d ∧ d ≤ maxLen)) (hA : RQ w A a) (hB : RQ w B b) (ya : By a) (yb : By b) :
    Calls Tryz.prog 164 #[.agg #[.slice A a.length c, .bool s], .agg #[.slice B b.length d, .bool t]] w (RetB ⟨a, s⟩ ⟨b, t⟩ w) := by
  have HA := hide hA
  have HBB := hide hB
  have LA := hide ha
  have LB := hide hb
  clear hA hB ha hb
  go_enter Tryz.func164, Tryz.ntmps164
  go_wp2_with fail
  obtain ⟨W1, hW1⟩ : ∃ x, x = ((w.alloc (Obj.cells #[Value.slice A a.length c, Value.bool s] 24)).alloc (Obj.cells #[Value.slice B b.length d, Value.bool t] 24)) := ⟨_, rfl⟩
  rw [← hW1]
  have hBW1 : Below w.heap.size w W1 := by rw [hW1]; exact belo
  have qW1_0 : W1.cell? ⟨w.heap.size, 0, none⟩ = some (Value.slice A a.length c) := by rw [hW1]; simp [go_sem]
  have fW1_0 : W1.frozen? ⟨w.heap.size, 0, none⟩ = false := by rw [hW1]; simp [go_sem]
  have qW1_1 : W1.cell? ⟨w.heap.size, 1, none⟩ = some (Value.bool s) := by rw [hW1]; simp [go_sem]
  have fW1_1 : W1.frozen? ⟨w.heap.size, 1, none⟩ = false := by rw [hW1]; simp [go_sem]
  have qW1_2 : W1.cell? ⟨w.heap.size + 1, 0, none⟩ = some (Value.slice B b.length d) := by rw [hW1]; simp [go_sem]
  have fW1_2 : W1.frozen? ⟨w.heap.size + 1, 0, none⟩ = false := by rw [hW1]; simp [go_sem]
  have qW1_3 : W1.cell? ⟨w.heap.size + 1, 1, none⟩ = some (Value.bool t) := by rw [hW1]; simp [go_sem]
  have fW1_3 : W1.frozen? ⟨w.heap.size + 1, 1, none⟩ = false := by rw [hW1]; simp [go_sem]
  have zW1_0 : w.heap.size < W1.heap.size := by rw [hW1]; first | (simp; done) | (simp; omega)
  have zW1_1 : w.heap.size + 1 < W1.heap.size := by rw [hW1]; first | (simp; done) | (simp; omega)
  clear hW1
  refine region_anyT (S := fun wS => Below W1.heap.size W1 wS) (n := 4) kr (Below.refl _ _).drew (fun hS inv => ?_)
  refine anyT_take (i := 0) (oi := _) (v := Value.agg #[Value.slice A a.length c, Value.bool s]) rfl kr kr kr (by decide) (by decide) kr kr inv (fun _ _ _ h => h) (Or.inl ⟨kr, ?_⟩) hS (fun inv => ?_)
  · intro wz hSw
    have hk0 := (hSw : Below _ _ _).cell (p := ⟨w.heap.size, 0, none⟩) as0; have hk1 := (hSw : Below _ _ _).cell (p := ⟨w.heap.size, 1, none⟩) as0; go_simp
  (try simp only [Act.put, q2, q3, q4, q5, q6, q7])
  refine anyT_take (i := 2) (oi := _) (v := Value.agg #[Value.slice B b.length d, Value.bool t]) rfl kr kr kr (by decide) (by decide) kr kr inv (fun _ _ _ h => h) (Or.inl ⟨kr, ?_⟩) hS (fun inv => ?_)
  · intro wz hSw
    have hk0 := (hSw : Below _ _ _).cell (p := ⟨w.heap.size + 1, 0, none⟩) as0; have hk1 := (hSw : Below _ _ _).cell (p := ⟨w.heap.size + 1, 1, none⟩) as0; go_simp
  (try simp only [Act.put, q2, q3, q4, q5, q6, q7])
  refine anyT_ready (rs := [1]) kr (by simp) ?_
  refine ReadyT.head (o := _) rfl (by decide) kr inv (fun K hK => ?_) ReadyT.nil
  go_simp
  refine (counted_any A a c s w _ LA.out hca HA.out belo).mono ?_
  rintro e D1 ⟨l1, s1, A1, c1, E1, rfl, C1, O1, hb⟩
  go_wp2_with fail
  refine hK.out _ _ ?_ (fun hS inv => ?_)
  · exact (hS : Below W1.heap.size W1 _).trans (hb.mono (Below.size hS))
  clear hK K
  (try simp only [Act.put, q2, q3, q4, q5, q6, q7])
  have hBD1 : Below w.heap.size w D1 := Below.trans belo (hb.mono (by first | omega | (simp; omega)))
  have hzD1 : W1.heap.size ≤ D1.heap.size := hb.size
  clear hb
  refine anyT_ready (rs := [3]) kr (by simp) ?_
  refine ReadyT.head (o := _) rfl (by decide) kr inv (fun K hK => ?_) ReadyT.nil
  go_simp
  refine (counted_any B b d t w _ LB.out hcb HBB.out belo).mono ?_
  rintro e D2 ⟨l2, s2, A2, c2, E2, rfl, C2, O2, hb⟩
  go_wp2_with fail
  refine hK.out _ _ ?_ (fun hS inv => ?_)
  · exact (hS : Below W1.heap.size W1 _).trans (hb.mono (Below.size hS))
  clear hK K
  (try simp only [Act.put, q2, q3, q4, q5, q6, q7])
  have hBD2 : Below w.heap.size w D2 := Below.trans belo (hb.mono (by first | omega | (simp; omega)))
  have hzD2 : D1.heap.size ≤ D2.heap.size := hb.size
  replace O1 := hide (O1.out.kept hb)
  obtain ⟨kcD, kfD⟩ := bcell (hS : Below W1.heap.size W1 D2)
  clear hb
  refine anyT_ready (rs := [4]) kr (by simp) ?_
  refine ReadyT.tail (o := _) rfl (by decide) (fun K hK => ?_)
  go_simp
  refine hK.out _ _ ?_
  clear hK K
  (try simp only [Act.put, q2, q3, q4, q5, q6, q7])
  refine anyT_ready (rs := [5]) kr (by simp) ?_
  refine ReadyT.tail (o := _) rfl (by decide) (fun K hK => ?_)
  go_simp
  refine hK.out _ _ ?_
  clear hK K
  (try simp only [Act.put, q2, q3, q4, q5, q6, q7])
  refine anyT_done kr ?_ _
  go_wp2_with fail
  · have hsg : sg ⟨a, s⟩ ⟨b, t⟩ = s2 := by unfold sg; rw [← E1.out, ← E2.out]; simp [*]
    have hwd : wd ⟨a, s⟩ ⟨b, t⟩ = l2.length := by unfold wd; rw [← E1.out, ← E2.out]; show max l1.length l2.length = _; omega
    have L1 : 0 < l1.length ∧ l1.length ≤ 128 := by have h := cnt_gd (v := ⟨a, s⟩) ya; rw [← E1.out] at h; exact ⟨h.pos, h.le⟩
    have L2 : 0 < l2.length ∧ l2.length ≤ 128 := by have h := cnt_gd (v := ⟨b, t⟩) yb; rw [← E2.out] at h; exact ⟨h.pos, h.le⟩
    have X1 := hide (show rsz ⟨l1, s2⟩ l2.length = blA ⟨a, s⟩ ⟨b, t⟩ by unfold blA; rw [hsg, hwd, ← E1.out])
    have X2 := hide (show rsz ⟨l2, s2⟩ l2.length = blB ⟨a, s⟩ ⟨b, t⟩ by unfold blB; rw [hsg, hwd, ← E2.out])
    have HSG := hide hsg
    clear hsg hwd
    replace O1 := hide (O1.out)
    have P1 : RG w.heap.size W1.heap.size D2 A1 l1 := O1.out
    have P2 : RG w.heap.size W1.heap.size D2 A2 l2 := RG.lower O2.out (by omega)
    obtain ⟨V, hV⟩ : ∃ x, x = ((((((D2.setCell ⟨w.heap.size, 0, none⟩ (Value.slice A1 l1.length c1)).setCell ⟨w.heap.size, 1, none⟩ (Value.bool true)).setCell ⟨w.heap.size + 1, 0, none⟩ (Value.slice A2 l2.length c2)).setCell ⟨w.heap.size + 1, 1, none⟩ (Value.bool s2)).setCell ⟨w.heap.size, 1, none⟩ (Value.bool s2)).setCell ⟨w.heap.size + 1, 1, none⟩ (Value.bool s2)) := ⟨_, rfl⟩
    rw [← hV]
    have Q1 := hide (show RG w.heap.size W1.heap.size V A1 l1 by rw [hV]; (repeat (first | with_reducible exact P1 | with_reducible refine RG.setc ?_ (by simp) (by simp; omega) _)))
    have Q2 := hide (show RG w.heap.size W1.heap.size V A2 l2 by rw [hV]; (repeat (first | with_reducible exact P2 | with_reducible refine RG.setc ?_ (by simp) (by simp; omega) _)))
    have hBV : Below w.heap.size w V := by rw [hV]; exact belo
    have q0 : V.cell? ⟨w.heap.size, 0, none⟩ = some (Value.slice A1 l1.length c1) := by rw [hV]; (repeat (first | with_reducible refine cset_eq' ?_ | with_reducible refine cset_ne (by simp) ?_ | with_reducible refine cset_ex ?_ | exact ⟨_, (kcD _ _ zW1_0).trans (by assumption)⟩ | exact ⟨_, (kcD _ _ zW1_1).trans (by assumption)⟩))
    have q1 : V.cell? ⟨w.heap.size, 1, none⟩ = some (Value.bool s2) := by rw [hV]; (repeat (first | with_reducible refine cset_eq' ?_ | with_reducible refine cset_ne (by simp) ?_ | with_reducible refine cset_ex ?_ | exact ⟨_, (kcD _ _ zW1_0).trans (by assumption)⟩ | exact ⟨_, (kcD _ _ zW1_1).trans (by assumption)⟩))
    have q2 : V.cell? ⟨w.heap.size + 1, 0, none⟩ = some (Value.slice A2 l2.length c2) := by rw [hV]; (repeat (first | with_reducible refine cset_eq' ?_ | with_reducible refine cset_ne (by simp) ?_ | with_reducible refine cset_ex ?_ | exact ⟨_, (kcD _ _ zW1_0).trans (by assumption)⟩ | exact ⟨_, (kcD _ _ zW1_1).trans (by assumption)⟩))
    have q3 : V.cell? ⟨w.heap.size + 1, 1, none⟩ = some (Value.bool s2) := by rw [hV]; (repeat (first | with_reducible refine cset_eq' ?_ | with_reducible refine cset_ne (by simp) ?_ | with_reducible refine cset_ex ?_ | exact ⟨_, (kcD _ _ zW1_0).trans (by assumption)⟩ | exact ⟨_, (kcD _ _ zW1_1).trans (by assumption)⟩))
    have z0 : w.heap.size < V.heap.size := by rw [hV]; simp; omega
    have z1 : w.heap.size + 1 < V.heap.size := by rw [hV]; simp; omega
    clear hV P1 P2 kcD kfD
    refine region_anyT (S := fun wS => Below V.heap.size V wS) (n := 9) kr (Below.refl _ _).drew (fun hS inv => ?_)
    refine anyT_take (i := 0) (oi := _) (v := Value.agg #[Value.slice A1 l1.length c1, Value.bool s2]) rfl kr kr kr (by decide) (by decide) kr kr inv (fun _ _ _ h => h) (Or.inl ⟨kr, ?_⟩) hS (fun inv => ?_)
    · intro wz hSw
      have hk0 := (hSw : Below _ _ _).cell (p := ⟨w.heap.size, 0, none⟩) as0; have hk1 := (hSw : Below _ _ _).cell (p := ⟨w.heap.size, 1, none⟩) as0; go_simp
    (try simp only [Act.put, q2, q3, q4, q5, q6, q7])
    refine anyT_take (i := 1) (oi := _) (v := Value.int IntKind.i64 ↑l2.length) rfl kr kr kr (by decide) (by decide) kr kr inv (fun _ _ _ h => h) (Or.inl ⟨kr, ?_⟩) hS (fun inv => ?_)
    · intro wz hSw
      first | kernel_rfl | go_simp
    (try simp only [Act.put, q2, q3, q4, q5, q6, q7])
    refine anyT_take (i := 3) (oi := _) (v := Value.agg #[Value.slice A2 l2.length c2, Value.bool s2]) rfl kr kr kr (by decide) (by decide) kr kr inv (fun _ _ _ h => h) (Or.inl ⟨kr, ?_⟩) hS (fun inv => ?_)
    · intro wz hSw
      have hk0 := (hSw : Below _ _ _).cell (p := ⟨w.heap.size + 1, 0, none⟩) as0; have hk1 := (hSw : Below _ _ _).cell (p := ⟨w.heap.size + 1, 1, none⟩) as0; go_simp
    (try simp only [Act.put, q2, q3, q4, q5, q6, q7])
    refine anyT_take (i := 4) (oi := _) (v := Value.int IntKind.i64 ↑l2.length) rfl kr kr kr (by decide) (by decide) kr kr inv (fun _ _ _ h => h) (Or.inl ⟨kr, ?_⟩) hS (fun inv => ?_)
    · intro wz hSw
      first | kernel_rfl | go_simp
    (try simp only [Act.put, q2, q3, q4, q5, q6, q7])
    refine anyT_take (i := 6) (oi := _) (v := Value.bool s2) rfl kr kr kr (by decide) (by decide) kr kr inv (fun _ _ _ h => h) (Or.inl ⟨kr, ?_⟩) hS (fun inv => ?_)
    · intro wz hSw
      first | kernel_rfl | go_simp
    (try simp only [Act.put, q2, q3, q4, q5, q6, q7])
    refine anyT_ready (rs := [2]) kr (by simp) ?_
    refine ReadyT.head (o := _) rfl (by decide) kr inv (fun K hK => ?_) ReadyT.nil
    go_simp
    refine (resized_any A1 l1 c1 l2.length s2 _ L1.1 (by omega) (by omega) (Q1.out.drew.rd)).mono ?_
    rintro e G1 ⟨P1, d1, rfl, e1, g1, o1, hb⟩
    go_wp2_with fail
    refine hK.out _ _ ?_ (fun hS inv => ?_)
    · exact (hS : Below V.heap.size V _).trans (hb.mono (Below.size hS))
    clear hK K
    (try simp only [Act.put, q2, q3, q4, q5, q6, q7])
    have hBG1 : Below w.heap.size w G1 := Below.trans belo (hb.mono (by first | omega | (simp; omega)))
    have hzG1 : V.heap.size ≤ G1.heap.size := hb.size
    replace Q2 := hide (Q2.out.drew.kept hb)
    clear hb
    refine anyT_ready (rs := [5]) kr (by simp) ?_
    refine ReadyT.head (o := _) rfl (by decide) kr inv (fun K hK => ?_) ReadyT.nil
    go_simp
    refine (resized_any A2 l2 c2 l2.length s2 _ L2.1 (by omega) (by omega) (Q2.out.rd)).mono ?_
    rintro e G2 ⟨P2, d2, rfl, e2, g2, o2, hb⟩
    go_wp2_with fail
    refine hK.out _ _ ?_ (fun hS inv => ?_)
    · exact (hS : Below V.heap.size V _).trans (hb.mono (Below.size hS))
    clear hK K
    (try simp only [Act.put, q2, q3, q4, q5, q6, q7])
    have hBG2 : Below w.heap.size w G2 := Below.trans belo (hb.mono (by first | omega | (simp; omega)))
    have hzG2 : G1.heap.size ≤ G2.heap.size := hb.size
    have HS : Hid (Sep P1 P2) := hide fun g h e1 e2 => by
      obtain ⟨g1, x1, _, x2⟩ := o1.lt (by rw [rsz_length]; omega)
      obtain ⟨g2, y1, y2, _⟩ := o2.lt (by rw [rsz_length]; omega)
      have := x1.symm.trans e1; have := y1.symm.trans e2; simp only [Option.some.injEq, Addr.mk.injEq] at *; omega
    replace o1 := hide (OwQ.kept o1 hb)
    clear hb
    refine anyT_take (i := 7) (oi := _) (v := Value.slice P1 (rsz ⟨l1, s2⟩ l2.length).length d1) rfl kr kr kr (by decide) (by decide) kr kr inv (fun _ _ _ h => h) (Or.inl ⟨kr, ?_⟩) hS (fun inv => ?_)
    · intro wz hSw
      first | kernel_rfl | go_simp
    (try simp only [Act.put, q2, q3, q4, q5, q6, q7])
    refine anyT_take (i := 8) (oi := _) (v := Value.slice P2 (rsz ⟨l2, s2⟩ l2.length).length d2) rfl kr kr kr (by decide) (by decide) kr kr inv (fun _ _ _ h => h) (Or.inl ⟨kr, ?_⟩) hS (fun inv => ?_)
    · intro wz hSw
      first | kernel_rfl | go_simp
    (try simp only [Act.put, q2, q3, q4, q5, q6, q7])
    refine anyT_ready (rs := [9]) kr (by simp) ?_
    refine ReadyT.tail (o := _) rfl (by decide) (fun K hK => ?_)
    go_simp
    refine hK.out _ _ ?_
    clear hK K
    (try simp only [Act.put, q2, q3, q4, q5, q6, q7])
    refine anyT_done kr ?_ _
    go_wp2
    go_ret3
    exact ⟨rsz ⟨l1, s2⟩ l2.length, P1, d1, rsz ⟨l2, s2⟩ l2.length, P2, d2, X1, X2, by rw [HSG.out]; rfl, hide ⟨e1, g1⟩, hide ⟨e2, g2⟩, hide (o1.out.base (Nat.le_of_lt (show w.heap.size < V.drew.heap.size from z0))), hide (o2.base (by omega)), HS, hBG2⟩
  · have hsg : sg ⟨a, s⟩ ⟨b, t⟩ = s2 := by unfold sg; rw [← E1.out, ← E2.out]; simp [*]
    have hwd : wd ⟨a, s⟩ ⟨b, t⟩ = l1.length := by unfold wd; rw [← E1.out, ← E2.out]; show max l1.length l2.length = _; omega
    have L1 : 0 < l1.length ∧ l1.length ≤ 128 := by have h := cnt_gd (v := ⟨a, s⟩) ya; rw [← E1.out] at h; exact ⟨h.pos, h.le⟩
    have L2 : 0 < l2.length ∧ l2.length ≤ 128 := by have h := cnt_gd (v := ⟨b, t⟩) yb; rw [← E2.out] at h; exact ⟨h.pos, h.le⟩
    have X1 := hide (show rsz ⟨l1, s2⟩ l1.length = blA ⟨a, s⟩ ⟨b, t⟩ by unfold blA; rw [hsg, hwd, ← E1.out])
    have X2 := hide (show rsz ⟨l2, s2⟩ l1.length = blB ⟨a, s⟩ ⟨b, t⟩ by unfold blB; rw [hsg, hwd, ← E2.out])
    have HSG := hide hsg
    clear hsg hwd
    replace O1 := hide (O1.out)
    have P1 : RG w.heap.size W1.heap.size D2 A1 l1 := O1.out
    have P2 : RG w.heap.size W1.heap.size D2 A2 l2 := RG.lower O2.out (by omega)
    obtain ⟨V, hV⟩ : ∃ x, x = ((((((D2.setCell ⟨w.heap.size, 0, none⟩ (Value.slice A1 l1.length c1)).setCell ⟨w.heap.size, 1, none⟩ (Value.bool true)).setCell ⟨w.heap.size + 1, 0, none⟩ (Value.slice A2 l2.length c2)).setCell ⟨w.heap.size + 1, 1, none⟩ (Value.bool s2)).setCell ⟨w.heap.size, 1, none⟩ (Value.bool s2)).setCell ⟨w.heap.size + 1, 1, none⟩ (Value.bool s2)) := ⟨_, rfl⟩
    rw [← hV]
    have Q1 := hide (show RG w.heap.size W1.heap.size V A1 l1 by rw [hV]; (repeat (first | with_reducible exact P1 | with_reducible refine RG.setc ?_ (by simp) (by simp; omega) _)))
    have Q2 := hide (show RG w.heap.size W1.heap.size V A2 l2 by rw [hV]; (repeat (first | with_reducible exact P2 | with_reducible refine RG.setc ?_ (by simp) (by simp; omega) _)))
    have hBV : Below w.heap.size w V := by rw [hV]; exact belo
    have q0 : V.cell? ⟨w.heap.size, 0, none⟩ = some (Value.slice A1 l1.length c1) := by rw [hV]; (repeat (first | with_reducible refine cset_eq' ?_ | with_reducible refine cset_ne (by simp) ?_ | with_reducible refine cset_ex ?_ | exact ⟨_, (kcD _ _ zW1_0).trans (by assumption)⟩ | exact ⟨_, (kcD _ _ zW1_1).trans (by assumption)⟩))
    have q1 : V.cell? ⟨w.heap.size, 1, none⟩ = some (Value.bool s2) := by rw [hV]; (repeat (first | with_reducible refine cset_eq' ?_ | with_reducible refine cset_ne (by simp) ?_ | with_reducible refine cset_ex ?_ | exact ⟨_, (kcD _ _ zW1_0).trans (by assumption)⟩ | exact ⟨_, (kcD _ _ zW1_1).trans (by assumption)⟩))
    have q2 : V.cell? ⟨w.heap.size + 1, 0, none⟩ = some (Value.slice A2 l2.length c2) := by rw [hV]; (repeat (first | with_reducible refine cset_eq' ?_ | with_reducible refine cset_ne (by simp) ?_ | with_reducible refine cset_ex ?_ | exact ⟨_, (kcD _ _ zW1_0).trans (by assumption)⟩ | exact ⟨_, (kcD _ _ zW1_1).trans (by assumption)⟩))
    have q3 : V.cell? ⟨w.heap.size + 1, 1, none⟩ = some (Value.bool s2) := by rw [hV]; (repeat (first | with_reducible refine cset_eq' ?_ | with_reducible refine cset_ne (by simp) ?_ | with_reducible refine cset_ex ?_ | exact ⟨_, (kcD _ _ zW1_0).trans (by assumption)⟩ | exact ⟨_, (kcD _ _ zW1_1).trans (by assumption)⟩))
    have z0 : w.heap.size < V.heap.size := by rw [hV]; simp; omega
    have z1 : w.heap.size + 1 < V.heap.size := by rw [hV]; simp; omega
    clear hV P1 P2 kcD kfD
    refine region_anyT (S := fun wS => Below V.heap.size V wS) (n := 9) kr (Below.refl _ _).drew (fun hS inv => ?_)
    refine anyT_take (i := 0) (oi := _) (v := Value.agg #[Value.slice A1 l1.length c1, Value.bool s2]) rfl kr kr kr (by decide) (by decide) kr kr inv (fun _ _ _ h => h) (Or.inl ⟨kr, ?_⟩) hS (fun inv => ?_)
    · intro wz hSw
      have hk0 := (hSw : Below _ _ _).cell (p := ⟨w.heap.size, 0, none⟩) as0; have hk1 := (hSw : Below _ _ _).cell (p := ⟨w.heap.size, 1, none⟩) as0; go_simp
    (try simp only [Act.put, q2, q3, q4, q5, q6, q7])
    refine anyT_take (i := 1) (oi := _) (v := Value.int IntKind.i64 ↑l1.length) rfl kr kr kr (by decide) (by decide) kr kr inv (fun _ _ _ h => h) (Or.inl ⟨kr, ?_⟩) hS (fun inv => ?_)
    · intro wz hSw
      first | kernel_rfl | go_simp
    (try simp only [Act.put, q2, q3, q4, q5, q6, q7])
    refine anyT_take (i := 3) (oi := _) (v := Value.agg #[Value.slice A2 l2.length c2, Value.bool s2]) rfl kr kr kr (by decide) (by decide) kr kr inv (fun _ _ _ h => h) (Or.inl ⟨kr, ?_⟩) hS (fun inv => ?_)
    · intro wz hSw
      have hk0 := (hSw : Below _ _ _).cell (p := ⟨w.heap.size + 1, 0, none⟩) as0; have hk1 := (hSw : Below _ _ _).cell (p := ⟨w.heap.size + 1, 1, none⟩) as0; go_simp
    (try simp only [Act.put, q2, q3, q4, q5, q6, q7])
    refine anyT_take (i := 4) (oi := _) (v := Value.int IntKind.i64 ↑l1.length) rfl kr kr kr (by decide) (by decide) kr kr inv (fun _ _ _ h => h) (Or.inl ⟨kr, ?_⟩) hS (fun inv => ?_)
    · intro wz hSw
      first | kernel_rfl | go_simp
    (try simp only [Act.put, q2, q3, q4, q5, q6, q7])
    refine anyT_take (i := 6) (oi := _) (v := Value.bool s2) rfl kr kr kr (by decide) (by decide) kr kr inv (fun _ _ _ h => h) (Or.inl ⟨kr, ?_⟩) hS (fun inv => ?_)
    · intro wz hSw
      first | kernel_rfl | go_simp
    (try simp only [Act.put, q2, q3, q4, q5, q6, q7])
    refine anyT_ready (rs := [2]) kr (by simp) ?_
    refine ReadyT.head (o := _) rfl (by decide) kr inv (fun K hK => ?_) ReadyT.nil
    go_simp
    refine (resized_any A1 l1 c1 l1.length s2 _ L1.1 (by omega) (by omega) (Q1.out.drew.rd)).mono ?_
    rintro e G1 ⟨P1, d1, rfl, e1, g1, o1, hb⟩
    go_wp2_with fail
    refine hK.out _ _ ?_ (fun hS inv => ?_)
    · exact (hS : Below V.heap.size V _).trans (hb.mono (Below.size hS))
    clear hK K
    (try simp only [Act.put, q2, q3, q4, q5, q6, q7])
    have hBG1 : Below w.heap.size w G1 := Below.trans belo (hb.mono (by first | omega | (simp; omega)))
    have hzG1 : V.heap.size ≤ G1.heap.size := hb.size
    replace Q2 := hide (Q2.out.drew.kept hb)
    clear hb
    refine anyT_ready (rs := [5]) kr (by simp) ?_
    refine ReadyT.head (o := _) rfl (by decide) kr inv (fun K hK => ?_) ReadyT.nil
    go_simp
    refine (resized_any A2 l2 c2 l1.length s2 _ L2.1 (by omega) (by omega) (Q2.out.rd)).mono ?_
    rintro e G2 ⟨P2, d2, rfl, e2, g2, o2, hb⟩
    go_wp2_with fail
    refine hK.out _ _ ?_ (fun hS inv => ?_)
    · exact (hS : Below V.heap.size V _).trans (hb.mono (Below.size hS))
    clear hK K
    (try simp only [Act.put, q2, q3, q4, q5, q6, q7])
    have hBG2 : Below w.heap.size w G2 := Below.trans belo (hb.mono (by first | omega | (simp; omega)))
    have hzG2 : G1.heap.size ≤ G2.heap.size := hb.size
    have HS : Hid (Sep P1 P2) := hide fun g h e1 e2 => by
      obtain ⟨g1, x1, _, x2⟩ := o1.lt (by rw [rsz_length]; omega)
      obtain ⟨g2, y1, y2, _⟩ := o2.lt (by rw [rsz_length]; omega)
      have := x1.symm.trans e1; have := y1.symm.trans e2; simp only [Option.some.injEq, Addr.mk.injEq] at *; omega
    replace o1 := hide (OwQ.kept o1 hb)
    clear hb
    refine anyT_take (i := 7) (oi := _) (v := Value.slice P1 (rsz ⟨l1, s2⟩ l1.length).length d1) rfl kr kr kr (by decide) (by decide) kr kr inv (fun _ _ _ h => h) (Or.inl ⟨kr, ?_⟩) hS (fun inv => ?_)
    · intro wz hSw
      first | kernel_rfl | go_simp
    (try simp only [Act.put, q2, q3, q4, q5, q6, q7])
    refine anyT_take (i := 8) (oi := _) (v := Value.slice P2 (rsz ⟨l2, s2⟩ l1.length).length d2) rfl kr kr kr (by decide) (by decide) kr kr inv (fun _ _ _ h => h) (Or.inl ⟨kr, ?_⟩) hS (fun inv => ?_)
    · intro wz hSw
      first | kernel_rfl | go_simp
    (try simp only [Act.put, q2, q3, q4, q5, q6, q7])
    refine anyT_ready (rs := [9]) kr (by simp) ?_
    refine ReadyT.tail (o := _) rfl (by decide) (fun K hK => ?_)
    go_simp
    refine hK.out _ _ ?_
    clear hK K
    (try simp only [Act.put, q2, q3, q4, q5, q6, q7])
    refine anyT_done kr ?_ _
    go_wp2
    go_ret3
    exact ⟨rsz ⟨l1, s2⟩ l1.length, P1, d1, rsz ⟨l2, s2⟩ l1.length, P2, d2, X1, X2, by rw [HSG.out]; rfl, hide ⟨e1, g1⟩, hide ⟨e2, g2⟩, hide (o1.out.base (Nat.le_of_lt (show w.heap.size < V.drew.heap.size from z0))), hide (o2.base (by omega)), HS, hBG2⟩
  · have hsg : sg ⟨a, s⟩ ⟨b, t⟩ = false := by unfold sg; rw [← E1.out, ← E2.out]; simp [*]
    have hwd : wd ⟨a, s⟩ ⟨b, t⟩ = l2.length := by unfold wd; rw [← E1.out, ← E2.out]; show max l1.length l2.length = _; omega
    have L1 : 0 < l1.length ∧ l1.length ≤ 128 := by have h := cnt_gd (v := ⟨a, s⟩) ya; rw [← E1.out] at h; exact ⟨h.pos, h.le⟩
    have L2 : 0 < l2.length ∧ l2.length ≤ 128 := by have h := cnt_gd (v := ⟨b, t⟩) yb; rw [← E2.out] at h; exact ⟨h.pos, h.le⟩
    have X1 := hide (show rsz ⟨l1, false⟩ l2.length = blA ⟨a, s⟩ ⟨b, t⟩ by unfold blA; rw [hsg, hwd, ← E1.out])
    have X2 := hide (show rsz ⟨l2, false⟩ l2.length = blB ⟨a, s⟩ ⟨b, t⟩ by unfold blB; rw [hsg, hwd, ← E2.out])
    have HSG := hide hsg
    clear hsg hwd
    replace O1 := hide (O1.out)
    have P1 : RG w.heap.size W1.heap.size D2 A1 l1 := O1.out
    have P2 : RG w.heap.size W1.heap.size D2 A2 l2 := RG.lower O2.out (by omega)
    obtain ⟨V, hV⟩ : ∃ x, x = ((((((D2.setCell ⟨w.heap.size, 0, none⟩ (Value.slice A1 l1.length c1)).setCell ⟨w.heap.size, 1, none⟩ (Value.bool false)).setCell ⟨w.heap.size + 1, 0, none⟩ (Value.slice A2 l2.length c2)).setCell ⟨w.heap.size + 1, 1, none⟩ (Value.bool s2)).setCell ⟨w.heap.size, 1, none⟩ (Value.bool false)).setCell ⟨w.heap.size + 1, 1, none⟩ (Value.bool false)) := ⟨_, rfl⟩
    rw [← hV]
    have Q1 := hide (show RG w.heap.size W1.heap.size V A1 l1 by rw [hV]; (repeat (first | with_reducible exact P1 | with_reducible refine RG.setc ?_ (by simp) (by simp; omega) _)))
    have Q2 := hide (show RG w.heap.size W1.heap.size V A2 l2 by rw [hV]; (repeat (first | with_reducible exact P2 | with_reducible refine RG.setc ?_ (by simp) (by simp; omega) _)))
    have hBV : Below w.heap.size w V := by rw [hV]; exact belo
    have q0 : V.cell? ⟨w.heap.size, 0, none⟩ = some (Value.slice A1 l1.length c1) := by rw [hV]; (repeat (first | with_reducible refine cset_eq' ?_ | with_reducible refine cset_ne (by simp) ?_ | with_reducible refine cset_ex ?_ | exact ⟨_, (kcD _ _ zW1_0).trans (by assumption)⟩ | exact ⟨_, (kcD _ _ zW1_1).trans (by assumption)⟩))
    have q1 : V.cell? ⟨w.heap.size, 1, none⟩ = some (Value.bool false) := by rw [hV]; (repeat (first | with_reducible refine cset_eq' ?_ | with_reducible refine cset_ne (by simp) ?_ | with_reducible refine cset_ex ?_ | exact ⟨_, (kcD _ _ zW1_0).trans (by assumption)⟩ | exact ⟨_, (kcD _ _ zW1_1).trans (by assumption)⟩))
    have q2 : V.cell? ⟨w.heap.size + 1, 0, none⟩ = some (Value.slice A2 l2.length c2) := by rw [hV]; (repeat (first | with_reducible refine cset_eq' ?_ | with_reducible refine cset_ne (by simp) ?_ | with_reducible refine cset_ex ?_ | exact ⟨_, (kcD _ _ zW1_0).trans (by assumption)⟩ | exact ⟨_, (kcD _ _ zW1_1).trans (by assumption)⟩))
    have q3 : V.cell? ⟨w.heap.size + 1, 1, none⟩ = some (Value.bool false) := by rw [hV]; (repeat (first | with_reducible refine cset_eq' ?_ | with_reducible refine cset_ne (by simp) ?_ | with_reducible refine cset_ex ?_ | exact ⟨_, (kcD _ _ zW1_0).trans (by assumption)⟩ | exact ⟨_, (kcD _ _ zW1_1).trans (by assumption)⟩))
    have z0 : w.heap.size < V.heap.size := by rw [hV]; simp; omega
    have z1 : w.heap.size + 1 < V.heap.size := by rw [hV]; simp; omega
    clear hV P1 P2 kcD kfD
    refine region_anyT (S := fun wS => Below V.heap.size V wS) (n := 9) kr (Below.refl _ _).drew (fun hS inv => ?_)
    refine anyT_take (i := 0) (oi := _) (v := Value.agg #[Value.slice A1 l1.length c1, Value.bool false]) rfl kr kr kr (by decide) (by decide) kr kr inv (fun _ _ _ h => h) (Or.inl ⟨kr, ?_⟩) hS (fun inv => ?_)
    · intro wz hSw
      have hk0 := (hSw : Below _ _ _).cell (p := ⟨w.heap.size, 0, none⟩) as0; have hk1 := (hSw : Below _ _ _).cell (p := ⟨w.heap.size, 1, none⟩) as0; go_simp
    (try simp only [Act.put, q2, q3, q4, q5, q6, q7])
    refine anyT_take (i := 1) (oi := _) (v := Value.int IntKind.i64 ↑l2.length) rfl kr kr kr (by decide) (by decide) kr kr inv (fun _ _ _ h => h) (Or.inl ⟨kr, ?_⟩) hS (fun inv => ?_)
    · intro wz hSw
      first | kernel_rfl | go_simp
    (try simp only [Act.put, q2, q3, q4, q5, q6, q7])
    refine anyT_take (i := 3) (oi := _) (v := Value.agg #[Value.slice A2 l2.length c2, Value.bool false]) rfl kr kr kr (by decide) (by decide) kr kr inv (fun _ _ _ h => h) (Or.inl ⟨kr, ?_⟩) hS (fun inv => ?_)
    · intro wz hSw
      have hk0 := (hSw : Below _ _ _).cell (p := ⟨w.heap.size + 1, 0, none⟩) as0; have hk1 := (hSw : Below _ _ _).cell (p := ⟨w.heap.size + 1, 1, none⟩) as0; go_simp
    (try simp only [Act.put, q2, q3, q4, q5, q6, q7])
    refine anyT_take (i := 4) (oi := _) (v := Value.int IntKind.i64 ↑l2.length) rfl kr kr kr (by decide) (by decide) kr kr inv (fun _ _ _ h => h) (Or.inl ⟨kr, ?_⟩) hS (fun inv => ?_)
    · intro wz hSw
      first | kernel_rfl | go_simp
    (try simp only [Act.put, q2, q3, q4, q5, q6, q7])
    refine anyT_take (i := 6) (oi := _) (v := Value.bool false) rfl kr kr kr (by decide) (by decide) kr kr inv (fun _ _ _ h => h) (Or.inl ⟨kr, ?_⟩) hS (fun inv => ?_)
    · intro wz hSw
      first | kernel_rfl | go_simp
    (try simp only [Act.put, q2, q3, q4, q5, q6, q7])
    refine anyT_ready (rs := [2]) kr (by simp) ?_
    refine ReadyT.head (o := _) rfl (by decide) kr inv (fun K hK => ?_) ReadyT.nil
    go_simp
    refine (resized_any A1 l1 c1 l2.length false _ L1.1 (by omega) (by omega) (Q1.out.drew.rd)).mono ?_
    rintro e G1 ⟨P1, d1, rfl, e1, g1, o1, hb⟩
    go_wp2_with fail
    refine hK.out _ _ ?_ (fun hS inv => ?_)
    · exact (hS : Below V.heap.size V _).trans (hb.mono (Below.size hS))
    clear hK K
    (try simp only [Act.put, q2, q3, q4, q5, q6, q7])
    have hBG1 : Below w.heap.size w G1 := Below.trans belo (hb.mono (by first | omega | (simp; omega)))
    have hzG1 : V.heap.size ≤ G1.heap.size := hb.size
    replace Q2 := hide (Q2.out.drew.kept hb)
    clear hb
    refine anyT_ready (rs := [5]) kr (by simp) ?_
    refine ReadyT.head (o := _) rfl (by decide) kr inv (fun K hK => ?_) ReadyT.nil
    go_simp
    refine (resized_any A2 l2 c2 l2.length false _ L2.1 (by omega) (by omega) (Q2.out.rd)).mono ?_
    rintro e G2 ⟨P2, d2, rfl, e2, g2, o2, hb⟩
    go_wp2_with fail
    refine hK.out _ _ ?_ (fun hS inv => ?_)
    · exact (hS : Below V.heap.size V _).trans (hb.mono (Below.size hS))
    clear hK K
    (try simp only [Act.put, q2, q3, q4, q5, q6, q7])
    have hBG2 : Below w.heap.size w G2 := Below.trans belo (hb.mono (by first | omega | (simp; omega)))
    have hzG2 : G1.heap.size ≤ G2.heap.size := hb.size
    have HS : Hid (Sep P1 P2) := hide fun g h e1 e2 => by
      obtain ⟨g1, x1, _, x2⟩ := o1.lt (by rw [rsz_length]; omega)
      obtain ⟨g2, y1, y2, _⟩ := o2.lt (by rw [rsz_length]; omega)
      have := x1.symm.trans e1; have := y1.symm.trans e2; simp only [Option.some.injEq, Addr.mk.injEq] at *; omega
    replace o1 := hide (OwQ.kept o1 hb)
    clear hb
    refine anyT_take (i := 7) (oi := _) (v := Value.slice P1 (rsz ⟨l1, false⟩ l2.length).length d1) rfl kr kr kr (by decide) (by decide) kr kr inv (fun _ _ _ h => h) (Or.inl ⟨kr, ?_⟩) hS (fun inv => ?_)
    · intro wz hSw
      first | kernel_rfl | go_simp
    (try simp only [Act.put, q2, q3, q4, q5, q6, q7])
    refine anyT_take (i := 8) (oi := _) (v := Value.slice P2 (rsz ⟨l2, false⟩ l2.length).length d2) rfl kr kr kr (by decide) (by decide) kr kr inv (fun _ _ _ h => h) (Or.inl ⟨kr, ?_⟩) hS (fun inv => ?_)
    · intro wz hSw
      first | kernel_rfl | go_simp
    (try simp only [Act.put, q2, q3, q4, q5, q6, q7])
    refine anyT_ready (rs := [9]) kr (by simp) ?_
    refine ReadyT.tail (o := _) rfl (by decide) (fun K hK => ?_)
    go_simp
    refine hK.out _ _ ?_
    clear hK K
    (try simp only [Act.put, q2, q3, q4, q5, q6, q7])
    refine anyT_done kr ?_ _
    go_wp2
    go_ret3
    exact ⟨rsz ⟨l1, false⟩ l2.length, P1, d1, rsz ⟨l2, false⟩ l2.length, P2, d2, X1, X2, by rw [HSG.out]; rfl, hide ⟨e1, g1⟩, hide ⟨e2, g2⟩, hide (o1.out.base (Nat.le_of_lt (show w.heap.size < V.drew.heap.size from z0))), hide (o2.base (by omega)), HS, hBG2⟩
  · have hsg : sg ⟨a, s⟩ ⟨b, t⟩ = false := by unfold sg; rw [← E1.out, ← E2.out]; simp [*]
    have hwd : wd ⟨a, s⟩ ⟨b, t⟩ = l1.length := by unfold wd; rw [← E1.out, ← E2.out]; show max l1.length l2.length = _; omega
    have L1 : 0 < l1.length ∧ l1.length ≤ 128 := by have h := cnt_gd (v := ⟨a, s⟩) ya; rw [← E1.out] at h; exact ⟨h.pos, h.le⟩
    have L2 : 0 < l2.length ∧ l2.length ≤ 128 := by have h := cnt_gd (v := ⟨b, t⟩) yb; rw [← E2.out] at h; exact ⟨h.pos, h.le⟩
    have X1 := hide (show rsz ⟨l1, false⟩ l1.length = blA ⟨a, s⟩ ⟨b, t⟩ by unfold blA; rw [hsg, hwd, ← E1.out])
    have X2 := hide (show rsz ⟨l2, false⟩ l1.length = blB ⟨a, s⟩ ⟨b, t⟩ by unfold blB; rw [hsg, hwd, ← E2.out])
    have HSG := hide hsg
    clear hsg hwd
    replace O1 := hide (O1.out)
    have P1 : RG w.heap.size W1.heap.size D2 A1 l1 := O1.out
    have P2 : RG w.heap.size W1.heap.size D2 A2 l2 := RG.lower O2.out (by omega)
    obtain ⟨V, hV⟩ : ∃ x, x = ((((((D2.setCell ⟨w.heap.size, 0, none⟩ (Value.slice A1 l1.length c1)).setCell ⟨w.heap.size, 1, none⟩ (Value.bool false)).setCell ⟨w.heap.size + 1, 0, none⟩ (Value.slice A2 l2.length c2)).setCell ⟨w.heap.size + 1, 1, none⟩ (Value.bool s2)).setCell ⟨w.heap.size, 1, none⟩ (Value.bool false)).setCell ⟨w.heap.size + 1, 1, none⟩ (Value.bool false)) := ⟨_, rfl⟩
    rw [← hV]
    have Q1 := hide (show RG w.heap.size W1.heap.size V A1 l1 by rw [hV]; (repeat (first | with_reducible exact P1 | with_reducible refine RG.setc ?_ (by simp) (by simp; omega) _)))
    have Q2 := hide (show RG w.heap.size W1.heap.size V A2 l2 by rw [hV]; (repeat (first | with_reducible exact P2 | with_reducible refine RG.setc ?_ (by simp) (by simp; omega) _)))
    have hBV : Below w.heap.size w V := by rw [hV]; exact belo
    have q0 : V.cell? ⟨w.heap.size, 0, none⟩ = some (Value.slice A1 l1.length c1) := by rw [hV]; (repeat (first | with_reducible refine cset_eq' ?_ | with_reducible refine cset_ne (by simp) ?_ | with_reducible refine cset_ex ?_ | exact ⟨_, (kcD _ _ zW1_0).trans (by assumption)⟩ | exact ⟨_, (kcD _ _ zW1_1).trans (by assumption)⟩))
    have q1 : V.cell? ⟨w.heap.size, 1, none⟩ = some (Value.bool false) := by rw [hV]; (repeat (first | with_reducible refine cset_eq' ?_ | with_reducible refine cset_ne (by simp) ?_ | with_reducible refine cset_ex ?_ | exact ⟨_, (kcD _ _ zW1_0).trans (by assumption)⟩ | exact ⟨_, (kcD _ _ zW1_1).trans (by assumption)⟩))
    have q2 : V.cell? ⟨w.heap.size + 1, 0, none⟩ = some (Value.slice A2 l2.length c2) := by rw [hV]; (repeat (first | with_reducible refine cset_eq' ?_ | with_reducible refine cset_ne (by simp) ?_ | with_reducible refine cset_ex ?_ | exact ⟨_, (kcD _ _ zW1_0).trans (by assumption)⟩ | exact ⟨_, (kcD _ _ zW1_1).trans (by assumption)⟩))
    have q3 : V.cell? ⟨w.heap.size + 1, 1, none⟩ = some (Value.bool false) := by rw [hV]; (repeat (first | with_reducible refine cset_eq' ?_ | with_reducible refine cset_ne (by simp) ?_ | with_reducible refine cset_ex ?_ | exact ⟨_, (kcD _ _ zW1_0).trans (by assumption)⟩ | exact ⟨_, (kcD _ _ zW1_1).trans (by assumption)⟩))
    have z0 : w.heap.size < V.heap.size := by rw [hV]; simp; omega
    have z1 : w.heap.size + 1 < V.heap.size := by rw [hV]; simp; omega
    clear hV P1 P2 kcD kfD
    refine region_anyT (S := fun wS => Below V.heap.size V wS) (n := 9) kr (Below.refl _ _).drew (fun hS inv => ?_)
    refine anyT_take (i := 0) (oi := _) (v := Value.agg #[Value.slice A1 l1.length c1, Value.bool false]) rfl kr kr kr (by decide) (by decide) kr kr inv (fun _ _ _ h => h) (Or.inl ⟨kr, ?_⟩) hS (fun inv => ?_)
    · intro wz hSw
      have hk0 := (hSw : Below _ _ _).cell (p := ⟨w.heap.size, 0, none⟩) as0; have hk1 := (hSw : Below _ _ _).cell (p := ⟨w.heap.size, 1, none⟩) as0; go_simp
    (try simp only [Act.put, q2, q3, q4, q5, q6, q7])
    refine anyT_take (i := 1) (oi := _) (v := Value.int IntKind.i64 ↑l1.length) rfl kr kr kr (by decide) (by decide) kr kr inv (fun _ _ _ h => h) (Or.inl ⟨kr, ?_⟩) hS (fun inv => ?_)
    · intro wz hSw
      first | kernel_rfl | go_simp
    (try simp only [Act.put, q2, q3, q4, q5, q6, q7])
    refine anyT_take (i := 3) (oi := _) (v := Value.agg #[Value.slice A2 l2.length c2, Value.bool false]) rfl kr kr kr (by decide) (by decide) kr kr inv (fun _ _ _ h => h) (Or.inl ⟨kr, ?_⟩) hS (fun inv => ?_)
    · intro wz hSw
      have hk0 := (hSw : Below _ _ _).cell (p := ⟨w.heap.size + 1, 0, none⟩) as0; have hk1 := (hSw : Below _ _ _).cell (p := ⟨w.heap.size + 1, 1, none⟩) as0; go_simp
    (try simp only [Act.put, q2, q3, q4, q5, q6, q7])
    refine anyT_take (i := 4) (oi := _) (v := Value.int IntKind.i64 ↑l1.length) rfl kr kr kr (by decide) (by decide) kr kr inv (fun _ _ _ h => h) (Or.inl ⟨kr, ?_⟩) hS (fun inv => ?_)
    · intro wz hSw
      first | kernel_rfl | go_simp
    (try simp only [Act.put, q2, q3, q4, q5, q6, q7])
    refine anyT_take (i := 6) (oi := _) (v := Value.bool false) rfl kr kr kr (by decide) (by decide) kr kr inv (fun _ _ _ h => h) (Or.inl ⟨kr, ?_⟩) hS (fun inv => ?_)
    · intro wz hSw
      first | kernel_rfl | go_simp
    (try simp only [Act.put, q2, q3, q4, q5, q6, q7])
    refine anyT_ready (rs := [2]) kr (by simp) ?_
    refine ReadyT.head (o := _) rfl (by decide) kr inv (fun K hK => ?_) ReadyT.nil
    go_simp
    refine (resized_any A1 l1 c1 l1.length false _ L1.1 (by omega) (by omega) (Q1.out.drew.rd)).mono ?_
    rintro e G1 ⟨P1, d1, rfl, e1, g1, o1, hb⟩
    go_wp2_with fail
    refine hK.out _ _ ?_ (fun hS inv => ?_)
    · exact (hS : Below V.heap.size V _).trans (hb.mono (Below.size hS))
    clear hK K
    (try simp only [Act.put, q2, q3, q4, q5, q6, q7])
    have hBG1 : Below w.heap.size w G1 := Below.trans belo (hb.mono (by first | omega | (simp; omega)))
    have hzG1 : V.heap.size ≤ G1.heap.size := hb.size
    replace Q2 := hide (Q2.out.drew.kept hb)
    clear hb
    refine anyT_ready (rs := [5]) kr (by simp) ?_
    refine ReadyT.head (o := _) rfl (by decide) kr inv (fun K hK => ?_) ReadyT.nil
    go_simp
    refine (resized_any A2 l2 c2 l1.length false _ L2.1 (by omega) (by omega) (Q2.out.rd)).mono ?_
    rintro e G2 ⟨P2, d2, rfl, e2, g2, o2, hb⟩
    go_wp2_with fail
    refine hK.out _ _ ?_ (fun hS inv => ?_)
    · exact (hS : Below V.heap.size V _).trans (hb.mono (Below.size hS))
    clear hK K
    (try simp only [Act.put, q2, q3, q4, q5, q6, q7])
    have hBG2 : Below w.heap.size w G2 := Below.trans belo (hb.mono (by first | omega | (simp; omega)))
    have hzG2 : G1.heap.size ≤ G2.heap.size := hb.size
    have HS : Hid (Sep P1 P2) := hide fun g h e1 e2 => by
      obtain ⟨g1, x1, _, x2⟩ := o1.lt (by rw [rsz_length]; omega)
      obtain ⟨g2, y1, y2, _⟩ := o2.lt (by rw [rsz_length]; omega)
      have := x1.symm.trans e1; have := y1.symm.trans e2; simp only [Option.some.injEq, Addr.mk.injEq] at *; omega
    replace o1 := hide (OwQ.kept o1 hb)
    clear hb
    refine anyT_take (i := 7) (oi := _) (v := Value.slice P1 (rsz ⟨l1, false⟩ l1.length).length d1) rfl kr kr kr (by decide) (by decide) kr kr inv (fun _ _ _ h => h) (Or.inl ⟨kr, ?_⟩) hS (fun inv => ?_)
    · intro wz hSw
      first | kernel_rfl | go_simp
    (try simp only [Act.put, q2, q3, q4, q5, q6, q7])
    refine anyT_take (i := 8) (oi := _) (v := Value.slice P2 (rsz ⟨l2, false⟩ l1.length).length d2) rfl kr kr kr (by decide) (by decide) kr kr inv (fun _ _ _ h => h) (Or.inl ⟨kr, ?_⟩) hS (fun inv => ?_)
    · intro wz hSw
      first | kernel_rfl | go_simp
    (try simp only [Act.put, q2, q3, q4, q5, q6, q7])
    refine anyT_ready (rs := [9]) kr (by simp) ?_
    refine ReadyT.tail (o := _) rfl (by decide) (fun K hK => ?_)
    go_simp
    refine hK.out _ _ ?_
    clear hK K
    (try simp only [Act.put, q2, q3, q4, q5, q6, q7])
    refine anyT_done kr ?_ _
    go_wp2
    go_ret3
    exact ⟨rsz ⟨l1, false⟩ l1.length, P1, d1, rsz ⟨l2, false⟩ l1.length, P2, d2, X1, X2, by rw [HSG.out]; rfl, hide ⟨e1, g1⟩, hide ⟨e2, g2⟩, hide (o1.out.base (Nat.le_of_lt (show w.heap.size < V.drew.heap.size from z0))), hide (o2.base (by omega)), HS, hBG2⟩
end
section
open Go.RowKit
set_option maxRecDepth 100000
set_option linter.unusedSimpArgs false
set_option linter.unusedVariables false
structure Tabs (w : World) : Prop where
  tn : Tab1 4 mNot w
  tb : Tab1 5 mBuf w
  ta : Tab2 1 mAnd w
  tO : Tab2 2 mOr w
  tx : Tab2 3 mXor w
  tg : Tab2 0 mAgree w
theorem Tab1.kept {g : Nat} {f : Int → Int} {w w' : World} (h : Tab1 g f w) (hb : Below w.heap.size w w') : Tab1 g f w' := fun a ha =>
  (hb.cell (p := ⟨g, (bst a).toNat, none⟩) (block_lt_of_cell (h a ha))).trans (h a ha)
theorem Tab2.kept {g : Nat} {f : Int → Int → Int} {w w' : World} (h : Tab2 g f w) (hb : Below w.heap.size w w') : Tab2 g f w' := fun a b ha hb' =>
  (hb.cell (p := ⟨g, (bst a).toNat * 4 + (bst b).toNat, none⟩) (block_lt_of_cell (h a b ha hb'))).trans (h a b ha hb')
theorem Tabs.kept {w w' : World} (h : Tabs w) (hb : Below w.heap.size w w') : Tabs w' := ⟨h.tn.kept hb, h.tb.kept hb, h.ta.kept hb, h.tO.kept hb, h.tx.kept hb, h.tg.kept hb⟩
theorem Tabs.drew {w : World} (h : Tabs w) : Tabs w.drew := h.kept ((Below.refl _ _).drew)
theorem Tabs.drewN {w : World} (h : Tabs w) (n : Nat) : Tabs (w.drewN n) := h.kept (below_drewN (Below.refl _ _) n)
structure OpF (N : Nat) (f : Int → Int → Int) : Prop where
  cf : Ent N
  ct : ∀ p q w, 0 ≤ p → 0 ≤ q → Tabs w → Calls Tryz.prog N #[.int .u8 p, .int .u8 q] w (Gives (.int .u8 (f p q)) w)
  bd : ∀ p q, 0 ≤ p ∧ p ≤ 3 → 0 ≤ q ∧ q ≤ 3 → 0 ≤ f p q ∧ f p q ≤ 3
theorem bd_of3 {x : Int} (h : x = 0 ∨ x = 1 ∨ x = 2) : 0 ≤ x ∧ x ≤ 3 := by omega
theorem opF_and : OpF 124 mAnd := ⟨Tryz.call124, fun p q w h1 h2 h => and_q p q w h1 h2 h.ta, fun p q _ _ => bd_of3 (mAnd_3 p q)⟩
theorem opF_or : OpF 125 mOr := ⟨Tryz.call125, fun p q w h1 h2 h => or_q p q w h1 h2 h.tO, fun p q _ _ => bd_of3 (mOr_3 p q)⟩
theorem opF_xor : OpF 126 mXor := ⟨Tryz.call126, fun p q w h1 h2 h => xor_q p q w h1 h2 h.tx, fun p q _ _ => bd_of3 (mXor_3 p q)⟩
theorem opF_eq : OpF 127 mEq := ⟨Tryz.call127, fun p q w h1 h2 h => eq_q p q w h1 h2 h.tx h.tn, fun p q _ _ => bd_of3 (mEq_3 p q)⟩
theorem opF_not : OpF 143 (fun p _ => mNot p) := by
  refine ⟨Tryz.call143, fun p q w h1 h2 h => ?_, fun p q _ _ => bd_of3 (mNot_3 p)⟩
  have H := hide h
  clear h
  go_enter Tryz.func143, Tryz.ntmps143
  go_wp2_with (go_at_call 137; refine (not_q _ _ h1 H.out.tn).mono ?_; rintro e w' ⟨rfl, n, rfl⟩)
  go_ret
  exact ⟨rfl, _, rfl⟩
theorem opF_mux : OpF 109 (mMux 2) := by
  refine ⟨Tryz.call109, fun p q w h1 h2 h => ?_, fun p q hp _ => bd_of3 (mMux_3 2 p q hp.1)⟩
  have H := hide h
  clear h
  go_enter Tryz.func109, Tryz.ntmps109
  go_wp2_with (go_at_call 110; refine (mux_q 2 _ _ _ h1 h2 H.out.tb H.out.tg).mono ?_; rintro e w' ⟨rfl, n, rfl⟩)
  go_ret
  exact ⟨rfl, _, rfl⟩
theorem opF_first : OpF 112 (fun p _ => p) := by
  refine ⟨Tryz.call112, fun p q w h1 h2 h => ?_, fun p q hp _ => hp⟩
  go_enter Tryz.func112, Tryz.ntmps112
  go_wp2
  go_ret
  exact ⟨rfl, 0, rfl⟩
theorem opF_second : OpF 113 (fun _ q => q) := by
  refine ⟨Tryz.call113, fun p q w h1 h2 h => ?_, fun p q _ hq => hq⟩
  go_enter Tryz.func113, Tryz.ntmps113
  go_wp2
  go_ret
  exact ⟨rfl, 0, rfl⟩
def Mix (k : Nat) (f g : Nat → Int) (j : Nat) : Int := if j < k then f j else g j
theorem Mix.step (k : Nat) (f g : Nat → Int) (j : Nat) : (if j = k then f k else Mix k f g j) = Mix (k + 1) f g j := by
  unfold Mix
  by_cases h : j = k
  · subst h; rw [if_pos rfl, if_pos (by omega)]
  · rw [if_neg h]
    by_cases h1 : j < k
    · rw [if_pos h1, if_pos (by omega)]
    · rw [if_neg h1, if_neg (by omega)]
theorem bcellB {B : Nat} {W w1 : World} (hb : Below B W w1) : (∀ b o, b < B → w1.cell? ⟨b, o, none⟩ = W.cell? ⟨b, o, none⟩) ∧ (∀ b o, b < B → w1.frozen? ⟨b, o, none⟩ = W.frozen? ⟨b, o, none⟩) :=
  ⟨fun b o h => hb.cell (p := ⟨b, o, none⟩) h, fun b o h => hb.frozen (p := ⟨b, o, none⟩) h⟩
structure BwR (B : Nat) (w1 : World) (g h n k : Nat) (f : Nat → Int) (p q : List Int) (wr : World) : Prop where
  row : RowQ wr g n (Mix k f (qt p))
  oth : RowQ wr h n (qt q)
  bel : Below B w1 wr
theorem BwR.step {B : Nat} {w1 wr : World} {g h n k : Nat} {f : Nat → Int} {p q : List Int} (r : BwR B w1 g h n k f p q wr) (hg : B ≤ g) (hne : g ≠ h) (m : Nat) : BwR B w1 g h n (k + 1) f p q ((wr.drewN m).setCell ⟨g, k, none⟩ (.int .u8 (f k))) where
  row := ((r.row.drewN m).set_ k _).congr fun j _ => Mix.step k f (qt p) j
  oth := (r.oth.drewN m).far (by simpa using Ne.symm hne) _
  bel := (below_drewN r.bel m).setCell (by simpa using hg) _
set_option maxHeartbeats 2000000 in
theorem bitwise_any (N : Nat) (f : Int → Int → Int) (hop : OpF N f) (A B : Option Addr) (a b : List Int) (c d : Nat) (s t : Bool) (w : World) (ha : a.length ≤ 4096) (hb : b.length ≤ 4096) (hca : Hid (a.length ≤ c ∧ c ≤ maxLen)) (hcb : Hid (b.length ≤ d ∧ d ≤ maxLen)) (hA : RQ w A a) (hB : RQ w B b) (ya : By a) (yb : By b) (ht : Tabs w) :
    Calls Tryz.prog 114 #[.agg #[.slice A a.length c, .bool s], .agg #[.slice B b.length d, .bool t], .func (.func N) #[] #[]] w (RetC (· = btw f ⟨a, s⟩ ⟨b, t⟩) w) := by
  have hcf : ∀ args w, (callFunc N args).run Tryz.prog w = .ok (.enter N args) w := hop.cf
  have HO := hide hop
  have HT := hide ht
  have hwd := wd_bd (a := ⟨a, s⟩) (b := ⟨b, t⟩) ya yb
  have HGA := hide (gd_blA (a := ⟨a, s⟩) (b := ⟨b, t⟩) ya yb)
  have HGB := hide (gd_blB (a := ⟨a, s⟩) (b := ⟨b, t⟩) ya yb)
  have hbal := hide fun W (hW : Below w.heap.size w W) => balance_any A B a b c d s t W ha hb hca hcb (hA.below hW) (hB.below hW) ya yb
  clear hop hA hB ha hb ht
  obtain ⟨n, hn⟩ : ∃ n, n = wd ⟨a, s⟩ ⟨b, t⟩ := ⟨_, rfl⟩
  rw [← hn] at hwd
  have HN := hide hn
  obtain ⟨σ, hσ⟩ : ∃ σ, σ = sg ⟨a, s⟩ ⟨b, t⟩ := ⟨_, rfl⟩
  have HSG := hide hσ
  unfold RetB at hbal
  rw [← hσ] at hbal
  clear hn hσ
  go_enter Tryz.func114, Tryz.ntmps114
  go_wp2_with fail
  refine (hbal.out _ belo).mono ?_
  rintro e w1 ⟨p, P, pc, q, Q, qc, Ep, Eq, rfl, Cp, Cq, Op, Oq, Hs, hb1⟩
  have lp : p.length = n := by rw [Ep.out, blA_length, HN.out]
  have lq : q.length = n := by rw [Eq.out, blB_length, HN.out]
  obtain ⟨g, rfl, hg, hgr⟩ := Op.out (by omega)
  obtain ⟨h, rfl, hh, hhr⟩ := Oq.out (by omega)
  have hne := Hs.out g h rfl rfl
  rw [lp] at hgr
  rw [lq] at hhr
  have hz1 := hb1.size
  simp at hz1
  replace hg : w.heap.size + 3 ≤ g := by simp at hg; omega
  replace hh : w.heap.size + 3 ≤ h := by simp at hh; omega
  obtain ⟨kc1, kf1⟩ := bcell hb1
  replace hb1 : Below w.heap.size w w1 := Below.trans belo (hb1.mono (by simp; omega))
  have HR1 := hide (BwR.mk (k := 0) (f := fun j => f (qt p j) (qt q j)) (hgr.congr fun j _ => by simp [Mix]) hhr (Below.refl _ _) : BwR (w.heap.size + 3) w1 g h n 0 (fun j => f (qt p j) (qt q j)) p q w1)
  have C1 := hide lp
  have C2 := hide lq
  rw [lp, lq]
  clear hgr hhr lp lq Op Oq Hs
  go_wp2_with fail
  go_loopw [20] (fun i wr => ∃ k : Nat, k ≤ n ∧ i = .int .i64 k ∧ BwR (w.heap.size + 3) w1 g h n k (fun j => f (qt p j) (qt q j)) p q wr) (fun i _ => n - (intOf i).toNat)
  case atStart => exact ⟨0, Nat.zero_le _, rfl, HR1.out⟩
  case round =>
    clear HR1
    obtain ⟨k, hk, rfl, hR⟩ := hrel
    by_cases hlt : k < n
    · have hRH := hide hR
      have hc1 : wr.cell? ⟨g, k, none⟩ = some (.int .u8 (qt p k)) := by rw [hR.row.cell hlt]; simp [Mix]
      have hc2 : wr.cell? ⟨h, k, none⟩ = some (.int .u8 (qt q k)) := hR.oth.cell hlt
      have hl1 := hR.row.lt
      have hl2 := hR.oth.lt
      have hf := hR.row.free k
      have HTr := hide (HT.out.kept (hb1.trans (hR.bel.mono (by omega))))
      have b1 := (HGA.out.bd k)
      have b2 := (HGB.out.bd k)
      rw [← Ep.out] at b1
      rw [← Eq.out] at b2
      clear hR
      go_wp2_with fail
      refine region_anyT (S := fun wS => Below wr.heap.size wr wS) (n := 13) kr (Below.refl _ _).drew (fun hS inv => ?_)
      refine anyT_take (i := 0) (oi := _) (v := Value.slice (some ⟨g, 0, none⟩) n pc) rfl kr kr kr (by decide) (by decide) kr kr inv (fun _ _ _ h => h) (Or.inl ⟨kr, ?_⟩) hS (fun inv => ?_)
      · intro wz hSw
        first | kernel_rfl | go_simp
      (try simp only [Act.put, q2, q3, q4, q5, q6, q7])
      refine anyT_take (i := 1) (oi := _) (v := Value.int IntKind.i64 ↑k) rfl kr kr kr (by decide) (by decide) kr kr inv (fun _ _ _ h => h) (Or.inl ⟨kr, ?_⟩) hS (fun inv => ?_)
      · intro wz hSw
        first | kernel_rfl | go_simp
      (try simp only [Act.put, q2, q3, q4, q5, q6, q7])
      refine anyT_take (i := 2) (oi := _) (v := Value.func (Fn.func N) #[] #[]) rfl kr kr kr (by decide) (by decide) kr kr inv (fun _ _ _ h => h) (Or.inl ⟨kr, ?_⟩) hS (fun inv => ?_)
      · intro wz hSw
        first | kernel_rfl | go_simp
      (try simp only [Act.put, q2, q3, q4, q5, q6, q7])
      refine anyT_take (i := 3) (oi := _) (v := Value.slice (some ⟨g, 0, none⟩) n pc) rfl kr kr kr (by decide) (by decide) kr kr inv (fun _ _ _ h => h) (Or.inl ⟨kr, ?_⟩) hS (fun inv => ?_)
      · intro wz hSw
        first | kernel_rfl | go_simp
      (try simp only [Act.put, q2, q3, q4, q5, q6, q7])
      refine anyT_take (i := 4) (oi := _) (v := Value.int IntKind.i64 ↑k) rfl kr kr kr (by decide) (by decide) kr kr inv (fun _ _ _ h => h) (Or.inl ⟨kr, ?_⟩) hS (fun inv => ?_)
      · intro wz hSw
        first | kernel_rfl | go_simp
      (try simp only [Act.put, q2, q3, q4, q5, q6, q7])
      refine anyT_take (i := 5) (oi := _) (v := Value.pointer (some ⟨g, k, none⟩)) rfl kr kr kr (by decide) (by decide) kr kr inv (fun _ _ _ h => h) (Or.inl ⟨kr, ?_⟩) hS (fun inv => ?_)
      · intro wz hSw
        go_simp
      (try simp only [Act.put, q2, q3, q4, q5, q6, q7])
      refine anyT_take (i := 6) (oi := _) (v := Value.int IntKind.u8 (qt p k)) rfl kr kr kr (by decide) (by decide) kr kr inv (fun _ _ _ h => h) (Or.inl ⟨kr, ?_⟩) hS (fun inv => ?_)
      · intro wz hSw
        have hk0 := (hSw : Below _ _ _).cell (p := ⟨g, k, none⟩) as0; go_simp
      (try simp only [Act.put, q2, q3, q4, q5, q6, q7])
      refine anyT_take (i := 7) (oi := _) (v := Value.slice (some ⟨h, 0, none⟩) n qc) rfl kr kr kr (by decide) (by decide) kr kr inv (fun _ _ _ h => h) (Or.inl ⟨kr, ?_⟩) hS (fun inv => ?_)
      · intro wz hSw
        first | kernel_rfl | go_simp
      (try simp only [Act.put, q2, q3, q4, q5, q6, q7])
      refine anyT_take (i := 8) (oi := _) (v := Value.int IntKind.i64 ↑k) rfl kr kr kr (by decide) (by decide) kr kr inv (fun _ _ _ h => h) (Or.inl ⟨kr, ?_⟩) hS (fun inv => ?_)
      · intro wz hSw
        first | kernel_rfl | go_simp
      (try simp only [Act.put, q2, q3, q4, q5, q6, q7])
      refine anyT_take (i := 9) (oi := _) (v := Value.pointer (some ⟨h, k, none⟩)) rfl kr kr kr (by decide) (by decide) kr kr inv (fun _ _ _ h => h) (Or.inl ⟨kr, ?_⟩) hS (fun inv => ?_)
      · intro wz hSw
        go_simp
      (try simp only [Act.put, q2, q3, q4, q5, q6, q7])
      refine anyT_take (i := 10) (oi := _) (v := Value.int IntKind.u8 (qt q k)) rfl kr kr kr (by decide) (by decide) kr kr inv (fun _ _ _ h => h) (Or.inl ⟨kr, ?_⟩) hS (fun inv => ?_)
      · intro wz hSw
        have hk0 := (hSw : Below _ _ _).cell (p := ⟨h, k, none⟩) as0; go_simp
      (try simp only [Act.put, q2, q3, q4, q5, q6, q7])
      refine anyT_ready (rs := [11]) kr (by simp) ?_
      refine ReadyT.head (o := _) rfl (by decide) kr inv (fun K hK => ?_) ReadyT.nil
      go_simp
      refine (HO.out.ct (qt p k) (qt q k) _ b1.1 b2.1 HTr.out.drew).mono ?_
      rintro e wz ⟨rfl, m, rfl⟩
      go_wp2_with fail
      refine hK.out _ _ ?_ (fun hS inv => ?_)
      · exact below_drewN (Below.refl _ _) _
      clear hK K
      (try simp only [Act.put, q2, q3, q4, q5, q6, q7])
      refine anyT_take (i := 12) (oi := _) (v := Value.pointer (some ⟨g, k, none⟩)) rfl kr kr kr (by decide) (by decide) kr kr inv (fun _ _ _ h => h) (Or.inl ⟨kr, ?_⟩) hS (fun inv => ?_)
      · intro wz hSw
        go_simp
      (try simp only [Act.put, q2, q3, q4, q5, q6, q7])
      refine anyT_ready (rs := [13]) kr (by simp) ?_
      refine ReadyT.tail (o := _) rfl (by decide) (fun K hK => ?_)
      go_simp
      refine hK.out _ _ ?_
      clear hK K
      (try simp only [Act.put, q2, q3, q4, q5, q6, q7])
      refine anyT_done kr ?_ _
      go_wp2
      go_roundw
      case rel => exact ⟨k + 1, by omega, by go_num, hRH.out.step (by omega) hne _⟩
      case measure => simp [intOf]; omega
    · have hRH := hide hR
      have e : k = n := by omega
      subst e
      obtain ⟨kcB, kfB⟩ := bcellB hR.bel
      obtain ⟨p', hp'⟩ : ∃ p', p' = ql k fun i => f (qt p i) (qt q i) := ⟨_, rfl⟩
      have hBr : Below w.heap.size w wr := hb1.trans (hR.bel.mono (by omega))
      clear hR
      go_wp2
      refine bodyPost_ret (v := .agg #[.slice (some ⟨g, 0, none⟩) k pc, .bool σ]) (by simp [results, Tryz.results114, go_sem, *]) rfl ?_
      refine ⟨p', σ, some ⟨g, 0, none⟩, pc, hide ?_, by rw [show p'.length = k from by rw [hp', ql_length]], hide (by rw [show p'.length = k from by rw [hp', ql_length], ← C1.out]; exact Cp.out), hide fun _ => ⟨g, rfl, by omega, ?_⟩, belo⟩
      · unfold btw
        rw [← HN.out, ← HSG.out, hp']
        exact Vc.ext' (ql_congr fun i hi => by rw [Ep.out, Eq.out]) rfl
      · rw [show p'.length = k from by rw [hp', ql_length]]
        have hrow : RowQ wr g k (qt p') := hRH.out.row.congr fun i hi => by rw [hp', qt_ql_lt hi]; simp [Mix, hi]
        exact ((hrow.far (by simp; omega) _).far (by simp; omega) _)
end
section
open Go.RowKit
set_option maxRecDepth 100000
set_option linter.unusedSimpArgs false
set_option linter.unusedVariables false
theorem vAnd_any (A B : Option Addr) (a b : List Int) (c d : Nat) (s t : Bool) (w : World) (ha : a.length ≤ 4096) (hb : b.length ≤ 4096) (hca : Hid (a.length ≤ c ∧ c ≤ maxLen)) (hcb : Hid (b.length ≤ d ∧ d ≤ maxLen)) (hA : RQ w A a) (hB : RQ w B b) (ya : By a) (yb : By b) (ht : Tabs w) :
    Calls Tryz.prog 40 #[.agg #[.slice A a.length c, .bool s], .agg #[.slice B b.length d, .bool t]] w (RetC (· = btw mAnd ⟨a, s⟩ ⟨b, t⟩) w) := by
  have HA := hide hA
  have HBB := hide hB
  have LA := hide ha
  have LB := hide hb
  have YA := hide ya
  have YB := hide yb
  clear hA hB ha hb ya yb
  have HT := hide ht
  clear ht
  go_enter Tryz.func40, Tryz.ntmps40
  go_wp2_with fail
  refine (bitwise_any _ _ opF_and A B a b c d s t _ LA.out LB.out hca hcb (HA.out.below belo) (HBB.out.below belo) YA.out YB.out (HT.out.kept belo)).mono ?_
  rintro e w1 ⟨l1, s1, A1, c1, E1, rfl, C1, O1, hb⟩
  replace O1 := hide (O1.out.base (show w.heap.size + 3 ≤ _ by first | omega | (simp; omega) | (simp; done)))
  have hB1 : Below w.heap.size w w1 := Below.trans belo (hb.mono (by first | omega | (simp; omega)))
  obtain ⟨kc1, kf1⟩ := bcell hb
  have hz1 := hb.size
  (try simp at hz1)
  have n1_0 : w.heap.size < w1.heap.size := by omega
  have n1_1 : w.heap.size + 1 < w1.heap.size := by omega
  have n1_2 : w.heap.size + 2 < w1.heap.size := by omega
  clear hb
  go_wp2
  refine bodyPost_ret (v := .agg #[.slice A1 l1.length c1, .bool s1]) (by simp [results, Tryz.results40, go_sem, *]) rfl ?_
  exact ⟨l1, s1, A1, c1, hide (E1.out), rfl, C1, hide (OwQ.base (B := w.heap.size + 3) (by (repeat (first | with_reducible exact O1.out | with_reducible refine OwQ.far ?_ as3 _ | with_reducible refine OwQ.allc ?_ _ | with_reducible refine OwQ.drew ?_ | with_reducible refine OwQ.drewN ?_ _))) (by omega)), belo⟩
theorem vOr_any (A B : Option Addr) (a b : List Int) (c d : Nat) (s t : Bool) (w : World) (ha : a.length ≤ 4096) (hb : b.length ≤ 4096) (hca : Hid (a.length ≤ c ∧ c ≤ maxLen)) (hcb : Hid (b.length ≤ d ∧ d ≤ maxLen)) (hA : RQ w A a) (hB : RQ w B b) (ya : By a) (yb : By b) (ht : Tabs w) :
    Calls Tryz.prog 41 #[.agg #[.slice A a.length c, .bool s], .agg #[.slice B b.length d, .bool t]] w (RetC (· = btw mOr ⟨a, s⟩ ⟨b, t⟩) w) := by
  have HA := hide hA
  have HBB := hide hB
  have LA := hide ha
  have LB := hide hb
  have YA := hide ya
  have YB := hide yb
  clear hA hB ha hb ya yb
  have HT := hide ht
  clear ht
  go_enter Tryz.func41, Tryz.ntmps41
  go_wp2_with fail
  refine (bitwise_any _ _ opF_or A B a b c d s t _ LA.out LB.out hca hcb (HA.out.below belo) (HBB.out.below belo) YA.out YB.out (HT.out.kept belo)).mono ?_
  rintro e w1 ⟨l1, s1, A1, c1, E1, rfl, C1, O1, hb⟩
  replace O1 := hide (O1.out.base (show w.heap.size + 3 ≤ _ by first | omega | (simp; omega) | (simp; done)))
  have hB1 : Below w.heap.size w w1 := Below.trans belo (hb.mono (by first | omega | (simp; omega)))
  obtain ⟨kc1, kf1⟩ := bcell hb
  have hz1 := hb.size
  (try simp at hz1)
  have n1_0 : w.heap.size < w1.heap.size := by omega
  have n1_1 : w.heap.size + 1 < w1.heap.size := by omega
  have n1_2 : w.heap.size + 2 < w1.heap.size := by omega
  clear hb
  go_wp2
  refine bodyPost_ret (v := .agg #[.slice A1 l1.length c1, .bool s1]) (by simp [results, Tryz.results41, go_sem, *]) rfl ?_
  exact ⟨l1, s1, A1, c1, hide (E1.out), rfl, C1, hide (OwQ.base (B := w.heap.size + 3) (by (repeat (first | with_reducible exact O1.out | with_reducible refine OwQ.far ?_ as3 _ | with_reducible refine OwQ.allc ?_ _ | with_reducible refine OwQ.drew ?_ | with_reducible refine OwQ.drewN ?_ _))) (by omega)), belo⟩
theorem vXor_any (A B : Option Addr) (a b : List Int) (c d : Nat) (s t : Bool) (w : World) (ha : a.length ≤ 4096) (hb : b.length ≤ 4096) (hca : Hid (a.length ≤ c ∧ c ≤ maxLen)) (hcb : Hid (b.length ≤ d ∧ d ≤ maxLen)) (hA : RQ w A a) (hB : RQ w B b) (ya : By a) (yb : By b) (ht : Tabs w) :
    Calls Tryz.prog 42 #[.agg #[.slice A a.length c, .bool s], .agg #[.slice B b.length d, .bool t]] w (RetC (· = btw mXor ⟨a, s⟩ ⟨b, t⟩) w) := by
  have HA := hide hA
  have HBB := hide hB
  have LA := hide ha
  have LB := hide hb
  have YA := hide ya
  have YB := hide yb
  clear hA hB ha hb ya yb
  have HT := hide ht
  clear ht
  go_enter Tryz.func42, Tryz.ntmps42
  go_wp2_with fail
  refine (bitwise_any _ _ opF_xor A B a b c d s t _ LA.out LB.out hca hcb (HA.out.below belo) (HBB.out.below belo) YA.out YB.out (HT.out.kept belo)).mono ?_
  rintro e w1 ⟨l1, s1, A1, c1, E1, rfl, C1, O1, hb⟩
  replace O1 := hide (O1.out.base (show w.heap.size + 3 ≤ _ by first | omega | (simp; omega) | (simp; done)))
  have hB1 : Below w.heap.size w w1 := Below.trans belo (hb.mono (by first | omega | (simp; omega)))
  obtain ⟨kc1, kf1⟩ := bcell hb
  have hz1 := hb.size
  (try simp at hz1)
  have n1_0 : w.heap.size < w1.heap.size := by omega
  have n1_1 : w.heap.size + 1 < w1.heap.size := by omega
  have n1_2 : w.heap.size + 2 < w1.heap.size := by omega
  clear hb
  go_wp2
  refine bodyPost_ret (v := .agg #[.slice A1 l1.length c1, .bool s1]) (by simp [results, Tryz.results42, go_sem, *]) rfl ?_
  exact ⟨l1, s1, A1, c1, hide (E1.out), rfl, C1, hide (OwQ.base (B := w.heap.size + 3) (by (repeat (first | with_reducible exact O1.out | with_reducible refine OwQ.far ?_ as3 _ | with_reducible refine OwQ.allc ?_ _ | with_reducible refine OwQ.drew ?_ | with_reducible refine OwQ.drewN ?_ _))) (by omega)), belo⟩
theorem vXnor_any (A B : Option Addr) (a b : List Int) (c d : Nat) (s t : Bool) (w : World) (ha : a.length ≤ 4096) (hb : b.length ≤ 4096) (hca : Hid (a.length ≤ c ∧ c ≤ maxLen)) (hcb : Hid (b.length ≤ d ∧ d ≤ maxLen)) (hA : RQ w A a) (hB : RQ w B b) (ya : By a) (yb : By b) (ht : Tabs w) :
    Calls Tryz.prog 43 #[.agg #[.slice A a.length c, .bool s], .agg #[.slice B b.length d, .bool t]] w (RetC (· = btw mEq ⟨a, s⟩ ⟨b, t⟩) w) := by
  have HA := hide hA
  have HBB := hide hB
  have LA := hide ha
  have LB := hide hb
  have YA := hide ya
  have YB := hide yb
  clear hA hB ha hb ya yb
  have HT := hide ht
  clear ht
  go_enter Tryz.func43, Tryz.ntmps43
  go_wp2_with fail
  refine (bitwise_any _ _ opF_eq A B a b c d s t _ LA.out LB.out hca hcb (HA.out.below belo) (HBB.out.below belo) YA.out YB.out (HT.out.kept belo)).mono ?_
  rintro e w1 ⟨l1, s1, A1, c1, E1, rfl, C1, O1, hb⟩
  replace O1 := hide (O1.out.base (show w.heap.size + 3 ≤ _ by first | omega | (simp; omega) | (simp; done)))
  have hB1 : Below w.heap.size w w1 := Below.trans belo (hb.mono (by first | omega | (simp; omega)))
  obtain ⟨kc1, kf1⟩ := bcell hb
  have hz1 := hb.size
  (try simp at hz1)
  have n1_0 : w.heap.size < w1.heap.size := by omega
  have n1_1 : w.heap.size + 1 < w1.heap.size := by omega
  have n1_2 : w.heap.size + 2 < w1.heap.size := by omega
  clear hb
  go_wp2
  refine bodyPost_ret (v := .agg #[.slice A1 l1.length c1, .bool s1]) (by simp [results, Tryz.results43, go_sem, *]) rfl ?_
  exact ⟨l1, s1, A1, c1, hide (E1.out), rfl, C1, hide (OwQ.base (B := w.heap.size + 3) (by (repeat (first | with_reducible exact O1.out | with_reducible refine OwQ.far ?_ as3 _ | with_reducible refine OwQ.allc ?_ _ | with_reducible refine OwQ.drew ?_ | with_reducible refine OwQ.drewN ?_ _))) (by omega)), belo⟩
theorem btw_not (a : Vc) : btw (fun p _ => mNot p) a a = vNot a := by
  have hw : wd a a = (cnt a).b.length := by unfold wd; omega
  have hs : sg a a = (cnt a).s := by unfold sg; cases (cnt a).s <;> rfl
  unfold btw vNot
  refine Vc.ext' ?_ hs
  rw [hw]
  refine ql_congr fun i hi => ?_
  unfold blA
  rw [hw, hs, show rsz ⟨(cnt a).b, (cnt a).s⟩ (cnt a).b.length = (cnt a).b from rsz_self (cnt a)]
theorem vNot_any (A : Option Addr) (a : List Int) (c : Nat) (s : Bool) (w : World) (ha : a.length ≤ 4096) (hca : Hid (a.length ≤ c ∧ c ≤ maxLen)) (hA : RQ w A a) (ya : By a) (ht : Tabs w) :
    Calls Tryz.prog 65 #[.agg #[.slice A a.length c, .bool s]] w (RetC (· = vNot ⟨a, s⟩) w) := by
  have HA := hide hA
  have LA := hide ha
  have YA := hide ya
  clear hA ha ya
  have HT := hide ht
  clear ht
  go_enter Tryz.func65, Tryz.ntmps65
  go_wp2_with fail
  refine (bitwise_any _ _ opF_not A A a a c c s s _ LA.out LA.out hca hca (HA.out.below belo) (HA.out.below belo) YA.out YA.out (HT.out.kept belo)).mono ?_
  rintro e w1 ⟨l1, s1, A1, c1, E1, rfl, C1, O1, hb⟩
  replace O1 := hide (O1.out.base (show w.heap.size + 2 ≤ _ by first | omega | (simp; omega) | (simp; done)))
  have hB1 : Below w.heap.size w w1 := Below.trans belo (hb.mono (by first | omega | (simp; omega)))
  obtain ⟨kc1, kf1⟩ := bcell hb
  have hz1 := hb.size
  (try simp at hz1)
  have n1_0 : w.heap.size < w1.heap.size := by omega
  have n1_1 : w.heap.size + 1 < w1.heap.size := by omega
  clear hb
  go_wp2
  refine bodyPost_ret (v := .agg #[.slice A1 l1.length c1, .bool s1]) (by simp [results, Tryz.results65, go_sem, *]) rfl ?_
  exact ⟨l1, s1, A1, c1, hide (E1.out.trans (btw_not _)), rfl, C1, hide (OwQ.base (B := w.heap.size + 2) (by (repeat (first | with_reducible exact O1.out | with_reducible refine OwQ.far ?_ as3 _ | with_reducible refine OwQ.allc ?_ _ | with_reducible refine OwQ.drew ?_ | with_reducible refine OwQ.drewN ?_ _))) (by omega)), belo⟩
end
section
open Go.RowKit
set_option maxRecDepth 100000
set_option linter.unusedSimpArgs false
set_option linter.unusedVariables false
theorem and_mask {z : Nat} (h : z < 4294967296) : bits .and .u64 (z : Int) 4294967295 = z := by
  show IntKind.u64.wrap ((BitVec.ofInt 64 z &&& BitVec.ofInt 64 4294967295).toNat : Int) = _
  have e : (BitVec.ofInt 64 (z : Int) &&& BitVec.ofInt 64 4294967295).toNat = z := by
    rw [BitVec.toNat_and, BitVec.toNat_ofInt, BitVec.toNat_ofInt]
    rw [show ((4294967295 : Int) % ((2 ^ 64 : Nat) : Int)).toNat = 2 ^ 32 - 1 from rfl, Nat.and_two_pow_sub_one_eq_mod]
    omega
  rw [e, IntKind.wrap_u64]
  omega
theorem mul64_any (x y : Nat) (w : World) (hx : x ≤ 4096) (hy : y ≤ 4096) :
    Calls Tryz.prog 194 #[.int .u64 x, .int .u64 y] w fun e w' => e = .returned (.tuple #[.int .u64 0, .int .u64 (x * y : Nat)]) ∧ w = w' := by
  have e1 := and_mask (z := x) (by omega)
  have e2 := and_mask (z := y) (by omega)
  have e3 : (x : Int) / 4294967296 = 0 := by omega
  have e4 : (y : Int) / 4294967296 = 0 := by omega
  obtain ⟨m, hm⟩ : ∃ m, m = x * y := ⟨_, rfl⟩
  have hm1 : m ≤ 16777216 := by rw [hm]; exact Nat.mul_le_mul hx hy
  have e5 : (x : Int) * y = (m : Int) := by rw [hm]; simp
  have e6 := and_mask (z := m) (by omega)
  have e7 : (m : Int) / 4294967296 = 0 := by omega
  have HM := hide hm
  rw [← hm]
  clear hm
  go_enter Tryz.func194, Tryz.ntmps194
  go_wp2
  go_ret2
  exact ⟨rfl, rfl⟩
theorem mulb_any (x y : Nat) (w : World) (hx : x ≤ 4096) (hy : y ≤ 4096) :
    Calls Tryz.prog 167 #[.int .u64 x, .int .u64 y] w fun e w' => e = .returned (.tuple #[.int .u64 0, .int .u64 (x * y : Nat)]) ∧ w = w' := by
  obtain ⟨m, hm⟩ : ∃ m, m = x * y := ⟨_, rfl⟩
  have hm1 : m ≤ 16777216 := by rw [hm]; exact Nat.mul_le_mul hx hy
  have hc := hide fun w => mul64_any x y w hx hy
  rw [← hm]
  rw [← hm] at hc
  clear hm
  go_enter Tryz.func167, Tryz.ntmps167
  go_wp2_with (go_at_call 194; refine (hc.out _).mono ?_; rintro e w' ⟨rfl, rfl⟩)
  go_ret2
  exact ⟨rfl, rfl⟩
theorem bit_size : (Tryz.prog.info? 65).map (·.size) = some 1 := by kernel_rfl
theorem bits_one (f : Nat → Int) (n : Nat) : ∀ v ∈ (List.range n).map (fun i => Value.int .u8 (f i)), v.oneCell' = true := by
  intro v hv
  simp only [List.mem_map] at hv
  obtain ⟨b, _, rfl⟩ := hv
  rfl
theorem splice_get (cur cs : List Value) (off i : Nat) (h : off + cs.length ≤ cur.length) : (splice cur off cs)[i]? = if i < off then cur[i]? else if i < off + cs.length then cs[i - off]? else cur[i]? := by
  unfold splice
  have ht : (List.take off cur).length = off := by simp; omega
  by_cases h1 : i < off
  · rw [if_pos h1, List.getElem?_append_left (by omega), List.getElem?_take, if_pos h1]
  · rw [if_neg h1, List.getElem?_append_right (by omega), ht]
    by_cases h2 : i < off + cs.length
    · rw [if_pos h2, List.getElem?_append_left (by omega)]
    · rw [if_neg h2, List.getElem?_append_right (by omega), List.getElem?_drop]
      congr 1; omega
theorem rowq_open {w : World} {g n : Nat} {F : Nat → Int} (h : RowQ w g n F) : ∃ cs : List Value, Hid (w.heap[g]? = some (.cells cs.toArray 65 (0, 0))) ∧ Hid (∀ i, i < n → cs[i]? = some (.int .u8 (F i))) ∧ n ≤ cs.length := by
  obtain ⟨cs, hg, hc⟩ := h
  refine ⟨cs.toList, hide hg, hide fun i hi => by rw [Array.getElem?_toList]; exact hc i hi, ?_⟩
  rcases Nat.eq_zero_or_pos n with h0 | h0
  · omega
  · have := hc (n - 1) (by omega)
    rcases Nat.lt_or_ge (n - 1) cs.size with h1 | h1
    · simp; omega
    · rw [Array.getElem?_eq_none h1] at this; cases this
def RepI (w : World) (N m : Nat) (F : Nat → Int) (wr : World) : Prop :=
  (∃ cs : List Value, wr.heap[w.heap.size]? = some (.cells cs.toArray 65 (0, 0)) ∧ N ≤ cs.length ∧ ∀ i, i < m → cs[i]? = some (.int .u8 (F i))) ∧ Below w.heap.size w wr
theorem rep_mod {L m i : Nat} (hL : 0 < L) (hm : m % L = 0) (hi : m ≤ i) : (i - m) % L = i % L := by
  obtain ⟨q, rfl⟩ : ∃ q, m = L * q := ⟨m / L, by have := Nat.div_add_mod m L; omega⟩
  obtain ⟨j, rfl⟩ : ∃ j, i = L * q + j := ⟨i - L * q, by omega⟩
  rw [Nat.add_sub_cancel_left, Nat.mul_add_mod]
set_option maxHeartbeats 2000000 in
theorem repeat_any (A : Option Addr) (a : List Int) (c k N : Nat) (w : World) (h0 : 0 < a.length) (hk : 0 < k) (hN : a.length * k = N) (hN2 : N ≤ 4096) (hA : RQ w A a) :
    Calls Tryz.prog 104 #[.slice A a.length c, .int .i64 k] w (MkQ (ql N fun i => qt a (i % a.length)) w) := by
  have hL : a.length ≤ N := by rw [← hN]; exact Nat.le_mul_of_pos_right _ hk
  have hkN : k ≤ N := by rw [← hN]; exact Nat.le_mul_of_pos_left _ h0
  have hmod : N % a.length = 0 := by rw [← hN]; exact Nat.mul_mod_right _ _
  obtain ⟨L, hLe⟩ : ∃ L, L = a.length := ⟨_, rfl⟩
  obtain ⟨F, hF⟩ : ∃ F : Nat → Int, F = fun i => qt a (i % a.length) := ⟨_, rfl⟩
  have HF := hide hF
  obtain ⟨X, hX⟩ : ∃ X : List Value, X = (List.range L).map fun i => .int .u8 (F i) := ⟨_, rfl⟩
  have hXl : X.length = L := by rw [hX]; simp
  have hX1 : Hid (∀ v ∈ X, v.oneCell' = true) := hide (by rw [hX]; exact bits_one _ _)
  have HX := hide hX
  obtain ⟨ad, rfl, hlt, hc0⟩ := hA h0
  have hsrc : Hid (∀ w', Below w.heap.size w w' → ∀ j v, X[j]? = some v → w'.cell? (ad.add j) = some v) := hide (fun w' hb j v hj => by
    rw [hX, List.getElem?_map] at hj
    rcases Nat.lt_or_ge j L with hjl | hjl
    · rw [List.getElem?_range hjl] at hj
      rw [hb.cell (p := ad.add j) (by rw [block_of_add]; exact hlt), hc0 j (by omega), ← hj, hF]
      simp [Nat.mod_eq_of_lt (show j < a.length by omega)]
    · rw [List.getElem?_eq_none (by simpa using hjl)] at hj; cases hj)
  have hmul := hide fun w => mulb_any L k w (by omega) (by omega)
  rw [← hLe] at hN hL hmod h0 hF ⊢
  rw [hN] at hmul
  rw [← hF]
  clear hX hA hc0 hF
  have hkN2 : (k : Int) ≤ 4096 := by omega
  have HMOD := hide hmod
  have HLE := hide hLe
  have HN := hide hN
  clear hmod hLe hN
  go_enter Tryz.func104, Tryz.ntmps104
  go_wp2_with (first
    | (go_at_call 167; with_reducible refine (hmul.out _).mono ?_; rintro e w' ⟨rfl, rfl⟩)
    | (at_make; refine wpList_make_q _ rfl _ _ rfl _ _ N rfl rfl rfl rfl hN2 ?_; intro w1 hr1 hb1 hz1; obtain ⟨cs, hg, hcs, hlen⟩ := rowq_open hr1; clear hr1)
    | ((show wpList _ _ _ (⟨some 33, _, _, _, _, _⟩ :: _) _ _); refine wpList_copy_splice rfl (.tmp 31) (.tmp 32) 22 22 rfl 65 Tryz.underlying22 bit_size (some ⟨w.heap.size, 0, none⟩) (some ad) N N L c rfl rfl w.heap.size 0 cs 65 hg.out X (hXl.trans (Nat.min_eq_left hL).symm) (fun _ => ⟨rfl, ad, rfl, hsrc.out _ hb1⟩) (by omega) hX1.out w.heap.size w hb1 (Nat.le_refl _) ?_; intro w2 hg2 hb2))
  have hR2 : Hid (RepI w N L F w2) := hide ⟨⟨_, hg2.out, by rw [length_splice _ _ _ (by omega)]; exact hlen, fun i hi => by
    rw [splice_get _ _ _ _ (by omega), if_neg (by omega), if_pos (by omega), HX.out, List.getElem?_map, List.getElem?_range (by simpa using hi)]; rfl⟩, hb2⟩
  clear hg hcs hlen hg2 hb1 hb2
  clear hX1 HX hsrc hXl
  go_loopw [8] (fun v wr => ∃ m : Nat, v = .int .i64 m ∧ L ≤ m ∧ m ≤ N ∧ Hid (m % L = 0 ∨ m = N) ∧ RepI w N m F wr) (fun v _ => N - (intOf v).toNat)
  case atStart => exact ⟨L, rfl, Nat.le_refl _, hL, hide (Or.inl (Nat.mod_self _)), hR2.out⟩
  case round =>
    clear hR2
    obtain ⟨m, rfl, hLm, hmN, hmm, hR⟩ := hrel
    have hRH := hide hR
    obtain ⟨⟨cs, hg, hlen, hcs⟩, hb⟩ := hR
    have Hcs := hide hcs
    have Hg := hide hg
    clear hcs hg
    by_cases hlt : m < N
    · obtain ⟨X, hX⟩ : ∃ X : List Value, X = (List.range (min m (N - m))).map fun i => .int .u8 (F i) := ⟨_, rfl⟩
      have hXl : X.length = min m (N - m) := by rw [hX]; simp
      have HXl := hide hXl
      have hX1 : Hid (∀ v ∈ X, v.oneCell' = true) := hide (by rw [hX]; exact bits_one _ _)
      have HX := hide hX
      have hsrc : Hid (∀ j v, X[j]? = some v → wr.drew.cell? ((⟨w.heap.size, 0, none⟩ : Addr).add j) = some v) := hide fun j v hj => by
        show wr.cell? _ = _
        rw [addr_add, cell_of_row _ _ _ _ _ _ Hg.out, List.getElem?_toArray]
        rw [hX, List.getElem?_map] at hj
        rcases Nat.lt_or_ge j (min m (N - m)) with hjl | hjl
        · rw [List.getElem?_range hjl] at hj
          rw [Hcs.out j (by omega), ← hj]; rfl
        · rw [List.getElem?_eq_none (by simpa using hjl)] at hj; cases hj
      have hfit : Hid (m + X.length ≤ cs.length) := hide (by omega)
      have hne : ¬ N = m := by omega
      have hxl : X.length ≤ 4096 := by omega
      have hwr : IntKind.i64.wrap ((m : Int) + (X.length : Int)) = (m : Int) + X.length := by rw [IntKind.wrap_i64]; omega
      clear hX hXl
      go_wp2_with fail
      refine region_anyT (S := fun _ => True) (n := 9) kr trivial (fun hS inv => ?_)
      refine anyT_take (i := 0) (oi := _) (v := Value.int IntKind.i64 ↑m) rfl kr kr kr (by decide) (by decide) kr kr inv (fun _ _ _ h => h) (Or.inl ⟨kr, ?_⟩) hS (fun inv => ?_)
      · intro wz hSw
        first | kernel_rfl | go_simp
      (try simp only [Act.put, q2, q3, q4, q5, q6, q7])
      refine anyT_take (i := 1) (oi := _) (v := Value.slice (some ⟨w.heap.size, 0, none⟩) N N) rfl kr kr kr (by decide) (by decide) kr kr inv (fun _ _ _ h => h) (Or.inl ⟨kr, ?_⟩) hS (fun inv => ?_)
      · intro wz hSw
        first | kernel_rfl | go_simp
      (try simp only [Act.put, q2, q3, q4, q5, q6, q7])
      refine anyT_take (i := 2) (oi := _) (v := Value.int IntKind.i64 ↑m) rfl kr kr kr (by decide) (by decide) kr kr inv (fun _ _ _ h => h) (Or.inl ⟨kr, ?_⟩) hS (fun inv => ?_)
      · intro wz hSw
        first | kernel_rfl | go_simp
      (try simp only [Act.put, q2, q3, q4, q5, q6, q7])
      refine anyT_take (i := 3) (oi := _) (v := Value.slice (some ⟨w.heap.size, m, none⟩) (N - m) (N - m)) rfl kr kr kr (by decide) (by decide) kr kr inv (fun _ _ _ h => h) (Or.inl ⟨kr, ?_⟩) hS (fun inv => ?_)
      · intro wz hSw
        go_simp
      (try simp only [Act.put, q2, q3, q4, q5, q6, q7])
      refine anyT_take (i := 4) (oi := _) (v := Value.slice (some ⟨w.heap.size, 0, none⟩) N N) rfl kr kr kr (by decide) (by decide) kr kr inv (fun _ _ _ h => h) (Or.inl ⟨kr, ?_⟩) hS (fun inv => ?_)
      · intro wz hSw
        first | kernel_rfl | go_simp
      (try simp only [Act.put, q2, q3, q4, q5, q6, q7])
      refine anyT_take (i := 5) (oi := _) (v := Value.int IntKind.i64 ↑m) rfl kr kr kr (by decide) (by decide) kr kr inv (fun _ _ _ h => h) (Or.inl ⟨kr, ?_⟩) hS (fun inv => ?_)
      · intro wz hSw
        first | kernel_rfl | go_simp
      (try simp only [Act.put, q2, q3, q4, q5, q6, q7])
      refine anyT_take (i := 6) (oi := _) (v := Value.slice (some ⟨w.heap.size, 0, none⟩) m N) rfl kr kr kr (by decide) (by decide) kr kr inv (fun _ _ _ h => h) (Or.inl ⟨kr, ?_⟩) hS (fun inv => ?_)
      · intro wz hSw
        go_simp
      (try simp only [Act.put, q2, q3, q4, q5, q6, q7])
      refine anyT_ready (rs := [7]) kr (by simp) ?_
      refine ReadyT.head (o := _) rfl (by decide) kr inv (fun K hK => ?_) ReadyT.nil
      refine step_copy_splice (by rfl) (.tmp 41) (.tmp 44) 22 22 (by rfl) 65 Tryz.underlying22 bit_size (some ⟨w.heap.size, m, none⟩) (some ⟨w.heap.size, 0, none⟩) (N - m) (N - m) m N kr kr w.heap.size m cs 65 Hg.out X HXl.out (fun _ => ⟨rfl, _, rfl, hsrc.out⟩) hfit.out hX1.out w.heap.size w hb.drew (Nat.le_refl _) ?_
      intro w4 hg4 hb4
      simp only [goInt]
      refine hK.out _ _ ?_ (fun hS inv => ?_)
      · exact trivial
      clear hK K
      (try simp only [Act.put, q2, q3, q4, q5, q6, q7])
      refine anyT_take (i := 8) (oi := _) (v := Value.int IntKind.i64 (m + X.length : Nat)) rfl kr kr kr (by decide) (by decide) kr kr inv (fun _ _ _ h => h) (Or.inl ⟨kr, ?_⟩) hS (fun inv => ?_)
      · intro wz hSw
        go_simp
      (try simp only [Act.put, q2, q3, q4, q5, q6, q7])
      refine anyT_ready (rs := [9]) kr (by simp) ?_
      refine ReadyT.tail (o := _) rfl (by decide) (fun K hK => ?_)
      go_simp
      refine hK.out _ _ ?_
      clear hK K
      (try simp only [Act.put, q2, q3, q4, q5, q6, q7])
      refine anyT_done kr ?_ _
      go_wp2
      go_roundw
      case rel => exact ⟨m + X.length, by go_num, by omega, by have := HXl.out; omega, hide (by
        have h1 := HXl.out
        rcases hmm.out with h2 | h2
        · rcases Nat.le_total m (N - m) with h3 | h3
          · left; rw [h1, Nat.min_eq_left h3, Nat.add_mod, h2]; simp
          · right; omega
        · omega), ⟨⟨_, hg4.out, by rw [length_splice _ _ _ hfit.out]; exact hlen, fun i hi => by
        rw [splice_get _ _ _ _ hfit.out]
        by_cases h1 : i < m
        · rw [if_pos h1]; exact Hcs.out i h1
        · rw [if_neg h1, if_pos hi, HX.out, List.getElem?_map, List.getElem?_range (by rw [← HXl.out]; omega)]
          have h2 : m % L = 0 := by rcases hmm.out with h2 | h2 <;> omega
          rw [HF.out, ← HLE.out, Option.map_some]
          simp only [rep_mod h0 h2 (Nat.le_of_not_lt h1)]⟩, hb4⟩⟩
      case measure => simp [intOf]; have := HXl.out; omega
    · have e : m = N := by omega
      subst e
      go_wp2
      go_ret
      obtain ⟨⟨cs', hg', hl', hc'⟩, hb'⟩ := hRH.out
      exact MkQ.mk_row (F := F) ⟨_, hg', fun i hi => by rw [List.getElem?_toArray]; exact hc' i hi⟩ rfl (Nat.le_refl _) hb' (Nat.le_refl _) (max_4096 hN2)
theorem repeat_q (A : Option Addr) (a : List Int) (c k N : Nat) (w : World) (h0 : 0 < a.length) (hk : 0 < k) (hN : a.length * k = N) (hN2 : N ≤ 4096) (hA : RQ w A a) :
    Calls Tryz.prog 104 #[.slice A a.length c, .int .i64 k] w (RetQP (· = ql N fun i => qt a (i % a.length)) w) :=
  (repeat_any A a c k N w h0 hk hN hN2 hA).mono fun _ _ h => RetQP.of_mkV rfl h
theorem unknown_any (n : Nat) (s : Bool) (w : World) (h0 : 0 < n) (hn : n ≤ 4096) :
    Calls Tryz.prog 100 #[.int .i64 n, .bool s] w (RetC (· = xs n s) w) := by
  go_enter Tryz.func100, Tryz.ntmps100
  go_wp2_with fail
  refine (repeat_q (some ⟨w.heap.size + 1, 0, none⟩) [2] 1 n n _ (by simp) h0 (by simp) hn (by have h := one_rq (w.alloc (.cells #[.slice none 0 0, .bool false] 24)) 2; simpa using h)).mono ?_
  rintro e w1 ⟨l1, A1, c1, E1, rfl, C1, O1, hb⟩
  replace O1 := hide (O1.out.base (show w.heap.size + 2 ≤ _ by first | omega | (simp; omega) | (simp; done)))
  have hB1 : Below w.heap.size w w1 := Below.trans belo (hb.mono as4)
  obtain ⟨kc1, kf1⟩ := bcell hb
  have hz1 := hb.size
  (try simp at hz1)
  have n1_0 : w.heap.size < w1.heap.size := by omega
  have n1_1 : w.heap.size + 1 < w1.heap.size := by omega
  have r1_0 : w1.cell? ⟨w.heap.size, 0, none⟩ = some (.slice none 0 0) := (kc1 _ _ as0).trans as2
  have g1_0 : w1.frozen? ⟨w.heap.size, 0, none⟩ = false := (kf1 _ _ as0).trans as2
  have r1_1 : w1.cell? ⟨w.heap.size, 1, none⟩ = some (.bool false) := (kc1 _ _ as0).trans as2
  have g1_1 : w1.frozen? ⟨w.heap.size, 1, none⟩ = false := (kf1 _ _ as0).trans as2
  clear hb
  go_wp2
  refine bodyPost_ret (v := .agg #[.slice A1 l1.length c1, .bool s]) (by simp [results, Tryz.results100, go_sem, *]) rfl ?_
  exact ⟨l1, s, A1, c1, hide (by rw [E1.out]; unfold xs; exact Vc.ext' (ql_congr fun i hi => by simp [Nat.mod_one, qt]) rfl), rfl, C1, hide (OwQ.base (B := w.heap.size + 2) (by (repeat (first | with_reducible exact O1.out | with_reducible refine OwQ.far ?_ as3 _ | with_reducible refine OwQ.allc ?_ _ | with_reducible refine OwQ.drew ?_ | with_reducible refine OwQ.drewN ?_ _))) (by omega)), belo⟩
structure FillG (w1 : World) (g n k : Nat) (f : Nat → Int) (wr : World) : Prop where
  row : RowQ wr g n (ParQ k f)
  bel : Below g w1 wr
theorem FillG.step {w1 wr : World} {g n k : Nat} {f : Nat → Int} (h : FillG w1 g n k f wr) : FillG w1 g n (k + 1) f (wr.setCell ⟨g, k, none⟩ (.int .u8 (f k))) where
  row := (h.row.set_ k _).congr fun j _ => ParQ.step k f j
  bel := h.bel.setCell (by simp) _
theorem FillG.start {w1 : World} {g n : Nat} {f : Nat → Int} (h : RowQ w1 g n (fun _ => 0)) : FillG w1 g n 0 f w1 := ⟨h.congr fun j _ => by simp [ParQ], Below.refl _ _⟩
theorem FillG.done {w1 wr : World} {g n : Nat} {f : Nat → Int} (h : FillG w1 g n n f wr) : RowQ wr g n f := h.row.congr fun j hj => by simp [ParQ, hj]
theorem bcellG {B : Nat} {W w1 : World} (hb : Below B W w1) : (∀ b o, b < B → w1.cell? ⟨b, o, none⟩ = W.cell? ⟨b, o, none⟩) ∧ (∀ b o, b < B → w1.frozen? ⟨b, o, none⟩ = W.frozen? ⟨b, o, none⟩) :=
  ⟨fun b o h => hb.cell (p := ⟨b, o, none⟩) h, fun b o h => hb.frozen (p := ⟨b, o, none⟩) h⟩
set_option maxHeartbeats 1000000 in
theorem vector_any (A : Option Addr) (a : List Bool) (c : Nat) (s : Bool) (w : World) (ha : a.length ≤ 4096) (hA : Rd w A a) :
    Calls Tryz.prog 96 #[.slice A a.length c, .bool s] w (RetC (· = ⟨fb a, s⟩) w) := by
  have HA := hide hA
  clear hA
  go_enter Tryz.func96, Tryz.ntmps96
  go_wp2_with (at_make; refine wpList_make_q _ rfl _ _ rfl _ _ a.length rfl rfl rfl rfl ha ?_; intro w1 hr1 hb1 hz1)
  have hr2 : RowQ w1 (w.heap.size + 1) a.length fun _ => 0 := by simpa using hr1
  have hb2 : Below (w.heap.size + 1) (w.alloc (.cells #[.slice none 0 0, .bool false] 24)) w1 := by simpa using hb1
  have hb0 : Below w.heap.size w w1 := Below.trans belo (hb2.mono (by omega))
  obtain ⟨kc1, kf1⟩ := bcellG hb2
  clear hr1 hb1 hz1
  go_loopw [13] (fun i wr => ∃ k : Nat, k ≤ a.length ∧ i = .int .i64 k ∧ FillG w1 (w.heap.size + 1) a.length k (fun i => mFrom (bt a i)) wr) (fun i _ => a.length - (intOf i).toNat)
  case atStart => exact ⟨0, Nat.zero_le _, rfl, FillG.start hr2⟩
  case round =>
    obtain ⟨k, hk, rfl, hR⟩ := hrel
    have hRH := hide hR
    by_cases hlt : k < a.length
    · obtain ⟨ad, rfl, hlt1, hc0⟩ := HA.out.at_ hlt
      have hc : wr.cell? (ad.add k) = some (.bool (bt a k)) := ((hb0.trans (hR.bel.mono (by omega))).cell (p := ad.add k) (by rw [block_of_add]; exact hlt1)).trans hc0
      have hcg : wr.cell? ⟨w.heap.size + 1, k, none⟩ = some (.int .u8 (ParQ k (fun i => mFrom (bt a i)) k)) := hR.row.cell hlt
      have hf : wr.frozen? ⟨w.heap.size + 1, k, none⟩ = false := hR.row.free k
      clear hR
      go_wp2_with (go_at_call 57; refine (from_q _ _).mono ?_; rintro e w' ⟨rfl, rfl⟩)
      go_roundw
      case rel => exact ⟨k + 1, by omega, by go_num, hRH.out.step⟩
      case measure => simp [intOf]; omega
    · have e : k = a.length := by omega
      subst e
      obtain ⟨kcB, kfB⟩ := bcellG hR.bel
      have hBr : Below w.heap.size w wr := hb0.trans (hR.bel.mono (by omega))
      clear hR
      go_wp2
      refine bodyPost_ret (v := .agg #[.slice (some ⟨w.heap.size + 1, 0, none⟩) a.length a.length, .bool s]) (by simp [results, Tryz.results96, go_sem, *]) rfl ?_
      exact ⟨fb a, s, some ⟨w.heap.size + 1, 0, none⟩, a.length, hide rfl, by rw [fb_length], hide (by rw [fb_length]; exact ⟨Nat.le_refl _, max_4096 ha⟩), hide fun _ => ⟨_, rfl, by omega, by
        rw [fb_length]
        exact (((hRH.out.done.congr fun i hi => by unfold fb; rw [qt_ql_lt hi]).far (by simp) _).far (by simp) _)⟩, belo⟩
end
section
open Go Go.RowKit
theorem kQ {w w' : World} {A : Option Addr} {l : List Int} (h : Hid (RQ w A l)) (hb : Below w.heap.size w w') : Hid (RQ w' A l) := hide (h.out.below hb)
end
section
open Go Go.RowKit
theorem kO {B : Nat} {w w' : World} {A : Option Addr} {l : List Int} (h : Hid (OwQ B w A l)) (hb : Below w.heap.size w w') : Hid (OwQ B w' A l) := hide (h.out.kept hb)
end
section
open Go Go.RowKit
theorem kU {a b c : World} (h : Below a.heap.size a b) (hb : Below b.heap.size b c) : Below a.heap.size a c := h.trans (hb.mono h.size)
end
section
open Go Go.RowKit
theorem owT {P Q : Prop} (h : Hid P) (k : P → Q := by intro h0; (repeat (first | with_reducible exact h0 | with_reducible refine OwQ.far ?_ as3 _ | with_reducible refine OwQ.allc ?_ _ | with_reducible refine OwQ.drew ?_ | with_reducible refine OwQ.drewN ?_ _))) : Q := k h.out
end
section
open Go Go.RowKit
theorem rgT {P Q : Prop} (h : Hid P) (k : P → Q := by intro h0; (repeat (first | with_reducible exact h0 | with_reducible refine RG.setc ?_ as3 as3 _ | with_reducible refine RG.allc ?_ _ | with_reducible refine RG.drew ?_ | with_reducible refine RG.drewN ?_ _))) : Q := k h.out
end
end Go.Proofs.YtbcpeagannjgpaaGreatDoor
