/-
  The contracts of the reference's Cmp, Size, SCmp, Add, Neg, Sub, times, Mul, Pow.
-/
import Derived.Test.YtkjiaflmaniplaaBvU
namespace Go.Proofs.Ytkjiaflmaniplaa
open Go.RowKit
set_option linter.unusedSimpArgs false
set_option linter.unusedVariables false

theorem og_top {f g : Nat → Bool} {i n : Nat} (hi : i < n) (h : ∀ j, i < j → f j = g j) (hne : f i ≠ g i) : og f g n = if g i then -1 else 1 := by
  induction n with
  | zero => omega
  | succ n ih =>
    by_cases e : i = n
    · subst e
      unfold og
      cases hf : f i <;> cases hg : g i <;> simp_all
    · rw [og_eq (h n (by omega)) rfl]; exact ih (by omega)
theorem og_same {f g : Nat → Bool} (h : ∀ j, f j = g j) (n : Nat) : og f g n = 0 := by
  induction n with
  | zero => rfl
  | succ n ih => rw [og_eq (h n) rfl, ih]
theorem cmp_top {a b : List Bool} {i : Nat} (hi : i < a.length) (hl : a.length = b.length) (h : ∀ j, i < j → bt a j = bt b j) (hne : bt a i ≠ bt b i) : cmp (nv a) (nv b) = if bt b i then -1 else 1 := by
  rw [← og_top hi h hne, og_spec]
  unfold nv; rw [← hl]
theorem trimmed_lt {a b x y : List Bool} (ha : Trimmed a x) (hb : Trimmed b y) (h : x.length < y.length) : cmp (nv a) (nv b) = -1 := by
  have h1 := nv_lt x
  have h2 := nf_big (f := bt y) (n := y.length) (i := y.length - 1) (by omega) (hb.2.2 (by omega))
  have h3 : 2 ^ x.length ≤ 2 ^ (y.length - 1) := Nat.pow_le_pow_right (by decide) (by omega)
  have e1 := ha.1
  have e2 := hb.1
  have : nf (bt y) y.length = nv y := rfl
  unfold cmp; rw [if_pos (by omega)]
theorem trimmed_gt {a b x y : List Bool} (ha : Trimmed a x) (hb : Trimmed b y) (h : y.length < x.length) : cmp (nv a) (nv b) = 1 := by
  have h1 := nv_lt y
  have h2 := nf_big (f := bt x) (n := x.length) (i := x.length - 1) (by omega) (ha.2.2 (by omega))
  have h3 : 2 ^ y.length ≤ 2 ^ (x.length - 1) := Nat.pow_le_pow_right (by decide) (by omega)
  have e1 := ha.1
  have e2 := hb.1
  have : nf (bt x) x.length = nv x := rfl
  unfold cmp; rw [if_neg (by omega), if_pos (by omega)]

set_option maxHeartbeats 2000000 in
theorem rcmp_any (A B : Option Addr) (a b : List Bool) (c d : Nat) (w : World) (ha : a.length ≤ 4096) (hb : b.length ≤ 4096) (hca : Hid (a.length ≤ c ∧ c ≤ maxLen)) (hcb : Hid (b.length ≤ d ∧ d ≤ maxLen)) (hA : Rd w A a) (hB : Rd w B b) :
    Calls Try.prog 27 #[.slice A a.length c, .slice B b.length d] w (Mk (.int .i64 (cmp (nv a) (nv b))) w) := by
  have HA := hide hA
  have HB := hide hB
  clear hA hB
  obtain ⟨z, hz⟩ : ∃ z, z = cmp (nv a) (nv b) := ⟨_, rfl⟩
  rw [← hz]
  have HZ := hide hz
  clear hz
  go_enter Try.func27, Try.ntmps27
  go_wp2_with fail
  refine (trim_any A a c w ha hca HA.out).mono ?_
  rintro e w1 ⟨x, X, cx, Ex, rfl, Cx, Ox, hb1⟩
  have HB1 := hide (HB.out.below hb1)
  have B1 := hide hb1
  clear hb1
  go_wp2_with fail
  refine (trim_any B b d w1 hb hcb HB1.out).mono ?_
  rintro e w2 ⟨y, Y, cy, Ey, rfl, Cy, Oy, hb2⟩
  have Rx := hide (Ox.out.kept hb2).rd
  have Ry := hide Oy.out.rd
  have B2 := hide (B1.out.trans (hb2.mono B1.out.size))
  have hx4 : x.length ≤ 4096 := Nat.le_trans Ex.out.2.1 ha
  have hy4 : y.length ≤ 4096 := Nat.le_trans Ey.out.2.1 hb
  clear hb2
  rcases Nat.lt_trichotomy x.length y.length with h | h | h
  · have hr := hide (trimmed_lt Ex.out Ey.out h)
    go_wp2
    go_ret
    exact ⟨ret_int (by rw [HZ.out, hr.out]), B2.out⟩
  · have HL := hide h
    rw [← h]
    clear h
    go_wp2
    go_loopw [5] (fun i wr => ∃ k : Nat, k ≤ x.length ∧ i = .int .i64 ((k : Int) - 1) ∧ Hid (∀ j, k ≤ j → bt x j = bt y j) ∧ ∃ n, wr = w2.drewN n) (fun i _ => (intOf i + 1).toNat)
    case atStart => exact ⟨x.length, Nat.le_refl _, rfl, hide fun j hj => by rw [bt_ge hj, bt_ge (by rw [← HL.out]; exact hj)], 0, rfl⟩
    case round =>
      obtain ⟨k, hk, rfl, hno, n, rfl⟩ := hrel
      rcases Nat.eq_zero_or_pos k with h0 | h0
      · subst h0
        have hr : Hid (cmp (nv a) (nv b) = 0) := hide (by
          rw [← Ex.out.1, ← Ey.out.1, show x = y from list_ext HL.out fun i hi => hno.out i (Nat.zero_le _)]
          unfold cmp; simp)
        go_wp2
        go_ret
        exact ⟨ret_int (by rw [HZ.out, hr.out]), below_drewN B2.out _⟩
      · obtain ⟨m, rfl⟩ : ∃ m, k = m + 1 := ⟨k - 1, by omega⟩
        rw [show (((m + 1 : Nat)) : Int) - 1 = m by omega]
        have hmx : m < x.length := by omega
        obtain ⟨ad, rfl, hlt1, hc1⟩ := Rx.out.at_ hmx
        obtain ⟨bd, rfl, hlt2, hc2⟩ := Ry.out.at_ (i := m) (by rw [← HL.out]; exact hmx)
        have hr := cmp_top (a := x) (b := y) hmx HL.out fun j hj => hno.out j (by omega)
        rw [Ex.out.1, Ey.out.1] at hr
        cases h1 : bt x m <;> cases h2 : bt y m
        all_goals
          rw [h1] at hc1
          rw [h2] at hc2
          rw [h1, h2] at hr
          have HR := hide hr
          have H1 := hide h1
          have H2 := hide h2
          clear hr h1 h2
          go_wp2
          go_quiet (fail)
          go_wp2
        · go_roundw
          case rel => exact ⟨m, by omega, rfl, hide fun j hj => by
            by_cases e : j = m
            · subst e; rw [H1.out, H2.out]
            · exact hno.out j (by omega), _, rfl⟩
          case measure => first | (simp [intOf]; done) | (simp [intOf]; omega)
        · go_ret
          exact ⟨ret_int (by rw [HZ.out, HR.out (by simp)]; rfl), below_drewN B2.out _⟩
        · go_ret
          exact ⟨ret_int (by rw [HZ.out, HR.out (by simp)]; rfl), below_drewN B2.out _⟩
        · go_roundw
          case rel => exact ⟨m, by omega, rfl, hide fun j hj => by
            by_cases e : j = m
            · subst e; rw [H1.out, H2.out]
            · exact hno.out j (by omega), _, rfl⟩
          case measure => first | (simp [intOf]; done) | (simp [intOf]; omega)
  · have hr := hide (trimmed_gt Ex.out Ey.out h)
    have hn : ¬ x.length < y.length := by omega
    have hn2 : ¬ x.length = y.length := by omega
    go_wp2
    go_ret
    exact ⟨ret_int (by rw [HZ.out, hr.out]), B2.out⟩

theorem size_any (A : Option Addr) (a : List Bool) (c : Nat) (w : World) (ha : a.length ≤ 4000) (hca : Hid (a.length ≤ c ∧ c ≤ maxLen)) (hA : Rd w A a) :
    Calls Try.prog 52 #[.slice A a.length c] w (RetP (fun l => nv l = mg a ∧ l.length ≤ a.length + 1) w) := by
  have HA := hide hA
  clear hA
  have hn := hide (rneg_any A a c w (by omega) HA.out)
  cases hx : ng a
  · rw [hx] at hn
    have e : mg a = nv a := by unfold mg sv; rw [hx]; simp
    have E := hide e
    clear e hx
    go_enter Try.func52, Try.ntmps52
    go_wp2_with fail
    refine (hn.out).mono ?_
    rintro e w' ⟨rfl, rfl⟩
    go_wp2_with fail
    refine (trim_any A a c w (by omega) hca HA.out).mono ?_
    rintro e w1 ⟨x, X, cx, Ex, rfl, Cx, Ox, hb1⟩
    go_wp2
    go_ret
    exact ⟨x, X, cx, hide ⟨by rw [Ex.out.1, E.out], by have := Ex.out.2.1; omega⟩, rfl, Cx, Ox, hb1⟩
  · rw [hx] at hn
    have e : mg a = 2 ^ a.length - nv a ∧ nv a ≤ 2 ^ a.length := by
      have k := nv_lt a
      have p := two_cast a.length
      have q : sv a = (nv a : Int) - 2 ^ a.length := by unfold sv; rw [hx]; simp
      unfold mg; omega
    have E := hide e
    clear e hx
    go_enter Try.func52, Try.ntmps52
    go_wp2_with fail
    refine (hn.out).mono ?_
    rintro e w' ⟨rfl, rfl⟩
    go_wp2_with fail
    refine (power_any a.length w (by omega)).mono ?_
    rintro e w1 ⟨x, X, cx, Ex, rfl, Cx, Ox, hb1⟩
    have HA1 := hide (HA.out.below hb1)
    have B1 := hide hb1
    have hx4 : x.length ≤ 4096 := by have := Ex.out.2; omega
    clear hb1
    go_wp2_with fail
    refine (minus_any X A x a cx c w1 hx4 (by omega) Ox.out.rd HA1.out (by rw [Ex.out.1]; exact E.out.2)).mono ?_
    rintro e w2 ⟨y, Y, cy, Ey, rfl, Cy, Oy, hb2⟩
    have B2 := hide (B1.out.trans (hb2.mono B1.out.size))
    have OY := hide (Oy.out.base B1.out.size)
    clear hb2
    go_wp2
    go_ret
    exact ⟨y, Y, cy, hide ⟨by rw [Ey.out.1, Ex.out.1, E.out.1], by rw [Ey.out.2, Ex.out.2]; omega⟩, rfl, Cy, OY, B2.out⟩

theorem mg_cmp_pp {a b : List Bool} (h : ng a = false) (k : ng b = false) : cmp (mg a) (mg b) = cmp (sv a) (sv b) := by
  rw [sv_mg a, sv_mg b, h, k]; simp
theorem mg_cmp_nn {a b : List Bool} (h : ng a = true) (k : ng b = true) : cmp (mg b) (mg a) = cmp (sv a) (sv b) := by
  rw [sv_mg a, sv_mg b, h, k]; unfold cmp; simp

set_option maxHeartbeats 1000000 in
theorem rscmp_any (A B : Option Addr) (a b : List Bool) (c d : Nat) (w : World) (ha : a.length ≤ 4000) (hb : b.length ≤ 4000) (hca : Hid (a.length ≤ c ∧ c ≤ maxLen)) (hcb : Hid (b.length ≤ d ∧ d ≤ maxLen)) (hA : Rd w A a) (hB : Rd w B b) :
    Calls Try.prog 29 #[.slice A a.length c, .slice B b.length d] w (Mk (.int .i64 (cmp (sv a) (sv b))) w) := by
  have HA := hide hA
  have HB := hide hB
  clear hA hB
  have hna := hide (rneg_any A a c w (by omega) HA.out)
  have hnb := hide (rneg_any B b d w (by omega) HB.out)
  cases hx : ng a <;> cases hy : ng b
  all_goals
    rw [hx] at hna
    rw [hy] at hnb
  · rw [← mg_cmp_pp hx hy]
    clear hx hy
    go_enter Try.func29, Try.ntmps29
    go_wp2_with fail
    refine (hna.out).mono ?_
    rintro e w' ⟨rfl, rfl⟩
    go_wp2_with fail
    refine (hnb.out).mono ?_
    rintro e w' ⟨rfl, rfl⟩
    go_wp2_with fail
    refine (hna.out).mono ?_
    rintro e w' ⟨rfl, rfl⟩
    go_wp2_with fail
    refine (size_any A a c w ha hca HA.out).mono ?_
    rintro e w1 ⟨x, X, cx, Ex, rfl, Cx, Ox, hb1⟩
    have HB1 := hide (HB.out.below hb1)
    have B1 := hide hb1
    clear hb1
    go_wp2_with fail
    refine (size_any B b d w1 hb hcb HB1.out).mono ?_
    rintro e w2 ⟨y, Y, cy, Ey, rfl, Cy, Oy, hb2⟩
    have Rx := hide (Ox.out.kept hb2).rd
    have B2 := hide (B1.out.trans (hb2.mono B1.out.size))
    clear hb2
    go_wp2_with fail
    refine (rcmp_any X Y x y cx cy w2 (by have := Ex.out.2; omega) (by have := Ey.out.2; omega) Cx Cy Rx.out Oy.out.rd).mono ?_
    rintro e w3 ⟨rfl, hb3⟩
    have B3 := hide (B2.out.trans (hb3.mono B2.out.size))
    clear hb3
    go_wp2
    go_ret
    exact ⟨ret_int (by rw [Ex.out.1, Ey.out.1]), B3.out⟩
  · rw [scmp_gt hx hy]
    clear hx hy
    go_enter Try.func29, Try.ntmps29
    go_wp2_with fail
    refine (hna.out).mono ?_
    rintro e w' ⟨rfl, rfl⟩
    go_wp2_with fail
    refine (hnb.out).mono ?_
    rintro e w' ⟨rfl, rfl⟩
    go_wp2_with fail
    refine (hna.out).mono ?_
    rintro e w' ⟨rfl, rfl⟩
    go_wp2
    go_ret
    exact ⟨rfl, Below.refl _ _⟩
  · rw [scmp_lt hx hy]
    clear hx hy
    go_enter Try.func29, Try.ntmps29
    go_wp2_with fail
    refine (hna.out).mono ?_
    rintro e w' ⟨rfl, rfl⟩
    go_wp2_with fail
    refine (hnb.out).mono ?_
    rintro e w' ⟨rfl, rfl⟩
    go_wp2_with fail
    refine (hna.out).mono ?_
    rintro e w' ⟨rfl, rfl⟩
    go_wp2
    go_ret
    exact ⟨rfl, Below.refl _ _⟩
  · rw [← mg_cmp_nn hx hy]
    clear hx hy
    go_enter Try.func29, Try.ntmps29
    go_wp2_with fail
    refine (hna.out).mono ?_
    rintro e w' ⟨rfl, rfl⟩
    go_wp2_with fail
    refine (hnb.out).mono ?_
    rintro e w' ⟨rfl, rfl⟩
    go_wp2_with fail
    refine (hna.out).mono ?_
    rintro e w' ⟨rfl, rfl⟩
    go_wp2_with fail
    refine (size_any B b d w hb hcb HB.out).mono ?_
    rintro e w1 ⟨y, Y, cy, Ey, rfl, Cy, Oy, hb1⟩
    have HA1 := hide (HA.out.below hb1)
    have B1 := hide hb1
    clear hb1
    go_wp2_with fail
    refine (size_any A a c w1 ha hca HA1.out).mono ?_
    rintro e w2 ⟨x, X, cx, Ex, rfl, Cx, Ox, hb2⟩
    have Ry := hide (Oy.out.kept hb2).rd
    have B2 := hide (B1.out.trans (hb2.mono B1.out.size))
    clear hb2
    go_wp2_with fail
    refine (rcmp_any Y X y x cy cx w2 (by have := Ey.out.2; omega) (by have := Ex.out.2; omega) Cy Cx Ry.out Ox.out.rd).mono ?_
    rintro e w3 ⟨rfl, hb3⟩
    have B3 := hide (B2.out.trans (hb3.mono B2.out.size))
    clear hb3
    go_wp2
    go_ret
    exact ⟨ret_int (by rw [Ex.out.1, Ey.out.1]), B3.out⟩
end Go.Proofs.Ytkjiaflmaniplaa
