/-
  The contracts of the reference's DivMod, SDivMod and shifts.
-/
import Derived.Test.YtkjiaflmaniplaaBvY
namespace Go.Proofs.Ytkjiaflmaniplaa
open Go.RowKit
set_option linter.unusedSimpArgs false
set_option linter.unusedVariables false

theorem trimmed_zero {b x : List Bool} (h : Trimmed b x) (h0 : nv b = 0) : x.length = 0 := by
  rcases Nat.eq_zero_or_pos x.length with h1 | h1
  · exact h1
  · have := nf_big (f := bt x) (n := x.length) (i := x.length - 1) (by omega) (h.2.2 h1)
    have e : nf (bt x) x.length = nv x := rfl
    have := h.1
    have : 0 < 2 ^ (x.length - 1) := Nat.pow_pos (by decide)
    omega
theorem trimmed_pos {b x : List Bool} (h : Trimmed b x) (h0 : 0 < nv b) : 0 < x.length := by
  rcases Nat.eq_zero_or_pos x.length with h1 | h1
  · have := nv_lt x; rw [h1] at this; have := h.1; omega
  · exact h1
def Zero3 (w : World) (e : Ending) (w' : World) : Prop := e = .returned (.tuple #[.slice none 0 0, .slice none 0 0, .int .i64 7]) ∧ Below w.heap.size w w'

theorem rdiv_zero (A B : Option Addr) (a b : List Bool) (c d : Nat) (w : World) (hb : b.length ≤ 4000) (hcb : Hid (b.length ≤ d ∧ d ≤ maxLen)) (hB : Rd w B b) (h0 : nv b = 0) :
    Calls Try.prog 30 #[.slice A a.length c, .slice B b.length d] w (Zero3 w) := by
  have H0 := hide h0
  clear h0
  go_enter Try.func30, Try.ntmps30
  go_wp2_with fail
  refine (trim_any B b d w (by omega) hcb hB).mono ?_
  rintro e w1 ⟨x, X, cx, Ex, rfl, Cx, Ox, hb1⟩
  have hx := trimmed_zero Ex.out H0.out
  go_wp2
  go_ret3
  exact ⟨rfl, hb1⟩
theorem rsdiv_zero (A B : Option Addr) (a b : List Bool) (c d : Nat) (w : World) (hb : b.length ≤ 4000) (hcb : Hid (b.length ≤ d ∧ d ≤ maxLen)) (hB : Rd w B b) (h0 : nv b = 0) :
    Calls Try.prog 31 #[.slice A a.length c, .slice B b.length d] w (Zero3 w) := by
  have H0 := hide h0
  clear h0
  go_enter Try.func31, Try.ntmps31
  go_wp2_with fail
  refine (trim_any B b d w (by omega) hcb hB).mono ?_
  rintro e w1 ⟨x, X, cx, Ex, rfl, Cx, Ox, hb1⟩
  have hx := trimmed_zero Ex.out H0.out
  go_wp2
  go_ret3
  exact ⟨rfl, hb1⟩

set_option maxHeartbeats 1000000 in
theorem rdiv_any (A B : Option Addr) (a b : List Bool) (c d : Nat) (w : World) (ha : a.length ≤ 4000) (hb : b.length ≤ 4000) (hcb : Hid (b.length ≤ d ∧ d ≤ maxLen)) (hA : Rd w A a) (hB : Rd w B b) (h0 : 0 < nv b) :
    Calls Try.prog 30 #[.slice A a.length c, .slice B b.length d] w (RetD (fun q => q = vz a.length ((nv a / nv b : Nat) : Int)) (fun r => r = vz a.length ((nv a % nv b : Nat) : Int)) w) := by
  have HA := hide hA
  have HB := hide hB
  have H0 := hide h0
  clear hA hB h0
  go_enter Try.func30, Try.ntmps30
  go_wp2_with fail
  refine (trim_any B b d w (by omega) hcb HB.out).mono ?_
  rintro e w1 ⟨x, X, cx, Ex, rfl, Cx, Ox, hb1⟩
  have hx := trimmed_pos Ex.out H0.out
  have B1 := hide hb1
  have HA1 := hide (HA.out.below hb1)
  have HB1 := hide (HB.out.below hb1)
  clear hb1
  go_wp2_with fail
  refine (divide_any A B a b c d w1 ha hb hcb HA1.out HB1.out H0.out).mono ?_
  rintro e w2 ⟨q, Q, cq, r, R, cr, Eq, Er, rfl, Oq, Or, hb2⟩
  have B2 := hide (B1.out.trans (hb2.mono B1.out.size))
  have hq4 : q.length ≤ 4096 := by have := Eq.out.2; omega
  have hr4 : r.length ≤ 4096 := by have := Er.out.2; omega
  clear hb2
  go_wp2_with fail
  refine (fit_any Q q cq a.length w2 hq4 (by omega) Oq.out.rd).mono ?_
  rintro e w3 ⟨y, Y, cy, Ey, rfl, Cy, Oy, hb3⟩
  have B3 := hide (B2.out.trans (hb3.mono B2.out.size))
  have Rr := hide (Or.out.kept hb3).rd
  clear hb3
  go_wp2_with fail
  refine (fit_any R r cr a.length w3 hr4 (by omega) Rr.out).mono ?_
  rintro e w4 ⟨z, Z, cz, Ez, rfl, Cz, Oz, hb4⟩
  have B4 := hide (B3.out.trans (hb4.mono B3.out.size))
  have OY := hide ((Oy.out.kept hb4).base B2.out.size)
  have OZ := hide (Oz.out.base B3.out.size)
  clear hb4
  go_wp2
  go_ret3
  exact ⟨y, Y, cy, z, Z, cz, hide (by show y = _; rw [Ey.out, Eq.out.1]), hide (by show z = _; rw [Ez.out, Er.out.1]), rfl, OY, OZ, B4.out⟩

set_option maxHeartbeats 2000000 in
theorem rsdiv_any (A B : Option Addr) (a b : List Bool) (c d : Nat) (w : World) (ha : a.length ≤ 3000) (hb : b.length ≤ 3000) (hca : Hid (a.length ≤ c ∧ c ≤ maxLen)) (hcb : Hid (b.length ≤ d ∧ d ≤ maxLen)) (hA : Rd w A a) (hB : Rd w B b) (h0 : 0 < nv b) :
    Calls Try.prog 31 #[.slice A a.length c, .slice B b.length d] w (RetD (fun q => q = vz a.length ((sv a).tdiv (sv b))) (fun r => r = vz a.length ((sv a).tmod (sv b))) w) := by
  have HA := hide hA
  have HB := hide hB
  have H0 := hide h0
  clear hA hB h0
  go_enter Try.func31, Try.ntmps31
  go_wp2_with fail
  refine (trim_any B b d w (by omega) hcb HB.out).mono ?_
  rintro e w1 ⟨x, X, cx, Ex, rfl, Cx, Ox, hb1⟩
  have hx := trimmed_pos Ex.out H0.out
  have B1 := hide hb1
  have HA1 := hide (HA.out.below hb1)
  have HB1 := hide (HB.out.below hb1)
  clear hb1
  go_wp2_with fail
  refine (size_any A a c w1 (by omega) hca HA1.out).mono ?_
  rintro e w2 ⟨s, S, cs, Es, rfl, Cs, Os, hb2⟩
  have B2 := hide (B1.out.trans (hb2.mono B1.out.size))
  have HB2 := hide (HB1.out.below hb2)
  clear hb2
  go_wp2_with fail
  refine (size_any B b d w2 (by omega) hcb HB2.out).mono ?_
  rintro e w3 ⟨t, T, ct, Et, rfl, Ct, Ot, hb3⟩
  have B3 := hide (B2.out.trans (hb3.mono B2.out.size))
  have Rs := hide (Os.out.kept hb3).rd
  clear hb3
  go_wp2_with fail
  refine (divide_any S T s t cs ct w3 (by have := Es.out.2; omega) (by have := Et.out.2; omega) Ct Rs.out Ot.out.rd (by rw [Et.out.1]; exact Nat.pos_of_ne_zero fun h => by have := (mg_zero b).1 h; have := H0.out; omega)).mono ?_
  rintro e w4 ⟨q, Q, cq, r, R, cr, Eq, Er, rfl, Oq, Or, hb4⟩
  have B4 := hide (B3.out.trans (hb4.mono B3.out.size))
  have hq4 : q.length ≤ 4096 := by have := Eq.out.2; have := Es.out.2; omega
  have hr4 : r.length ≤ 4096 := by have := Er.out.2; have := Es.out.2; omega
  clear hb4
  go_wp2_with fail
  refine (fit_any Q q cq a.length w4 hq4 (by omega) Oq.out.rd).mono ?_
  rintro e w5 ⟨y, Y, cy, Ey, rfl, Cy, Oy, hb5⟩
  have B5 := hide (B4.out.trans (hb5.mono B4.out.size))
  have Rr := hide (Or.out.kept hb5).rd
  clear hb5
  go_wp2_with fail
  refine (fit_any R r cr a.length w5 hr4 (by omega) Rr.out).mono ?_
  rintro e w6 ⟨z, Z, cz, Ez, rfl, Cz, Oz, hb6⟩
  have B6 := hide (B5.out.trans (hb6.mono B5.out.size))
  have OY := hide ((Oy.out.kept hb6).base B4.out.size)
  have OZ := hide (Oz.out.base B5.out.size)
  have LY : Hid (y.length = a.length) := hide (by rw [Ey.out, vz_length])
  have LZ : Hid (z.length = a.length) := hide (by rw [Ez.out, vz_length])
  have EY : Hid (y = vz a.length ((mg a / mg b : Nat) : Int)) := hide (by rw [Ey.out, Eq.out.1, Es.out.1, Et.out.1])
  have EZ : Hid (z = vz a.length ((mg a % mg b : Nat) : Int)) := hide (by rw [Ez.out, Er.out.1, Es.out.1, Et.out.1])
  have hy4 : y.length ≤ 4000 := by have := LY.out; omega
  have hz4 : z.length ≤ 4000 := by have := LZ.out; omega
  have HA6 := hide (HA.out.below B6.out)
  have HB6 := hide (HB.out.below B6.out)
  clear hb6
  have hna := hide (rneg_any A a c w6 (by omega) HA6.out)
  have hnb := hide (rneg_any B b d w6 (by omega) HB6.out)
  cases hx : ng a <;> cases hy : ng b
  · have hs := hide (sdiv_pp hx hy)
    rw [hx] at hna
    rw [hy] at hnb
    clear hx hy
    go_wp2_with fail
    refine (hna.out).mono ?_
    rintro e w' ⟨rfl, rfl⟩
    go_wp2_with fail
    refine (hnb.out).mono ?_
    rintro e w' ⟨rfl, rfl⟩
    go_wp2_with fail
    refine (hna.out).mono ?_
    rintro e w' ⟨rfl, rfl⟩
    go_wp2
    go_ret3
    exact ⟨y, Y, cy, z, Z, cz, hide (by show y = _; rw [EY.out, hs.out.1]), hide (by show z = _; rw [EZ.out, hs.out.2]), rfl, OY, OZ, B6.out⟩
  · have hs := hide (sdiv_pn hx hy)
    rw [hx] at hna
    rw [hy] at hnb
    have HX := hide hx
    clear hx hy
    go_wp2_with fail
    refine (hna.out).mono ?_
    rintro e w' ⟨rfl, rfl⟩
    go_wp2_with fail
    refine (hnb.out).mono ?_
    rintro e w' ⟨rfl, rfl⟩
    go_wp2_with fail
    refine (rneg2_any Y y cy w6 hy4 OY.out.rd).mono ?_
    rintro e w7 ⟨u, U, cu, Eu, rfl, Cu, Ou, hb7⟩
    have B7 := hide (B6.out.trans (hb7.mono B6.out.size))
    have OU := hide (Ou.out.base B6.out.size)
    have OZ7 := hide (OZ.out.kept hb7)
    have hna7 := rneg_any A a c w7 (by omega) (HA6.out.below hb7)
    rw [HX.out] at hna7
    have HN7 := hide hna7
    clear hb7 hna7
    go_wp2_with fail
    refine (HN7.out).mono ?_
    rintro e w' ⟨rfl, rfl⟩
    go_wp2
    go_ret3
    exact ⟨u, U, cu, z, Z, cz, hide (by show u = _; rw [Eu.out, EY.out, vz_length, vz_neg, hs.out.1]), hide (by show z = _; rw [EZ.out, hs.out.2]), rfl, OU, OZ7, B7.out⟩
  · have hs := hide (sdiv_np hx hy)
    rw [hx] at hna
    rw [hy] at hnb
    have HX := hide hx
    clear hx hy
    go_wp2_with fail
    refine (hna.out).mono ?_
    rintro e w' ⟨rfl, rfl⟩
    go_wp2_with fail
    refine (hnb.out).mono ?_
    rintro e w' ⟨rfl, rfl⟩
    go_wp2_with fail
    refine (rneg2_any Y y cy w6 hy4 OY.out.rd).mono ?_
    rintro e w7 ⟨u, U, cu, Eu, rfl, Cu, Ou, hb7⟩
    have B7 := hide (B6.out.trans (hb7.mono B6.out.size))
    have OU := hide (Ou.out.base B6.out.size)
    have OZ7 := hide (OZ.out.kept hb7)
    have hna7 := rneg_any A a c w7 (by omega) (HA6.out.below hb7)
    rw [HX.out] at hna7
    have HN7 := hide hna7
    clear hb7 hna7
    go_wp2_with fail
    refine (HN7.out).mono ?_
    rintro e w' ⟨rfl, rfl⟩
    go_wp2_with fail
    refine (rneg2_any Z z cz w7 hz4 OZ7.out.rd).mono ?_
    rintro e w8 ⟨v, V, cv, Ev, rfl, Cv, Ov, hb8⟩
    have B8 := hide (B7.out.trans (hb8.mono B7.out.size))
    have OV := hide (Ov.out.base B7.out.size)
    have OU8 := hide (OU.out.kept hb8)
    clear hb8
    go_wp2
    go_ret3
    exact ⟨u, U, cu, v, V, cv, hide (by show u = _; rw [Eu.out, EY.out, vz_length, vz_neg, hs.out.1]), hide (by show v = _; rw [Ev.out, EZ.out, vz_length, vz_neg, hs.out.2]), rfl, OU8, OV, B8.out⟩
  · have hs := hide (sdiv_nn hx hy)
    rw [hx] at hna
    rw [hy] at hnb
    clear hx hy
    go_wp2_with fail
    refine (hna.out).mono ?_
    rintro e w' ⟨rfl, rfl⟩
    go_wp2_with fail
    refine (hnb.out).mono ?_
    rintro e w' ⟨rfl, rfl⟩
    go_wp2_with fail
    refine (hna.out).mono ?_
    rintro e w' ⟨rfl, rfl⟩
    go_wp2_with fail
    refine (rneg2_any Z z cz w6 hz4 OZ.out.rd).mono ?_
    rintro e w8 ⟨v, V, cv, Ev, rfl, Cv, Ov, hb8⟩
    have B8 := hide (B6.out.trans (hb8.mono B6.out.size))
    have OV := hide (Ov.out.base B6.out.size)
    have OY8 := hide (OY.out.kept hb8)
    clear hb8
    go_wp2
    go_ret3
    exact ⟨y, Y, cy, v, V, cv, hide (by show y = _; rw [EY.out, hs.out.1]), hide (by show v = _; rw [Ev.out, EZ.out, vz_length, vz_neg, hs.out.2]), rfl, OY8, OV, B8.out⟩
end Go.Proofs.Ytkjiaflmaniplaa
