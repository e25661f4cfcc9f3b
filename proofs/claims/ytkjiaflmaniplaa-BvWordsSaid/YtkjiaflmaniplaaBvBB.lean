/-
  The contracts of the reference's Uint, Int and of its FromInt's errors.
-/
import Derived.Test.YtkjiaflmaniplaaBvAA
namespace Go.Proofs.Ytkjiaflmaniplaa
open Go.RowKit
set_option linter.unusedSimpArgs false
set_option linter.unusedVariables false

theorem rfrom_err (z n : Int) (w : World) (hn : n < 0 ∨ 128 < n) :
    Calls Try.prog 34 #[.int .i64 z, .int .i64 n] w fun e w' => e = .returned (.tuple #[.slice none 0 0, .int .i64 1]) ∧ w = w' := by
  rcases hn with h | h
  · go_enter Try.func34, Try.ntmps34
    go_wp2
    go_ret2
    exact ⟨rfl, rfl⟩
  · have h0 : ¬ n < 0 := by omega
    go_enter Try.func34, Try.ntmps34
    go_wp2
    go_ret2
    exact ⟨rfl, rfl⟩

theorem u64_dbl (X : Nat) : IntKind.u64.wrap (((X % 18446744073709551616 : Nat) : Int) * 2) = ((2 * X % 18446744073709551616 : Nat) : Int) := by
  rw [IntKind.wrap_u64]; omega
theorem u64_dbl1 (X : Nat) : IntKind.u64.wrap (((2 * X % 18446744073709551616 : Nat) : Int) + 1) = (((2 * X + 1) % 18446744073709551616 : Nat) : Int) := by
  rw [IntKind.wrap_u64]; omega

set_option maxHeartbeats 1000000 in
theorem ruint_any (A : Option Addr) (a : List Bool) (c : Nat) (w : World) (ha : a.length ≤ 4096) (hca : Hid (a.length ≤ c ∧ c ≤ maxLen)) (hA : Rd w A a) :
    Calls Try.prog 43 #[.slice A a.length c] w fun e w' => UintA a e ∧ Below w.heap.size w w' := by
  go_enter Try.func43, Try.ntmps43
  go_wp2_with fail
  refine (trim_any A a c w ha hca hA).mono ?_
  rintro e w1 ⟨x, X, cx, Ex, rfl, Cx, Ox, hb1⟩
  have B1 := hide hb1
  have hx4 : x.length ≤ 4096 := Nat.le_trans Ex.out.2.1 ha
  have Rx := hide Ox.out.rd
  clear hb1
  go_wp2
  go_loop [4, 5] (fun n i => ∃ k : Nat, k ≤ x.length ∧ i = .int .i64 ((k : Int) - 1) ∧ n = .int .u64 ((nv x / 2 ^ k % 18446744073709551616 : Nat) : Int)) (fun _ i => (intOf i + 1).toNat)
  case atStart => exact ⟨x.length, Nat.le_refl _, rfl, by rw [full_zero]; rfl⟩
  case round =>
    obtain ⟨k, hk, rfl, rfl⟩ := hrel
    rcases Nat.eq_zero_or_pos k with h0 | h0
    · subst h0
      have e1 := Ex.out.1
      rw [Nat.pow_zero, Nat.div_one, e1]
      by_cases h64 : x.length ≤ 64
      · have hlt : nv a < 2 ^ 64 := by
          have := nv_lt x
          have h2 : 2 ^ x.length ≤ 2 ^ 64 := Nat.pow_le_pow_right (by decide) h64
          omega
        have HLT := hide hlt
        clear e1 hlt
        go_wp2
        go_ret2
        exact ⟨UintA.yes (m := nv a % 18446744073709551616) (by rw [Nat.mod_eq_of_lt HLT.out]) (by have := HLT.out; omega), B1.out⟩
      · have hge : 2 ^ 64 ≤ nv a := by
          have h1 := nf_big (f := bt x) (n := x.length) (i := x.length - 1) (by omega) (Ex.out.2.2 (by omega))
          have h2 : 2 ^ 64 ≤ 2 ^ (x.length - 1) := Nat.pow_le_pow_right (by decide) (by omega)
          have h3 : nf (bt x) x.length = nv x := rfl
          omega
        have HGE := hide hge
        clear e1 hge
        go_wp2
        go_ret2
        exact ⟨UintA.no HGE.out, B1.out⟩
    · obtain ⟨m, rfl⟩ : ∃ m, k = m + 1 := ⟨k - 1, by omega⟩
      rw [show (((m + 1 : Nat)) : Int) - 1 = m by omega]
      have hmx : m < x.length := by omega
      have hst := hide (half_step x m)
      obtain ⟨Y, hY⟩ : ∃ Y, Y = nv x / 2 ^ (m + 1) := ⟨_, rfl⟩
      rw [← hY] at hst ⊢
      clear hY
      have hd := u64_dbl Y
      have hd1 := hide (u64_dbl1 Y)
      obtain ⟨y, hy⟩ : ∃ y : Int, y = ((Y % 18446744073709551616 : Nat) : Int) := ⟨_, rfl⟩
      rw [← hy] at hd ⊢
      obtain ⟨y2, hy2⟩ : ∃ y2 : Int, y2 = ((2 * Y % 18446744073709551616 : Nat) : Int) := ⟨_, rfl⟩
      rw [← hy2] at hd
      have hyb : 0 ≤ y ∧ y < 18446744073709551616 := by rw [hy]; omega
      have hyb2 : 0 ≤ y2 ∧ y2 < 18446744073709551616 := by rw [hy2]; omega
      obtain ⟨hyl, hyh⟩ := hyb
      obtain ⟨hyl2, hyh2⟩ := hyb2
      have HY := hide hy
      have HY2 := hide hy2
      have HD := hide hd
      clear hy hy2 hd
      obtain ⟨ad, rfl, hlt1, hc⟩ := Rx.out.at_ hmx
      cases hx : bt x m
      · rw [hx] at hc
        have hx' := hide hx
        clear hx
        go_wp2
        go_round
        case rel => exact ⟨m, by omega, rfl, by rw [HD.out, HY2.out, hst.out, hx'.out]; simp⟩
        case measure => first | (simp [intOf]; done) | (simp [intOf]; omega)
      · rw [hx] at hc
        have hx' := hide hx
        clear hx
        go_wp2
        go_round
        case rel => exact ⟨m, by omega, rfl, by rw [HD.out, HY2.out, hd1.out, hst.out, hx'.out]; simp⟩
        case measure => first | (simp [intOf]; done) | (simp [intOf]; omega)

theorem IntA.out_ {a : List Bool} (h : ¬ (-9223372036854775808 ≤ sv a ∧ sv a ≤ 9223372036854775807)) : IntA a (.returned (.tuple #[.int .i64 0, .bool false])) := Or.inr ⟨h, rfl⟩
theorem IntA.in_ {a : List Bool} {z : Int} (h1 : -9223372036854775808 ≤ sv a) (h2 : sv a ≤ 9223372036854775807) (hz : z = sv a) : IntA a (.returned (.tuple #[.int .i64 z, .bool true])) := Or.inl ⟨h1, h2, by rw [hz]⟩

set_option maxRecDepth 100000 in
set_option maxHeartbeats 2000000 in
theorem rint_any (A : Option Addr) (a : List Bool) (c : Nat) (w : World) (ha : a.length ≤ 4000) (hca : Hid (a.length ≤ c ∧ c ≤ maxLen)) (hA : Rd w A a) :
    Calls Try.prog 45 #[.slice A a.length c] w fun e w' => IntA a e ∧ Below w.heap.size w w' := by
  have HA := hide hA
  clear hA
  go_enter Try.func45, Try.ntmps45
  go_wp2_with fail
  refine (size_any A a c w ha hca HA.out).mono ?_
  rintro e w1 ⟨x, X, cx, Ex, rfl, Cx, Ox, hb1⟩
  have B1 := hide hb1
  have hx4 : x.length ≤ 4096 := by have := Ex.out.2; omega
  have Rx := hide Ox.out.rd
  clear hb1
  go_wp2_with fail
  refine (ruint_any X x cx w1 hx4 Cx Rx.out).mono ?_
  rintro e w2 ⟨hu, hb2⟩
  have B2 := hide (B1.out.trans (hb2.mono B1.out.size))
  clear hb2
  have hm := Ex.out.1
  have hmg : sv a = if ng a then -(mg a : Int) else mg a := sv_mg a
  have hn := rneg_any A a c w2 (by omega) (HA.out.below B2.out)
  rcases hu with ⟨h1, rfl⟩ | ⟨h1, rfl⟩
  · obtain ⟨m, hmm⟩ : ∃ m, m = nv x := ⟨_, rfl⟩
    rw [← hmm] at h1 ⊢
    have em : mg a = m := by rw [hmm, hm]
    rw [em] at hmg
    clear hmm em hm
    cases hx : ng a
    · rw [hx] at hn hmg
      simp only [Bool.false_eq_true, if_false] at hmg
      have HN := hide hn
      have HMG := hide hmg
      clear hn hmg hx
      by_cases h63 : m < 9223372036854775808
      · obtain ⟨y, hy⟩ : ∃ y : Int, y = m := ⟨_, rfl⟩
        have h63' : y < 9223372036854775808 := by omega
        have h0' : 0 ≤ y := by omega
        rw [← hy]
        have HY := hide hy
        clear h1 h63 hy
        go_wp2_with (go_at_call 51; (with_reducible refine (HN.out).mono ?_); rintro e w' ⟨rfl, rfl⟩)
        go_ret2
        exact ⟨IntA.in_ (by rw [HMG.out, ← HY.out]; omega) (by rw [HMG.out, ← HY.out]; omega) (by rw [HMG.out, HY.out]), B2.out⟩
      · have h63' : (9223372036854775808 : Int) ≤ m := by omega
        have H63 := hide h63'
        have hn63 : ¬ ((m : Int) < 9223372036854775808) := by omega
        clear h1 h63
        go_wp2_with (go_at_call 51; (with_reducible refine (HN.out).mono ?_); rintro e w' ⟨rfl, rfl⟩)
        go_ret2
        exact ⟨IntA.out_ (by have := H63.out; rw [HMG.out]; omega), B2.out⟩
    · rw [hx] at hn hmg
      simp only [if_true] at hmg
      have HN := hide hn
      have HMG := hide hmg
      clear hn hmg hx
      by_cases h63 : m ≤ 9223372036854775808
      · have h63' : (m : Int) ≤ 9223372036854775808 := by omega
        clear h1
        go_wp2_with (go_at_call 51; (with_reducible refine (HN.out).mono ?_); rintro e w' ⟨rfl, rfl⟩)
        go_ret2
        refine ⟨IntA.in_ (by rw [HMG.out]; omega) (by rw [HMG.out]; omega) ?_, B2.out⟩
        rw [HMG.out, IntKind.wrap_u64]; unfold wrap64; omega
      · have h63' : (9223372036854775808 : Int) < m := by omega
        go_wp2_with (go_at_call 51; (with_reducible refine (HN.out).mono ?_); rintro e w' ⟨rfl, rfl⟩)
        go_ret2
        exact ⟨IntA.out_ (by rw [HMG.out]; omega), B2.out⟩
  · have hr : ¬ (-9223372036854775808 ≤ sv a ∧ sv a ≤ 9223372036854775807) := by
      rw [hm] at h1
      rw [hmg]; split <;> omega
    have HR := hide hr
    clear hr hmg hn h1 hm
    go_wp2
    go_ret2
    exact ⟨IntA.out_ HR.out, B2.out⟩
end Go.Proofs.Ytkjiaflmaniplaa
