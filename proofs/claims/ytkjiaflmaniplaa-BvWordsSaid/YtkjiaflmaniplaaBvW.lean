/-
  The contracts of the reference's Add, Neg, Sub, times, Mul, Pow.
-/
import Derived.Test.YtkjiaflmaniplaaBvV
namespace Go.Proofs.Ytkjiaflmaniplaa
open Go.RowKit
set_option linter.unusedSimpArgs false
set_option linter.unusedVariables false

theorem radd_any (A B : Option Addr) (a b : List Bool) (c d : Nat) (w : World) (ha : a.length ≤ 4000) (hb : b.length ≤ 4000) (hA : Rd w A a) (hB : Rd w B b) :
    Calls Try.prog 21 #[.slice A a.length c, .slice B b.length d] w (RetP (fun l => l = vz a.length ((nv a : Int) + nv b)) w) := by
  go_enter Try.func21, Try.ntmps21
  go_wp2_with fail
  refine (sum_any A B a b c d w (by omega) (by omega) hA hB).mono ?_
  rintro e w1 ⟨x, X, cx, Ex, rfl, Cx, Ox, hb1⟩
  have B1 := hide hb1
  clear hb1
  go_wp2_with fail
  refine (fit_any X x cx a.length w1 (by have := Ex.out.2; omega) (by omega) Ox.out.rd).mono ?_
  rintro e w2 ⟨y, Y, cy, Ey, rfl, Cy, Oy, hb2⟩
  have B2 := hide (B1.out.trans (hb2.mono B1.out.size))
  have OY := hide (Oy.out.base B1.out.size)
  clear hb2
  go_wp2
  go_ret
  exact ⟨y, Y, cy, hide (by show y = _; rw [Ey.out, Ex.out.1]; simp), rfl, Cy, OY, B2.out⟩

theorem rneg2_any (A : Option Addr) (a : List Bool) (c : Nat) (w : World) (ha : a.length ≤ 4000) (hA : Rd w A a) :
    Calls Try.prog 23 #[.slice A a.length c] w (RetP (fun l => l = vz a.length (-(nv a : Int))) w) := by
  have HA := hide hA
  clear hA
  go_enter Try.func23, Try.ntmps23
  go_wp2_with fail
  refine (power_any a.length w (by omega)).mono ?_
  rintro e w1 ⟨x, X, cx, Ex, rfl, Cx, Ox, hb1⟩
  have HA1 := hide (HA.out.below hb1)
  have B1 := hide hb1
  have hx4 : x.length ≤ 4096 := by have := Ex.out.2; omega
  clear hb1
  go_wp2_with fail
  refine (minus_any X A x a cx c w1 hx4 (by omega) Ox.out.rd HA1.out (by rw [Ex.out.1]; exact Nat.le_of_lt (nv_lt a))).mono ?_
  rintro e w2 ⟨y, Y, cy, Ey, rfl, Cy, Oy, hb2⟩
  have B2 := hide (B1.out.trans (hb2.mono B1.out.size))
  clear hb2
  go_wp2_with fail
  refine (fit_any Y y cy a.length w2 (by have := Ey.out.2; omega) (by omega) Oy.out.rd).mono ?_
  rintro e w3 ⟨z, Z, cz, Ez, rfl, Cz, Oz, hb3⟩
  have B3 := hide (B2.out.trans (hb3.mono B2.out.size))
  have OZ := hide (Oz.out.base B2.out.size)
  clear hb3
  go_wp2
  go_ret
  refine ⟨z, Z, cz, hide ?_, rfl, Cz, OZ, B3.out⟩
  show z = _
  rw [Ez.out, Ey.out.1, Ex.out.1]
  apply vz_eq
  have h := nv_lt a
  have e : ((2 ^ a.length - nv a : Nat) : Int) = -(nv a : Int) + 2 ^ a.length * 1 := by
    have := two_cast a.length; omega
  rw [e, Int.add_mul_emod_self_left]

theorem rsub_any (A B : Option Addr) (a b : List Bool) (c d : Nat) (w : World) (ha : a.length ≤ 4000) (hb : b.length ≤ 4000) (hA : Rd w A a) (hB : Rd w B b) :
    Calls Try.prog 22 #[.slice A a.length c, .slice B b.length d] w (RetP (fun l => l = vz a.length ((nv a : Int) - nv b)) w) := by
  have HA := hide hA
  clear hA
  go_enter Try.func22, Try.ntmps22
  go_wp2_with fail
  refine (fit_any B b d a.length w (by omega) (by omega) hB).mono ?_
  rintro e w1 ⟨x, X, cx, Ex, rfl, Cx, Ox, hb1⟩
  have B1 := hide hb1
  have HA1 := hide (HA.out.below hb1)
  have hx4 : x.length ≤ 4000 := by rw [Ex.out, vz_length]; exact ha
  clear hb1
  go_wp2_with fail
  refine (rneg2_any X x cx w1 hx4 Ox.out.rd).mono ?_
  rintro e w2 ⟨y, Y, cy, Ey, rfl, Cy, Oy, hb2⟩
  have B2 := hide (B1.out.trans (hb2.mono B1.out.size))
  have HA2 := hide (HA1.out.below hb2)
  have hy4 : y.length ≤ 4000 := by rw [Ey.out, vz_length]; exact hx4
  clear hb2
  go_wp2_with fail
  refine (radd_any A Y a y c cy w2 ha hy4 HA2.out Oy.out.rd).mono ?_
  rintro e w3 ⟨z, Z, cz, Ez, rfl, Cz, Oz, hb3⟩
  have B3 := hide (B2.out.trans (hb3.mono B2.out.size))
  have OZ := hide (Oz.out.base B2.out.size)
  clear hb3
  go_wp2
  go_ret
  refine ⟨z, Z, cz, hide ?_, rfl, Cz, OZ, B3.out⟩
  show z = _
  rw [Ez.out, Ey.out, Ex.out, vz_length, vz_neg, vz_addr, Int.sub_eq_add_neg]

/-- A round of times: what has been summed up. -/
structure TimR (w : World) (a b : List Bool) (k : Nat) (A : Option Addr) (l : List Bool) (wr : World) : Prop where
  val : nv l = nv a * nf (bt b) k
  len : l.length ≤ a.length + 2 * k
  own : Own w.heap.size wr A l
  bel : Below w.heap.size w wr

set_option maxHeartbeats 1000000 in
theorem times_any (A B : Option Addr) (a b : List Bool) (c d : Nat) (w : World) (ha : a.length ≤ 1000) (hb : b.length ≤ 1000) (hA : Rd w A a) (hB : Rd w B b) :
    Calls Try.prog 60 #[.slice A a.length c, .slice B b.length d] w (RetP (fun l => nv l = nv a * nv b ∧ l.length ≤ a.length + 2 * b.length) w) := by
  have HA := hide hA
  have HB := hide hB
  clear hA hB
  go_enter Try.func60, Try.ntmps60
  go_wp2
  go_loopw [5, 6] (fun v i wr => ∃ (k : Nat) (X : Option Addr) (x : List Bool) (cx : Nat), k ≤ b.length ∧ i = .int .i64 k ∧ v = .slice X x.length cx ∧ Hid (x.length ≤ cx ∧ cx ≤ maxLen) ∧ TimR w a b k X x wr) (fun _ i _ => b.length - (intOf i).toNat)
  case atStart => exact ⟨0, none, [], 0, Nat.zero_le _, rfl, rfl, hide ⟨Nat.le_refl _, by simp [maxLen]⟩, ⟨by simp [nv, nf], by simp, fun h => absurd h (by simp), Below.refl _ _⟩⟩
  case round =>
    obtain ⟨k, X, x, cx, hk, rfl, rfl, hcx, hR⟩ := hrel
    have hRH := hide hR
    clear hR
    have hx4 : x.length ≤ 4000 := by have := hRH.out.len; omega
    by_cases hlt : k < b.length
    · have hRdB := HB.out.below hRH.out.bel
      obtain ⟨ad, rfl, hlt1, hc⟩ := hRdB.at_ hlt
      clear hRdB
      have hst := hide (nf_succ (bt b) k)
      cases hx : bt b k
      · rw [hx] at hc
        have hx' := hide hx
        clear hx
        go_wp2
        go_roundw
        case rel => exact ⟨k + 1, X, x, cx, by omega, by go_num, rfl, hcx, ⟨by rw [hRH.out.val, hst.out, hx'.out]; simp, by have := hRH.out.len; omega, hRH.out.own, hRH.out.bel⟩⟩
        case measure => simp [intOf]; omega
      · rw [hx] at hc
        have hx' := hide hx
        clear hx
        go_wp2_with (first
          | (at_make; refine wpList_make_ow _ rfl _ _ rfl _ _ k rfl rfl rfl rfl (by omega) ?_; intro w1 hr1 hb1 hz1; have HR := hide hr1; clear hr1; have HA1 := hide ((HA.out.below hRH.out.bel).below hb1); have HB1 := hide hb1; clear hb1)
          | (at_builtin; refine wpList_append_bv _ rfl _ _ rfl wr.heap.size _ k (List.replicate k false) rfl HR.out A _ c a rfl rfl HA1.out (by simp; omega) (by have := HB1.out.size; omega) ?_; intro v' w2 hown hb2; obtain ⟨y, hy⟩ : ∃ y, y = List.replicate k false ++ a := ⟨_, rfl⟩; rw [← hy] at hown; obtain ⟨Y, cy, rfl, h1, h2, h3⟩ := own_open hown; have OY := hide h3; have HB2 := hide (HB1.out.trans hb2); have HY := hide hy; clear hown hb2 h1 h2 h3 hy))
        have hy4 : y.length ≤ 4000 := by rw [HY.out]; simp; omega
        have Rx := hide ((hRH.out.own.kept HB2.out).rd)
        refine (sum_any X Y x y cx cy w2 (by omega) (by omega) Rx.out OY.out.rd).mono ?_
        rintro e w3 ⟨z, Z, cz, Ez, rfl, Cz, Oz, hb3⟩
        have B2 := hide (hRH.out.bel.trans (HB2.out.mono hRH.out.bel.size))
        have B3 := hide (B2.out.trans (hb3.mono B2.out.size))
        have OZ := hide (Oz.out.base B2.out.size)
        clear hb3
        go_wp2
        go_roundw
        case rel =>
          refine ⟨k + 1, Z, z, cz, by omega, by go_num, rfl, Cz, ⟨?_, ?_, OZ.out, B3.out⟩⟩
          · rw [Ez.out.1, HY.out, hRH.out.val, hst.out, hx'.out, nv_append, nv_zeros, List.length_replicate]
            simp only [Bool.toNat_true, Nat.mul_one, Nat.zero_add, Nat.mul_add]
            rw [Nat.mul_comm (2 ^ k)]
          · have h1 := Ez.out.2
            have h2 := hRH.out.len
            rw [HY.out, List.length_append, List.length_replicate] at h1
            omega
        case measure => simp [intOf]; omega
    · have e : k = b.length := by omega
      subst e
      go_wp2
      go_ret
      exact ⟨x, X, cx, hide ⟨hRH.out.val, hRH.out.len⟩, rfl, hcx, hide hRH.out.own, hRH.out.bel⟩

theorem rmul_any (A B : Option Addr) (a b : List Bool) (c d : Nat) (w : World) (ha : a.length ≤ 1000) (hb : b.length ≤ 4000) (hA : Rd w A a) (hB : Rd w B b) :
    Calls Try.prog 24 #[.slice A a.length c, .slice B b.length d] w (RetP (fun l => l = vz a.length ((nv a : Int) * nv b)) w) := by
  have HA := hide hA
  clear hA
  go_enter Try.func24, Try.ntmps24
  go_wp2_with fail
  refine (fit_any B b d a.length w (by omega) (by omega) hB).mono ?_
  rintro e w1 ⟨x, X, cx, Ex, rfl, Cx, Ox, hb1⟩
  have B1 := hide hb1
  have HA1 := hide (HA.out.below hb1)
  have hx4 : x.length ≤ 1000 := by rw [Ex.out, vz_length]; exact ha
  clear hb1
  go_wp2_with fail
  refine (times_any A X a x c cx w1 ha hx4 HA1.out Ox.out.rd).mono ?_
  rintro e w2 ⟨y, Y, cy, Ey, rfl, Cy, Oy, hb2⟩
  have B2 := hide (B1.out.trans (hb2.mono B1.out.size))
  have hy4 : y.length ≤ 4096 := by have := Ey.out.2; omega
  clear hb2
  go_wp2_with fail
  refine (fit_any Y y cy a.length w2 hy4 (by omega) Oy.out.rd).mono ?_
  rintro e w3 ⟨z, Z, cz, Ez, rfl, Cz, Oz, hb3⟩
  have B3 := hide (B2.out.trans (hb3.mono B2.out.size))
  have OZ := hide (Oz.out.base B2.out.size)
  clear hb3
  go_wp2
  go_ret
  refine ⟨z, Z, cz, hide ?_, rfl, Cz, OZ, B3.out⟩
  show z = _
  rw [Ez.out, Ey.out.1, Ex.out]
  have e : ((nv a * nv (vz a.length (nv b)) : Nat) : Int) = (nv a : Int) * (nv (vz a.length (nv b)) : Int) := by simp
  rw [e, vz_mulr]
end Go.Proofs.Ytkjiaflmaniplaa
