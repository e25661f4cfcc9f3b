/-
  Facts of words.
-/
import Derived.Test.YtkjiaflmaniplaaBvEE
namespace Go.Proofs.Ytkjiaflmaniplaa
open Go.RowKit
set_option linter.unusedSimpArgs false
set_option linter.unusedVariables false

theorem wrap_small {S : Nat} (h : S < 64) : IntKind.i64.wrap (S : Int) = S := by rw [IntKind.wrap_i64]; omega
theorem word_bd {m X M : Int} {v S : Nat} (h : v + S = 63) (hX : IntKind.i64.wrap (m * 2 ^ S) = X) (hM : X / 2 ^ S = M) : -2 ^ v ≤ M ∧ M < 2 ^ v ∧ -9223372036854775808 ≤ M ∧ M ≤ 9223372036854775807 := by
  have q := two_pos S
  have p := two_pos v
  have b : -9223372036854775808 ≤ X ∧ X < 9223372036854775808 := by rw [← hX, IntKind.wrap_i64]; omega
  have e : (2 : Int) ^ v * 2 ^ S = 9223372036854775808 := by rw [← Int.pow_add, h]; rfl
  have a1 : -2 ^ v ≤ M := by
    rw [← hM, Int.le_ediv_iff_mul_le q, Int.neg_mul, e]; omega
  have a2 : M < 2 ^ v := by
    rw [← hM, Int.ediv_lt_iff_lt_mul q, e]; omega
  have k : (2 : Int) ^ v * 1 ≤ 2 ^ v * 2 ^ S := Int.mul_le_mul_of_nonneg_left (by omega) (by omega)
  refine ⟨a1, a2, by omega, by omega⟩
theorem word_lt {a : List Bool} (h : a.length ≤ 64) : nv a < 2 ^ 64 := Nat.lt_of_lt_of_le (nv_lt a) (Nat.pow_le_pow_right (by decide) h)
theorem mask_is {v S W : Nat} {MK : Int} (h : v + S = 63) (hW : W = v + 1) (hM : (18446744073709551615 : Int) / 2 ^ S = MK) : MK = ((2 ^ W - 1 : Nat) : Int) := by
  have e : (2 : Int) ^ W * 2 ^ S = 18446744073709551616 := by rw [← Int.pow_add, show W + S = 64 by omega]; rfl
  have q := two_pos S
  have c := two_cast W
  have p : 0 < 2 ^ W := Nat.pow_pos (by decide)
  have a1 : (2 ^ W - 1 : Int) ≤ MK := by
    rw [← hM, Int.le_ediv_iff_mul_le q, Int.sub_mul, e]; omega
  have a2 : MK < 2 ^ W := by
    rw [← hM, Int.ediv_lt_iff_lt_mul q, e]; omega
  omega
theorem and_mask {W : Nat} {M : Int} (hW : W ≤ 64) : bits BinOp.and IntKind.u64 (IntKind.u64.wrap M) ((2 ^ W - 1 : Nat) : Int) = ((nv (vz W M) : Nat) : Int) := by
  have hp : 2 ^ W ≤ 2 ^ 64 := Nat.pow_le_pow_right (by decide) hW
  have p : 0 < 2 ^ W := Nat.pow_pos (by decide)
  have b : 0 ≤ IntKind.u64.wrap M ∧ IntKind.u64.wrap M < 18446744073709551616 := by rw [IntKind.wrap_u64]; omega
  obtain ⟨x, hx⟩ := Int.eq_ofNat_of_zero_le b.1
  have hx2 : x < 2 ^ 64 := by omega
  have hd : (x : Int) % 2 ^ W = M % 2 ^ W := by
    rw [← hx, IntKind.wrap_u64]
    have : (18446744073709551616 : Int) = 2 ^ W * 2 ^ (64 - W) := by rw [← Int.pow_add, show W + (64 - W) = 64 by omega]; rfl
    rw [this, Int.emod_emod_of_dvd _ ⟨_, rfl⟩]
  rw [nv_vz, hx, ← hd, bits_and_u64_nat _ _ hx2 (by omega), Nat.and_two_pow_sub_one_eq_mod]
  simp
theorem vz_wrap {W : Nat} (h : W ≤ 64) (x : Int) : vz W (wrap64 x) = vz W x := by
  apply vz_eq
  rw [wrap64_is, IntKind.wrap_i64]
  have e : (18446744073709551616 : Int) = 2 ^ W * 2 ^ (64 - W) := by rw [← Int.pow_add, show W + (64 - W) = 64 by omega]; rfl
  have k := Int.emod_add_mul_ediv (x + 9223372036854775808) 18446744073709551616
  have : (x + 9223372036854775808) % 18446744073709551616 - 9223372036854775808 = x + 2 ^ W * (-(2 ^ (64 - W) * ((x + 9223372036854775808) / 18446744073709551616))) := by
    rw [Int.mul_neg, ← Int.mul_assoc, ← e]; omega
  rw [this, Int.add_mul_emod_self_left]
def Wd (W : Nat) (r : List Bool) (z : Int) : Prop := r = vz W z ∧ -9223372036854775808 ≤ z ∧ z ≤ 9223372036854775807
theorem wd_wrap {W : Nat} {r : List Bool} {x : Int} (h : W ≤ 64) (e : r = vz W x) : Wd W r (wrap64 x) :=
  ⟨by rw [e, vz_wrap h], by rw [wrap64_is, IntKind.wrap_i64]; omega, by rw [wrap64_is, IntKind.wrap_i64]; omega⟩
theorem ediv_min {z : Int} (K : Nat) (h1 : -18446744073709551616 ≤ z) (h2 : z < 18446744073709551616) : z / 2 ^ min K 64 = z / 2 ^ K := by
  rcases Nat.le_total K 64 with h | h
  · rw [Nat.min_eq_left h]
  · rw [Nat.min_eq_right h]
    obtain ⟨d, rfl⟩ : ∃ d, K = 64 + d := ⟨K - 64, by omega⟩
    rw [Int.pow_add, ← Int.ediv_ediv_of_nonneg (by decide)]
    have p := two_pos d
    rcases (show z / 2 ^ 64 = 0 ∨ z / 2 ^ 64 = -1 by omega) with h0 | h0
    · rw [h0]; simp
    · rw [h0]
      rw [neg_one_div _ p]
theorem ediv_bd {z : Int} (K : Nat) (h1 : -9223372036854775808 ≤ z) (h2 : z ≤ 9223372036854775807) : -9223372036854775808 ≤ z / 2 ^ K ∧ z / 2 ^ K ≤ 9223372036854775807 := by
  have q := two_pos K
  have a1 : (-9223372036854775808 : Int) ≤ z / 2 ^ K := by
    rw [Int.le_ediv_iff_mul_le q]
    have : (9223372036854775808 : Int) * 1 ≤ 9223372036854775808 * 2 ^ K := Int.mul_le_mul_of_nonneg_left (by omega) (by omega)
    omega
  have a2 : z / 2 ^ K < 9223372036854775808 := by
    rw [Int.ediv_lt_iff_lt_mul q]
    have : (9223372036854775808 : Int) * 1 ≤ 9223372036854775808 * 2 ^ K := Int.mul_le_mul_of_nonneg_left (by omega) (by omega)
    omega
  omega
theorem shl_min64 {W : Nat} (h : W ≤ 64) (x : Int) (K : Nat) : vz W (x * 2 ^ min K 64) = vz W (x * 2 ^ K) := by
  rw [← shl_min, ← shl_min x W K, show min (min K 64) W = min K W by omega]
/-- An element of the list of words: the vector, the integer. -/
def Item (Z : World) (g W k : Nat) : Prop := ∃ A l c z, Z.cell? ⟨g, k * 2, none⟩ = some (.slice A l.length c) ∧ Z.cell? ⟨g, k * 2 + 1, none⟩ = some (.int .i64 z) ∧ Rd Z A l ∧ l = vz W z ∧ -9223372036854775808 ≤ z ∧ z ≤ 9223372036854775807
theorem items {w : World} {W : Nat} {t : TypeId} {A0 : Option Addr} {r0 : List Bool} {c0 : Nat} {z0 : Int} {A1 : Option Addr} {r1 : List Bool} {c1 : Nat} {z1 : Int} {A2 : Option Addr} {r2 : List Bool} {c2 : Nat} {z2 : Int} {A3 : Option Addr} {r3 : List Bool} {c3 : Nat} {z3 : Int} {A4 : Option Addr} {r4 : List Bool} {c4 : Nat} {z4 : Int} {A5 : Option Addr} {r5 : List Bool} {c5 : Nat} {z5 : Int} {A6 : Option Addr} {r6 : List Bool} {c6 : Nat} {z6 : Int} (R0 : Rd w A0 r0) (E0 : Wd W r0 z0) (R1 : Rd w A1 r1) (E1 : Wd W r1 z1) (R2 : Rd w A2 r2) (E2 : Wd W r2 z2) (R3 : Rd w A3 r3) (E3 : Wd W r3 z3) (R4 : Rd w A4 r4) (E4 : Wd W r4 z4) (R5 : Rd w A5 r5) (E5 : Wd W r5 z5) (R6 : Rd w A6 r6) (E6 : Wd W r6 z6) : ∀ k, k < 7 → Item (w.alloc (.cells #[.slice A0 r0.length c0, .int .i64 z0, .slice A1 r1.length c1, .int .i64 z1, .slice A2 r2.length c2, .int .i64 z2, .slice A3 r3.length c3, .int .i64 z3, .slice A4 r4.length c4, .int .i64 z4, .slice A5 r5.length c5, .int .i64 z5, .slice A6 r6.length c6, .int .i64 z6] t)) w.heap.size W k := by
  intro k hk
  have e : ∀ i, (w.alloc (.cells #[.slice A0 r0.length c0, .int .i64 z0, .slice A1 r1.length c1, .int .i64 z1, .slice A2 r2.length c2, .int .i64 z2, .slice A3 r3.length c3, .int .i64 z3, .slice A4 r4.length c4, .int .i64 z4, .slice A5 r5.length c5, .int .i64 z5, .slice A6 r6.length c6, .int .i64 z6] t)).cell? ⟨w.heap.size, i, none⟩ = #[.slice A0 r0.length c0, .int .i64 z0, .slice A1 r1.length c1, .int .i64 z1, .slice A2 r2.length c2, .int .i64 z2, .slice A3 r3.length c3, .int .i64 z3, .slice A4 r4.length c4, .int .i64 z4, .slice A5 r5.length c5, .int .i64 z5, .slice A6 r6.length c6, .int .i64 z6][i]? := fun i => cell_of_row _ _ _ _ _ _ (heap_alloc_new w _)
  have hb := (Below.refl w.heap.size w).alloc (Nat.le_refl _) (.cells #[.slice A0 r0.length c0, .int .i64 z0, .slice A1 r1.length c1, .int .i64 z1, .slice A2 r2.length c2, .int .i64 z2, .slice A3 r3.length c3, .int .i64 z3, .slice A4 r4.length c4, .int .i64 z4, .slice A5 r5.length c5, .int .i64 z5, .slice A6 r6.length c6, .int .i64 z6] t)
  match k, hk with
  | 0, _ => exact ⟨A0, r0, c0, z0, by rw [e]; rfl, by rw [e]; rfl, R0.below hb, E0.1, E0.2.1, E0.2.2⟩
  | 1, _ => exact ⟨A1, r1, c1, z1, by rw [e]; rfl, by rw [e]; rfl, R1.below hb, E1.1, E1.2.1, E1.2.2⟩
  | 2, _ => exact ⟨A2, r2, c2, z2, by rw [e]; rfl, by rw [e]; rfl, R2.below hb, E2.1, E2.2.1, E2.2.2⟩
  | 3, _ => exact ⟨A3, r3, c3, z3, by rw [e]; rfl, by rw [e]; rfl, R3.below hb, E3.1, E3.2.1, E3.2.2⟩
  | 4, _ => exact ⟨A4, r4, c4, z4, by rw [e]; rfl, by rw [e]; rfl, R4.below hb, E4.1, E4.2.1, E4.2.2⟩
  | 5, _ => exact ⟨A5, r5, c5, z5, by rw [e]; rfl, by rw [e]; rfl, R5.below hb, E5.1, E5.2.1, E5.2.2⟩
  | 6, _ => exact ⟨A6, r6, c6, z6, by rw [e]; rfl, by rw [e]; rfl, R6.below hb, E6.1, E6.2.1, E6.2.2⟩
theorem nz_of {b : List Bool} (h : ¬ sv b = 0) : 0 < nv b := by
  have := mg_zero b
  unfold mg at this
  omega
theorem wrap_lo (x : Int) : -9223372036854775808 ≤ wrap64 x := by rw [wrap64_is, IntKind.wrap_i64]; omega
theorem wrap_hi (x : Int) : wrap64 x ≤ 9223372036854775807 := by rw [wrap64_is, IntKind.wrap_i64]; omega
theorem tm_lo {x y : Int} (h1 : -9223372036854775808 ≤ x) (h2 : x ≤ 9223372036854775807) : -9223372036854775808 ≤ x.tmod y := by
  have := tmod_bd x y
  omega
theorem tm_hi {x y : Int} (h1 : -9223372036854775808 ≤ x) (h2 : x ≤ 9223372036854775807) : x.tmod y ≤ 9223372036854775807 := by
  have := tmod_bd x y
  omega
theorem u64_small {x : Nat} (h : x < 2 ^ 64) : IntKind.u64.wrap (x : Int) = x := by rw [IntKind.wrap_u64]; omega
theorem quo_is2 {U V W : Nat} (hW : W ≤ 64) (h : U < 2 ^ 64) : vz W (wrap64 ((U : Int) / (V : Int))) = vz W ((U / V : Nat) : Int) := by
  rw [vz_wrap hW]; rfl
theorem quo_is {U V W : Nat} (hW : W ≤ 64) (h : U < 2 ^ 64) : vz W (wrap64 (IntKind.u64.wrap ((U : Int) / (V : Int)))) = vz W ((U / V : Nat) : Int) := by
  rw [show (U : Int) / (V : Int) = ((U / V : Nat) : Int) from rfl, u64_small (Nat.lt_of_le_of_lt (Nat.div_le_self _ _) h), vz_wrap hW]
theorem mod_is2 {U V W : Nat} (hW : W ≤ 64) (h : U < 2 ^ 64) : vz W (wrap64 ((U : Int) % (V : Int))) = vz W ((U % V : Nat) : Int) := by
  rw [vz_wrap hW]; rfl
theorem mod_is {U V W : Nat} (hW : W ≤ 64) (h : U < 2 ^ 64) : vz W (wrap64 (IntKind.u64.wrap ((U : Int) % (V : Int)))) = vz W ((U % V : Nat) : Int) := by
  rw [show (U : Int) % (V : Int) = ((U % V : Nat) : Int) from rfl, u64_small (Nat.lt_of_le_of_lt (Nat.mod_le _ _) h), vz_wrap hW]
end Go.Proofs.Ytkjiaflmaniplaa
