/-
  More of the plain mathematics of package bv: the bits of integers, shifts, powers.
-/
import Derived.Test.YtkjiaflmaniplaaBvN
namespace Go.Proofs.Ytkjiaflmaniplaa

theorem zb_eq_of {f : Nat → Bool} {z : Int} (h : ∀ n, (nf f n : Int) = z % 2 ^ n) (i : Nat) : zb z i = f i := by
  have h1 := h (i + 1)
  have h2 := nf_zb z (i + 1)
  exact (nf_inj (f := zb z) (g := f) (n := i + 1) (by omega) i (by omega))
theorem zb_nv (a : List Bool) (i : Nat) : zb (nv a) i = bt a i := by
  refine zb_eq_of (fun n => ?_) i
  rw [nf_bt_mod, ← two_cast]; omega
theorem zb_sv (a : List Bool) (i : Nat) : zb (sv a) i = ex a (ng a) i := by
  have key : ∀ n, a.length ≤ n → (nf (ex a (ng a)) n : Int) = sv a % 2 ^ n := by
    intro n hn
    cases h : ng a
    · rw [ex_false, nf_bt hn]
      unfold sv; rw [h]
      have k := nv_lt a
      have k2 : 2 ^ a.length ≤ 2 ^ n := Nat.pow_le_pow_right (by decide) hn
      have e := two_cast n
      simp only [Bool.false_eq_true, if_false]
      rw [Int.emod_eq_of_lt (by omega) (by omega)]
    · rw [nf_ex_true a n hn]
      unfold sv; rw [h]
      have k := nv_lt a
      have k2 : 2 ^ a.length ≤ 2 ^ n := Nat.pow_le_pow_right (by decide) hn
      have e := two_cast n
      have e2 := two_cast a.length
      simp only [if_true]
      rw [show (nv a : Int) - 2 ^ a.length = ((2 : Int) ^ n - 2 ^ a.length + nv a) + 2 ^ n * (-1) from by omega, Int.add_mul_emod_self_left, Int.emod_eq_of_lt (by omega) (by omega)]
  have h1 := key (max a.length (i + 1)) (by omega)
  have h2 := nf_zb (sv a) (max a.length (i + 1))
  exact nf_inj (f := zb (sv a)) (g := ex a (ng a)) (n := max a.length (i + 1)) (by omega) i (by omega)
theorem zb_div (z : Int) (m i : Nat) : zb (z / 2 ^ m) i = zb z (i + m) := by
  unfold zb
  rw [Int.ediv_ediv_of_nonneg (Int.le_of_lt (two_pos m)), ← Int.pow_add, Nat.add_comm m i]
theorem zb_mul (z : Int) (m i : Nat) : zb (z * 2 ^ m) i = if i < m then false else zb z (i - m) := by
  unfold zb
  split
  · rename_i h
    obtain ⟨d, rfl⟩ : ∃ d, m = i + (d + 1) := ⟨m - i - 1, by omega⟩
    rw [Int.pow_add, ← Int.mul_assoc, Int.mul_comm z, Int.mul_assoc, Int.mul_ediv_cancel_left _ (Int.ne_of_gt (two_pos i)), Int.pow_succ, ← Int.mul_assoc]
    apply decide_eq_false; omega
  · rename_i h
    obtain ⟨d, rfl⟩ : ∃ d, i = m + d := ⟨i - m, by omega⟩
    rw [Int.pow_add, ← Int.ediv_ediv_of_nonneg (Int.le_of_lt (two_pos m)), Int.mul_ediv_cancel _ (Int.ne_of_gt (two_pos m))]
    rw [show m + d - m = d from by omega]

theorem shl_spec (a : List Bool) (k : Nat) : bl a.length (fun i => if i < min k a.length then false else bt a (i - min k a.length)) = vz a.length ((nv a : Int) * 2 ^ k) := by
  refine bl_congr fun i hi => ?_
  rw [zb_mul]
  by_cases h : i < k
  · rw [if_pos h, if_pos (by omega)]
  · rw [if_neg h, if_neg (by omega), zb_nv, show min k a.length = k by omega]
theorem ex_far (a : List Bool) (b : Bool) {i : Nat} (h : a.length ≤ i) : ex a b i = b := by unfold ex; rw [if_neg (by omega)]
theorem shr_gen (a : List Bool) (b : Bool) (z : Int) (hz : ∀ i, zb z i = ex a b i) (k : Nat) : bl a.length (fun i => ex a b (i + min k a.length)) = vz a.length (z / 2 ^ k) := by
  refine bl_congr fun i hi => ?_
  rw [zb_div, hz]
  rcases Nat.le_total k a.length with h | h
  · rw [show min k a.length = k by omega]
  · rw [ex_far a b (by omega), ex_far a b (by omega)]
theorem shr_spec (a : List Bool) (k : Nat) : bl a.length (fun i => ex a false (i + min k a.length)) = vz a.length ((nv a : Int) / 2 ^ k) :=
  shr_gen a false _ (fun i => by rw [zb_nv, ex_false]) k
theorem sar_spec (a : List Bool) (k : Nat) : bl a.length (fun i => ex a (ng a) (i + min k a.length)) = vz a.length (sv a / 2 ^ k) :=
  shr_gen a _ _ (fun i => zb_sv a i) k

/-- Products. -/
theorem vz_mul_mod (w : Nat) (x y : Int) : vz w (x % 2 ^ w * (y % 2 ^ w)) = vz w (x * y) := vz_eq (by rw [← Int.mul_emod])
theorem vz_add_mod (w : Nat) (x y : Int) : vz w (x % 2 ^ w + y % 2 ^ w) = vz w (x + y) := vz_eq (by rw [← Int.add_emod])
/-- Adding onto the part of a row from p on. -/
theorem nf_Mid_val (f : Nat → Bool) (p m : Nat) : (nf f (p + m) : Nat) = nf f p + 2 ^ p * nf (fun i => f (p + i)) m := by
  induction m with
  | zero => simp [nf]
  | succ m ih => rw [← Nat.add_assoc, nf_succ, ih, nf_succ, Nat.pow_add, Nat.mul_add, Nat.mul_assoc]; omega

/-- Powers of an odd number. -/
theorem odd_pow (a : Int) (h : a % 2 = 1) (n : Nat) : a ^ (2 ^ n) % 2 ^ n = 1 % 2 ^ n := by
  induction n with
  | zero => simp [Int.emod_one]
  | succ n ih =>
    obtain ⟨q, hq⟩ : ∃ q, a ^ (2 ^ n) = 1 + 2 ^ n * q := by
      have d : (2 ^ n : Int) ∣ a ^ (2 ^ n) - 1 := Int.dvd_of_emod_eq_zero (by rw [Int.sub_emod, ih, Int.sub_self, Int.zero_emod])
      obtain ⟨q, hq⟩ := d
      exact ⟨q, by omega⟩
    rw [Nat.pow_succ, Int.pow_mul, hq]
    rcases Nat.eq_zero_or_pos n with h0 | h0
    · subst h0
      have hq' : a = 1 + q := by simp at hq; rw [Int.pow_one] at hq; exact hq
      obtain ⟨r, rfl⟩ : ∃ r, q = 2 * r := ⟨q / 2, by omega⟩
      have e : ((1 : Int) + 2 ^ 0 * (2 * r)) ^ 2 = 1 + 2 ^ (0 + 1) * (2 * r + 2 * r * r) := by simp; grind
      rw [e, Int.add_mul_emod_self_left]
    · obtain ⟨m, rfl⟩ : ∃ m, n = m + 1 := ⟨n - 1, by omega⟩
      have p1 : (2 : Int) ^ (m + 1 + 1) = 2 ^ m * 4 := by rw [Int.pow_succ, Int.pow_succ]; omega
      have p2 : (2 : Int) ^ (m + 1) = 2 ^ m * 2 := Int.pow_succ ..
      have e : ((1 : Int) + 2 ^ (m + 1) * q) ^ 2 = 1 + 2 ^ (m + 1 + 1) * (q + 2 ^ m * q * q) := by
        rw [p1, p2]; grind
      rw [e, Int.add_mul_emod_self_left]
theorem even_pow (a : Int) (h : a % 2 = 0) (n k : Nat) (hk : n ≤ k) : a ^ k % 2 ^ n = 0 := by
  obtain ⟨b, rfl⟩ : ∃ b, a = 2 * b := ⟨a / 2, by omega⟩
  obtain ⟨d, rfl⟩ : ∃ d, k = n + d := ⟨k - n, by omega⟩
  rw [Int.mul_pow, Int.pow_add, Int.mul_assoc]
  exact Int.mul_emod_right _ _
theorem lt_two_pow (n : Nat) : n < 2 ^ n := Nat.lt_two_pow_self
/-- Squared as often as the width, a power stays as it is. -/
theorem pow_stays (a : Int) (n i : Nat) (hi : n ≤ i) : a ^ (2 ^ i) % 2 ^ n = a ^ (2 ^ n) % 2 ^ n := by
  rcases (show a % 2 = 0 ∨ a % 2 = 1 by omega) with h | h
  · rw [even_pow a h n _ (Nat.le_of_lt (lt_two_pow n)), even_pow a h n _ (Nat.le_trans hi (Nat.le_of_lt (lt_two_pow i)))]
  · rw [odd_pow a h n]
    obtain ⟨d, rfl⟩ : ∃ d, i = n + d := ⟨i - n, by omega⟩
    have h1 := odd_pow a h (n + d)
    have dv : (2 : Int) ^ n ∣ 2 ^ (n + d) := ⟨2 ^ d, Int.pow_add ..⟩
    rw [← Int.emod_emod_of_dvd _ dv, h1, Int.emod_emod_of_dvd _ dv]
theorem pow_mod (a b : Int) (n k : Nat) (h : a % 2 ^ n = b % 2 ^ n) : a ^ k % 2 ^ n = b ^ k % 2 ^ n := by
  induction k with
  | zero => rw [Int.pow_zero, Int.pow_zero]
  | succ k ih => rw [Int.pow_succ, Int.pow_succ, Int.mul_emod, ih, h, ← Int.mul_emod]
end Go.Proofs.Ytkjiaflmaniplaa
