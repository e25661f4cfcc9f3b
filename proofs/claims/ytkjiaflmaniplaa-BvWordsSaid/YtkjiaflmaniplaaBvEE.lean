/-
  Facts of shifts: sums of shifts, shifts by the width and more.
-/
import Derived.Test.YtkjiaflmaniplaaBvDD
namespace Go.Proofs.Ytkjiaflmaniplaa
open Go.RowKit
set_option linter.unusedSimpArgs false
set_option linter.unusedVariables false

theorem nv_pow (I : Nat) : nv (List.replicate I false ++ [true]) = 2 ^ I := by rw [nv_append, nv_zeros]; simp [nv, nf, bt]
theorem shl_two (n : Nat) (x : Int) (I K : Nat) : vz n ((nv (vz n (x * 2 ^ I)) : Int) * 2 ^ K) = vz n (x * 2 ^ (I + K)) := by
  rw [vz_mull, Int.mul_assoc, ← Int.pow_add]
theorem shr_two (a : List Bool) (I K : Nat) : vz a.length ((nv (vz a.length ((nv a : Int) / 2 ^ I)) : Int) / 2 ^ K) = vz a.length ((nv a : Int) / 2 ^ (I + K)) := by
  have e : ((nv a / 2 ^ I : Nat) : Int) = (nv a : Int) / 2 ^ I := by simp
  rw [← e, nv_vz_nat (Nat.lt_of_le_of_lt (Nat.div_le_self _ _) (nv_lt a)), e, Int.ediv_ediv_of_nonneg (Int.le_of_lt (two_pos I)), ← Int.pow_add]
theorem sv_sar (a : List Bool) (I : Nat) : sv (vz a.length (sv a / 2 ^ I)) = sv a / 2 ^ I := by
  rcases Nat.eq_zero_or_pos a.length with h | h
  · rw [sv_nil h, sv_nil (by rw [vz_length]; exact h)]; simp
  · obtain ⟨w, hw⟩ : ∃ w, a.length = w + 1 := ⟨a.length - 1, by omega⟩
    have p := sv_bd hw
    have q := two_pos I
    have k1 := Int.emod_add_mul_ediv (sv a) (2 ^ I)
    have k2 := Int.emod_nonneg (sv a) (Int.ne_of_gt q)
    rw [hw]
    have q1 : (1 : Int) ≤ 2 ^ I := q
    apply sv_vz
    · rw [Int.le_ediv_iff_mul_le q]
      have h1 : (2 ^ w : Int) * 1 ≤ 2 ^ w * 2 ^ I := Int.mul_le_mul_of_nonneg_left q1 (by have := two_pos w; omega)
      have h2 : -2 ^ w * 2 ^ I = -((2 ^ w : Int) * 2 ^ I) := Int.neg_mul _ _
      omega
    · rw [Int.ediv_lt_iff_lt_mul q]
      have : (2 ^ w : Int) * 1 ≤ 2 ^ w * 2 ^ I := Int.mul_le_mul_of_nonneg_left q1 (by have := two_pos w; omega)
      omega
theorem sar_two (a : List Bool) (I K : Nat) : vz a.length (sv (vz a.length (sv a / 2 ^ I)) / 2 ^ K) = vz a.length (sv a / 2 ^ (I + K)) := by
  rw [sv_sar, Int.ediv_ediv_of_nonneg (Int.le_of_lt (two_pos I)), ← Int.pow_add]
theorem shl_out (a : List Bool) (I : Nat) : vz a.length ((nv a : Int) * 2 ^ (a.length + I)) = bl a.length (fun _ => false) := by
  rw [← shl_spec]
  refine bl_congr fun i hi => ?_
  rw [if_pos (by omega)]
theorem shr_out (a : List Bool) (I : Nat) : vz a.length ((nv a : Int) / 2 ^ (a.length + I)) = bl a.length (fun _ => false) := by
  rw [← shr_spec]
  exact bl_congr fun i hi => ex_far _ _ (by omega)
theorem sar_out (a : List Bool) (I : Nat) : vz a.length (sv a / 2 ^ (a.length + I)) = bl a.length (fun _ => bt a (a.length - 1)) := by
  rw [← sar_spec]
  refine bl_congr fun i hi => ?_
  rw [ex_far _ _ (by omega)]
  unfold ng
  rw [decide_eq_true (by omega), Bool.true_and]
/-- Two new rows of zeros, one beside the other. -/
def Two0 (w : World) (n : Nat) (q r : Value) (wc : World) : Prop :=
  ∃ g h, q = .slice (some ⟨g, 0, none⟩) n n ∧ r = .slice (some ⟨h, 0, none⟩) n n ∧ g ≠ h ∧ w.heap.size ≤ g ∧ w.heap.size ≤ h ∧ RowF wc g n (fun _ => false) ∧ RowF wc h n (fun _ => false) ∧ Below w.heap.size w wc
theorem two0_a (w : World) (n : Nat) : Two0 w n (.slice (some ⟨w.heap.size, 0, none⟩) n n) (.slice (some ⟨w.heap.size + 1, 0, none⟩) n n) (((w.alloc (Zer n)).alloc (Zer n)).drew) := by
  have h := zer_row (w.alloc (Zer n)) n
  rw [show (w.alloc (Zer n)).heap.size = w.heap.size + 1 by simp] at h
  exact ⟨_, _, rfl, rfl, by omega, Nat.le_refl _, by omega, (zer_row w n).alloc _, h, (((Below.refl _ _).alloc (Nat.le_refl _) _).alloc (by simp) _).drew⟩
theorem two0_b (w : World) (n : Nat) : Two0 w n (.slice (some ⟨w.heap.size + 1, 0, none⟩) n n) (.slice (some ⟨w.heap.size, 0, none⟩) n n) (((w.alloc (Zer n)).alloc (Zer n)).drew) := by
  obtain ⟨g, h, e1, e2, h0, h1, h2, h3, h4, h5⟩ := two0_a w n
  exact ⟨h, g, e2, e1, fun e => h0 e.symm, h2, h1, h4, h3, h5⟩
/-- What a round leaves: the zeros, the row of signs. -/
structure SR (wc : World) (g h n k : Nat) (b : Bool) (wr : World) : Prop where
  ne : g ≠ h
  gg : wc.heap.size ≤ g
  gh : wc.heap.size ≤ h
  zr : RowF wr g n (fun _ => false)
  sr : RowF wr h n (Par k (fun _ => b))
  bel : Below wc.heap.size wc wr
theorem SR.next {wc wr : World} {g h n k : Nat} {b : Bool} (r : SR wc g h n k b wr) : SR wc g h n (k + 1) b (wr.setCell ⟨h, k, none⟩ (.bool b)) where
  ne := r.ne
  gg := r.gg
  gh := r.gh
  zr := r.zr.far (p := ⟨h, k, none⟩) r.ne _
  sr := (r.sr.set_ k b).congr fun j _ => Par.step k (fun _ => b) j
  bel := r.bel.setCell r.gh _
theorem SR.drew {wc wr : World} {g h n k : Nat} {b : Bool} (r : SR wc g h n k b wr) : SR wc g h n k b wr.drew := ⟨r.ne, r.gg, r.gh, r.zr.drew, r.sr.drew, r.bel.drew⟩
theorem row_rd {w : World} {g n : Nat} {f : Nat → Bool} (h : RowF w g n f) : Rd w (some ⟨g, 0, none⟩) (bl n f) :=
  (Own.of_row (B := 0) (by rw [bl_length]; exact h.congr fun i hi => (bt_bl_lt hi).symm) (Nat.zero_le _)).rd
end Go.Proofs.Ytkjiaflmaniplaa
