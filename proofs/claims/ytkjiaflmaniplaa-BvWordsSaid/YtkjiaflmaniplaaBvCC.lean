/-
  Signed values of vectors of integers; what Uint and Int answer of known vectors.
-/
import Derived.Test.YtkjiaflmaniplaaBvBB
namespace Go.Proofs.Ytkjiaflmaniplaa
open Go.RowKit
set_option linter.unusedSimpArgs false
set_option linter.unusedVariables false

theorem sv_vz {w : Nat} {z : Int} (h1 : -2 ^ w ≤ z) (h2 : z < 2 ^ w) : sv (vz (w + 1) z) = z := by
  have a := sv_mod (vz (w + 1) z)
  have b := sv_bd (vz_length (w + 1) z)
  rw [vz_length, nv_vz_mod] at a
  have p := two_pos w
  have e : (2 : Int) ^ (w + 1) = 2 * 2 ^ w := by rw [Int.pow_succ]; omega
  rw [e] at a
  have k1 := Int.emod_add_mul_ediv (sv (vz (w + 1) z)) (2 * 2 ^ w)
  have k2 := Int.emod_add_mul_ediv z (2 * 2 ^ w)
  rw [a] at k1
  generalize sv (vz (w + 1) z) = s at *
  generalize (2 : Int) ^ w = m at *
  generalize hq1 : s / (2 * m) = q1 at *
  generalize hq2 : z / (2 * m) = q2 at *
  have hd : s - z = 2 * m * (q1 - q2) := by rw [Int.mul_sub]; omega
  have hq : q1 = q2 := by
    rcases Int.lt_trichotomy (q1 - q2) 0 with h | h | h
    · have : 2 * m * (q1 - q2) ≤ 2 * m * (-1) := Int.mul_le_mul_of_nonneg_left (by omega) (by omega)
      omega
    · omega
    · have : 2 * m * 1 ≤ 2 * m * (q1 - q2) := Int.mul_le_mul_of_nonneg_left (by omega) (by omega)
      omega
  rw [hq] at hd
  simp at hd
  omega
theorem uint_is {a : List Bool} {e : Ending} {m : Nat} (h : UintA a e) (hm : nv a = m) (hl : m < 2 ^ 64) : e = .returned (.tuple #[.int .u64 m, .bool true]) := by
  rcases h with ⟨_, rfl⟩ | ⟨h, _⟩
  · rw [hm]
  · omega
theorem uint_not {a : List Bool} {e : Ending} (h : UintA a e) (hl : 2 ^ 64 ≤ nv a) : e = .returned (.tuple #[.int .u64 0, .bool false]) := by
  rcases h with ⟨h, _⟩ | ⟨_, rfl⟩
  · omega
  · rfl
theorem int_is {a : List Bool} {e : Ending} {m : Int} (h : IntA a e) (hm : sv a = m) (h1 : -9223372036854775808 ≤ m) (h2 : m ≤ 9223372036854775807) : e = .returned (.tuple #[.int .i64 m, .bool true]) := by
  rcases h with ⟨_, _, rfl⟩ | ⟨h, _⟩
  · rw [hm]
  · omega
theorem int_not {a : List Bool} {e : Ending} (h : IntA a e) (hl : ¬ (-9223372036854775808 ≤ sv a ∧ sv a ≤ 9223372036854775807)) : e = .returned (.tuple #[.int .i64 0, .bool false]) := by
  rcases h with ⟨h1, h2, _⟩ | ⟨_, rfl⟩
  · exact absurd ⟨h1, h2⟩ hl
  · rfl
theorem two_rd (w : World) (x y : Bool) : Rd (w.alloc (.cells #[.bool x, .bool y] 4)) (some ⟨w.heap.size, 0, none⟩) [x, y] := fun _ => by
  refine ⟨_, rfl, by simp, fun i hi => ?_⟩
  rw [addr_add, cell_of_row _ _ _ _ _ _ (heap_alloc_new w _)]
  match i, hi with
  | 0, _ => rfl
  | 1, _ => rfl
theorem from_rr (z : Int) (n : Nat) (w : World) (hn : n ≤ 128) (h1 : -9223372036854775808 ≤ z) (h2 : z ≤ 9223372036854775807) :
    Calls Try.prog 38 #[.int .i64 z, .int .i64 n] w (RetF (vz n z) w) :=
  (from_any z n w hn h1 h2).mono fun _ _ ⟨A, c, he, h1, h2, h3, h4⟩ => ⟨vz n z, A, c, hide rfl, by rw [he, vz_length], hide ⟨by rw [vz_length]; exact h1, h2⟩, hide h3, h4⟩
end Go.Proofs.Ytkjiaflmaniplaa
