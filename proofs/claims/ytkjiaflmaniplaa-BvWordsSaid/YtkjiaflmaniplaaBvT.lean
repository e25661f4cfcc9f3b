/-
  The statements' helpers Long, equal and spoil; congruences of vectors' values.
-/
import Derived.Test.YtkjiaflmaniplaaBvS
namespace Go.Proofs.Ytkjiaflmaniplaa
open Go.RowKit
set_option linter.unusedSimpArgs false
set_option linter.unusedVariables false

section
variable (n : Nat) (p q : Int)
theorem vz_nv_mod : vz n (nv (vz n p)) = vz n p := vz_eq (by rw [nv_vz, Int.emod_emod])
theorem vz_addl : vz n ((nv (vz n p) : Int) + q) = vz n (p + q) := vz_eq (by rw [nv_vz, Int.emod_add_emod])
theorem vz_addr : vz n (p + (nv (vz n q) : Int)) = vz n (p + q) := vz_eq (by rw [nv_vz, Int.add_emod_emod])
theorem vz_mull : vz n ((nv (vz n p) : Int) * q) = vz n (p * q) := vz_eq (by rw [nv_vz, Int.mul_emod, Int.emod_emod, ← Int.mul_emod])
theorem vz_mulr : vz n (p * (nv (vz n q) : Int)) = vz n (p * q) := vz_eq (by rw [nv_vz, Int.mul_emod, Int.emod_emod, ← Int.mul_emod])
theorem vz_subl : vz n ((nv (vz n p) : Int) - q) = vz n (p - q) := vz_eq (by rw [nv_vz, Int.emod_sub_emod])
theorem vz_subr : vz n (p - (nv (vz n q) : Int)) = vz n (p - q) := vz_eq (by rw [nv_vz, Int.sub_emod_emod])
theorem vz_neg : vz n (-(nv (vz n p) : Int)) = vz n (-p) := by
  rw [show -(nv (vz n p) : Int) = 0 - nv (vz n p) from by omega, vz_subr, show (0 : Int) - p = -p from by omega]
end
theorem vz_pow (n : Nat) (p : Int) (k : Nat) : vz n ((nv (vz n p) : Int) ^ k) = vz n (p ^ k) := vz_eq (pow_mod _ _ _ _ (by rw [nv_vz, Int.emod_emod]))

/-- A block of slices. -/
def Sls (w : World) (g : Nat) (vs : List (Option Addr × Nat × Nat)) : Prop := ∀ i (h : i < vs.length), w.cell? ⟨g, i, none⟩ = some (.slice vs[i].1 vs[i].2.1 vs[i].2.2)

set_option maxHeartbeats 1000000 in
theorem long_no (g c : Nat) (vs : List (Option Addr × Nat × Nat)) (w : World) (hv : vs.length ≤ 8) (h : Sls w g vs) (hs : ∀ i (h : i < vs.length), vs[i].2.1 ≤ 140) :
    Calls Try.prog 13 #[.slice (some ⟨g, 0, none⟩) vs.length c] w fun e w' => e = .returned (.bool false) ∧ w = w' := by
  have H := hide h
  have HS := hide hs
  clear h hs
  go_enter Try.func13, Try.ntmps13
  go_wp2
  go_loop [3] (fun i => ∃ k : Nat, k ≤ vs.length ∧ i = .int .i64 k) (fun i => vs.length - (intOf i).toNat)
  case atStart => exact ⟨0, Nat.zero_le _, rfl⟩
  case round =>
    obtain ⟨k, hk, rfl⟩ := hrel
    by_cases hlt : k < vs.length
    · have hc := H.out k hlt
      have h1 := HS.out k hlt
      obtain ⟨x, hx⟩ : ∃ x, x = vs[k] := ⟨_, rfl⟩
      rw [← hx] at hc h1
      clear hx
      go_wp2
      go_round
      case rel => exact ⟨k + 1, by omega, by go_num⟩
      case measure => simp [intOf]; omega
    · go_wp2
      go_ret
      exact ⟨rfl, rfl⟩

set_option maxHeartbeats 1000000 in
theorem long_yes (g c : Nat) (vs : List (Option Addr × Nat × Nat)) (w : World) (hv : vs.length ≤ 8) (h : Sls w g vs) (hs : ∃ i, ∃ h : i < vs.length, 140 < vs[i].2.1) (hm : ∀ i (h : i < vs.length), vs[i].2.1 ≤ maxLen) :
    Calls Try.prog 13 #[.slice (some ⟨g, 0, none⟩) vs.length c] w fun e w' => e = .returned (.bool true) ∧ w = w' := by
  have H := hide h
  have HS := hide hs
  have HM := hide hm
  clear h hs hm
  go_enter Try.func13, Try.ntmps13
  go_wp2
  go_loop [3] (fun i => ∃ k : Nat, k ≤ vs.length ∧ i = .int .i64 k ∧ Hid (∀ j (h : j < vs.length), j < k → vs[j].2.1 ≤ 140)) (fun i => vs.length - (intOf i).toNat)
  case atStart => exact ⟨0, Nat.zero_le _, rfl, hide fun j h hj => by omega⟩
  case round =>
    obtain ⟨k, hk, rfl, hno⟩ := hrel
    by_cases hlt : k < vs.length
    · have hc := H.out k hlt
      have h2 := HM.out k hlt
      unfold maxLen at h2
      obtain ⟨x, hx⟩ : ∃ x, x = vs[k] := ⟨_, rfl⟩
      rw [← hx] at hc h2
      have hx' := hide hx
      clear hx
      by_cases h1 : x.2.1 ≤ 140
      · go_wp2
        go_round
        case rel => exact ⟨k + 1, by omega, by go_num, hide fun j h hj => by
          by_cases e : j = k
          · subst e; rw [← hx'.out]; exact h1
          · exact hno.out j h (by omega)⟩
        case measure => simp [intOf]; omega
      · go_wp2
        go_ret
        exact ⟨rfl, rfl⟩
    · exfalso
      obtain ⟨i, hi, h1⟩ := HS.out
      have := hno.out i hi (by omega)
      omega
end Go.Proofs.Ytkjiaflmaniplaa
