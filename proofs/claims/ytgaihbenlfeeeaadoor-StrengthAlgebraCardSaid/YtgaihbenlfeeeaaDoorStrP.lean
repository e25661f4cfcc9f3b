/-
  The contract of Parse of package strength.
-/
import Derived.Test.YtgaihbenlfeeeaaDoorStrN
namespace Go.Proofs.YtgaihbenlfeeeaaDoor
open Go.RowKit
set_option linter.unusedSimpArgs false

theorem str_t {a b : ByteArray} (h : a = b) : (a.toList == b.toList) = true := by subst h; simp
theorem str_f {a b : ByteArray} (h : ¬ a = b) : (a.toList == b.toList) = false := by
  rw [Bool.eq_false_iff]
  intro h2
  have h3 : a.toList = b.toList := by simpa using h2
  rw [ByteArray.toList_eq, ByteArray.toList_eq] at h3
  exact h (ByteArray.ext (Array.toList_inj.1 h3))
def nmJ (j : Nat) : ByteArray := nmF ((j / 2 : Nat) : Int) (j % 2 == 1)
def prs (name : ByteArray) : Option Nat := (List.range 16).find? fun j => decide (nmJ j = name)
def pS (name : ByteArray) : Int := match prs name with | some j => ((j / 2 : Nat) : Int) | none => 0
def pV (name : ByteArray) : Bool := match prs name with | some j => j % 2 == 1 | none => false
def pK (name : ByteArray) : Bool := (prs name).isSome
/-- None of the first n names is this one. -/
def NoHit (name : ByteArray) (n : Nat) : Prop := ∀ i, i < n → nmJ i ≠ name
theorem NoHit.zero (name : ByteArray) : NoHit name 0 := fun _ h => by omega
theorem NoHit.succ {name : ByteArray} {n : Nat} (h : NoHit name n) (hn : nmJ n ≠ name) : NoHit name (n + 1) := fun i hi => by
  by_cases e : i = n
  · subst e; exact hn
  · exact h i (by omega)
theorem prs_hit {name : ByteArray} {j : Nat} (h : NoHit name j) (hj : nmJ j = name) (hlt : j < 16) : prs name = some j := by
  unfold prs
  rw [List.find?_range_eq_some]
  refine ⟨by simpa using hj, by simpa using hlt, fun i hi => by simpa using h i hi⟩
theorem prs_miss {name : ByteArray} (h : NoHit name 16) : prs name = none := by
  unfold prs
  rw [List.find?_eq_none]
  intro i hi
  simpa using h i (by simpa using hi)
theorem nmJ_0 (k : Nat) : nmJ (2 * k) = nmF k false := by
  unfold nmJ; rw [show 2 * k / 2 = k by omega, show 2 * k % 2 = 0 by omega]; rfl
theorem nmJ_1 (k : Nat) : nmJ (2 * k + 1) = nmF k true := by
  unfold nmJ; rw [show (2 * k + 1) / 2 = k by omega, show (2 * k + 1) % 2 = 1 by omega]; rfl
def Tri (name : ByteArray) : Value := .tuple #[.int .u8 (pS name), .bool (pV name), .bool (pK name)]
theorem hit_0 {name : ByteArray} {k : Nat} (h : NoHit name (2 * k)) (e : nmF k false = name) (hlt : k < 8) : Tri name = .tuple #[.int .u8 k, .bool false, .bool true] := by
  have hp := prs_hit h (by rw [nmJ_0]; exact e) (by omega)
  unfold Tri pS pV pK; rw [hp]
  simp only [show 2 * k / 2 = k by omega, show 2 * k % 2 = 0 by omega, Option.isSome]; rfl
theorem hit_1 {name : ByteArray} {k : Nat} (h : NoHit name (2 * k + 1)) (e : nmF k true = name) (hlt : k < 8) : Tri name = .tuple #[.int .u8 k, .bool true, .bool true] := by
  have hp := prs_hit h (by rw [nmJ_1]; exact e) (by omega)
  unfold Tri pS pV pK; rw [hp]
  simp only [show (2 * k + 1) / 2 = k by omega, show (2 * k + 1) % 2 = 1 by omega, Option.isSome]; rfl
theorem miss {name : ByteArray} (h : NoHit name 16) : Tri name = .tuple #[.int .u8 0, .bool false, .bool false] := by
  unfold Tri pS pV pK; rw [prs_miss h]; rfl

set_option maxHeartbeats 1000000 in
theorem parse_any (name : ByteArray) (w : World) (hN : Names w) :
    Calls Tryd.prog 29 #[.string name] w (Gives (Tri name) w) := by
  have i0 : ∀ w, (Instr.index 68 (.agg #[.bool false, .bool true]) (.int .i64 0)).run Tryd.prog w = .ok (.bool false) w := fun _ => by kernel_rfl
  have i1 : ∀ w, (Instr.index 68 (.agg #[.bool false, .bool true]) (.int .i64 1)).run Tryd.prog w = .ok (.bool true) w := fun _ => by kernel_rfl
  have HN := hide hN
  clear hN
  go_enter Tryd.func29, Tryd.ntmps29
  go_wp2
  go_loopw [8] (fun i wr => ∃ k : Nat, k ≤ 8 ∧ i = .int .u8 k ∧ NoHit name (2 * k) ∧ ∃ n, wr = w.drewN n) (fun i _ => 8 - (intOf i).toNat)
  case atStart => exact ⟨0, by omega, rfl, NoHit.zero _, 0, rfl⟩
  case round =>
    obtain ⟨k, hk, rfl, hno, n, rfl⟩ := hrel
    by_cases hlt : k < 8
    · have hd : decide ((k : Int) < 8) = true := by simpa using (by omega : (k : Int) < 8)
      go_wp2
      go_loopw [12] (fun i wr => ∃ y : Nat, y ≤ 2 ∧ i = .int .i64 y ∧ NoHit name (2 * k + y) ∧ ∃ n, wr = w.drewN n) (fun i _ => 2 - (intOf i).toNat)
      case atStart => exact ⟨0, by omega, rfl, hno, n, rfl⟩
      case round =>
        clear hno
        obtain ⟨y, hy, rfl, hno, n, rfl⟩ := hrel
        have hk0 : (0 : Int) ≤ k := by omega
        by_cases hly : y < 2
        · have hy2 : y = 0 ∨ y = 1 := by omega
          rcases hy2 with rfl | rfl
          · by_cases he : nmF k false = name
            · have ht := Lib.hid (hit_0 hno he hlt)
              have he2 : ((nmF k false).toList == name.toList) = true := str_t he
              clear he hno
              go_wp2_with ((go_at_call 27; (with_reducible refine (name_any _ _ _ (by assumption) (HN.out.draw _)).mono ?_); rintro e w' ⟨rfl, m, rfl⟩))
              go_ret3
              exact ⟨congrArg Ending.returned ht.out.symm, _, rfl⟩
            · have hn2 := hno.succ (by rw [Nat.add_zero, nmJ_0]; exact he)
              have he2 : ((nmF k false).toList == name.toList) = false := str_f he
              clear he hno
              go_wp2_with ((go_at_call 27; (with_reducible refine (name_any _ _ _ (by assumption) (HN.out.draw _)).mono ?_); rintro e w' ⟨rfl, m, rfl⟩))
              go_roundw
              case rel => exact ⟨1, by omega, rfl, hn2, _, rfl⟩
              case measure => simp [intOf]
          · by_cases he : nmF k true = name
            · have ht := Lib.hid (hit_1 hno he hlt)
              have he2 : ((nmF k true).toList == name.toList) = true := str_t he
              clear he hno
              go_wp2_with ((go_at_call 27; (with_reducible refine (name_any _ _ _ (by assumption) (HN.out.draw _)).mono ?_); rintro e w' ⟨rfl, m, rfl⟩))
              go_ret3
              exact ⟨congrArg Ending.returned ht.out.symm, _, rfl⟩
            · have hn2 := hno.succ (by rw [nmJ_1]; exact he)
              have he2 : ((nmF k true).toList == name.toList) = false := str_f he
              clear he hno
              go_wp2_with ((go_at_call 27; (with_reducible refine (name_any _ _ _ (by assumption) (HN.out.draw _)).mono ?_); rintro e w' ⟨rfl, m, rfl⟩))
              go_roundw
              case rel => exact ⟨2, by omega, rfl, hn2, _, rfl⟩
              case measure => simp [intOf]
        · have hno2 : NoHit name (2 * (k + 1)) := by rw [show 2 * (k + 1) = 2 * k + y by omega]; exact hno
          clear hno
          go_wp2
          go_roundw
          case rel => exact ⟨k + 1, by omega, by go_num, hno2, _, rfl⟩
          case measure => simp [intOf]; omega
    · have hk8 : k = 8 := by omega
      have hm := miss (show NoHit name 16 by rw [hk8] at hno; exact hno)
      have Hm := Lib.hid hm
      have hlt' : (8 : Int) ≤ k := by omega
      clear hm hk8 hno
      go_wp2
      go_ret3
      exact ⟨congrArg Ending.returned Hm.out.symm, _, rfl⟩

end Go.Proofs.YtgaihbenlfeeeaaDoor
