/-
  A parameter that is a slice of bools, opened: what its cells hold.
-/
import Derived.Test.YtkjiaflmaniplaaBvA
import Derived.Deep.Grids
import Derived.Deep.Slices
import Derived.Deep.Fields
import Derived.Lib.SmallJoins
import Derived.ChangeSame
namespace Go.Proofs.Ytkjiaflmaniplaa
open Go Go.ChangeShapes Go.WideShapes Go.Deep Go.RowKit Go.Joins

section
variable {H : Type} {enc : TypeId × Value → H} {P : Program} {W : World}
theorem open_bv {r : Reach} {b0 : Nat} {t e : TypeId} {v : Value} {d : DataW H} {ps : List MemPlace} (ht : P.underlying t = some (.slice e)) (he : P.underlying e = some .bool) (hC : P.cellsOf e = 1)
    (hv : Value.okWide P W r b0 t v) (h : DataW.Trod enc P W 0 (fun _ => true) true t v d ps) :
    ∃ (A : Option Addr) (l : List Bool) (c : Nat), v = .slice A l.length c ∧ l.length ≤ maxLen ∧ Rd W A l := by
  obtain ⟨a, len, cap, rfl⟩ := okWide_slice ht hv
  obtain ⟨fuel, hf⟩ := h
  have hf' : DataW.trod enc P W 0 (fun _ => true) true fuel t [.slice a len cap] = some (d, ps) := by simpa [Value.cells] using hf
  rcases open_bools ht he hC hf' with ⟨h2, -⟩ | ⟨a', len', cap', B, hcs, hb, hl, hm, hx, hi⟩
  · simp only [List.cons.injEq, Value.slice.injEq, and_true] at h2
    obtain ⟨rfl, rfl, rfl⟩ := h2
    exact ⟨none, [], 0, rfl, by simp, fun h => absurd h (by simp)⟩
  · simp only [List.cons.injEq, Value.slice.injEq, and_true] at hcs
    obtain ⟨rfl, rfl, rfl⟩ := hcs
    refine ⟨some a', bl len B, cap, by rw [bl_length], by rw [bl_length]; omega, fun hn => ?_⟩
    rw [bl_length] at hn
    refine ⟨a', rfl, ?_, fun i hi2 => ?_⟩
    · have h0 := hi 0 (by omega)
      have := block_lt_of_cell h0
      rwa [block_of_add] at this
    · rw [bl_length] at hi2
      rw [hi i (by omega), bt_bl_lt hi2]
theorem open_bvc {r : Reach} {b0 : Nat} {t e : TypeId} {v : Value} {d : DataW H} {ps : List MemPlace} (ht : P.underlying t = some (.slice e)) (he : P.underlying e = some .bool) (hC : P.cellsOf e = 1)
    (hv : Value.okWide P W r b0 t v) (h : DataW.Trod enc P W 0 (fun _ => true) true t v d ps) :
    ∃ (A : Option Addr) (l : List Bool) (c : Nat), v = .slice A l.length c ∧ l.length ≤ maxLen ∧ Rd W A l ∧ Hid (l.length ≤ c ∧ c ≤ maxLen) := by
  obtain ⟨a, len, cap, rfl⟩ := okWide_slice ht hv
  obtain ⟨fuel, hf⟩ := h
  have hf' : DataW.trod enc P W 0 (fun _ => true) true fuel t [.slice a len cap] = some (d, ps) := by simpa [Value.cells] using hf
  rcases open_bools ht he hC hf' with ⟨h2, -⟩ | ⟨a', len', cap', B, hcs, hb, hl, hm, hx, hi⟩
  · simp only [List.cons.injEq, Value.slice.injEq, and_true] at h2
    obtain ⟨rfl, rfl, rfl⟩ := h2
    exact ⟨none, [], 0, rfl, by simp, fun h => absurd h (by simp), show _ ∧ _ from ⟨Nat.le_refl _, by simp [maxLen]⟩⟩
  · simp only [List.cons.injEq, Value.slice.injEq, and_true] at hcs
    obtain ⟨rfl, rfl, rfl⟩ := hcs
    refine ⟨some a', bl len B, cap, by rw [bl_length], by rw [bl_length]; omega, fun hn => ?_, show _ ∧ _ from ⟨by rw [bl_length]; exact hl, hm⟩⟩
    rw [bl_length] at hn
    refine ⟨a', rfl, ?_, fun i hi2 => ?_⟩
    · have h0 := hi 0 (by omega)
      have := block_lt_of_cell h0
      rwa [block_of_add] at this
    · rw [bl_length] at hi2
      rw [hi i (by omega), bt_bl_lt hi2]
end

theorem u8_bd {a : Int} (h : (Lit.int .u8 a).wf = true) : 0 ≤ a ∧ a ≤ 255 := by
  simp only [Lit.wf, Bool.and_eq_true] at h
  exact ⟨of_decide_eq_true h.1, of_decide_eq_true h.2⟩
theorem i64_bd {a : Int} (h : (Lit.int .i64 a).wf = true) : -9223372036854775808 ≤ a ∧ a ≤ 9223372036854775807 := by
  simp only [Lit.wf, Bool.and_eq_true] at h
  exact ⟨of_decide_eq_true h.1, of_decide_eq_true h.2⟩
end Go.Proofs.Ytkjiaflmaniplaa
