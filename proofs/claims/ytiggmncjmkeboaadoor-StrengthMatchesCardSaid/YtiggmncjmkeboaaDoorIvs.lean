/-
  A parameter that is a slice of structs of two int8, opened: an empty slice, or the cells of a row of intervals.
-/
import Derived.Test.YtiggmncjmkeboaaDoorStrC
import Derived.Deep.Slices
import Derived.Deep.Fields
import Derived.Lib.SmallJoins
import Derived.ChangeSame
namespace Go.Proofs.YtiggmncjmkeboaaDoor
open Go Go.ChangeShapes Go.WideShapes Go.Deep Go.RowKit Go.Joins

theorem spot_none {w : World} {a : Addr} {v : Value} (h : w.cell? a = some v) : a.spot = none := by
  cases hs : a.spot with
  | none => rfl
  | some k =>
    unfold World.cell? at h
    split at h
    · simp [hs] at h
    · cases h

section
variable {H : Type} {enc : TypeId × Value → H} {P : Program} {W : World}
theorem open_ivs {r : Reach} {b0 : Nat} {t e : TypeId} {f0 f1 : Field} {v : Value} {d : DataW H} {ps : List MemPlace} (ht : P.underlying t = some (.slice e)) (he : P.underlying e = some (.struct #[f0, f1])) (hone : oneCellFields P #[f0, f1] = true) (hC : P.cellsOf e = 2)
    (h0 : P.underlying f0.type = some (.int .i8)) (h1 : P.underlying f1.type = some (.int .i8)) (hv : Value.okWide P W r b0 t v) (h : DataW.Trod enc P W 0 (fun _ => true) true t v d ps) :
    (∃ a cap, v = .slice a 0 cap) ∨ ∃ (l : List (Int × Int)) (b off cap : Nat), 0 < l.length ∧ v = .slice (some ⟨b, off, none⟩) l.length cap ∧ Ivs W b off l := by
  obtain ⟨a, len, cap, rfl⟩ := okWide_slice ht hv
  obtain ⟨fuel, hf⟩ := h
  by_cases hl0 : len = 0
  · subst hl0; exact .inl ⟨a, cap, rfl⟩
  right
  have hf' : DataW.trod enc P W 0 (fun _ => true) true fuel t [.slice a len cap] = some (d, ps) := by simpa [Value.cells] using hf
  rcases open_slice ht hf' with ⟨h2, -⟩ | ⟨a', len', cap', m, n, D, Pl, hcs, hb, hl, hm, hmm, hx, hi⟩
  · simp at h2; exact absurd h2.2.1 hl0
  · simp only [List.cons.injEq, Value.slice.injEq, and_true] at hcs
    obtain ⟨rfl, rfl, rfl⟩ := hcs
    obtain ⟨o0, k0⟩ := hone_of hone 0 f0 rfl
    obtain ⟨o1, k1⟩ := hone_of hone 1 f1 rfl
    have each : ∀ i, i < len → ∃ p q : Int, W.cell? (a'.add (i * 2)) = some (.int .i8 p) ∧ W.cell? ((a'.add (i * 2)).add 1) = some (.int .i8 q) := fun i hil => by
      obtain ⟨cs', hc, ht'⟩ := hi i (by simp at hmm; omega)
      rw [hC] at hc
      obtain ⟨y0, y1, n', _, hlen, t0, t1⟩ := trod_struct2 he ht'
      rw [hC] at hlen
      obtain ⟨_, hcl, hat⟩ := World.cells?_some hc
      rw [o0, k0] at t0
      rw [o1, k1] at t1
      obtain ⟨p, hp, -, -⟩ := DataW.trod_int h0 t0
      obtain ⟨q, hq, -, -⟩ := DataW.trod_int h1 t1
      match cs', hlen with
      | [c0, c1], _ =>
        simp at hp hq
        subst hp
        subst hq
        refine ⟨p, q, ?_, ?_⟩
        · have := hat 0 (by simp)
          simpa [Addr.add] using this
        · have := hat 1 (by simp)
          simpa using this
    obtain ⟨p0, q0, hc0, -⟩ := each 0 (by omega)
    have hsp : a'.spot = none := spot_none (by simpa [Addr.add] using hc0)
    obtain ⟨b, off, sp⟩ := a'
    simp only at hsp
    subst hsp
    have hch : ∀ i, ∃ pq : Int × Int, i < len → W.cell? ⟨b, off + i * 2, none⟩ = some (.int .i8 pq.1) ∧ W.cell? ⟨b, off + i * 2 + 1, none⟩ = some (.int .i8 pq.2) := fun i => by
      by_cases hil : i < len
      · obtain ⟨p, q, e1, e2⟩ := each i hil
        have ea : (⟨b, off, none⟩ : Addr).add (i * 2) = ⟨b, off + i * 2, none⟩ := by
          unfold Addr.add
          split
          · rename_i h; rw [h, Nat.add_zero]
          · rfl
        rw [ea] at e1 e2
        exact ⟨(p, q), fun _ => ⟨e1, by simpa [Addr.add] using e2⟩⟩
      · exact ⟨(0, 0), fun h => absurd h hil⟩
    refine ⟨(List.range len).map fun i => Classical.choose (hch i), b, off, cap, by simp; omega, by simp, fun i hi2 => ?_⟩
    have hil : i < len := by simpa using hi2
    have hg : ((List.range len).map fun i => Classical.choose (hch i)).getD i (0, 0) = Classical.choose (hch i) := by simp [hil]
    rw [hg]
    exact Classical.choose_spec (hch i) hil
end

end Go.Proofs.YtiggmncjmkeboaaDoor
