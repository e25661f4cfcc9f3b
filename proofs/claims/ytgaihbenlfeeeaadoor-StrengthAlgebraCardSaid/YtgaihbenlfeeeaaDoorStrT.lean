/-
  From a row's condition (the names of strengths read as the program's text lays them) to what the walks ask of the world.
-/
import Derived.Test.YtgaihbenlfeeeaaDoorStrN
import Derived.Test.YtgaihbenlfeeeaaDoorRows
import Derived.ProofKit
import Derived.LaidMore
import Derived.OpenShut
import Derived.Stop.Joined
import Derived.Stop.LaidErr
import Derived.Lib.LaidTab
namespace Go.Proofs.YtgaihbenlfeeeaaDoor
open Go Go.ChangeShapes Go.WideShapes Go.RowKit

/-- The cells of an array of strings that reads as known texts. -/
theorem cells_of_strs {H : Type} {enc : TypeId × Value → H} {P : Program} {w : World} {base : Nat} {sp : Nat → Bool} {held : Bool} {fuel : Nat} {t e : TypeId} {n : Nat} {cs : List Value} {ls : List (List UInt8)} {p : List MemPlace}
    (ht : P.underlying t = some (.array n e)) (he : P.underlying e = some .string) (hce : P.cellsOf e = 1)
    (h : DataW.trod enc P w base sp held fuel t cs = some (.agg (ls.map fun l => .lit (.string l)), p)) (r : Nat) (l : List UInt8) (hr : ls[r]? = some l) : cs[r]? = some (.string ⟨l.toArray⟩) := by
  cases fuel with
  | zero => simp [DataW.trod] at h
  | succ fuel =>
    simp only [DataW.trod, ht, hce] at h
    split at h
    · obtain ⟨xs, hm, hx⟩ := Option.map_eq_some_iff.1 h
      have hxs : xs.map (·.1) = ls.map fun l => .lit (.string l) := by
        have := congrArg Prod.fst hx
        simpa using this
      have hxl : xs.length = n := by simpa using Lib.mapM_length hm
      have hrl : ls.length = n := by
        have := congrArg List.length hxs
        simp at this
        omega
      have hrn : r < n := by
        have := (List.getElem?_eq_some_iff.1 hr).1
        omega
      obtain ⟨b, hb, hf⟩ := Lib.mapM_at hm r r (by simp [hrn])
      have hb1 : b.1 = .lit (.string l) := by
        have h2 : (xs.map (·.1))[r]? = some b.1 := by simp [hb]
        rw [hxs] at h2
        simp only [List.getElem?_map, hr, Option.map_some, Option.some.injEq] at h2
        exact h2.symm
      obtain ⟨s, hs, hx2, _⟩ := DataW.trod_string he hf
      rw [hx2] at hb1
      simp only at hb1
      have e1 : s.data.toList = l := by injection hb1 with h1; injection h1
      have e2 : s = ⟨l.toArray⟩ := by
        apply ByteArray.ext
        rw [← e1]
      rw [e2] at hs
      have h3 := congrArg (·[0]?) hs
      simp only [Nat.mul_one, List.getElem?_take, List.getElem?_drop, Nat.add_zero, Nat.zero_lt_one, if_true] at h3
      simpa using h3
    · cases h

theorem tab_names {rest : List (String × DataW Unit)} {W : World} (h : laidMet Tryd.prog (("netlab/strength.names", Rows.laid_netlab_strength_names) :: rest) W) : Names W := by
  obtain ⟨ps, ⟨g', t', cs, fuel, p, q, hg', ht', hvar, hd, _, _⟩, _⟩ := h
  have hg : Tryd.prog.globalNamed "netlab/strength.names" = some 0 := by kernel_rfl
  obtain rfl := Option.some.inj (hg.symm.trans hg')
  have hty : (Tryd.prog.globals[0]?).map (·.type) = some 63 := by kernel_rfl
  obtain rfl := Option.some.inj (hty.symm.trans ht')
  have hc := cells_of_strs (ls := [[104, 105, 103, 104, 122], [115, 109, 97, 108, 108], [109, 101, 100, 105, 117, 109], [119, 101, 97, 107], [108, 97, 114, 103, 101], [112, 117, 108, 108], [115, 116, 114, 111, 110, 103], [115, 117, 112, 112, 108, 121]])
    (t := 63) (n := 8) (e := 9) (by kernel_rfl) (by kernel_rfl) (by kernel_rfl) hd
  intro k hk
  rw [World.var?_cell hg hvar]
  match k, hk with
  | 0, _ => rw [← Array.getElem?_toList]; exact hc 0 _ rfl
  | 1, _ => rw [← Array.getElem?_toList]; exact hc 1 _ rfl
  | 2, _ => rw [← Array.getElem?_toList]; exact hc 2 _ rfl
  | 3, _ => rw [← Array.getElem?_toList]; exact hc 3 _ rfl
  | 4, _ => rw [← Array.getElem?_toList]; exact hc 4 _ rfl
  | 5, _ => rw [← Array.getElem?_toList]; exact hc 5 _ rfl
  | 6, _ => rw [← Array.getElem?_toList]; exact hc 6 _ rfl
  | 7, _ => rw [← Array.getElem?_toList]; exact hc 7 _ rfl

end Go.Proofs.YtgaihbenlfeeeaaDoor
