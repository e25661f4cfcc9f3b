/-
  The walk of StrengthMatches, its three cases together.
-/
import Derived.Test.YtiggmncjmkeboaaDoorStrL6
import Derived.Test.YtiggmncjmkeboaaDoorIvs
namespace Go.Proofs.YtiggmncjmkeboaaDoor
open Go.RowKit

theorem StrengthMatches_walk (v : Value) (n : Int) (w : World) (hv : (∃ a cap, v = .slice a 0 cap) ∨ ∃ (l : List (Int × Int)) (b off cap : Nat), 0 < l.length ∧ v = .slice (some ⟨b, off, none⟩) l.length cap ∧ Ivs w b off l) (hN : Names w) :
    Calls Tryd.prog 3 #[v, .int .i64 n] w (Mk (.bool true) w) := by
  rcases hv with ⟨a, cap, rfl⟩ | ⟨l, b, off, cap, h0, rfl, hl⟩
  · exact StrengthMatches_0 a cap n w hN
  · by_cases h : 60 < l.length
    · exact StrengthMatches_long l b off cap n w h hN
    · exact StrengthMatches_n l b off cap n w h0 (by omega) hl hN

end Go.Proofs.YtiggmncjmkeboaaDoor
