/-
  The contracts of package bv's full adder, a closure that keeps the carry.
-/
import Derived.Test.YtkjiaflmaniplaaBvB
import Derived.Test.YtkjiaflmaniplaaStrH
import Derived.Deep.RegionHeld
namespace Go.Proofs.Ytkjiaflmaniplaa
open Go.RowKit

/-- A block that holds the carry. -/
def Cry (w : World) (g : Nat) (b : Bool) : Prop := w.heap[g]? = some (.cells #[.bool b] 4 (0, 0))

set_option maxHeartbeats 400000 in
theorem full_any (c : Bool) (w : World) :
    Calls Try.prog 55 #[.bool c] w fun e w' => e = .returned (.func (.func 72) #[] #[.pointer (some ⟨w.heap.size, 0, none⟩)]) ∧ w' = w.alloc (.cells #[.bool c] 4) := by
  go_enter Try.func55, Try.ntmps55
  go_wp2
  go_ret
  exact ⟨rfl, rfl⟩

set_option maxHeartbeats 1000000 in
theorem clo_any (x y c : Bool) (g : Nat) (w : World) (h : Cry w g c) :
    Calls Try.prog 72 #[.bool x, .bool y, .pointer (some ⟨g, 0, none⟩)] w fun e w' => e = .returned (.bool (x != (y != c))) ∧ w' = w.setCell ⟨g, 0, none⟩ (.bool ((x && y) || ((x != y) && c))) := by
  have hc := cell_of_one h
  have hf := free_of_one h
  clear h
  cases x <;> cases y <;> cases c
  all_goals
    go_enter Try.func72, Try.ntmps72
    go_wp2
    go_ret
    exact ⟨rfl, rfl⟩
end Go.Proofs.Ytkjiaflmaniplaa
