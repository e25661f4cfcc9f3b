/-
  The contracts of Name and Parse of package strength.
-/
import Derived.Test.YtgaihbenlfeeeaaDoorStrA
import Derived.Test.YtgaihbenlfeeeaaDoorStrB
import Derived.LoopTactic
namespace Go.Proofs.YtgaihbenlfeeeaaDoor
open Go.RowKit
set_option linter.unusedSimpArgs false

def nmB : Nat → ByteArray
  | 0 => ⟨#[104, 105, 103, 104, 122]⟩
  | 1 => ⟨#[115, 109, 97, 108, 108]⟩
  | 2 => ⟨#[109, 101, 100, 105, 117, 109]⟩
  | 3 => ⟨#[119, 101, 97, 107]⟩
  | 4 => ⟨#[108, 97, 114, 103, 101]⟩
  | 5 => ⟨#[112, 117, 108, 108]⟩
  | 6 => ⟨#[115, 116, 114, 111, 110, 103]⟩
  | _ => ⟨#[115, 117, 112, 112, 108, 121]⟩

def nmD (v : Bool) : ByteArray := if v then ⟨#[49]⟩ else ⟨#[48]⟩
def nmF (s : Int) (v : Bool) : ByteArray := nmB (hgh s).toNat ++ nmD v
/-- The names read as the program's text lays them. -/
def Names (w : World) : Prop := ∀ k : Nat, k < 8 → w.cell? ⟨0, k, none⟩ = some (.string (nmB k))
theorem Names.draw {w : World} (h : Names w) (n : Nat) : Names (w.drewN n) := h
theorem Names.below {w w' : World} (h : Names w) (hb : Below w.heap.size w w') : Names w' := fun k hk => by
  have h1 := h k hk
  exact (hb.cell (World.block_lt_of_cell? w _ h1)).trans h1
def Gives (v : Value) (w : World) (e : Ending) (w' : World) : Prop := e = .returned v ∧ ∃ n, w' = w.drewN n
theorem ret_str {a b : ByteArray} (h : a = b) : Ending.returned (.string a) = .returned (.string b) := by rw [h]

theorem nmB_size (k : Nat) : (nmB k).size ≤ 8 := by unfold nmB; split <;> decide
theorem add_any (k : Nat) (v : Bool) (s : Int) (h : k = (hgh s).toNat) (w : World) : (Op.stringOp .add (nmB k) (Utf8.encode (mChar (mFrom v)))).run Tryd.prog w = .ok (.string (nmF s v)) w := by
  have e : Utf8.encode (mChar (mFrom v)) = nmD v := by cases v <;> rfl
  rw [e, run_string_add_sum w _ _ (by have := nmB_size k; have : (nmD v).size = 1 := (by cases v <;> rfl); omega), h]
  rfl

set_option maxHeartbeats 400000 in
theorem name_any (s : Int) (v : Bool) (w : World) (h0 : 0 ≤ s) (hN : Names w) :
    Calls Tryd.prog 27 #[.int .u8 s, .bool v] w (Gives (.string (nmF s v)) w) := by
  by_cases h7 : 7 < s
  · have hc := hN 7 (by omega)
    have ha := add_any 7 v s (by unfold hgh; omega)
    clear hN
    go_enter Tryd.func27, Tryd.ntmps27
    go_wp2
    go_quiet (first
      | (go_at_call 42; exact Calls.quiet_of_same (from_any _ _))
      | (go_at_call 41; exact Calls.quiet_of_same (char_any _ _ (by cases v <;> decide))))
    go_wp2
    go_ret
    exact ⟨rfl, _, rfl⟩
  · have hc := hN s.toNat (by omega)
    have ha := add_any s.toNat v s (by unfold hgh; omega)
    have h8 : s < 8 := by omega
    clear hN
    go_enter Tryd.func27, Tryd.ntmps27
    go_wp2
    go_quiet (first
      | (go_at_call 42; exact Calls.quiet_of_same (from_any _ _))
      | (go_at_call 41; exact Calls.quiet_of_same (char_any _ _ (by cases v <;> decide))))
    go_wp2
    go_ret
    exact ⟨rfl, _, rfl⟩

end Go.Proofs.YtgaihbenlfeeeaaDoor
