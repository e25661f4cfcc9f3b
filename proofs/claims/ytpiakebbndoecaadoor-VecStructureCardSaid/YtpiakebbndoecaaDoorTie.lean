/-
  DERIVED. GIVEN WITH THE SEED: THE PROGRAM's TIES (one call each: nine closed facts by the kernel) AND EACH ROW's TIE, after the 31st guide's Derived/Test/Toyas{Tie, Card}.lean. No idea stands in it: it is a product of the set-up. Laid BY PROGRAM, IN A SANDBOX (cutbox-door.mjs). By AI agents, Wed Nov 11 2026. No macro, syntax, notation, axiom, sorry.
-/
import Derived.Test.YtpiakebbndoecaaDoorRows
import Derived.LaidByTextLater
import Derived.SevenTiedAt
import Derived.LaidSub
import Derived.LaidOnce
namespace Go.Proofs.YtpiakebbndoecaaDoor
open Go
set_option maxRecDepth 100000
theorem seatTie1 : Tryd.prog.laidByTextLater [("netlab/bit.notTable", Rows.laid_netlab_bit_notTable), ("netlab/bit.bufTable", Rows.laid_netlab_bit_bufTable), ("netlab/bit.andTable", Rows.laid_netlab_bit_andTable), ("netlab/bit.orTable", Rows.laid_netlab_bit_orTable), ("netlab/bit.xorTable", Rows.laid_netlab_bit_xorTable), ("netlab/bit.agreeTable", Rows.laid_netlab_bit_agreeTable)] [.data, .data, .data, .data, .data, .data] true :=
  Program.laidByTextLater_by_one 55 8 17 (by kernel_rfl) (by kernel_rfl) (by kernel_rfl) (by kernel_rfl) (by kernel_rfl) (by kernel_rfl) (fun _ _ => by kernel_rfl)
theorem noOwnUnsafe : Tryd.pinned.checked.prog.headLifts.contains "ownunsafe" = false := by kernel_rfl
theorem tie : Tryd.prog.laidByTextLater [("netlab/bit.notTable", Rows.laid_netlab_bit_notTable), ("netlab/bit.bufTable", Rows.laid_netlab_bit_bufTable), ("netlab/bit.andTable", Rows.laid_netlab_bit_andTable), ("netlab/bit.orTable", Rows.laid_netlab_bit_orTable), ("netlab/bit.xorTable", Rows.laid_netlab_bit_xorTable), ("netlab/bit.agreeTable", Rows.laid_netlab_bit_agreeTable)] [.data, .data, .data, .data, .data, .data] true :=
  Program.laidByTextLater.sub seatTie1 ["netlab/bit.notTable", "netlab/bit.bufTable", "netlab/bit.andTable", "netlab/bit.orTable", "netlab/bit.xorTable", "netlab/bit.agreeTable"] (by kernel_rfl) (by kernel_rfl)
theorem vecStructure_row_tie : Rows.vecStructureRow.laidByTextAt .later Tryd.pinned [.data, .data, .data, .data, .data, .data] true :=
  OpenClaim.laidByTextAt_later rfl rfl tie noOwnUnsafe
theorem vecCases_row_tie : Rows.vecCasesRow.laidByTextAt .later Tryd.pinned [.data, .data, .data, .data, .data, .data] true :=
  OpenClaim.laidByTextAt_later rfl rfl tie noOwnUnsafe
theorem vecStructureUpto_row_tie : Rows.vecStructureUptoRow.laidByTextAt .later Tryd.pinned [.data, .data, .data, .data, .data, .data] true :=
  OpenClaim.laidByTextAt_later rfl rfl tie noOwnUnsafe
theorem vecCasesUpto_row_tie : Rows.vecCasesUptoRow.laidByTextAt .later Tryd.pinned [.data, .data, .data, .data, .data, .data] true :=
  OpenClaim.laidByTextAt_later rfl rfl tie noOwnUnsafe
end Go.Proofs.YtpiakebbndoecaaDoor
