/-
  DERIVED. GIVEN WITH THE SEED: THE PROGRAM's TIES (one call each: nine closed facts by the kernel) AND EACH ROW's TIE, after the 31st guide's Derived/Test/Toyas{Tie, Card}.lean. No idea stands in it: it is a product of the set-up. Laid BY PROGRAM, IN A SANDBOX (cutbox-door.mjs). By AI agents, Wed Nov 11 2026. No macro, syntax, notation, axiom, sorry.
-/
import Derived.Test.YtahonicpfcccjaaDoorRows
import Derived.LaidByTextLater
import Derived.SevenTiedAt
import Derived.LaidSub
import Derived.LaidOnce
namespace Go.Proofs.YtahonicpfcccjaaDoor
open Go
set_option maxRecDepth 100000
theorem seatTie1 : Tryd.prog.laidByTextLater [("netlab/bit.notTable", Rows.laid_netlab_bit_notTable), ("netlab/bit.bufTable", Rows.laid_netlab_bit_bufTable), ("netlab/bit.andTable", Rows.laid_netlab_bit_andTable), ("netlab/bit.orTable", Rows.laid_netlab_bit_orTable), ("netlab/bit.xorTable", Rows.laid_netlab_bit_xorTable), ("netlab/bit.agreeTable", Rows.laid_netlab_bit_agreeTable)] [.data, .data, .data, .data, .data, .data] true :=
  Program.laidByTextLater_by_one 55 8 17 (by kernel_rfl) (by kernel_rfl) (by kernel_rfl) (by kernel_rfl) (by kernel_rfl) (by kernel_rfl) (fun _ _ => by kernel_rfl)
theorem noOwnUnsafe : Tryd.pinned.checked.prog.headLifts.contains "ownunsafe" = false := by kernel_rfl
theorem tie : Tryd.prog.laidByTextLater [("netlab/bit.notTable", Rows.laid_netlab_bit_notTable), ("netlab/bit.bufTable", Rows.laid_netlab_bit_bufTable), ("netlab/bit.andTable", Rows.laid_netlab_bit_andTable), ("netlab/bit.orTable", Rows.laid_netlab_bit_orTable), ("netlab/bit.xorTable", Rows.laid_netlab_bit_xorTable), ("netlab/bit.agreeTable", Rows.laid_netlab_bit_agreeTable)] [.data, .data, .data, .data, .data, .data] true :=
  Program.laidByTextLater.sub seatTie1 ["netlab/bit.notTable", "netlab/bit.bufTable", "netlab/bit.andTable", "netlab/bit.orTable", "netlab/bit.xorTable", "netlab/bit.agreeTable"] (by kernel_rfl) (by kernel_rfl)
theorem bitMatches_row_tie : Rows.bitMatchesRow.laidByTextAt .later Tryd.pinned [.data, .data, .data, .data, .data, .data] true :=
  OpenClaim.laidByTextAt_later rfl rfl tie noOwnUnsafe
theorem bitExamples_row_tie : Rows.bitExamplesRow.laidByTextAt .later Tryd.pinned [.data, .data, .data, .data, .data, .data] true :=
  OpenClaim.laidByTextAt_later rfl rfl tie noOwnUnsafe
theorem bitMonotone_row_tie : Rows.bitMonotoneRow.laidByTextAt .later Tryd.pinned [.data, .data, .data, .data, .data, .data] true :=
  OpenClaim.laidByTextAt_later rfl rfl tie noOwnUnsafe
theorem bitBoolean_row_tie : Rows.bitBooleanRow.laidByTextAt .later Tryd.pinned [.data, .data, .data, .data, .data, .data] true :=
  OpenClaim.laidByTextAt_later rfl rfl tie noOwnUnsafe
theorem bitAlgebra_row_tie : Rows.bitAlgebraRow.laidByTextAt .later Tryd.pinned [.data, .data, .data, .data, .data, .data] true :=
  OpenClaim.laidByTextAt_later rfl rfl tie noOwnUnsafe
theorem tie2 : Tryd.prog.laidByTextLater [("netlab/bit.bufTable", Rows.laid_netlab_bit_bufTable), ("netlab/bit.andTable", Rows.laid_netlab_bit_andTable), ("netlab/bit.orTable", Rows.laid_netlab_bit_orTable), ("netlab/bit.xorTable", Rows.laid_netlab_bit_xorTable), ("netlab/bit.agreeTable", Rows.laid_netlab_bit_agreeTable)] [.data, .data, .data, .data, .data] true :=
  Program.laidByTextLater.sub seatTie1 ["netlab/bit.bufTable", "netlab/bit.andTable", "netlab/bit.orTable", "netlab/bit.xorTable", "netlab/bit.agreeTable"] (by kernel_rfl) (by kernel_rfl)
theorem bitParseMatches_row_tie : Rows.bitParseMatchesRow.laidByTextAt .later Tryd.pinned [.data, .data, .data, .data, .data] true :=
  OpenClaim.laidByTextAt_later rfl rfl tie2 noOwnUnsafe
theorem bitOrder_row_tie : Rows.bitOrderRow.laidByTextAt .later Tryd.pinned [.data, .data, .data, .data, .data] true :=
  OpenClaim.laidByTextAt_later rfl rfl tie2 noOwnUnsafe
theorem bitChars_row_tie : Rows.bitCharsRow.laidByTextAt .later Tryd.pinned [.data, .data, .data, .data, .data] true :=
  OpenClaim.laidByTextAt_later rfl rfl tie2 noOwnUnsafe
theorem bitMatchesUpto_row_tie : Rows.bitMatchesUptoRow.laidByTextAt .later Tryd.pinned [.data, .data, .data, .data, .data, .data] true :=
  OpenClaim.laidByTextAt_later rfl rfl tie noOwnUnsafe
theorem bitParseMatchesUpto_row_tie : Rows.bitParseMatchesUptoRow.laidByTextAt .later Tryd.pinned [.data, .data, .data, .data, .data] true :=
  OpenClaim.laidByTextAt_later rfl rfl tie2 noOwnUnsafe
theorem bitExamplesUpto_row_tie : Rows.bitExamplesUptoRow.laidByTextAt .later Tryd.pinned [.data, .data, .data, .data, .data, .data] true :=
  OpenClaim.laidByTextAt_later rfl rfl tie noOwnUnsafe
theorem bitMonotoneUpto_row_tie : Rows.bitMonotoneUptoRow.laidByTextAt .later Tryd.pinned [.data, .data, .data, .data, .data, .data] true :=
  OpenClaim.laidByTextAt_later rfl rfl tie noOwnUnsafe
theorem bitBooleanUpto_row_tie : Rows.bitBooleanUptoRow.laidByTextAt .later Tryd.pinned [.data, .data, .data, .data, .data, .data] true :=
  OpenClaim.laidByTextAt_later rfl rfl tie noOwnUnsafe
theorem bitAlgebraUpto_row_tie : Rows.bitAlgebraUptoRow.laidByTextAt .later Tryd.pinned [.data, .data, .data, .data, .data, .data] true :=
  OpenClaim.laidByTextAt_later rfl rfl tie noOwnUnsafe
theorem bitOrderUpto_row_tie : Rows.bitOrderUptoRow.laidByTextAt .later Tryd.pinned [.data, .data, .data, .data, .data] true :=
  OpenClaim.laidByTextAt_later rfl rfl tie2 noOwnUnsafe
theorem bitCharsUpto_row_tie : Rows.bitCharsUptoRow.laidByTextAt .later Tryd.pinned [.data, .data, .data, .data, .data] true :=
  OpenClaim.laidByTextAt_later rfl rfl tie2 noOwnUnsafe
end Go.Proofs.YtahonicpfcccjaaDoor
