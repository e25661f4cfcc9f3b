/-
  DERIVED. GIVEN WITH THE SEED: THE CARDS: each row of YtbcpeagannjgpaaGreatDoorRows.lean that lists a variable, with what it lists TIED to the program's text (the seventh form; the later family's looks); each row that meets fmt, with fmt's text TOLD by the authors' own Lean function (tested against real Go, not proved from fmt's source: count such statements apart). THE CARD IS WHAT COUNTS. Prove the row's statement (the work); the ties are given (YtbcpeagannjgpaaGreatDoorTie.lean); close each card by the builder's one call (the guide's Derived/Test/ToyasCard.lean, 'card_holds'). Laid BY PROGRAM, IN A SANDBOX (cutbox-door.mjs). By AI agents, Wed Nov 11 2026. No macro, syntax, notation, axiom, sorry.
-/
import Derived.Test.YtbcpeagannjgpaaGreatDoorRows
import GoSem.ClaimSeven
namespace Go.Proofs.YtbcpeagannjgpaaGreatDoor
namespace Rows

/-- THE TIED CARD OF 'netlablaw04.VecMatches'. -/
def vecMatchesCard : Claim7 := { stood := { row := vecMatchesRow, standIns := [], harness := (true, "a1362aa1e82cfb06654046eeb35631bc47c848fa8476d5a05669116b8bffe2c7"), looks := false }, kinds := [], alts := [], laidByText := true, laidKinds := [.data, .data, .data, .data, .data, .data], laidTests := true, laidLooks := .later }
def VecMatchesCardSaid : Prop := Claim7.holds Tryz.pinned (.plain (OpenSpec.ofChange vecMatchesSpec)) vecMatchesCard

/-- THE TIED CARD OF 'netlablaw04.VecStructureMatches'. -/
def vecStructureMatchesCard : Claim7 := { stood := { row := vecStructureMatchesRow, standIns := [], harness := (true, "a1362aa1e82cfb06654046eeb35631bc47c848fa8476d5a05669116b8bffe2c7"), looks := false }, kinds := [], alts := [], laidByText := true, laidKinds := [.data, .data, .data, .data, .data, .data], laidTests := true, laidLooks := .later }
def VecStructureMatchesCardSaid : Prop := Claim7.holds Tryz.pinned (.plain (OpenSpec.ofChange vecStructureMatchesSpec)) vecStructureMatchesCard

/-- THE TIED CARD OF 'netlablaw04.VecCondMatches'. -/
def vecCondMatchesCard : Claim7 := { stood := { row := vecCondMatchesRow, standIns := [], harness := (true, "a1362aa1e82cfb06654046eeb35631bc47c848fa8476d5a05669116b8bffe2c7"), looks := false }, kinds := [], alts := [], laidByText := true, laidKinds := [.data, .data, .data, .data, .data, .data], laidTests := true, laidLooks := .later }
def VecCondMatchesCardSaid : Prop := Claim7.holds Tryz.pinned (.plain (OpenSpec.ofChange vecCondMatchesSpec)) vecCondMatchesCard

/-- THE TIED CARD OF 'netlablaw04.VecIntegers'. -/
def vecIntegersCard : Claim7 := { stood := { row := vecIntegersRow, standIns := [], harness := (true, "a1362aa1e82cfb06654046eeb35631bc47c848fa8476d5a05669116b8bffe2c7"), looks := false }, kinds := [], alts := [], laidByText := true, laidKinds := [.data, .data, .data, .data, .data, .data], laidTests := true, laidLooks := .later }
def VecIntegersCardSaid : Prop := Claim7.holds Tryz.pinned (.plain (OpenSpec.ofChange vecIntegersSpec)) vecIntegersCard

/-- THE SECOND FORM's CARD OF 'netlablaw04.VecMatches'. -/
def vecMatchesUptoCard : Claim7 := { stood := { row := vecMatchesUptoRow, standIns := [], harness := (true, "a1362aa1e82cfb06654046eeb35631bc47c848fa8476d5a05669116b8bffe2c7"), looks := false }, kinds := [], alts := [], laidByText := true, laidKinds := [.data, .data, .data, .data, .data, .data], laidTests := true, laidLooks := .later }
def VecMatchesUptoCardSaid : Prop := Claim7.holds Tryz.pinned (.plain (OpenSpec.upto vecMatchesSpec)) vecMatchesUptoCard

/-- THE SECOND FORM's CARD OF 'netlablaw04.VecStructureMatches'. -/
def vecStructureMatchesUptoCard : Claim7 := { stood := { row := vecStructureMatchesUptoRow, standIns := [], harness := (true, "a1362aa1e82cfb06654046eeb35631bc47c848fa8476d5a05669116b8bffe2c7"), looks := false }, kinds := [], alts := [], laidByText := true, laidKinds := [.data, .data, .data, .data, .data, .data], laidTests := true, laidLooks := .later }
def VecStructureMatchesUptoCardSaid : Prop := Claim7.holds Tryz.pinned (.plain (OpenSpec.upto vecStructureMatchesSpec)) vecStructureMatchesUptoCard

/-- THE SECOND FORM's CARD OF 'netlablaw04.VecCondMatches'. -/
def vecCondMatchesUptoCard : Claim7 := { stood := { row := vecCondMatchesUptoRow, standIns := [], harness := (true, "a1362aa1e82cfb06654046eeb35631bc47c848fa8476d5a05669116b8bffe2c7"), looks := false }, kinds := [], alts := [], laidByText := true, laidKinds := [.data, .data, .data, .data, .data, .data], laidTests := true, laidLooks := .later }
def VecCondMatchesUptoCardSaid : Prop := Claim7.holds Tryz.pinned (.plain (OpenSpec.upto vecCondMatchesSpec)) vecCondMatchesUptoCard

/-- THE SECOND FORM's CARD OF 'netlablaw04.VecIntegers'. -/
def vecIntegersUptoCard : Claim7 := { stood := { row := vecIntegersUptoRow, standIns := [], harness := (true, "a1362aa1e82cfb06654046eeb35631bc47c848fa8476d5a05669116b8bffe2c7"), looks := false }, kinds := [], alts := [], laidByText := true, laidKinds := [.data, .data, .data, .data, .data, .data], laidTests := true, laidLooks := .later }
def VecIntegersUptoCardSaid : Prop := Claim7.holds Tryz.pinned (.plain (OpenSpec.upto vecIntegersSpec)) vecIntegersUptoCard
end Rows
end Go.Proofs.YtbcpeagannjgpaaGreatDoor
