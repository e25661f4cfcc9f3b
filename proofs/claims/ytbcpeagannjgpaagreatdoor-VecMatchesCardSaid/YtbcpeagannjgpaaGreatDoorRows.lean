/-
  NARROWER THAN 'FOR EVERY INPUT', by the rows' own cells (each row's printed sentence says how): VecMatches: laid · VecStructureMatches: laid · VecCondMatches: laid · VecIntegers: laid.
  DERIVED. THE GIVEN ROWS OF THIS SEAT. 4 by the template 'for every input the law returns true; each argument reads behind the call as it read before'; 0 by the template 'total and deterministic' (their statements: YtbcpeagannjgpaaGreatDoorTotals.lean).
  GIVEN WITH THE SEED: the statements are not yours to turn. If you find one false, say at which input.
  Laid BY PROGRAM, IN A SANDBOX (cutbox-rows.mjs): the forced cells as the released guide's own fill.sh prints them over the translation de4df1ebccbea4ea… (all of the seat's roots in one cut). By AI agents, Wed Nov 11 2026. No macro, syntax, notation, axiom, sorry.
-/
import Derived.Test.YtbcpeagannjgpaaGreatDoorChecked
import GoSem.Claim
import GoSem.ClaimJoined
import GoSem.ClaimMapViews
import Derived.JoinedTies
import Derived.KernelRfl
namespace Go.Proofs.YtbcpeagannjgpaaGreatDoor
/- THE CELL 'sum', in the pinned program and in every row, IS THE sha256 OF THE DUMP (.gsa) THAT YtbcpeagannjgpaaGreatDoorProg.lean LOADS. Nothing in Lean hashes anything: it is a label: what it is worth is what the hold of that sum in a sandbox is worth. -/
noncomputable def Tryz.pinned : Pinned := { name := "ytbcpeagannjgpaagreatdoor", sum := "de4df1ebccbea4ea46c1bd46d5ea352fd28a8a8d900534797b0235541df26d1e", checked := Tryz.checked }
namespace Rows
def none {H : Type} : Left H := { results := [], args := [] }

/- WHAT THE LISTED PACKAGE-LEVEL VARIABLES READ AS WHEN THE CALL BEGINS. Each datum BY PROGRAM (the guide's laid-datum.mjs) off the statement by which the dump's own 'gosem.cut.vars' lays the variable. In a bare row this is a premise. The card (YtbcpeagannjgpaaGreatDoorCards.lean) ties it to the program's text. -/
def laid_netlab_bit_notTable {H : Type} : DataW H := .agg [.lit (.int .u8 1), .lit (.int .u8 0), .lit (.int .u8 2), .lit (.int .u8 2)]
def laid_netlab_bit_bufTable {H : Type} : DataW H := .agg [.lit (.int .u8 0), .lit (.int .u8 1), .lit (.int .u8 2), .lit (.int .u8 2)]
def laid_netlab_bit_andTable {H : Type} : DataW H := .agg [.agg [.lit (.int .u8 0), .lit (.int .u8 0), .lit (.int .u8 0), .lit (.int .u8 0)], .agg [.lit (.int .u8 0), .lit (.int .u8 1), .lit (.int .u8 2), .lit (.int .u8 2)], .agg [.lit (.int .u8 0), .lit (.int .u8 2), .lit (.int .u8 2), .lit (.int .u8 2)], .agg [.lit (.int .u8 0), .lit (.int .u8 2), .lit (.int .u8 2), .lit (.int .u8 2)]]
def laid_netlab_bit_orTable {H : Type} : DataW H := .agg [.agg [.lit (.int .u8 0), .lit (.int .u8 1), .lit (.int .u8 2), .lit (.int .u8 2)], .agg [.lit (.int .u8 1), .lit (.int .u8 1), .lit (.int .u8 1), .lit (.int .u8 1)], .agg [.lit (.int .u8 2), .lit (.int .u8 1), .lit (.int .u8 2), .lit (.int .u8 2)], .agg [.lit (.int .u8 2), .lit (.int .u8 1), .lit (.int .u8 2), .lit (.int .u8 2)]]
def laid_netlab_bit_xorTable {H : Type} : DataW H := .agg [.agg [.lit (.int .u8 0), .lit (.int .u8 1), .lit (.int .u8 2), .lit (.int .u8 2)], .agg [.lit (.int .u8 1), .lit (.int .u8 0), .lit (.int .u8 2), .lit (.int .u8 2)], .agg [.lit (.int .u8 2), .lit (.int .u8 2), .lit (.int .u8 2), .lit (.int .u8 2)], .agg [.lit (.int .u8 2), .lit (.int .u8 2), .lit (.int .u8 2), .lit (.int .u8 2)]]
def laid_netlab_bit_agreeTable {H : Type} : DataW H := .agg [.agg [.lit (.int .u8 0), .lit (.int .u8 2), .lit (.int .u8 2), .lit (.int .u8 2)], .agg [.lit (.int .u8 2), .lit (.int .u8 1), .lit (.int .u8 2), .lit (.int .u8 2)], .agg [.lit (.int .u8 2), .lit (.int .u8 2), .lit (.int .u8 2), .lit (.int .u8 2)], .agg [.lit (.int .u8 2), .lit (.int .u8 2), .lit (.int .u8 2), .lit (.int .u8 2)]]

/-- 'netlablaw04.VecMatches': WHATEVER THE INPUT: true; the input reads as it did. -/
def vecMatchesSpec : ChangeSpec := { name := "vecMatches", fn := fun _ => fun
  | [d1, d2] => { results := [.lit (.bool true)], args := [d1, d2] }
  | _ => none }
def vecMatchesRow : OpenClaim := { program := "ytbcpeagannjgpaagreatdoor", sum := "de4df1ebccbea4ea46c1bd46d5ea352fd28a8a8d900534797b0235541df26d1e", func := "netlab/netlablaw04.VecMatches", spec := "vecMatches", unfollowed := true, recurses := true, named := ["netlab/bit.bufTable", "netlab/bit.orTable", "netlab/bit.andTable", "netlab/bit.xorTable", "netlab/bit.notTable", "netlab/bit.agreeTable"], apart := false, laid := [("netlab/bit.notTable", laid_netlab_bit_notTable), ("netlab/bit.bufTable", laid_netlab_bit_bufTable), ("netlab/bit.andTable", laid_netlab_bit_andTable), ("netlab/bit.orTable", laid_netlab_bit_orTable), ("netlab/bit.xorTable", laid_netlab_bit_xorTable), ("netlab/bit.agreeTable", laid_netlab_bit_agreeTable)] }
def VecMatchesSaid : Prop := vecMatchesRow.holds Tryz.pinned (OpenSpec.ofChange vecMatchesSpec)

/-- ITS FALSE NEIGHBOUR: 'it returns false'. Refute it at one input. -/
def vecMatchesWrong : ChangeSpec := { name := "vecMatches", fn := fun _ => fun
  | [d1, d2] => { results := [.lit (.bool false)], args := [d1, d2] }
  | _ => none }
def VecMatchesWrongFalsely : Prop := vecMatchesRow.holds Tryz.pinned (OpenSpec.ofChange vecMatchesWrong)

/-- 'netlablaw04.VecStructureMatches': WHATEVER THE INPUT: true; the input reads as it did. -/
def vecStructureMatchesSpec : ChangeSpec := { name := "vecStructureMatches", fn := fun _ => fun
  | [d1, d2, d3, d4, d5, d6] => { results := [.lit (.bool true)], args := [d1, d2, d3, d4, d5, d6] }
  | _ => none }
def vecStructureMatchesRow : OpenClaim := { program := "ytbcpeagannjgpaagreatdoor", sum := "de4df1ebccbea4ea46c1bd46d5ea352fd28a8a8d900534797b0235541df26d1e", func := "netlab/netlablaw04.VecStructureMatches", spec := "vecStructureMatches", unfollowed := true, recurses := true, named := ["netlab/bit.bufTable", "netlab/bit.orTable", "netlab/bit.andTable", "netlab/bit.xorTable", "netlab/bit.notTable", "netlab/bit.agreeTable"], apart := false, laid := [("netlab/bit.notTable", laid_netlab_bit_notTable), ("netlab/bit.bufTable", laid_netlab_bit_bufTable), ("netlab/bit.andTable", laid_netlab_bit_andTable), ("netlab/bit.orTable", laid_netlab_bit_orTable), ("netlab/bit.xorTable", laid_netlab_bit_xorTable), ("netlab/bit.agreeTable", laid_netlab_bit_agreeTable)] }
def VecStructureMatchesSaid : Prop := vecStructureMatchesRow.holds Tryz.pinned (OpenSpec.ofChange vecStructureMatchesSpec)

/-- ITS FALSE NEIGHBOUR: 'it returns false'. Refute it at one input. -/
def vecStructureMatchesWrong : ChangeSpec := { name := "vecStructureMatches", fn := fun _ => fun
  | [d1, d2, d3, d4, d5, d6] => { results := [.lit (.bool false)], args := [d1, d2, d3, d4, d5, d6] }
  | _ => none }
def VecStructureMatchesWrongFalsely : Prop := vecStructureMatchesRow.holds Tryz.pinned (OpenSpec.ofChange vecStructureMatchesWrong)

/-- 'netlablaw04.VecCondMatches': WHATEVER THE INPUT: true; the input reads as it did. -/
def vecCondMatchesSpec : ChangeSpec := { name := "vecCondMatches", fn := fun _ => fun
  | [d1, d2, d3] => { results := [.lit (.bool true)], args := [d1, d2, d3] }
  | _ => none }
def vecCondMatchesRow : OpenClaim := { program := "ytbcpeagannjgpaagreatdoor", sum := "de4df1ebccbea4ea46c1bd46d5ea352fd28a8a8d900534797b0235541df26d1e", func := "netlab/netlablaw04.VecCondMatches", spec := "vecCondMatches", unfollowed := true, recurses := true, named := ["netlab/bit.bufTable", "netlab/bit.orTable", "netlab/bit.andTable", "netlab/bit.xorTable", "netlab/bit.notTable", "netlab/bit.agreeTable"], apart := false, laid := [("netlab/bit.notTable", laid_netlab_bit_notTable), ("netlab/bit.bufTable", laid_netlab_bit_bufTable), ("netlab/bit.andTable", laid_netlab_bit_andTable), ("netlab/bit.orTable", laid_netlab_bit_orTable), ("netlab/bit.xorTable", laid_netlab_bit_xorTable), ("netlab/bit.agreeTable", laid_netlab_bit_agreeTable)] }
def VecCondMatchesSaid : Prop := vecCondMatchesRow.holds Tryz.pinned (OpenSpec.ofChange vecCondMatchesSpec)

/-- ITS FALSE NEIGHBOUR: 'it returns false'. Refute it at one input. -/
def vecCondMatchesWrong : ChangeSpec := { name := "vecCondMatches", fn := fun _ => fun
  | [d1, d2, d3] => { results := [.lit (.bool false)], args := [d1, d2, d3] }
  | _ => none }
def VecCondMatchesWrongFalsely : Prop := vecCondMatchesRow.holds Tryz.pinned (OpenSpec.ofChange vecCondMatchesWrong)

/-- 'netlablaw04.VecIntegers': WHATEVER THE INPUT: true; the input reads as it did. -/
def vecIntegersSpec : ChangeSpec := { name := "vecIntegers", fn := fun _ => fun
  | [d1, d2, d3, d4, d5, d6] => { results := [.lit (.bool true)], args := [d1, d2, d3, d4, d5, d6] }
  | _ => none }
def vecIntegersRow : OpenClaim := { program := "ytbcpeagannjgpaagreatdoor", sum := "de4df1ebccbea4ea46c1bd46d5ea352fd28a8a8d900534797b0235541df26d1e", func := "netlab/netlablaw04.VecIntegers", spec := "vecIntegers", unfollowed := true, recurses := true, named := ["netlab/bit.bufTable", "netlab/bit.orTable", "netlab/bit.andTable", "netlab/bit.xorTable", "netlab/bit.notTable", "netlab/bit.agreeTable"], apart := false, laid := [("netlab/bit.notTable", laid_netlab_bit_notTable), ("netlab/bit.bufTable", laid_netlab_bit_bufTable), ("netlab/bit.andTable", laid_netlab_bit_andTable), ("netlab/bit.orTable", laid_netlab_bit_orTable), ("netlab/bit.xorTable", laid_netlab_bit_xorTable), ("netlab/bit.agreeTable", laid_netlab_bit_agreeTable)] }
def VecIntegersSaid : Prop := vecIntegersRow.holds Tryz.pinned (OpenSpec.ofChange vecIntegersSpec)

/-- ITS FALSE NEIGHBOUR: 'it returns false'. Refute it at one input. -/
def vecIntegersWrong : ChangeSpec := { name := "vecIntegers", fn := fun _ => fun
  | [d1, d2, d3, d4, d5, d6] => { results := [.lit (.bool false)], args := [d1, d2, d3, d4, d5, d6] }
  | _ => none }
def VecIntegersWrongFalsely : Prop := vecIntegersRow.holds Tryz.pinned (OpenSpec.ofChange vecIntegersWrong)

/- THE SECOND FORM. 'bulk': how many values and letters a reading holds, each counted each time it is reached (what is shared counts as often as it is met; a slice's spare places count too). A statement '..UptoSaid' is the law's where the arguments, and the package variables that the reading takes, are together of bulk at most 1048576: NARROWER than '..Said'. Prove '..Said' where nothing that the law and all that it calls make is longer than what came in: it says more and counts as full. Else prove '..UptoSaid'. A law counts once. -/
mutual
def uptoBulk {H : Type} : DataW H → Nat
  | .lit (.string bytes) => bytes.length + 1
  | .lit _ => 1
  | .nil => 1
  | .ptr d => uptoBulk d + 1
  | .slice elems spare => uptoBulkAll elems + uptoBulkAll spare + 1
  | .agg parts => uptoBulkAll parts + 1
  | .iface _ d => uptoBulk d + 1
  | .map entries => uptoBulkEntries entries + 1
  | .held _ => 1
def uptoBulkAll {H : Type} : List (DataW H) → Nat
  | [] => 0
  | d :: r => uptoBulk d + uptoBulkAll r
def uptoBulkEntries {H : Type} : List (Lit × DataW H) → Nat
  | [] => 0
  | x :: r => uptoBulkEntry x + uptoBulkEntries r
def uptoBulkEntry {H : Type} : Lit × DataW H → Nat
  | (.string bytes, d) => bytes.length + uptoBulk d + 1
  | (_, d) => uptoBulk d + 1
 end
def uptoSmall : (H : Type) → List (DataW H) → Bool := fun _ ds => decide (uptoBulkAll ds ≤ 1048576)
def OpenSpec.upto (s : _root_.Go.ChangeSpec) : _root_.Go.OpenSpec := { _root_.Go.OpenSpec.ofChange s with cond := some uptoSmall }

/-- 'netlablaw04.VecMatches', WHERE WHAT IT READS IS OF BULK AT MOST 1048576: true; the input reads as it did. -/
def vecMatchesUptoRow : OpenClaim := { program := "ytbcpeagannjgpaagreatdoor", sum := "de4df1ebccbea4ea46c1bd46d5ea352fd28a8a8d900534797b0235541df26d1e", func := "netlab/netlablaw04.VecMatches", spec := "vecMatches", unfollowed := true, recurses := true, named := ["netlab/bit.bufTable", "netlab/bit.orTable", "netlab/bit.andTable", "netlab/bit.xorTable", "netlab/bit.notTable", "netlab/bit.agreeTable"], apart := false, laid := [("netlab/bit.notTable", laid_netlab_bit_notTable), ("netlab/bit.bufTable", laid_netlab_bit_bufTable), ("netlab/bit.andTable", laid_netlab_bit_andTable), ("netlab/bit.orTable", laid_netlab_bit_orTable), ("netlab/bit.xorTable", laid_netlab_bit_xorTable), ("netlab/bit.agreeTable", laid_netlab_bit_agreeTable)], narrowed := true }
def VecMatchesUptoSaid : Prop := vecMatchesUptoRow.holds Tryz.pinned (OpenSpec.upto vecMatchesSpec)

/-- 'netlablaw04.VecStructureMatches', WHERE WHAT IT READS IS OF BULK AT MOST 1048576: true; the input reads as it did. -/
def vecStructureMatchesUptoRow : OpenClaim := { program := "ytbcpeagannjgpaagreatdoor", sum := "de4df1ebccbea4ea46c1bd46d5ea352fd28a8a8d900534797b0235541df26d1e", func := "netlab/netlablaw04.VecStructureMatches", spec := "vecStructureMatches", unfollowed := true, recurses := true, named := ["netlab/bit.bufTable", "netlab/bit.orTable", "netlab/bit.andTable", "netlab/bit.xorTable", "netlab/bit.notTable", "netlab/bit.agreeTable"], apart := false, laid := [("netlab/bit.notTable", laid_netlab_bit_notTable), ("netlab/bit.bufTable", laid_netlab_bit_bufTable), ("netlab/bit.andTable", laid_netlab_bit_andTable), ("netlab/bit.orTable", laid_netlab_bit_orTable), ("netlab/bit.xorTable", laid_netlab_bit_xorTable), ("netlab/bit.agreeTable", laid_netlab_bit_agreeTable)], narrowed := true }
def VecStructureMatchesUptoSaid : Prop := vecStructureMatchesUptoRow.holds Tryz.pinned (OpenSpec.upto vecStructureMatchesSpec)

/-- 'netlablaw04.VecCondMatches', WHERE WHAT IT READS IS OF BULK AT MOST 1048576: true; the input reads as it did. -/
def vecCondMatchesUptoRow : OpenClaim := { program := "ytbcpeagannjgpaagreatdoor", sum := "de4df1ebccbea4ea46c1bd46d5ea352fd28a8a8d900534797b0235541df26d1e", func := "netlab/netlablaw04.VecCondMatches", spec := "vecCondMatches", unfollowed := true, recurses := true, named := ["netlab/bit.bufTable", "netlab/bit.orTable", "netlab/bit.andTable", "netlab/bit.xorTable", "netlab/bit.notTable", "netlab/bit.agreeTable"], apart := false, laid := [("netlab/bit.notTable", laid_netlab_bit_notTable), ("netlab/bit.bufTable", laid_netlab_bit_bufTable), ("netlab/bit.andTable", laid_netlab_bit_andTable), ("netlab/bit.orTable", laid_netlab_bit_orTable), ("netlab/bit.xorTable", laid_netlab_bit_xorTable), ("netlab/bit.agreeTable", laid_netlab_bit_agreeTable)], narrowed := true }
def VecCondMatchesUptoSaid : Prop := vecCondMatchesUptoRow.holds Tryz.pinned (OpenSpec.upto vecCondMatchesSpec)

/-- 'netlablaw04.VecIntegers', WHERE WHAT IT READS IS OF BULK AT MOST 1048576: true; the input reads as it did. -/
def vecIntegersUptoRow : OpenClaim := { program := "ytbcpeagannjgpaagreatdoor", sum := "de4df1ebccbea4ea46c1bd46d5ea352fd28a8a8d900534797b0235541df26d1e", func := "netlab/netlablaw04.VecIntegers", spec := "vecIntegers", unfollowed := true, recurses := true, named := ["netlab/bit.bufTable", "netlab/bit.orTable", "netlab/bit.andTable", "netlab/bit.xorTable", "netlab/bit.notTable", "netlab/bit.agreeTable"], apart := false, laid := [("netlab/bit.notTable", laid_netlab_bit_notTable), ("netlab/bit.bufTable", laid_netlab_bit_bufTable), ("netlab/bit.andTable", laid_netlab_bit_andTable), ("netlab/bit.orTable", laid_netlab_bit_orTable), ("netlab/bit.xorTable", laid_netlab_bit_xorTable), ("netlab/bit.agreeTable", laid_netlab_bit_agreeTable)], narrowed := true }
def VecIntegersUptoSaid : Prop := vecIntegersUptoRow.holds Tryz.pinned (OpenSpec.upto vecIntegersSpec)

end Rows
end Go.Proofs.YtbcpeagannjgpaaGreatDoor
