/-
  DERIVED. GIVEN WITH THE SEED: THE CARDS: each row of YtkpngknbiecdiaaGreatDoorRows.lean that lists a variable, with what it lists TIED to the program's text (the seventh form; the later family's looks); each row that meets fmt, with fmt's text TOLD by the authors' own Lean function (tested against real Go, not proved from fmt's source: count such statements apart). THE CARD IS WHAT COUNTS. Prove the row's statement (the work); the ties are given (YtkpngknbiecdiaaGreatDoorTie.lean); close each card by the builder's one call (the guide's Derived/Test/ToyasCard.lean, 'card_holds'). Laid BY PROGRAM, IN A SANDBOX (cutbox-door.mjs). By AI agents, Wed Nov 11 2026. No macro, syntax, notation, axiom, sorry.
-/
import Derived.Test.YtkpngknbiecdiaaGreatDoorRows
import GoSem.ClaimSeven
namespace Go.Proofs.YtkpngknbiecdiaaGreatDoor
namespace Rows

/-- THE TIED CARD OF 'stepwelllaw26.RunNodes'. -/
def runNodesCard : Claim7 := { stood := { row := runNodesRow, standIns := [], harness := (true, "61c54f5d51fbe1817233ca70887ff780383257e6d7efff78e24345e6f1f6fa7d"), looks := false }, kinds := [], alts := [], laidByText := true, laidKinds := [.data], laidTests := true, laidLooks := .later }
def RunNodesCardSaid : Prop := Claim7.holds Tryz.pinned (.plain (OpenSpec.ofChange runNodesSpec)) runNodesCard

/-- THE TIED CARD OF 'stepwelllaw26.RunShapes'. -/
def runShapesCard : Claim7 := { stood := { row := runShapesRow, standIns := [], harness := (true, "61c54f5d51fbe1817233ca70887ff780383257e6d7efff78e24345e6f1f6fa7d"), looks := false }, kinds := [], alts := [], laidByText := true, laidKinds := [.data], laidTests := true, laidLooks := .later }
def RunShapesCardSaid : Prop := Claim7.holds Tryz.pinned (.plain (OpenSpec.ofChange runShapesSpec)) runShapesCard

/-- THE TIED CARD OF 'stepwelllaw26.RunAgain'. -/
def runAgainCard : Claim7 := { stood := { row := runAgainRow, standIns := [], harness := (true, "61c54f5d51fbe1817233ca70887ff780383257e6d7efff78e24345e6f1f6fa7d"), looks := false }, kinds := [], alts := [], laidByText := true, laidKinds := [.data], laidTests := true, laidLooks := .later }
def RunAgainCardSaid : Prop := Claim7.holds Tryz.pinned (.plain (OpenSpec.ofChange runAgainSpec)) runAgainCard

/-- THE SECOND FORM's CARD OF 'stepwelllaw26.RunNodes'. -/
def runNodesUptoCard : Claim7 := { stood := { row := runNodesUptoRow, standIns := [], harness := (true, "61c54f5d51fbe1817233ca70887ff780383257e6d7efff78e24345e6f1f6fa7d"), looks := false }, kinds := [], alts := [], laidByText := true, laidKinds := [.data], laidTests := true, laidLooks := .later }
def RunNodesUptoCardSaid : Prop := Claim7.holds Tryz.pinned (.plain (OpenSpec.upto runNodesSpec)) runNodesUptoCard

/-- THE SECOND FORM's CARD OF 'stepwelllaw26.RunShapes'. -/
def runShapesUptoCard : Claim7 := { stood := { row := runShapesUptoRow, standIns := [], harness := (true, "61c54f5d51fbe1817233ca70887ff780383257e6d7efff78e24345e6f1f6fa7d"), looks := false }, kinds := [], alts := [], laidByText := true, laidKinds := [.data], laidTests := true, laidLooks := .later }
def RunShapesUptoCardSaid : Prop := Claim7.holds Tryz.pinned (.plain (OpenSpec.upto runShapesSpec)) runShapesUptoCard

/-- THE SECOND FORM's CARD OF 'stepwelllaw26.RunAgain'. -/
def runAgainUptoCard : Claim7 := { stood := { row := runAgainUptoRow, standIns := [], harness := (true, "61c54f5d51fbe1817233ca70887ff780383257e6d7efff78e24345e6f1f6fa7d"), looks := false }, kinds := [], alts := [], laidByText := true, laidKinds := [.data], laidTests := true, laidLooks := .later }
def RunAgainUptoCardSaid : Prop := Claim7.holds Tryz.pinned (.plain (OpenSpec.upto runAgainSpec)) runAgainUptoCard
end Rows
end Go.Proofs.YtkpngknbiecdiaaGreatDoor
