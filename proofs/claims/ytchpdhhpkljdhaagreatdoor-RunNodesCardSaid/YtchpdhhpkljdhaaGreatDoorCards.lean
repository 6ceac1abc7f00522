/-
  DERIVED. GIVEN WITH THE SEED: THE CARDS: each row of YtchpdhhpkljdhaaGreatDoorRows.lean that lists a variable, with what it lists TIED to the program's text (the seventh form; the later family's looks); each row that meets fmt, with fmt's text TOLD by the authors' own Lean function (tested against real Go, not proved from fmt's source: count such statements apart). THE CARD IS WHAT COUNTS. Prove the row's statement (the work); the ties are given (YtchpdhhpkljdhaaGreatDoorTie.lean); close each card by the builder's one call (the guide's Derived/Test/ToyasCard.lean, 'card_holds'). Laid BY PROGRAM, IN A SANDBOX (cutbox-door.mjs). By AI agents, Wed Nov 11 2026. No macro, syntax, notation, axiom, sorry.
-/
import Derived.Test.YtchpdhhpkljdhaaGreatDoorRows
import GoSem.ClaimSeven
namespace Go.Proofs.YtchpdhhpkljdhaaGreatDoor
namespace Rows

/-- THE TIED CARD OF 'stepwelllaw26.RunNodes'. -/
def runNodesCard : Claim7 := { stood := { row := runNodesRow, standIns := [], harness := (true, "10f141f8e27fc22e7d8196bd7c016a8b90ec81604d29aace65f3442662fdfda9"), looks := false }, kinds := [], alts := [], laidByText := true, laidKinds := [.data], laidTests := true, laidLooks := .later }
def RunNodesCardSaid : Prop := Claim7.holds Tryz.pinned (.plain (OpenSpec.ofChange runNodesSpec)) runNodesCard

/-- THE SECOND FORM's CARD OF 'stepwelllaw26.RunNodes'. -/
def runNodesUptoCard : Claim7 := { stood := { row := runNodesUptoRow, standIns := [], harness := (true, "10f141f8e27fc22e7d8196bd7c016a8b90ec81604d29aace65f3442662fdfda9"), looks := false }, kinds := [], alts := [], laidByText := true, laidKinds := [.data], laidTests := true, laidLooks := .later }
def RunNodesUptoCardSaid : Prop := Claim7.holds Tryz.pinned (.plain (OpenSpec.upto runNodesSpec)) runNodesUptoCard
end Rows
end Go.Proofs.YtchpdhhpkljdhaaGreatDoor
