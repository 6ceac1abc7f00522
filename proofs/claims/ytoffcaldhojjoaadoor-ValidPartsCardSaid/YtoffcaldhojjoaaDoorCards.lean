/-
  DERIVED. GIVEN WITH THE SEED: THE CARDS: each row of YtoffcaldhojjoaaDoorRows.lean that lists a variable, with what it lists TIED to the program's text (the seventh form; the later family's looks); each row that meets fmt, with fmt's text TOLD by the authors' own Lean function (tested against real Go, not proved from fmt's source: count such statements apart). THE CARD IS WHAT COUNTS. Prove the row's statement (the work); the ties are given (YtoffcaldhojjoaaDoorTie.lean); close each card by the builder's one call (the guide's Derived/Test/ToyasCard.lean, 'card_holds'). Laid BY PROGRAM, IN A SANDBOX (cutbox-door.mjs). By AI agents, Wed Nov 11 2026. No macro, syntax, notation, axiom, sorry.
-/
import Derived.Test.YtoffcaldhojjoaaDoorRows
import GoSem.ClaimSeven
namespace Go.Proofs.YtoffcaldhojjoaaDoor
namespace Rows

/-- THE TIED CARD OF 'stepwelllaw33.ValidBlocks'. -/
def validBlocksCard : Claim7 := { stood := { row := validBlocksRow, standIns := [], harness := (true, "81e7372154e57c08e1293dad56667cc7252e67de753d5e9965f365922b20ce17"), looks := false }, kinds := [], alts := [], laidByText := true, laidKinds := [.data], laidTests := true, laidLooks := .later }
def ValidBlocksCardSaid : Prop := Claim7.holds Tryd.pinned (.plain (OpenSpec.ofChange validBlocksSpec)) validBlocksCard

/-- THE TIED CARD OF 'stepwelllaw33.ValidParts'. -/
def validPartsCard : Claim7 := { stood := { row := validPartsRow, standIns := [], harness := (true, "81e7372154e57c08e1293dad56667cc7252e67de753d5e9965f365922b20ce17"), looks := false }, kinds := [], alts := [], laidByText := true, laidKinds := [.data], laidTests := true, laidLooks := .later }
def ValidPartsCardSaid : Prop := Claim7.holds Tryd.pinned (.plain (OpenSpec.ofChange validPartsSpec)) validPartsCard

/-- THE SECOND FORM's CARD OF 'stepwelllaw33.ValidBlocks'. -/
def validBlocksUptoCard : Claim7 := { stood := { row := validBlocksUptoRow, standIns := [], harness := (true, "81e7372154e57c08e1293dad56667cc7252e67de753d5e9965f365922b20ce17"), looks := false }, kinds := [], alts := [], laidByText := true, laidKinds := [.data], laidTests := true, laidLooks := .later }
def ValidBlocksUptoCardSaid : Prop := Claim7.holds Tryd.pinned (.plain (OpenSpec.upto validBlocksSpec)) validBlocksUptoCard

/-- THE SECOND FORM's CARD OF 'stepwelllaw33.ValidParts'. -/
def validPartsUptoCard : Claim7 := { stood := { row := validPartsUptoRow, standIns := [], harness := (true, "81e7372154e57c08e1293dad56667cc7252e67de753d5e9965f365922b20ce17"), looks := false }, kinds := [], alts := [], laidByText := true, laidKinds := [.data], laidTests := true, laidLooks := .later }
def ValidPartsUptoCardSaid : Prop := Claim7.holds Tryd.pinned (.plain (OpenSpec.upto validPartsSpec)) validPartsUptoCard
end Rows
end Go.Proofs.YtoffcaldhojjoaaDoor
