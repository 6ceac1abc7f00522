/-
  DERIVED. GIVEN WITH THE SEED: THE CARDS: each row of YtahekhpeomcfjaaDoorRows.lean that lists a variable, with what it lists TIED to the program's text (the seventh form; the later family's looks); each row that meets fmt, with fmt's text TOLD by the authors' own Lean function (tested against real Go, not proved from fmt's source: count such statements apart). THE CARD IS WHAT COUNTS. Prove the row's statement (the work); the ties are given (YtahekhpeomcfjaaDoorTie.lean); close each card by the builder's one call (the guide's Derived/Test/ToyasCard.lean, 'card_holds'). Laid BY PROGRAM, IN A SANDBOX (cutbox-door.mjs). By AI agents, Wed Nov 11 2026. No macro, syntax, notation, axiom, sorry.
-/
import Derived.Test.YtahekhpeomcfjaaDoorRows
import GoSem.ClaimSeven
namespace Go.Proofs.YtahekhpeomcfjaaDoor
namespace Rows

/-- THE TIED CARD OF 'stepwelllaw27.GraphShapes'. -/
def graphShapesCard : Claim7 := { stood := { row := graphShapesRow, standIns := [], harness := (true, "004ec7026ea97a82dcc27f4682714d4ee98d2dc6358c4a4392179de1e761f908"), looks := false }, kinds := [], alts := [], laidByText := true, laidKinds := [.data], laidTests := true, laidLooks := .later }
def GraphShapesCardSaid : Prop := Claim7.holds Tryd.pinned (.plain (OpenSpec.ofChange graphShapesSpec)) graphShapesCard

/-- THE SECOND FORM's CARD OF 'stepwelllaw27.GraphShapes'. -/
def graphShapesUptoCard : Claim7 := { stood := { row := graphShapesUptoRow, standIns := [], harness := (true, "004ec7026ea97a82dcc27f4682714d4ee98d2dc6358c4a4392179de1e761f908"), looks := false }, kinds := [], alts := [], laidByText := true, laidKinds := [.data], laidTests := true, laidLooks := .later }
def GraphShapesUptoCardSaid : Prop := Claim7.holds Tryd.pinned (.plain (OpenSpec.upto graphShapesSpec)) graphShapesUptoCard
end Rows
end Go.Proofs.YtahekhpeomcfjaaDoor
