/-
  DERIVED. GIVEN WITH THE SEED: THE CARDS: each row of YtahekhpeomcfjaaGreatDoorRows.lean that lists a variable, with what it lists TIED to the program's text (the seventh form; the later family's looks); each row that meets fmt, with fmt's text TOLD by the authors' own Lean function (tested against real Go, not proved from fmt's source: count such statements apart). THE CARD IS WHAT COUNTS. Prove the row's statement (the work); the ties are given (YtahekhpeomcfjaaGreatDoorTie.lean); close each card by the builder's one call (the guide's Derived/Test/ToyasCard.lean, 'card_holds'). Laid BY PROGRAM, IN A SANDBOX (cutbox-door.mjs). By AI agents, Wed Nov 11 2026. No macro, syntax, notation, axiom, sorry.
-/
import Derived.Test.YtahekhpeomcfjaaGreatDoorRows
import GoSem.ClaimSeven
namespace Go.Proofs.YtahekhpeomcfjaaGreatDoor
namespace Rows

/-- THE TIED CARD OF 'stepwelllaw27.GraphValues'. -/
def graphValuesCard : Claim7 := { stood := { row := graphValuesRow, standIns := [], harness := (true, "7a6bdaab59d0b1f3f46bd1a5e9cb52ce7eb378cde0d4c71cca0bb2fff51c37eb"), looks := false }, kinds := [], alts := [], laidByText := true, laidKinds := [.data], laidTests := true, laidLooks := .later }
def GraphValuesCardSaid : Prop := Claim7.holds Tryz.pinned (.plain (OpenSpec.ofChange graphValuesSpec)) graphValuesCard

/-- THE TIED CARD OF 'stepwelllaw27.GraphIdle'. -/
def graphIdleCard : Claim7 := { stood := { row := graphIdleRow, standIns := [], harness := (true, "7a6bdaab59d0b1f3f46bd1a5e9cb52ce7eb378cde0d4c71cca0bb2fff51c37eb"), looks := false }, kinds := [], alts := [], laidByText := true, laidKinds := [.data], laidTests := true, laidLooks := .later }
def GraphIdleCardSaid : Prop := Claim7.holds Tryz.pinned (.plain (OpenSpec.ofChange graphIdleSpec)) graphIdleCard

/-- THE SECOND FORM's CARD OF 'stepwelllaw27.GraphValues'. -/
def graphValuesUptoCard : Claim7 := { stood := { row := graphValuesUptoRow, standIns := [], harness := (true, "7a6bdaab59d0b1f3f46bd1a5e9cb52ce7eb378cde0d4c71cca0bb2fff51c37eb"), looks := false }, kinds := [], alts := [], laidByText := true, laidKinds := [.data], laidTests := true, laidLooks := .later }
def GraphValuesUptoCardSaid : Prop := Claim7.holds Tryz.pinned (.plain (OpenSpec.upto graphValuesSpec)) graphValuesUptoCard

/-- THE SECOND FORM's CARD OF 'stepwelllaw27.GraphIdle'. -/
def graphIdleUptoCard : Claim7 := { stood := { row := graphIdleUptoRow, standIns := [], harness := (true, "7a6bdaab59d0b1f3f46bd1a5e9cb52ce7eb378cde0d4c71cca0bb2fff51c37eb"), looks := false }, kinds := [], alts := [], laidByText := true, laidKinds := [.data], laidTests := true, laidLooks := .later }
def GraphIdleUptoCardSaid : Prop := Claim7.holds Tryz.pinned (.plain (OpenSpec.upto graphIdleSpec)) graphIdleUptoCard
end Rows
end Go.Proofs.YtahekhpeomcfjaaGreatDoor
