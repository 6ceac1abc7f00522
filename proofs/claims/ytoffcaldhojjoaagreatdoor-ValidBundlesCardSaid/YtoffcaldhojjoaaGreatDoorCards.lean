/-
  DERIVED. GIVEN WITH THE SEED: THE CARDS: each row of YtoffcaldhojjoaaGreatDoorRows.lean that lists a variable, with what it lists TIED to the program's text (the seventh form; the later family's looks); each row that meets fmt, with fmt's text TOLD by the authors' own Lean function (tested against real Go, not proved from fmt's source: count such statements apart). THE CARD IS WHAT COUNTS. Prove the row's statement (the work); the ties are given (YtoffcaldhojjoaaGreatDoorTie.lean); close each card by the builder's one call (the guide's Derived/Test/ToyasCard.lean, 'card_holds'). Laid BY PROGRAM, IN A SANDBOX (cutbox-door.mjs). By AI agents, Wed Nov 11 2026. No macro, syntax, notation, axiom, sorry.
-/
import Derived.Test.YtoffcaldhojjoaaGreatDoorRows
import GoSem.ClaimSeven
namespace Go.Proofs.YtoffcaldhojjoaaGreatDoor
namespace Rows

/-- THE TIED CARD OF 'stepwelllaw33.ValidBundles'. -/
def validBundlesCard : Claim7 := { stood := { row := validBundlesRow, standIns := [], harness := (true, "00b8f702130f2c7a258ba923cf950049abcabae21501ffce69d1b6e21820e6a8"), looks := false }, kinds := [], alts := [], laidByText := true, laidKinds := [.data], laidTests := true, laidLooks := .later }
def ValidBundlesCardSaid : Prop := Claim7.holds Tryz.pinned (.plain (OpenSpec.ofChange validBundlesSpec)) validBundlesCard

/-- THE SECOND FORM's CARD OF 'stepwelllaw33.ValidBundles'. -/
def validBundlesUptoCard : Claim7 := { stood := { row := validBundlesUptoRow, standIns := [], harness := (true, "00b8f702130f2c7a258ba923cf950049abcabae21501ffce69d1b6e21820e6a8"), looks := false }, kinds := [], alts := [], laidByText := true, laidKinds := [.data], laidTests := true, laidLooks := .later }
def ValidBundlesUptoCardSaid : Prop := Claim7.holds Tryz.pinned (.plain (OpenSpec.upto validBundlesSpec)) validBundlesUptoCard
end Rows
end Go.Proofs.YtoffcaldhojjoaaGreatDoor
