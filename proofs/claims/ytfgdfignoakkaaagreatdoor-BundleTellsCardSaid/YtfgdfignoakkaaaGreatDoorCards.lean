/-
  DERIVED. GIVEN WITH THE SEED: THE CARDS: each row of YtfgdfignoakkaaaGreatDoorRows.lean that lists a variable, with what it lists TIED to the program's text (the seventh form; the later family's looks); each row that meets fmt, with fmt's text TOLD by the authors' own Lean function (tested against real Go, not proved from fmt's source: count such statements apart). THE CARD IS WHAT COUNTS. Prove the row's statement (the work); the ties are given (YtfgdfignoakkaaaGreatDoorTie.lean); close each card by the builder's one call (the guide's Derived/Test/ToyasCard.lean, 'card_holds'). Laid BY PROGRAM, IN A SANDBOX (cutbox-door.mjs). By AI agents, Wed Nov 11 2026. No macro, syntax, notation, axiom, sorry.
-/
import Derived.Test.YtfgdfignoakkaaaGreatDoorRows
import GoSem.ClaimSeven
namespace Go.Proofs.YtfgdfignoakkaaaGreatDoor
namespace Rows

/-- THE TIED CARD OF 'stepwelllaw35.BundleEncodes'. -/
def bundleEncodesCard : Claim7 := { stood := { row := bundleEncodesRow, standIns := [], harness := (true, "a357efcdb0ce870a3bbef2c2d839d233a0bc6a52ef18e0c6a0e4abea7aac9e90"), looks := false }, kinds := [], alts := [], laidByText := true, laidKinds := [.data, .data], laidTests := true, laidLooks := .later }
def BundleEncodesCardSaid : Prop := Claim7.holds Tryz.pinned (.plain (OpenSpec.ofChange bundleEncodesSpec)) bundleEncodesCard

/-- THE TIED CARD OF 'stepwelllaw35.BundleCopies'. -/
def bundleCopiesCard : Claim7 := { stood := { row := bundleCopiesRow, standIns := [], harness := (true, "a357efcdb0ce870a3bbef2c2d839d233a0bc6a52ef18e0c6a0e4abea7aac9e90"), looks := false }, kinds := [], alts := [], laidByText := true, laidKinds := [.data, .data], laidTests := true, laidLooks := .later }
def BundleCopiesCardSaid : Prop := Claim7.holds Tryz.pinned (.plain (OpenSpec.ofChange bundleCopiesSpec)) bundleCopiesCard

/-- THE TIED CARD OF 'stepwelllaw35.BundleDecodes'. -/
def bundleDecodesCard : Claim7 := { stood := { row := bundleDecodesRow, standIns := [], harness := (true, "a357efcdb0ce870a3bbef2c2d839d233a0bc6a52ef18e0c6a0e4abea7aac9e90"), looks := false }, kinds := [], alts := [], laidByText := true, laidKinds := [.data, .data], laidTests := true, laidLooks := .later }
def BundleDecodesCardSaid : Prop := Claim7.holds Tryz.pinned (.plain (OpenSpec.ofChange bundleDecodesSpec)) bundleDecodesCard

/-- THE TIED CARD OF 'stepwelllaw35.BundleBack'. -/
def bundleBackCard : Claim7 := { stood := { row := bundleBackRow, standIns := [], harness := (true, "a357efcdb0ce870a3bbef2c2d839d233a0bc6a52ef18e0c6a0e4abea7aac9e90"), looks := false }, kinds := [], alts := [], laidByText := true, laidKinds := [.data, .data], laidTests := true, laidLooks := .later }
def BundleBackCardSaid : Prop := Claim7.holds Tryz.pinned (.plain (OpenSpec.ofChange bundleBackSpec)) bundleBackCard

/-- THE TIED CARD OF 'stepwelllaw35.BundleTells'. -/
def bundleTellsCard : Claim7 := { stood := { row := bundleTellsRow, standIns := [], harness := (true, "a357efcdb0ce870a3bbef2c2d839d233a0bc6a52ef18e0c6a0e4abea7aac9e90"), looks := false }, kinds := [], alts := [], laidByText := true, laidKinds := [.data, .data], laidTests := true, laidLooks := .later }
def BundleTellsCardSaid : Prop := Claim7.holds Tryz.pinned (.plain (OpenSpec.ofChange bundleTellsSpec)) bundleTellsCard

/-- THE SECOND FORM's CARD OF 'stepwelllaw35.BundleEncodes'. -/
def bundleEncodesUptoCard : Claim7 := { stood := { row := bundleEncodesUptoRow, standIns := [], harness := (true, "a357efcdb0ce870a3bbef2c2d839d233a0bc6a52ef18e0c6a0e4abea7aac9e90"), looks := false }, kinds := [], alts := [], laidByText := true, laidKinds := [.data, .data], laidTests := true, laidLooks := .later }
def BundleEncodesUptoCardSaid : Prop := Claim7.holds Tryz.pinned (.plain (OpenSpec.upto bundleEncodesSpec)) bundleEncodesUptoCard

/-- THE SECOND FORM's CARD OF 'stepwelllaw35.BundleCopies'. -/
def bundleCopiesUptoCard : Claim7 := { stood := { row := bundleCopiesUptoRow, standIns := [], harness := (true, "a357efcdb0ce870a3bbef2c2d839d233a0bc6a52ef18e0c6a0e4abea7aac9e90"), looks := false }, kinds := [], alts := [], laidByText := true, laidKinds := [.data, .data], laidTests := true, laidLooks := .later }
def BundleCopiesUptoCardSaid : Prop := Claim7.holds Tryz.pinned (.plain (OpenSpec.upto bundleCopiesSpec)) bundleCopiesUptoCard

/-- THE SECOND FORM's CARD OF 'stepwelllaw35.BundleDecodes'. -/
def bundleDecodesUptoCard : Claim7 := { stood := { row := bundleDecodesUptoRow, standIns := [], harness := (true, "a357efcdb0ce870a3bbef2c2d839d233a0bc6a52ef18e0c6a0e4abea7aac9e90"), looks := false }, kinds := [], alts := [], laidByText := true, laidKinds := [.data, .data], laidTests := true, laidLooks := .later }
def BundleDecodesUptoCardSaid : Prop := Claim7.holds Tryz.pinned (.plain (OpenSpec.upto bundleDecodesSpec)) bundleDecodesUptoCard

/-- THE SECOND FORM's CARD OF 'stepwelllaw35.BundleBack'. -/
def bundleBackUptoCard : Claim7 := { stood := { row := bundleBackUptoRow, standIns := [], harness := (true, "a357efcdb0ce870a3bbef2c2d839d233a0bc6a52ef18e0c6a0e4abea7aac9e90"), looks := false }, kinds := [], alts := [], laidByText := true, laidKinds := [.data, .data], laidTests := true, laidLooks := .later }
def BundleBackUptoCardSaid : Prop := Claim7.holds Tryz.pinned (.plain (OpenSpec.upto bundleBackSpec)) bundleBackUptoCard

/-- THE SECOND FORM's CARD OF 'stepwelllaw35.BundleTells'. -/
def bundleTellsUptoCard : Claim7 := { stood := { row := bundleTellsUptoRow, standIns := [], harness := (true, "a357efcdb0ce870a3bbef2c2d839d233a0bc6a52ef18e0c6a0e4abea7aac9e90"), looks := false }, kinds := [], alts := [], laidByText := true, laidKinds := [.data, .data], laidTests := true, laidLooks := .later }
def BundleTellsUptoCardSaid : Prop := Claim7.holds Tryz.pinned (.plain (OpenSpec.upto bundleTellsSpec)) bundleTellsUptoCard
end Rows
end Go.Proofs.YtfgdfignoakkaaaGreatDoor
