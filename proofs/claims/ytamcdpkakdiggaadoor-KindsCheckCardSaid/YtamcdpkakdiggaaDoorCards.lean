/-
  DERIVED. GIVEN WITH THE SEED: THE CARDS: each row of YtamcdpkakdiggaaDoorRows.lean that lists a variable, with what it lists TIED to the program's text (the seventh form; the later family's looks); each row that meets fmt, with fmt's text TOLD by the authors' own Lean function (tested against real Go, not proved from fmt's source: count such statements apart). THE CARD IS WHAT COUNTS. Prove the row's statement (the work); the ties are given (YtamcdpkakdiggaaDoorTie.lean); close each card by the builder's one call (the guide's Derived/Test/ToyasCard.lean, 'card_holds'). Laid BY PROGRAM, IN A SANDBOX (cutbox-door.mjs). By AI agents, Wed Nov 11 2026. No macro, syntax, notation, axiom, sorry.
-/
import Derived.Test.YtamcdpkakdiggaaDoorRows
import GoSem.ClaimSeven
namespace Go.Proofs.YtamcdpkakdiggaaDoor
namespace Rows

/-- THE TIED CARD OF 'stepwelllaw25.KindsCheck'. -/
def kindsCheckCard : Claim7 := { stood := { row := kindsCheckRow, standIns := [], harness := (true, "6ea59d79f7dfe80b287b54a2e29289cfb74ecb0d49c6185e5ed2f468b1126487"), looks := false }, kinds := [], alts := [], laidByText := true, laidKinds := [.data], laidTests := true, laidLooks := .later }
def KindsCheckCardSaid : Prop := Claim7.holds Tryd.pinned (.plain (OpenSpec.ofChange kindsCheckSpec)) kindsCheckCard

/-- THE TIED CARD OF 'stepwelllaw25.KindsShape'. -/
def kindsShapeCard : Claim7 := { stood := { row := kindsShapeRow, standIns := [], harness := (true, "6ea59d79f7dfe80b287b54a2e29289cfb74ecb0d49c6185e5ed2f468b1126487"), looks := false }, kinds := [], alts := [], laidByText := true, laidKinds := [.data], laidTests := true, laidLooks := .later }
def KindsShapeCardSaid : Prop := Claim7.holds Tryd.pinned (.plain (OpenSpec.ofChange kindsShapeSpec)) kindsShapeCard

/-- THE TIED CARD OF 'stepwelllaw25.KindsPlain'. -/
def kindsPlainCard : Claim7 := { stood := { row := kindsPlainRow, standIns := [], harness := (true, "6ea59d79f7dfe80b287b54a2e29289cfb74ecb0d49c6185e5ed2f468b1126487"), looks := false }, kinds := [], alts := [], laidByText := true, laidKinds := [.data], laidTests := true, laidLooks := .later }
def KindsPlainCardSaid : Prop := Claim7.holds Tryd.pinned (.plain (OpenSpec.ofChange kindsPlainSpec)) kindsPlainCard

/-- THE SECOND FORM's CARD OF 'stepwelllaw25.KindsCheck'. -/
def kindsCheckUptoCard : Claim7 := { stood := { row := kindsCheckUptoRow, standIns := [], harness := (true, "6ea59d79f7dfe80b287b54a2e29289cfb74ecb0d49c6185e5ed2f468b1126487"), looks := false }, kinds := [], alts := [], laidByText := true, laidKinds := [.data], laidTests := true, laidLooks := .later }
def KindsCheckUptoCardSaid : Prop := Claim7.holds Tryd.pinned (.plain (OpenSpec.upto kindsCheckSpec)) kindsCheckUptoCard

/-- THE SECOND FORM's CARD OF 'stepwelllaw25.KindsShape'. -/
def kindsShapeUptoCard : Claim7 := { stood := { row := kindsShapeUptoRow, standIns := [], harness := (true, "6ea59d79f7dfe80b287b54a2e29289cfb74ecb0d49c6185e5ed2f468b1126487"), looks := false }, kinds := [], alts := [], laidByText := true, laidKinds := [.data], laidTests := true, laidLooks := .later }
def KindsShapeUptoCardSaid : Prop := Claim7.holds Tryd.pinned (.plain (OpenSpec.upto kindsShapeSpec)) kindsShapeUptoCard

/-- THE SECOND FORM's CARD OF 'stepwelllaw25.KindsPlain'. -/
def kindsPlainUptoCard : Claim7 := { stood := { row := kindsPlainUptoRow, standIns := [], harness := (true, "6ea59d79f7dfe80b287b54a2e29289cfb74ecb0d49c6185e5ed2f468b1126487"), looks := false }, kinds := [], alts := [], laidByText := true, laidKinds := [.data], laidTests := true, laidLooks := .later }
def KindsPlainUptoCardSaid : Prop := Claim7.holds Tryd.pinned (.plain (OpenSpec.upto kindsPlainSpec)) kindsPlainUptoCard
end Rows
end Go.Proofs.YtamcdpkakdiggaaDoor
