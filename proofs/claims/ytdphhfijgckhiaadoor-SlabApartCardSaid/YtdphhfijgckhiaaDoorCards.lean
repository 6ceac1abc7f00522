/-
  DERIVED. GIVEN WITH THE SEED: THE CARDS: each row of YtdphhfijgckhiaaDoorRows.lean that lists a variable, with what it lists TIED to the program's text (the seventh form; the later family's looks); each row that meets fmt, with fmt's text TOLD by the authors' own Lean function (tested against real Go, not proved from fmt's source: count such statements apart). THE CARD IS WHAT COUNTS. Prove the row's statement (the work); the ties are given (YtdphhfijgckhiaaDoorTie.lean); close each card by the builder's one call (the guide's Derived/Test/ToyasCard.lean, 'card_holds'). Laid BY PROGRAM, IN A SANDBOX (cutbox-door.mjs). By AI agents, Wed Nov 11 2026. No macro, syntax, notation, axiom, sorry.
-/
import Derived.Test.YtdphhfijgckhiaaDoorRows
import GoSem.ClaimSeven
namespace Go.Proofs.YtdphhfijgckhiaaDoor
namespace Rows

/-- THE TIED CARD OF 'stepwelllaw29.SlabPlans'. -/
def slabPlansCard : Claim7 := { stood := { row := slabPlansRow, standIns := [], harness := (true, "c38b4bc66ac3a8eaf2fcc18e5651867216ca20c91943c173565078be31442695"), looks := false }, kinds := [], alts := [], laidByText := true, laidKinds := [.data], laidTests := true, laidLooks := .later }
def SlabPlansCardSaid : Prop := Claim7.holds Tryd.pinned (.plain (OpenSpec.ofChange slabPlansSpec)) slabPlansCard

/-- THE TIED CARD OF 'stepwelllaw29.SlabApart'. -/
def slabApartCard : Claim7 := { stood := { row := slabApartRow, standIns := [], harness := (true, "c38b4bc66ac3a8eaf2fcc18e5651867216ca20c91943c173565078be31442695"), looks := false }, kinds := [], alts := [], laidByText := true, laidKinds := [.data], laidTests := true, laidLooks := .later }
def SlabApartCardSaid : Prop := Claim7.holds Tryd.pinned (.plain (OpenSpec.ofChange slabApartSpec)) slabApartCard

/-- THE SECOND FORM's CARD OF 'stepwelllaw29.SlabPlans'. -/
def slabPlansUptoCard : Claim7 := { stood := { row := slabPlansUptoRow, standIns := [], harness := (true, "c38b4bc66ac3a8eaf2fcc18e5651867216ca20c91943c173565078be31442695"), looks := false }, kinds := [], alts := [], laidByText := true, laidKinds := [.data], laidTests := true, laidLooks := .later }
def SlabPlansUptoCardSaid : Prop := Claim7.holds Tryd.pinned (.plain (OpenSpec.upto slabPlansSpec)) slabPlansUptoCard

/-- THE SECOND FORM's CARD OF 'stepwelllaw29.SlabApart'. -/
def slabApartUptoCard : Claim7 := { stood := { row := slabApartUptoRow, standIns := [], harness := (true, "c38b4bc66ac3a8eaf2fcc18e5651867216ca20c91943c173565078be31442695"), looks := false }, kinds := [], alts := [], laidByText := true, laidKinds := [.data], laidTests := true, laidLooks := .later }
def SlabApartUptoCardSaid : Prop := Claim7.holds Tryd.pinned (.plain (OpenSpec.upto slabApartSpec)) slabApartUptoCard
end Rows
end Go.Proofs.YtdphhfijgckhiaaDoor
