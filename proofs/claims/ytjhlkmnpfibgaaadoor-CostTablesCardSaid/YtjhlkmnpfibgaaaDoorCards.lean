/-
  DERIVED. GIVEN WITH THE SEED: THE CARDS: each row of YtjhlkmnpfibgaaaDoorRows.lean that lists a variable, with what it lists TIED to the program's text (the seventh form; the later family's looks); each row that meets fmt, with fmt's text TOLD by the authors' own Lean function (tested against real Go, not proved from fmt's source: count such statements apart). THE CARD IS WHAT COUNTS. Prove the row's statement (the work); the ties are given (YtjhlkmnpfibgaaaDoorTie.lean); close each card by the builder's one call (the guide's Derived/Test/ToyasCard.lean, 'card_holds'). Laid BY PROGRAM, IN A SANDBOX (cutbox-door.mjs). By AI agents, Wed Nov 11 2026. No macro, syntax, notation, axiom, sorry.
-/
import Derived.Test.YtjhlkmnpfibgaaaDoorRows
import GoSem.ClaimSeven
namespace Go.Proofs.YtjhlkmnpfibgaaaDoor
namespace Rows

/-- THE TIED CARD OF 'stepwelllaw31.CostBlocks'. -/
def costBlocksCard : Claim7 := { stood := { row := costBlocksRow, standIns := [], harness := (true, "fcdad785783cefc6c1d75b195ccf91e91d8a240d4d9bedd1e158f0222e4bf5a2"), looks := false }, kinds := [], alts := [], laidByText := true, laidKinds := [.data], laidTests := true, laidLooks := .later }
def CostBlocksCardSaid : Prop := Claim7.holds Tryd.pinned (.plain (OpenSpec.ofChange costBlocksSpec)) costBlocksCard

/-- THE TIED CARD OF 'stepwelllaw31.CostTables'. -/
def costTablesCard : Claim7 := { stood := { row := costTablesRow, standIns := [], harness := (true, "fcdad785783cefc6c1d75b195ccf91e91d8a240d4d9bedd1e158f0222e4bf5a2"), looks := false }, kinds := [], alts := [], laidByText := true, laidKinds := [.data], laidTests := true, laidLooks := .later }
def CostTablesCardSaid : Prop := Claim7.holds Tryd.pinned (.plain (OpenSpec.ofChange costTablesSpec)) costTablesCard

/-- THE TIED CARD OF 'stepwelllaw31.CostMore'. -/
def costMoreCard : Claim7 := { stood := { row := costMoreRow, standIns := [], harness := (true, "fcdad785783cefc6c1d75b195ccf91e91d8a240d4d9bedd1e158f0222e4bf5a2"), looks := false }, kinds := [], alts := [], laidByText := true, laidKinds := [.data], laidTests := true, laidLooks := .later }
def CostMoreCardSaid : Prop := Claim7.holds Tryd.pinned (.plain (OpenSpec.ofChange costMoreSpec)) costMoreCard

/-- THE SECOND FORM's CARD OF 'stepwelllaw31.CostBlocks'. -/
def costBlocksUptoCard : Claim7 := { stood := { row := costBlocksUptoRow, standIns := [], harness := (true, "fcdad785783cefc6c1d75b195ccf91e91d8a240d4d9bedd1e158f0222e4bf5a2"), looks := false }, kinds := [], alts := [], laidByText := true, laidKinds := [.data], laidTests := true, laidLooks := .later }
def CostBlocksUptoCardSaid : Prop := Claim7.holds Tryd.pinned (.plain (OpenSpec.upto costBlocksSpec)) costBlocksUptoCard

/-- THE SECOND FORM's CARD OF 'stepwelllaw31.CostTables'. -/
def costTablesUptoCard : Claim7 := { stood := { row := costTablesUptoRow, standIns := [], harness := (true, "fcdad785783cefc6c1d75b195ccf91e91d8a240d4d9bedd1e158f0222e4bf5a2"), looks := false }, kinds := [], alts := [], laidByText := true, laidKinds := [.data], laidTests := true, laidLooks := .later }
def CostTablesUptoCardSaid : Prop := Claim7.holds Tryd.pinned (.plain (OpenSpec.upto costTablesSpec)) costTablesUptoCard

/-- THE SECOND FORM's CARD OF 'stepwelllaw31.CostMore'. -/
def costMoreUptoCard : Claim7 := { stood := { row := costMoreUptoRow, standIns := [], harness := (true, "fcdad785783cefc6c1d75b195ccf91e91d8a240d4d9bedd1e158f0222e4bf5a2"), looks := false }, kinds := [], alts := [], laidByText := true, laidKinds := [.data], laidTests := true, laidLooks := .later }
def CostMoreUptoCardSaid : Prop := Claim7.holds Tryd.pinned (.plain (OpenSpec.upto costMoreSpec)) costMoreUptoCard
end Rows
end Go.Proofs.YtjhlkmnpfibgaaaDoor
