/-
  DERIVED. GIVEN WITH THE SEED: THE CARDS: each row of YtceehogkckdbkaaDoorRows.lean that lists a variable, with what it lists TIED to the program's text (the seventh form; the later family's looks); each row that meets fmt, with fmt's text TOLD by the authors' own Lean function (tested against real Go, not proved from fmt's source: count such statements apart). THE CARD IS WHAT COUNTS. Prove the row's statement (the work); the ties are given (YtceehogkckdbkaaDoorTie.lean); close each card by the builder's one call (the guide's Derived/Test/ToyasCard.lean, 'card_holds'). Laid BY PROGRAM, IN A SANDBOX (cutbox-door.mjs). By AI agents, Wed Nov 11 2026. No macro, syntax, notation, axiom, sorry.
-/
import Derived.Test.YtceehogkckdbkaaDoorRows
import GoSem.ClaimSeven
namespace Go.Proofs.YtceehogkckdbkaaDoor
namespace Rows

/-- THE TIED CARD OF 'stepwelllaw32.GuardFlows'. -/
def guardFlowsCard : Claim7 := { stood := { row := guardFlowsRow, standIns := [], harness := (true, "7be002e17f93e2207bf7dc119771c6eb324e58f551931b31c07ba85cee8dddf2"), looks := false }, kinds := [], alts := [], laidByText := true, laidKinds := [.data], laidTests := true, laidLooks := .later }
def GuardFlowsCardSaid : Prop := Claim7.holds Tryd.pinned (.plain (OpenSpec.ofChange guardFlowsSpec)) guardFlowsCard

/-- THE TIED CARD OF 'stepwelllaw32.GuardHeads'. -/
def guardHeadsCard : Claim7 := { stood := { row := guardHeadsRow, standIns := [], harness := (true, "7be002e17f93e2207bf7dc119771c6eb324e58f551931b31c07ba85cee8dddf2"), looks := false }, kinds := [], alts := [], laidByText := true, laidKinds := [.data], laidTests := true, laidLooks := .later }
def GuardHeadsCardSaid : Prop := Claim7.holds Tryd.pinned (.plain (OpenSpec.ofChange guardHeadsSpec)) guardHeadsCard

/-- THE TIED CARD OF 'stepwelllaw32.GuardHolds'. -/
def guardHoldsCard : Claim7 := { stood := { row := guardHoldsRow, standIns := [], harness := (true, "7be002e17f93e2207bf7dc119771c6eb324e58f551931b31c07ba85cee8dddf2"), looks := false }, kinds := [], alts := [], laidByText := true, laidKinds := [.data], laidTests := true, laidLooks := .later }
def GuardHoldsCardSaid : Prop := Claim7.holds Tryd.pinned (.plain (OpenSpec.ofChange guardHoldsSpec)) guardHoldsCard

/-- THE SECOND FORM's CARD OF 'stepwelllaw32.GuardFlows'. -/
def guardFlowsUptoCard : Claim7 := { stood := { row := guardFlowsUptoRow, standIns := [], harness := (true, "7be002e17f93e2207bf7dc119771c6eb324e58f551931b31c07ba85cee8dddf2"), looks := false }, kinds := [], alts := [], laidByText := true, laidKinds := [.data], laidTests := true, laidLooks := .later }
def GuardFlowsUptoCardSaid : Prop := Claim7.holds Tryd.pinned (.plain (OpenSpec.upto guardFlowsSpec)) guardFlowsUptoCard

/-- THE SECOND FORM's CARD OF 'stepwelllaw32.GuardHeads'. -/
def guardHeadsUptoCard : Claim7 := { stood := { row := guardHeadsUptoRow, standIns := [], harness := (true, "7be002e17f93e2207bf7dc119771c6eb324e58f551931b31c07ba85cee8dddf2"), looks := false }, kinds := [], alts := [], laidByText := true, laidKinds := [.data], laidTests := true, laidLooks := .later }
def GuardHeadsUptoCardSaid : Prop := Claim7.holds Tryd.pinned (.plain (OpenSpec.upto guardHeadsSpec)) guardHeadsUptoCard

/-- THE SECOND FORM's CARD OF 'stepwelllaw32.GuardHolds'. -/
def guardHoldsUptoCard : Claim7 := { stood := { row := guardHoldsUptoRow, standIns := [], harness := (true, "7be002e17f93e2207bf7dc119771c6eb324e58f551931b31c07ba85cee8dddf2"), looks := false }, kinds := [], alts := [], laidByText := true, laidKinds := [.data], laidTests := true, laidLooks := .later }
def GuardHoldsUptoCardSaid : Prop := Claim7.holds Tryd.pinned (.plain (OpenSpec.upto guardHoldsSpec)) guardHoldsUptoCard
end Rows
end Go.Proofs.YtceehogkckdbkaaDoor
