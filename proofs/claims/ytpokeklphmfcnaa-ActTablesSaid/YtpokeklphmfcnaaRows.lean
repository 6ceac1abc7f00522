/-
  No cell of these rows narrows 'for every input' (looked for: loops, veiled, ifaces, maps, wideKeys, modest, calm, conditions, laid).
  DERIVED. THE GIVEN ROWS OF THIS SEAT. 3 by the template 'for every input the law returns true; each argument reads behind the call as it read before'; 0 by the template 'total and deterministic' (their statements: YtpokeklphmfcnaaTotals.lean).
  GIVEN WITH THE SEED: the statements are not yours to turn. If you find one false, say at which input.
  Laid BY PROGRAM, IN A SANDBOX (cutbox-rows.mjs): the forced cells as the released guide's own fill.sh prints them over the translation 1489d0813dc2aa32… (all of the seat's roots in one cut). By AI agents, Wed Nov 11 2026. No macro, syntax, notation, axiom, sorry.
-/
import Derived.Test.YtpokeklphmfcnaaChecked
import GoSem.Claim
import GoSem.ClaimJoined
import GoSem.ClaimMapViews
import Derived.JoinedTies
import Derived.KernelRfl
namespace Go.Proofs.Ytpokeklphmfcnaa
/- THE CELL 'sum', in the pinned program and in every row, IS THE sha256 OF THE DUMP (.gsa) THAT YtpokeklphmfcnaaProg.lean LOADS. Nothing in Lean hashes anything: it is a label: what it is worth is what the hold of that sum in a sandbox is worth. -/
noncomputable def Try.pinned : Pinned := { name := "ytpokeklphmfcnaa", sum := "1489d0813dc2aa32933c3b6c47d3315524dfa5f73cb30544253a956148b93246", checked := Try.checked }
namespace Rows
def none {H : Type} : Left H := { results := [], args := [] }

/-- 'stepwelllaw21.ActTensors': WHATEVER THE INPUT: true; the input reads as it did. -/
def actTensorsSpec : ChangeSpec := { name := "actTensors", fn := fun _ => fun
  | [d1, d2] => { results := [.lit (.bool true)], args := [d1, d2] }
  | _ => none }
def actTensorsRow : OpenClaim := { program := "ytpokeklphmfcnaa", sum := "1489d0813dc2aa32933c3b6c47d3315524dfa5f73cb30544253a956148b93246", func := "stepwell/stepwelllaw21.ActTensors", spec := "actTensors", unfollowed := true, recurses := true, apart := false }
def ActTensorsSaid : Prop := actTensorsRow.holds Try.pinned (OpenSpec.ofChange actTensorsSpec)

/-- ITS FALSE NEIGHBOUR: 'it returns false'. Refute it at one input. -/
def actTensorsWrong : ChangeSpec := { name := "actTensors", fn := fun _ => fun
  | [d1, d2] => { results := [.lit (.bool false)], args := [d1, d2] }
  | _ => none }
def ActTensorsWrongFalsely : Prop := actTensorsRow.holds Try.pinned (OpenSpec.ofChange actTensorsWrong)

/-- 'stepwelllaw21.ActTables': WHATEVER THE INPUT: true; the input reads as it did. -/
def actTablesSpec : ChangeSpec := { name := "actTables", fn := fun _ => fun
  | [d1, d2, d3, d4] => { results := [.lit (.bool true)], args := [d1, d2, d3, d4] }
  | _ => none }
def actTablesRow : OpenClaim := { program := "ytpokeklphmfcnaa", sum := "1489d0813dc2aa32933c3b6c47d3315524dfa5f73cb30544253a956148b93246", func := "stepwell/stepwelllaw21.ActTables", spec := "actTables", unfollowed := true, recurses := true, apart := false }
def ActTablesSaid : Prop := actTablesRow.holds Try.pinned (OpenSpec.ofChange actTablesSpec)

/-- ITS FALSE NEIGHBOUR: 'it returns false'. Refute it at one input. -/
def actTablesWrong : ChangeSpec := { name := "actTables", fn := fun _ => fun
  | [d1, d2, d3, d4] => { results := [.lit (.bool false)], args := [d1, d2, d3, d4] }
  | _ => none }
def ActTablesWrongFalsely : Prop := actTablesRow.holds Try.pinned (OpenSpec.ofChange actTablesWrong)

/-- 'stepwelllaw21.ActPuts': WHATEVER THE INPUT: true; the input reads as it did. -/
def actPutsSpec : ChangeSpec := { name := "actPuts", fn := fun _ => fun
  | [d1, d2] => { results := [.lit (.bool true)], args := [d1, d2] }
  | _ => none }
def actPutsRow : OpenClaim := { program := "ytpokeklphmfcnaa", sum := "1489d0813dc2aa32933c3b6c47d3315524dfa5f73cb30544253a956148b93246", func := "stepwell/stepwelllaw21.ActPuts", spec := "actPuts", apart := false }
def ActPutsSaid : Prop := actPutsRow.holds Try.pinned (OpenSpec.ofChange actPutsSpec)

/-- ITS FALSE NEIGHBOUR: 'it returns false'. Refute it at one input. -/
def actPutsWrong : ChangeSpec := { name := "actPuts", fn := fun _ => fun
  | [d1, d2] => { results := [.lit (.bool false)], args := [d1, d2] }
  | _ => none }
def ActPutsWrongFalsely : Prop := actPutsRow.holds Try.pinned (OpenSpec.ofChange actPutsWrong)

/- THE SECOND FORM. 'bulk': how many values and letters a reading holds, each counted each time it is reached (what is shared counts as often as it is met; a slice's spare places count too). A statement '..UptoSaid' is the law's where the arguments, and the package variables that the reading takes, are together of bulk at most 1048576: NARROWER than '..Said'. Prove '..Said' where nothing that the law and all that it calls make is longer than what came in: it says more and counts as full. Else prove '..UptoSaid'. A law counts once. -/
mutual
def uptoBulk {H : Type} : DataW H → Nat
  | .lit (.string bytes) => bytes.length + 1
  | .lit _ => 1
  | .nil => 1
  | .ptr d => uptoBulk d + 1
  | .slice elems spare => uptoBulkAll elems + uptoBulkAll spare + 1
  | .agg parts => uptoBulkAll parts + 1
  | .iface _ d => uptoBulk d + 1
  | .map entries => uptoBulkEntries entries + 1
  | .held _ => 1
def uptoBulkAll {H : Type} : List (DataW H) → Nat
  | [] => 0
  | d :: r => uptoBulk d + uptoBulkAll r
def uptoBulkEntries {H : Type} : List (Lit × DataW H) → Nat
  | [] => 0
  | x :: r => uptoBulkEntry x + uptoBulkEntries r
def uptoBulkEntry {H : Type} : Lit × DataW H → Nat
  | (.string bytes, d) => bytes.length + uptoBulk d + 1
  | (_, d) => uptoBulk d + 1
 end
def uptoSmall : (H : Type) → List (DataW H) → Bool := fun _ ds => decide (uptoBulkAll ds ≤ 1048576)
def OpenSpec.upto (s : _root_.Go.ChangeSpec) : _root_.Go.OpenSpec := { _root_.Go.OpenSpec.ofChange s with cond := some uptoSmall }

/-- 'stepwelllaw21.ActTensors', WHERE WHAT IT READS IS OF BULK AT MOST 1048576: true; the input reads as it did. -/
def actTensorsUptoRow : OpenClaim := { program := "ytpokeklphmfcnaa", sum := "1489d0813dc2aa32933c3b6c47d3315524dfa5f73cb30544253a956148b93246", func := "stepwell/stepwelllaw21.ActTensors", spec := "actTensors", unfollowed := true, recurses := true, apart := false, narrowed := true }
def ActTensorsUptoSaid : Prop := actTensorsUptoRow.holds Try.pinned (OpenSpec.upto actTensorsSpec)

/-- 'stepwelllaw21.ActTables', WHERE WHAT IT READS IS OF BULK AT MOST 1048576: true; the input reads as it did. -/
def actTablesUptoRow : OpenClaim := { program := "ytpokeklphmfcnaa", sum := "1489d0813dc2aa32933c3b6c47d3315524dfa5f73cb30544253a956148b93246", func := "stepwell/stepwelllaw21.ActTables", spec := "actTables", unfollowed := true, recurses := true, apart := false, narrowed := true }
def ActTablesUptoSaid : Prop := actTablesUptoRow.holds Try.pinned (OpenSpec.upto actTablesSpec)

/-- 'stepwelllaw21.ActPuts', WHERE WHAT IT READS IS OF BULK AT MOST 1048576: true; the input reads as it did. -/
def actPutsUptoRow : OpenClaim := { program := "ytpokeklphmfcnaa", sum := "1489d0813dc2aa32933c3b6c47d3315524dfa5f73cb30544253a956148b93246", func := "stepwell/stepwelllaw21.ActPuts", spec := "actPuts", apart := false, narrowed := true }
def ActPutsUptoSaid : Prop := actPutsUptoRow.holds Try.pinned (OpenSpec.upto actPutsSpec)

end Rows
end Go.Proofs.Ytpokeklphmfcnaa
