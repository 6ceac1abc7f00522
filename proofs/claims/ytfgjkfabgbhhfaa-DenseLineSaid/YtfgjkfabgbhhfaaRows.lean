/-
  No cell of these rows narrows 'for every input' (looked for: loops, veiled, ifaces, maps, wideKeys, modest, calm, conditions, laid).
  DERIVED. THE GIVEN ROWS OF THIS SEAT. 3 by the template 'for every input the law returns true; each argument reads behind the call as it read before'; 0 by the template 'total and deterministic' (their statements: YtfgjkfabgbhhfaaTotals.lean).
  GIVEN WITH THE SEED: the statements are not yours to turn. If you find one false, say at which input.
  Laid BY PROGRAM, IN A SANDBOX (cutbox-rows.mjs): the forced cells as the released guide's own fill.sh prints them over the translation 99ce261d1394a5f7… (all of the seat's roots in one cut). By AI agents, Wed Nov 11 2026. No macro, syntax, notation, axiom, sorry.
-/
import Derived.Test.YtfgjkfabgbhhfaaChecked
import GoSem.Claim
import GoSem.ClaimJoined
import GoSem.ClaimMapViews
import Derived.JoinedTies
import Derived.KernelRfl
namespace Go.Proofs.Ytfgjkfabgbhhfaa
/- THE CELL 'sum', in the pinned program and in every row, IS THE sha256 OF THE DUMP (.gsa) THAT YtfgjkfabgbhhfaaProg.lean LOADS. Nothing in Lean hashes anything: it is a label: what it is worth is what the hold of that sum in a sandbox is worth. -/
noncomputable def Try.pinned : Pinned := { name := "ytfgjkfabgbhhfaa", sum := "99ce261d1394a5f7b83409d260ce0ad29e0b456347fa9ae8b1c7cea1f0a7d718", checked := Try.checked }
namespace Rows
def none {H : Type} : Left H := { results := [], args := [] }

/-- 'stepwelllaw18.DenseLine': WHATEVER THE INPUT: true; the input reads as it did. -/
def denseLineSpec : ChangeSpec := { name := "denseLine", fn := fun _ => fun
  | [d1, d2, d3, d4] => { results := [.lit (.bool true)], args := [d1, d2, d3, d4] }
  | _ => none }
def denseLineRow : OpenClaim := { program := "ytfgjkfabgbhhfaa", sum := "99ce261d1394a5f7b83409d260ce0ad29e0b456347fa9ae8b1c7cea1f0a7d718", func := "stepwell/stepwelllaw18.DenseLine", spec := "denseLine", unfollowed := true, recurses := true, apart := false }
def DenseLineSaid : Prop := denseLineRow.holds Try.pinned (OpenSpec.ofChange denseLineSpec)

/-- ITS FALSE NEIGHBOUR: 'it returns false'. Refute it at one input. -/
def denseLineWrong : ChangeSpec := { name := "denseLine", fn := fun _ => fun
  | [d1, d2, d3, d4] => { results := [.lit (.bool false)], args := [d1, d2, d3, d4] }
  | _ => none }
def DenseLineWrongFalsely : Prop := denseLineRow.holds Try.pinned (OpenSpec.ofChange denseLineWrong)

/-- 'stepwelllaw18.DenseSums': WHATEVER THE INPUT: true; the input reads as it did. -/
def denseSumsSpec : ChangeSpec := { name := "denseSums", fn := fun _ => fun
  | [d1, d2] => { results := [.lit (.bool true)], args := [d1, d2] }
  | _ => none }
def denseSumsRow : OpenClaim := { program := "ytfgjkfabgbhhfaa", sum := "99ce261d1394a5f7b83409d260ce0ad29e0b456347fa9ae8b1c7cea1f0a7d718", func := "stepwell/stepwelllaw18.DenseSums", spec := "denseSums", unfollowed := true, recurses := true, apart := false }
def DenseSumsSaid : Prop := denseSumsRow.holds Try.pinned (OpenSpec.ofChange denseSumsSpec)

/-- ITS FALSE NEIGHBOUR: 'it returns false'. Refute it at one input. -/
def denseSumsWrong : ChangeSpec := { name := "denseSums", fn := fun _ => fun
  | [d1, d2] => { results := [.lit (.bool false)], args := [d1, d2] }
  | _ => none }
def DenseSumsWrongFalsely : Prop := denseSumsRow.holds Try.pinned (OpenSpec.ofChange denseSumsWrong)

/-- 'stepwelllaw18.DensePlus': WHATEVER THE INPUT: true; the input reads as it did. -/
def densePlusSpec : ChangeSpec := { name := "densePlus", fn := fun _ => fun
  | [d1, d2, d3, d4, d5] => { results := [.lit (.bool true)], args := [d1, d2, d3, d4, d5] }
  | _ => none }
def densePlusRow : OpenClaim := { program := "ytfgjkfabgbhhfaa", sum := "99ce261d1394a5f7b83409d260ce0ad29e0b456347fa9ae8b1c7cea1f0a7d718", func := "stepwell/stepwelllaw18.DensePlus", spec := "densePlus", unfollowed := true, recurses := true, apart := false }
def DensePlusSaid : Prop := densePlusRow.holds Try.pinned (OpenSpec.ofChange densePlusSpec)

/-- ITS FALSE NEIGHBOUR: 'it returns false'. Refute it at one input. -/
def densePlusWrong : ChangeSpec := { name := "densePlus", fn := fun _ => fun
  | [d1, d2, d3, d4, d5] => { results := [.lit (.bool false)], args := [d1, d2, d3, d4, d5] }
  | _ => none }
def DensePlusWrongFalsely : Prop := densePlusRow.holds Try.pinned (OpenSpec.ofChange densePlusWrong)

/- THE SECOND FORM. 'bulk': how many values and letters a reading holds, each counted each time it is reached (what is shared counts as often as it is met; a slice's spare places count too). A statement '..UptoSaid' is the law's where the arguments, and the package variables that the reading takes, are together of bulk at most 1048576: NARROWER than '..Said'. Prove '..Said' where nothing that the law and all that it calls make is longer than what came in: it says more and counts as full. Else prove '..UptoSaid'. A law counts once. -/
mutual
def uptoBulk {H : Type} : DataW H → Nat
  | .lit (.string bytes) => bytes.length + 1
  | .lit _ => 1
  | .nil => 1
  | .ptr d => uptoBulk d + 1
  | .slice elems spare => uptoBulkAll elems + uptoBulkAll spare + 1
  | .agg parts => uptoBulkAll parts + 1
  | .iface _ d => uptoBulk d + 1
  | .map entries => uptoBulkEntries entries + 1
  | .held _ => 1
def uptoBulkAll {H : Type} : List (DataW H) → Nat
  | [] => 0
  | d :: r => uptoBulk d + uptoBulkAll r
def uptoBulkEntries {H : Type} : List (Lit × DataW H) → Nat
  | [] => 0
  | x :: r => uptoBulkEntry x + uptoBulkEntries r
def uptoBulkEntry {H : Type} : Lit × DataW H → Nat
  | (.string bytes, d) => bytes.length + uptoBulk d + 1
  | (_, d) => uptoBulk d + 1
 end
def uptoSmall : (H : Type) → List (DataW H) → Bool := fun _ ds => decide (uptoBulkAll ds ≤ 1048576)
def OpenSpec.upto (s : _root_.Go.ChangeSpec) : _root_.Go.OpenSpec := { _root_.Go.OpenSpec.ofChange s with cond := some uptoSmall }

/-- 'stepwelllaw18.DenseLine', WHERE WHAT IT READS IS OF BULK AT MOST 1048576: true; the input reads as it did. -/
def denseLineUptoRow : OpenClaim := { program := "ytfgjkfabgbhhfaa", sum := "99ce261d1394a5f7b83409d260ce0ad29e0b456347fa9ae8b1c7cea1f0a7d718", func := "stepwell/stepwelllaw18.DenseLine", spec := "denseLine", unfollowed := true, recurses := true, apart := false, narrowed := true }
def DenseLineUptoSaid : Prop := denseLineUptoRow.holds Try.pinned (OpenSpec.upto denseLineSpec)

/-- 'stepwelllaw18.DenseSums', WHERE WHAT IT READS IS OF BULK AT MOST 1048576: true; the input reads as it did. -/
def denseSumsUptoRow : OpenClaim := { program := "ytfgjkfabgbhhfaa", sum := "99ce261d1394a5f7b83409d260ce0ad29e0b456347fa9ae8b1c7cea1f0a7d718", func := "stepwell/stepwelllaw18.DenseSums", spec := "denseSums", unfollowed := true, recurses := true, apart := false, narrowed := true }
def DenseSumsUptoSaid : Prop := denseSumsUptoRow.holds Try.pinned (OpenSpec.upto denseSumsSpec)

/-- 'stepwelllaw18.DensePlus', WHERE WHAT IT READS IS OF BULK AT MOST 1048576: true; the input reads as it did. -/
def densePlusUptoRow : OpenClaim := { program := "ytfgjkfabgbhhfaa", sum := "99ce261d1394a5f7b83409d260ce0ad29e0b456347fa9ae8b1c7cea1f0a7d718", func := "stepwell/stepwelllaw18.DensePlus", spec := "densePlus", unfollowed := true, recurses := true, apart := false, narrowed := true }
def DensePlusUptoSaid : Prop := densePlusUptoRow.holds Try.pinned (OpenSpec.upto densePlusSpec)

end Rows
end Go.Proofs.Ytfgjkfabgbhhfaa
