/-
  No cell of these rows narrows 'for every input' (looked for: loops, veiled, ifaces, maps, wideKeys, modest, calm, conditions, laid).
  DERIVED. THE GIVEN ROWS OF THIS SEAT. 2 by the template 'for every input the law returns true; each argument reads behind the call as it read before'; 0 by the template 'total and deterministic' (their statements: YtkbgfglipepmpaaTotals.lean).
  GIVEN WITH THE SEED: the statements are not yours to turn. If you find one false, say at which input.
  Laid BY PROGRAM, IN A SANDBOX (cutbox-rows.mjs): the forced cells as the released guide's own fill.sh prints them over the translation 8cd881d3d06bccb4… (all of the seat's roots in one cut). By AI agents, Wed Nov 11 2026. No macro, syntax, notation, axiom, sorry.
-/
import Derived.Test.YtkbgfglipepmpaaChecked
import GoSem.Claim
import GoSem.ClaimJoined
import GoSem.ClaimMapViews
import Derived.JoinedTies
import Derived.KernelRfl
namespace Go.Proofs.Ytkbgfglipepmpaa
/- THE CELL 'sum', in the pinned program and in every row, IS THE sha256 OF THE DUMP (.gsa) THAT YtkbgfglipepmpaaProg.lean LOADS. Nothing in Lean hashes anything: it is a label: what it is worth is what the hold of that sum in a sandbox is worth. -/
noncomputable def Try.pinned : Pinned := { name := "ytkbgfglipepmpaa", sum := "8cd881d3d06bccb46cfdafafd686b8b9ab7325adccf8f77d1ce4c9d1ed551c78", checked := Try.checked }
namespace Rows
def none {H : Type} : Left H := { results := [], args := [] }

/-- 'stepwelllaw17.DepthSums': WHATEVER THE INPUT: true; the input reads as it did. -/
def depthSumsSpec : ChangeSpec := { name := "depthSums", fn := fun _ => fun
  | [d1, d2] => { results := [.lit (.bool true)], args := [d1, d2] }
  | _ => none }
def depthSumsRow : OpenClaim := { program := "ytkbgfglipepmpaa", sum := "8cd881d3d06bccb46cfdafafd686b8b9ab7325adccf8f77d1ce4c9d1ed551c78", func := "stepwell/stepwelllaw17.DepthSums", spec := "depthSums", apart := false }
def DepthSumsSaid : Prop := depthSumsRow.holds Try.pinned (OpenSpec.ofChange depthSumsSpec)

/-- ITS FALSE NEIGHBOUR: 'it returns false'. Refute it at one input. -/
def depthSumsWrong : ChangeSpec := { name := "depthSums", fn := fun _ => fun
  | [d1, d2] => { results := [.lit (.bool false)], args := [d1, d2] }
  | _ => none }
def DepthSumsWrongFalsely : Prop := depthSumsRow.holds Try.pinned (OpenSpec.ofChange depthSumsWrong)

/-- 'stepwelllaw17.DepthWide': WHATEVER THE INPUT: true; the input reads as it did. -/
def depthWideSpec : ChangeSpec := { name := "depthWide", fn := fun _ => fun
  | [d1, d2, d3] => { results := [.lit (.bool true)], args := [d1, d2, d3] }
  | _ => none }
def depthWideRow : OpenClaim := { program := "ytkbgfglipepmpaa", sum := "8cd881d3d06bccb46cfdafafd686b8b9ab7325adccf8f77d1ce4c9d1ed551c78", func := "stepwell/stepwelllaw17.DepthWide", spec := "depthWide", apart := false }
def DepthWideSaid : Prop := depthWideRow.holds Try.pinned (OpenSpec.ofChange depthWideSpec)

/-- ITS FALSE NEIGHBOUR: 'it returns false'. Refute it at one input. -/
def depthWideWrong : ChangeSpec := { name := "depthWide", fn := fun _ => fun
  | [d1, d2, d3] => { results := [.lit (.bool false)], args := [d1, d2, d3] }
  | _ => none }
def DepthWideWrongFalsely : Prop := depthWideRow.holds Try.pinned (OpenSpec.ofChange depthWideWrong)

/- THE SECOND FORM. 'bulk': how many values and letters a reading holds, each counted each time it is reached (what is shared counts as often as it is met; a slice's spare places count too). A statement '..UptoSaid' is the law's where the arguments, and the package variables that the reading takes, are together of bulk at most 1048576: NARROWER than '..Said'. Prove '..Said' where nothing that the law and all that it calls make is longer than what came in: it says more and counts as full. Else prove '..UptoSaid'. A law counts once. -/
mutual
def uptoBulk {H : Type} : DataW H → Nat
  | .lit (.string bytes) => bytes.length + 1
  | .lit _ => 1
  | .nil => 1
  | .ptr d => uptoBulk d + 1
  | .slice elems spare => uptoBulkAll elems + uptoBulkAll spare + 1
  | .agg parts => uptoBulkAll parts + 1
  | .iface _ d => uptoBulk d + 1
  | .map entries => uptoBulkEntries entries + 1
  | .held _ => 1
def uptoBulkAll {H : Type} : List (DataW H) → Nat
  | [] => 0
  | d :: r => uptoBulk d + uptoBulkAll r
def uptoBulkEntries {H : Type} : List (Lit × DataW H) → Nat
  | [] => 0
  | x :: r => uptoBulkEntry x + uptoBulkEntries r
def uptoBulkEntry {H : Type} : Lit × DataW H → Nat
  | (.string bytes, d) => bytes.length + uptoBulk d + 1
  | (_, d) => uptoBulk d + 1
 end
def uptoSmall : (H : Type) → List (DataW H) → Bool := fun _ ds => decide (uptoBulkAll ds ≤ 1048576)
def OpenSpec.upto (s : _root_.Go.ChangeSpec) : _root_.Go.OpenSpec := { _root_.Go.OpenSpec.ofChange s with cond := some uptoSmall }

/-- 'stepwelllaw17.DepthSums', WHERE WHAT IT READS IS OF BULK AT MOST 1048576: true; the input reads as it did. -/
def depthSumsUptoRow : OpenClaim := { program := "ytkbgfglipepmpaa", sum := "8cd881d3d06bccb46cfdafafd686b8b9ab7325adccf8f77d1ce4c9d1ed551c78", func := "stepwell/stepwelllaw17.DepthSums", spec := "depthSums", apart := false, narrowed := true }
def DepthSumsUptoSaid : Prop := depthSumsUptoRow.holds Try.pinned (OpenSpec.upto depthSumsSpec)

/-- 'stepwelllaw17.DepthWide', WHERE WHAT IT READS IS OF BULK AT MOST 1048576: true; the input reads as it did. -/
def depthWideUptoRow : OpenClaim := { program := "ytkbgfglipepmpaa", sum := "8cd881d3d06bccb46cfdafafd686b8b9ab7325adccf8f77d1ce4c9d1ed551c78", func := "stepwell/stepwelllaw17.DepthWide", spec := "depthWide", apart := false, narrowed := true }
def DepthWideUptoSaid : Prop := depthWideUptoRow.holds Try.pinned (OpenSpec.upto depthWideSpec)

end Rows
end Go.Proofs.Ytkbgfglipepmpaa
