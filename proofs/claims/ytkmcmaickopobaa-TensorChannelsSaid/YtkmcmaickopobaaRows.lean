/-
  No cell of these rows narrows 'for every input' (looked for: loops, veiled, ifaces, maps, wideKeys, modest, calm, conditions, laid).
  DERIVED. THE GIVEN ROWS OF THIS SEAT. 3 by the template 'for every input the law returns true; each argument reads behind the call as it read before'; 0 by the template 'total and deterministic' (their statements: YtkmcmaickopobaaTotals.lean).
  GIVEN WITH THE SEED: the statements are not yours to turn. If you find one false, say at which input.
  Laid BY PROGRAM, IN A SANDBOX (cutbox-rows.mjs): the forced cells as the released guide's own fill.sh prints them over the translation 1e5f46af58b17708… (all of the seat's roots in one cut). By AI agents, Wed Nov 11 2026. No macro, syntax, notation, axiom, sorry.
-/
import Derived.Test.YtkmcmaickopobaaChecked
import GoSem.Claim
import GoSem.ClaimJoined
import GoSem.ClaimMapViews
import Derived.JoinedTies
import Derived.KernelRfl
namespace Go.Proofs.Ytkmcmaickopobaa
/- THE CELL 'sum', in the pinned program and in every row, IS THE sha256 OF THE DUMP (.gsa) THAT YtkmcmaickopobaaProg.lean LOADS. Nothing in Lean hashes anything: it is a label: what it is worth is what the hold of that sum in a sandbox is worth. -/
noncomputable def Try.pinned : Pinned := { name := "ytkmcmaickopobaa", sum := "1e5f46af58b177085a157c519ff0f9285dc6a3abdacf3bb0bd7794314ef77814", checked := Try.checked }
namespace Rows
def none {H : Type} : Left H := { results := [], args := [] }

/-- 'stepwelllaw05.TensorIs': WHATEVER THE INPUT: true; the input reads as it did. -/
def tensorIsSpec : ChangeSpec := { name := "tensorIs", fn := fun _ => fun
  | [d1, d2, d3] => { results := [.lit (.bool true)], args := [d1, d2, d3] }
  | _ => none }
def tensorIsRow : OpenClaim := { program := "ytkmcmaickopobaa", sum := "1e5f46af58b177085a157c519ff0f9285dc6a3abdacf3bb0bd7794314ef77814", func := "stepwell/stepwelllaw05.TensorIs", spec := "tensorIs", unfollowed := true, recurses := true, apart := false }
def TensorIsSaid : Prop := tensorIsRow.holds Try.pinned (OpenSpec.ofChange tensorIsSpec)

/-- ITS FALSE NEIGHBOUR: 'it returns false'. Refute it at one input. -/
def tensorIsWrong : ChangeSpec := { name := "tensorIs", fn := fun _ => fun
  | [d1, d2, d3] => { results := [.lit (.bool false)], args := [d1, d2, d3] }
  | _ => none }
def TensorIsWrongFalsely : Prop := tensorIsRow.holds Try.pinned (OpenSpec.ofChange tensorIsWrong)

/-- 'stepwelllaw05.TensorAt': WHATEVER THE INPUT: true; the input reads as it did. -/
def tensorAtSpec : ChangeSpec := { name := "tensorAt", fn := fun _ => fun
  | [d1, d2, d3] => { results := [.lit (.bool true)], args := [d1, d2, d3] }
  | _ => none }
def tensorAtRow : OpenClaim := { program := "ytkmcmaickopobaa", sum := "1e5f46af58b177085a157c519ff0f9285dc6a3abdacf3bb0bd7794314ef77814", func := "stepwell/stepwelllaw05.TensorAt", spec := "tensorAt", unfollowed := true, recurses := true, apart := false }
def TensorAtSaid : Prop := tensorAtRow.holds Try.pinned (OpenSpec.ofChange tensorAtSpec)

/-- ITS FALSE NEIGHBOUR: 'it returns false'. Refute it at one input. -/
def tensorAtWrong : ChangeSpec := { name := "tensorAt", fn := fun _ => fun
  | [d1, d2, d3] => { results := [.lit (.bool false)], args := [d1, d2, d3] }
  | _ => none }
def TensorAtWrongFalsely : Prop := tensorAtRow.holds Try.pinned (OpenSpec.ofChange tensorAtWrong)

/-- 'stepwelllaw05.TensorChannels': WHATEVER THE INPUT: true; the input reads as it did. -/
def tensorChannelsSpec : ChangeSpec := { name := "tensorChannels", fn := fun _ => fun
  | [d1, d2, d3] => { results := [.lit (.bool true)], args := [d1, d2, d3] }
  | _ => none }
def tensorChannelsRow : OpenClaim := { program := "ytkmcmaickopobaa", sum := "1e5f46af58b177085a157c519ff0f9285dc6a3abdacf3bb0bd7794314ef77814", func := "stepwell/stepwelllaw05.TensorChannels", spec := "tensorChannels", unfollowed := true, recurses := true, apart := false }
def TensorChannelsSaid : Prop := tensorChannelsRow.holds Try.pinned (OpenSpec.ofChange tensorChannelsSpec)

/-- ITS FALSE NEIGHBOUR: 'it returns false'. Refute it at one input. -/
def tensorChannelsWrong : ChangeSpec := { name := "tensorChannels", fn := fun _ => fun
  | [d1, d2, d3] => { results := [.lit (.bool false)], args := [d1, d2, d3] }
  | _ => none }
def TensorChannelsWrongFalsely : Prop := tensorChannelsRow.holds Try.pinned (OpenSpec.ofChange tensorChannelsWrong)

/- THE SECOND FORM. 'bulk': how many values and letters a reading holds, each counted each time it is reached (what is shared counts as often as it is met; a slice's spare places count too). A statement '..UptoSaid' is the law's where the arguments, and the package variables that the reading takes, are together of bulk at most 1048576: NARROWER than '..Said'. Prove '..Said' where nothing that the law and all that it calls make is longer than what came in: it says more and counts as full. Else prove '..UptoSaid'. A law counts once. -/
mutual
def uptoBulk {H : Type} : DataW H → Nat
  | .lit (.string bytes) => bytes.length + 1
  | .lit _ => 1
  | .nil => 1
  | .ptr d => uptoBulk d + 1
  | .slice elems spare => uptoBulkAll elems + uptoBulkAll spare + 1
  | .agg parts => uptoBulkAll parts + 1
  | .iface _ d => uptoBulk d + 1
  | .map entries => uptoBulkEntries entries + 1
  | .held _ => 1
def uptoBulkAll {H : Type} : List (DataW H) → Nat
  | [] => 0
  | d :: r => uptoBulk d + uptoBulkAll r
def uptoBulkEntries {H : Type} : List (Lit × DataW H) → Nat
  | [] => 0
  | x :: r => uptoBulkEntry x + uptoBulkEntries r
def uptoBulkEntry {H : Type} : Lit × DataW H → Nat
  | (.string bytes, d) => bytes.length + uptoBulk d + 1
  | (_, d) => uptoBulk d + 1
 end
def uptoSmall : (H : Type) → List (DataW H) → Bool := fun _ ds => decide (uptoBulkAll ds ≤ 1048576)
def OpenSpec.upto (s : _root_.Go.ChangeSpec) : _root_.Go.OpenSpec := { _root_.Go.OpenSpec.ofChange s with cond := some uptoSmall }

/-- 'stepwelllaw05.TensorIs', WHERE WHAT IT READS IS OF BULK AT MOST 1048576: true; the input reads as it did. -/
def tensorIsUptoRow : OpenClaim := { program := "ytkmcmaickopobaa", sum := "1e5f46af58b177085a157c519ff0f9285dc6a3abdacf3bb0bd7794314ef77814", func := "stepwell/stepwelllaw05.TensorIs", spec := "tensorIs", unfollowed := true, recurses := true, apart := false, narrowed := true }
def TensorIsUptoSaid : Prop := tensorIsUptoRow.holds Try.pinned (OpenSpec.upto tensorIsSpec)

/-- 'stepwelllaw05.TensorAt', WHERE WHAT IT READS IS OF BULK AT MOST 1048576: true; the input reads as it did. -/
def tensorAtUptoRow : OpenClaim := { program := "ytkmcmaickopobaa", sum := "1e5f46af58b177085a157c519ff0f9285dc6a3abdacf3bb0bd7794314ef77814", func := "stepwell/stepwelllaw05.TensorAt", spec := "tensorAt", unfollowed := true, recurses := true, apart := false, narrowed := true }
def TensorAtUptoSaid : Prop := tensorAtUptoRow.holds Try.pinned (OpenSpec.upto tensorAtSpec)

/-- 'stepwelllaw05.TensorChannels', WHERE WHAT IT READS IS OF BULK AT MOST 1048576: true; the input reads as it did. -/
def tensorChannelsUptoRow : OpenClaim := { program := "ytkmcmaickopobaa", sum := "1e5f46af58b177085a157c519ff0f9285dc6a3abdacf3bb0bd7794314ef77814", func := "stepwell/stepwelllaw05.TensorChannels", spec := "tensorChannels", unfollowed := true, recurses := true, apart := false, narrowed := true }
def TensorChannelsUptoSaid : Prop := tensorChannelsUptoRow.holds Try.pinned (OpenSpec.upto tensorChannelsSpec)

end Rows
end Go.Proofs.Ytkmcmaickopobaa
