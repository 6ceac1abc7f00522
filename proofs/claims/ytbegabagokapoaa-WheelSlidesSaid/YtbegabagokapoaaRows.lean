/-
  No cell of these rows narrows 'for every input' (looked for: loops, veiled, ifaces, maps, wideKeys, modest, calm, conditions, laid).
  DERIVED. THE GIVEN ROWS OF THIS SEAT. 3 by the template 'for every input the law returns true; each argument reads behind the call as it read before'; 0 by the template 'total and deterministic' (their statements: YtbegabagokapoaaTotals.lean).
  GIVEN WITH THE SEED: the statements are not yours to turn. If you find one false, say at which input.
  Laid BY PROGRAM, IN A SANDBOX (cutbox-rows.mjs): the forced cells as the released guide's own fill.sh prints them over the translation 68885ec66913f869… (all of the seat's roots in one cut). By AI agents, Wed Nov 11 2026. No macro, syntax, notation, axiom, sorry.
-/
import Derived.Test.YtbegabagokapoaaChecked
import GoSem.Claim
import GoSem.ClaimJoined
import GoSem.ClaimMapViews
import Derived.JoinedTies
import Derived.KernelRfl
namespace Go.Proofs.Ytbegabagokapoaa
/- THE CELL 'sum', in the pinned program and in every row, IS THE sha256 OF THE DUMP (.gsa) THAT YtbegabagokapoaaProg.lean LOADS. Nothing in Lean hashes anything: it is a label: what it is worth is what the hold of that sum in a sandbox is worth. -/
noncomputable def Try.pinned : Pinned := { name := "ytbegabagokapoaa", sum := "68885ec66913f869e05bbe5cafe13e030de0e27bc348231f133843f227200291", checked := Try.checked }
namespace Rows
def none {H : Type} : Left H := { results := [], args := [] }

/-- 'stepwelllaw15.WheelSlides': WHATEVER THE INPUT: true; the input reads as it did. -/
def wheelSlidesSpec : ChangeSpec := { name := "wheelSlides", fn := fun _ => fun
  | [d1, d2, d3, d4] => { results := [.lit (.bool true)], args := [d1, d2, d3, d4] }
  | _ => none }
def wheelSlidesRow : OpenClaim := { program := "ytbegabagokapoaa", sum := "68885ec66913f869e05bbe5cafe13e030de0e27bc348231f133843f227200291", func := "stepwell/stepwelllaw15.WheelSlides", spec := "wheelSlides", apart := false }
def WheelSlidesSaid : Prop := wheelSlidesRow.holds Try.pinned (OpenSpec.ofChange wheelSlidesSpec)

/-- ITS FALSE NEIGHBOUR: 'it returns false'. Refute it at one input. -/
def wheelSlidesWrong : ChangeSpec := { name := "wheelSlides", fn := fun _ => fun
  | [d1, d2, d3, d4] => { results := [.lit (.bool false)], args := [d1, d2, d3, d4] }
  | _ => none }
def WheelSlidesWrongFalsely : Prop := wheelSlidesRow.holds Try.pinned (OpenSpec.ofChange wheelSlidesWrong)

/-- 'stepwelllaw15.WheelMany': WHATEVER THE INPUT: true; the input reads as it did. -/
def wheelManySpec : ChangeSpec := { name := "wheelMany", fn := fun _ => fun
  | [d1, d2] => { results := [.lit (.bool true)], args := [d1, d2] }
  | _ => none }
def wheelManyRow : OpenClaim := { program := "ytbegabagokapoaa", sum := "68885ec66913f869e05bbe5cafe13e030de0e27bc348231f133843f227200291", func := "stepwell/stepwelllaw15.WheelMany", spec := "wheelMany", apart := false }
def WheelManySaid : Prop := wheelManyRow.holds Try.pinned (OpenSpec.ofChange wheelManySpec)

/-- ITS FALSE NEIGHBOUR: 'it returns false'. Refute it at one input. -/
def wheelManyWrong : ChangeSpec := { name := "wheelMany", fn := fun _ => fun
  | [d1, d2] => { results := [.lit (.bool false)], args := [d1, d2] }
  | _ => none }
def WheelManyWrongFalsely : Prop := wheelManyRow.holds Try.pinned (OpenSpec.ofChange wheelManyWrong)

/-- 'stepwelllaw15.WheelTwice': WHATEVER THE INPUT: true; the input reads as it did. -/
def wheelTwiceSpec : ChangeSpec := { name := "wheelTwice", fn := fun _ => fun
  | [d1, d2, d3] => { results := [.lit (.bool true)], args := [d1, d2, d3] }
  | _ => none }
def wheelTwiceRow : OpenClaim := { program := "ytbegabagokapoaa", sum := "68885ec66913f869e05bbe5cafe13e030de0e27bc348231f133843f227200291", func := "stepwell/stepwelllaw15.WheelTwice", spec := "wheelTwice", apart := false }
def WheelTwiceSaid : Prop := wheelTwiceRow.holds Try.pinned (OpenSpec.ofChange wheelTwiceSpec)

/-- ITS FALSE NEIGHBOUR: 'it returns false'. Refute it at one input. -/
def wheelTwiceWrong : ChangeSpec := { name := "wheelTwice", fn := fun _ => fun
  | [d1, d2, d3] => { results := [.lit (.bool false)], args := [d1, d2, d3] }
  | _ => none }
def WheelTwiceWrongFalsely : Prop := wheelTwiceRow.holds Try.pinned (OpenSpec.ofChange wheelTwiceWrong)

/- THE SECOND FORM. 'bulk': how many values and letters a reading holds, each counted each time it is reached (what is shared counts as often as it is met; a slice's spare places count too). A statement '..UptoSaid' is the law's where the arguments, and the package variables that the reading takes, are together of bulk at most 1048576: NARROWER than '..Said'. Prove '..Said' where nothing that the law and all that it calls make is longer than what came in: it says more and counts as full. Else prove '..UptoSaid'. A law counts once. -/
mutual
def uptoBulk {H : Type} : DataW H → Nat
  | .lit (.string bytes) => bytes.length + 1
  | .lit _ => 1
  | .nil => 1
  | .ptr d => uptoBulk d + 1
  | .slice elems spare => uptoBulkAll elems + uptoBulkAll spare + 1
  | .agg parts => uptoBulkAll parts + 1
  | .iface _ d => uptoBulk d + 1
  | .map entries => uptoBulkEntries entries + 1
  | .held _ => 1
def uptoBulkAll {H : Type} : List (DataW H) → Nat
  | [] => 0
  | d :: r => uptoBulk d + uptoBulkAll r
def uptoBulkEntries {H : Type} : List (Lit × DataW H) → Nat
  | [] => 0
  | x :: r => uptoBulkEntry x + uptoBulkEntries r
def uptoBulkEntry {H : Type} : Lit × DataW H → Nat
  | (.string bytes, d) => bytes.length + uptoBulk d + 1
  | (_, d) => uptoBulk d + 1
 end
def uptoSmall : (H : Type) → List (DataW H) → Bool := fun _ ds => decide (uptoBulkAll ds ≤ 1048576)
def OpenSpec.upto (s : _root_.Go.ChangeSpec) : _root_.Go.OpenSpec := { _root_.Go.OpenSpec.ofChange s with cond := some uptoSmall }

/-- 'stepwelllaw15.WheelSlides', WHERE WHAT IT READS IS OF BULK AT MOST 1048576: true; the input reads as it did. -/
def wheelSlidesUptoRow : OpenClaim := { program := "ytbegabagokapoaa", sum := "68885ec66913f869e05bbe5cafe13e030de0e27bc348231f133843f227200291", func := "stepwell/stepwelllaw15.WheelSlides", spec := "wheelSlides", apart := false, narrowed := true }
def WheelSlidesUptoSaid : Prop := wheelSlidesUptoRow.holds Try.pinned (OpenSpec.upto wheelSlidesSpec)

/-- 'stepwelllaw15.WheelMany', WHERE WHAT IT READS IS OF BULK AT MOST 1048576: true; the input reads as it did. -/
def wheelManyUptoRow : OpenClaim := { program := "ytbegabagokapoaa", sum := "68885ec66913f869e05bbe5cafe13e030de0e27bc348231f133843f227200291", func := "stepwell/stepwelllaw15.WheelMany", spec := "wheelMany", apart := false, narrowed := true }
def WheelManyUptoSaid : Prop := wheelManyUptoRow.holds Try.pinned (OpenSpec.upto wheelManySpec)

/-- 'stepwelllaw15.WheelTwice', WHERE WHAT IT READS IS OF BULK AT MOST 1048576: true; the input reads as it did. -/
def wheelTwiceUptoRow : OpenClaim := { program := "ytbegabagokapoaa", sum := "68885ec66913f869e05bbe5cafe13e030de0e27bc348231f133843f227200291", func := "stepwell/stepwelllaw15.WheelTwice", spec := "wheelTwice", apart := false, narrowed := true }
def WheelTwiceUptoSaid : Prop := wheelTwiceUptoRow.holds Try.pinned (OpenSpec.upto wheelTwiceSpec)

end Rows
end Go.Proofs.Ytbegabagokapoaa
