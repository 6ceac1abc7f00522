/-
  No cell of these rows narrows 'for every input' (looked for: loops, veiled, ifaces, maps, wideKeys, modest, calm, conditions, laid).
  DERIVED. THE GIVEN ROWS OF THIS SEAT. 3 by the template 'for every input the law returns true; each argument reads behind the call as it read before'; 0 by the template 'total and deterministic' (their statements: YtmjcjdgdpecpjaaTotals.lean).
  GIVEN WITH THE SEED: the statements are not yours to turn. If you find one false, say at which input.
  Laid BY PROGRAM, IN A SANDBOX (cutbox-rows.mjs): the forced cells as the released guide's own fill.sh prints them over the translation b6830399ec2981d3… (all of the seat's roots in one cut). By AI agents, Wed Nov 11 2026. No macro, syntax, notation, axiom, sorry.
-/
import Derived.Test.YtmjcjdgdpecpjaaChecked
import GoSem.Claim
import GoSem.ClaimJoined
import GoSem.ClaimMapViews
import Derived.JoinedTies
import Derived.KernelRfl
namespace Go.Proofs.Ytmjcjdgdpecpjaa
/- THE CELL 'sum', in the pinned program and in every row, IS THE sha256 OF THE DUMP (.gsa) THAT YtmjcjdgdpecpjaaProg.lean LOADS. Nothing in Lean hashes anything: it is a label: what it is worth is what the hold of that sum in a sandbox is worth. -/
noncomputable def Try.pinned : Pinned := { name := "ytmjcjdgdpecpjaa", sum := "b6830399ec2981d3c278ff5e7f6d5b744e53b4ebd059d349740d0847ebb4b80a", checked := Try.checked }
namespace Rows
def none {H : Type} : Left H := { results := [], args := [] }

/-- 'stepwelllaw23.TurnTensors': WHATEVER THE INPUT: true; the input reads as it did. -/
def turnTensorsSpec : ChangeSpec := { name := "turnTensors", fn := fun _ => fun
  | [d1, d2] => { results := [.lit (.bool true)], args := [d1, d2] }
  | _ => none }
def turnTensorsRow : OpenClaim := { program := "ytmjcjdgdpecpjaa", sum := "b6830399ec2981d3c278ff5e7f6d5b744e53b4ebd059d349740d0847ebb4b80a", func := "stepwell/stepwelllaw23.TurnTensors", spec := "turnTensors", unfollowed := true, recurses := true, apart := false }
def TurnTensorsSaid : Prop := turnTensorsRow.holds Try.pinned (OpenSpec.ofChange turnTensorsSpec)

/-- ITS FALSE NEIGHBOUR: 'it returns false'. Refute it at one input. -/
def turnTensorsWrong : ChangeSpec := { name := "turnTensors", fn := fun _ => fun
  | [d1, d2] => { results := [.lit (.bool false)], args := [d1, d2] }
  | _ => none }
def TurnTensorsWrongFalsely : Prop := turnTensorsRow.holds Try.pinned (OpenSpec.ofChange turnTensorsWrong)

/-- 'stepwelllaw23.TurnAgain': WHATEVER THE INPUT: true; the input reads as it did. -/
def turnAgainSpec : ChangeSpec := { name := "turnAgain", fn := fun _ => fun
  | [d1, d2, d3] => { results := [.lit (.bool true)], args := [d1, d2, d3] }
  | _ => none }
def turnAgainRow : OpenClaim := { program := "ytmjcjdgdpecpjaa", sum := "b6830399ec2981d3c278ff5e7f6d5b744e53b4ebd059d349740d0847ebb4b80a", func := "stepwell/stepwelllaw23.TurnAgain", spec := "turnAgain", unfollowed := true, recurses := true, apart := false }
def TurnAgainSaid : Prop := turnAgainRow.holds Try.pinned (OpenSpec.ofChange turnAgainSpec)

/-- ITS FALSE NEIGHBOUR: 'it returns false'. Refute it at one input. -/
def turnAgainWrong : ChangeSpec := { name := "turnAgain", fn := fun _ => fun
  | [d1, d2, d3] => { results := [.lit (.bool false)], args := [d1, d2, d3] }
  | _ => none }
def TurnAgainWrongFalsely : Prop := turnAgainRow.holds Try.pinned (OpenSpec.ofChange turnAgainWrong)

/-- 'stepwelllaw23.TurnViews': WHATEVER THE INPUT: true; the input reads as it did. -/
def turnViewsSpec : ChangeSpec := { name := "turnViews", fn := fun _ => fun
  | [d1, d2] => { results := [.lit (.bool true)], args := [d1, d2] }
  | _ => none }
def turnViewsRow : OpenClaim := { program := "ytmjcjdgdpecpjaa", sum := "b6830399ec2981d3c278ff5e7f6d5b744e53b4ebd059d349740d0847ebb4b80a", func := "stepwell/stepwelllaw23.TurnViews", spec := "turnViews", unfollowed := true, recurses := true, apart := false }
def TurnViewsSaid : Prop := turnViewsRow.holds Try.pinned (OpenSpec.ofChange turnViewsSpec)

/-- ITS FALSE NEIGHBOUR: 'it returns false'. Refute it at one input. -/
def turnViewsWrong : ChangeSpec := { name := "turnViews", fn := fun _ => fun
  | [d1, d2] => { results := [.lit (.bool false)], args := [d1, d2] }
  | _ => none }
def TurnViewsWrongFalsely : Prop := turnViewsRow.holds Try.pinned (OpenSpec.ofChange turnViewsWrong)

/- THE SECOND FORM. 'bulk': how many values and letters a reading holds, each counted each time it is reached (what is shared counts as often as it is met; a slice's spare places count too). A statement '..UptoSaid' is the law's where the arguments, and the package variables that the reading takes, are together of bulk at most 1048576: NARROWER than '..Said'. Prove '..Said' where nothing that the law and all that it calls make is longer than what came in: it says more and counts as full. Else prove '..UptoSaid'. A law counts once. -/
mutual
def uptoBulk {H : Type} : DataW H → Nat
  | .lit (.string bytes) => bytes.length + 1
  | .lit _ => 1
  | .nil => 1
  | .ptr d => uptoBulk d + 1
  | .slice elems spare => uptoBulkAll elems + uptoBulkAll spare + 1
  | .agg parts => uptoBulkAll parts + 1
  | .iface _ d => uptoBulk d + 1
  | .map entries => uptoBulkEntries entries + 1
  | .held _ => 1
def uptoBulkAll {H : Type} : List (DataW H) → Nat
  | [] => 0
  | d :: r => uptoBulk d + uptoBulkAll r
def uptoBulkEntries {H : Type} : List (Lit × DataW H) → Nat
  | [] => 0
  | x :: r => uptoBulkEntry x + uptoBulkEntries r
def uptoBulkEntry {H : Type} : Lit × DataW H → Nat
  | (.string bytes, d) => bytes.length + uptoBulk d + 1
  | (_, d) => uptoBulk d + 1
 end
def uptoSmall : (H : Type) → List (DataW H) → Bool := fun _ ds => decide (uptoBulkAll ds ≤ 1048576)
def OpenSpec.upto (s : _root_.Go.ChangeSpec) : _root_.Go.OpenSpec := { _root_.Go.OpenSpec.ofChange s with cond := some uptoSmall }

/-- 'stepwelllaw23.TurnTensors', WHERE WHAT IT READS IS OF BULK AT MOST 1048576: true; the input reads as it did. -/
def turnTensorsUptoRow : OpenClaim := { program := "ytmjcjdgdpecpjaa", sum := "b6830399ec2981d3c278ff5e7f6d5b744e53b4ebd059d349740d0847ebb4b80a", func := "stepwell/stepwelllaw23.TurnTensors", spec := "turnTensors", unfollowed := true, recurses := true, apart := false, narrowed := true }
def TurnTensorsUptoSaid : Prop := turnTensorsUptoRow.holds Try.pinned (OpenSpec.upto turnTensorsSpec)

/-- 'stepwelllaw23.TurnAgain', WHERE WHAT IT READS IS OF BULK AT MOST 1048576: true; the input reads as it did. -/
def turnAgainUptoRow : OpenClaim := { program := "ytmjcjdgdpecpjaa", sum := "b6830399ec2981d3c278ff5e7f6d5b744e53b4ebd059d349740d0847ebb4b80a", func := "stepwell/stepwelllaw23.TurnAgain", spec := "turnAgain", unfollowed := true, recurses := true, apart := false, narrowed := true }
def TurnAgainUptoSaid : Prop := turnAgainUptoRow.holds Try.pinned (OpenSpec.upto turnAgainSpec)

/-- 'stepwelllaw23.TurnViews', WHERE WHAT IT READS IS OF BULK AT MOST 1048576: true; the input reads as it did. -/
def turnViewsUptoRow : OpenClaim := { program := "ytmjcjdgdpecpjaa", sum := "b6830399ec2981d3c278ff5e7f6d5b744e53b4ebd059d349740d0847ebb4b80a", func := "stepwell/stepwelllaw23.TurnViews", spec := "turnViews", unfollowed := true, recurses := true, apart := false, narrowed := true }
def TurnViewsUptoSaid : Prop := turnViewsUptoRow.holds Try.pinned (OpenSpec.upto turnViewsSpec)

end Rows
end Go.Proofs.Ytmjcjdgdpecpjaa
