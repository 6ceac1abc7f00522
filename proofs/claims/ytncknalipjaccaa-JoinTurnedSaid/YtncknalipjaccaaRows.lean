/-
  No cell of these rows narrows 'for every input' (looked for: loops, veiled, ifaces, maps, wideKeys, modest, calm, conditions, laid).
  DERIVED. THE GIVEN ROWS OF THIS SEAT. 3 by the template 'for every input the law returns true; each argument reads behind the call as it read before'; 0 by the template 'total and deterministic' (their statements: YtncknalipjaccaaTotals.lean).
  GIVEN WITH THE SEED: the statements are not yours to turn. If you find one false, say at which input.
  Laid BY PROGRAM, IN A SANDBOX (cutbox-rows.mjs): the forced cells as the released guide's own fill.sh prints them over the translation a221ad153ac09bcd… (all of the seat's roots in one cut). By AI agents, Wed Nov 11 2026. No macro, syntax, notation, axiom, sorry.
-/
import Derived.Test.YtncknalipjaccaaChecked
import GoSem.Claim
import GoSem.ClaimJoined
import GoSem.ClaimMapViews
import Derived.JoinedTies
import Derived.KernelRfl
namespace Go.Proofs.Ytncknalipjaccaa
/- THE CELL 'sum', in the pinned program and in every row, IS THE sha256 OF THE DUMP (.gsa) THAT YtncknalipjaccaaProg.lean LOADS. Nothing in Lean hashes anything: it is a label: what it is worth is what the hold of that sum in a sandbox is worth. -/
noncomputable def Try.pinned : Pinned := { name := "ytncknalipjaccaa", sum := "a221ad153ac09bcd7c794c32feddc2e1afc2c2cb7854dbbcfdd430ec0001affc", checked := Try.checked }
namespace Rows
def none {H : Type} : Left H := { results := [], args := [] }

/-- 'stepwelllaw20.JoinTensors': WHATEVER THE INPUT: true; the input reads as it did. -/
def joinTensorsSpec : ChangeSpec := { name := "joinTensors", fn := fun _ => fun
  | [d1, d2, d3, d4, d5] => { results := [.lit (.bool true)], args := [d1, d2, d3, d4, d5] }
  | _ => none }
def joinTensorsRow : OpenClaim := { program := "ytncknalipjaccaa", sum := "a221ad153ac09bcd7c794c32feddc2e1afc2c2cb7854dbbcfdd430ec0001affc", func := "stepwell/stepwelllaw20.JoinTensors", spec := "joinTensors", unfollowed := true, recurses := true, apart := false }
def JoinTensorsSaid : Prop := joinTensorsRow.holds Try.pinned (OpenSpec.ofChange joinTensorsSpec)

/-- ITS FALSE NEIGHBOUR: 'it returns false'. Refute it at one input. -/
def joinTensorsWrong : ChangeSpec := { name := "joinTensors", fn := fun _ => fun
  | [d1, d2, d3, d4, d5] => { results := [.lit (.bool false)], args := [d1, d2, d3, d4, d5] }
  | _ => none }
def JoinTensorsWrongFalsely : Prop := joinTensorsRow.holds Try.pinned (OpenSpec.ofChange joinTensorsWrong)

/-- 'stepwelllaw20.JoinTurned': WHATEVER THE INPUT: true; the input reads as it did. -/
def joinTurnedSpec : ChangeSpec := { name := "joinTurned", fn := fun _ => fun
  | [d1, d2, d3] => { results := [.lit (.bool true)], args := [d1, d2, d3] }
  | _ => none }
def joinTurnedRow : OpenClaim := { program := "ytncknalipjaccaa", sum := "a221ad153ac09bcd7c794c32feddc2e1afc2c2cb7854dbbcfdd430ec0001affc", func := "stepwell/stepwelllaw20.JoinTurned", spec := "joinTurned", unfollowed := true, recurses := true, apart := false }
def JoinTurnedSaid : Prop := joinTurnedRow.holds Try.pinned (OpenSpec.ofChange joinTurnedSpec)

/-- ITS FALSE NEIGHBOUR: 'it returns false'. Refute it at one input. -/
def joinTurnedWrong : ChangeSpec := { name := "joinTurned", fn := fun _ => fun
  | [d1, d2, d3] => { results := [.lit (.bool false)], args := [d1, d2, d3] }
  | _ => none }
def JoinTurnedWrongFalsely : Prop := joinTurnedRow.holds Try.pinned (OpenSpec.ofChange joinTurnedWrong)

/-- 'stepwelllaw20.JoinRises': WHATEVER THE INPUT: true; the input reads as it did. -/
def joinRisesSpec : ChangeSpec := { name := "joinRises", fn := fun _ => fun
  | [d1, d2, d3, d4] => { results := [.lit (.bool true)], args := [d1, d2, d3, d4] }
  | _ => none }
def joinRisesRow : OpenClaim := { program := "ytncknalipjaccaa", sum := "a221ad153ac09bcd7c794c32feddc2e1afc2c2cb7854dbbcfdd430ec0001affc", func := "stepwell/stepwelllaw20.JoinRises", spec := "joinRises", apart := false }
def JoinRisesSaid : Prop := joinRisesRow.holds Try.pinned (OpenSpec.ofChange joinRisesSpec)

/-- ITS FALSE NEIGHBOUR: 'it returns false'. Refute it at one input. -/
def joinRisesWrong : ChangeSpec := { name := "joinRises", fn := fun _ => fun
  | [d1, d2, d3, d4] => { results := [.lit (.bool false)], args := [d1, d2, d3, d4] }
  | _ => none }
def JoinRisesWrongFalsely : Prop := joinRisesRow.holds Try.pinned (OpenSpec.ofChange joinRisesWrong)

/- THE SECOND FORM. 'bulk': how many values and letters a reading holds, each counted each time it is reached (what is shared counts as often as it is met; a slice's spare places count too). A statement '..UptoSaid' is the law's where the arguments, and the package variables that the reading takes, are together of bulk at most 1048576: NARROWER than '..Said'. Prove '..Said' where nothing that the law and all that it calls make is longer than what came in: it says more and counts as full. Else prove '..UptoSaid'. A law counts once. -/
mutual
def uptoBulk {H : Type} : DataW H → Nat
  | .lit (.string bytes) => bytes.length + 1
  | .lit _ => 1
  | .nil => 1
  | .ptr d => uptoBulk d + 1
  | .slice elems spare => uptoBulkAll elems + uptoBulkAll spare + 1
  | .agg parts => uptoBulkAll parts + 1
  | .iface _ d => uptoBulk d + 1
  | .map entries => uptoBulkEntries entries + 1
  | .held _ => 1
def uptoBulkAll {H : Type} : List (DataW H) → Nat
  | [] => 0
  | d :: r => uptoBulk d + uptoBulkAll r
def uptoBulkEntries {H : Type} : List (Lit × DataW H) → Nat
  | [] => 0
  | x :: r => uptoBulkEntry x + uptoBulkEntries r
def uptoBulkEntry {H : Type} : Lit × DataW H → Nat
  | (.string bytes, d) => bytes.length + uptoBulk d + 1
  | (_, d) => uptoBulk d + 1
 end
def uptoSmall : (H : Type) → List (DataW H) → Bool := fun _ ds => decide (uptoBulkAll ds ≤ 1048576)
def OpenSpec.upto (s : _root_.Go.ChangeSpec) : _root_.Go.OpenSpec := { _root_.Go.OpenSpec.ofChange s with cond := some uptoSmall }

/-- 'stepwelllaw20.JoinTensors', WHERE WHAT IT READS IS OF BULK AT MOST 1048576: true; the input reads as it did. -/
def joinTensorsUptoRow : OpenClaim := { program := "ytncknalipjaccaa", sum := "a221ad153ac09bcd7c794c32feddc2e1afc2c2cb7854dbbcfdd430ec0001affc", func := "stepwell/stepwelllaw20.JoinTensors", spec := "joinTensors", unfollowed := true, recurses := true, apart := false, narrowed := true }
def JoinTensorsUptoSaid : Prop := joinTensorsUptoRow.holds Try.pinned (OpenSpec.upto joinTensorsSpec)

/-- 'stepwelllaw20.JoinTurned', WHERE WHAT IT READS IS OF BULK AT MOST 1048576: true; the input reads as it did. -/
def joinTurnedUptoRow : OpenClaim := { program := "ytncknalipjaccaa", sum := "a221ad153ac09bcd7c794c32feddc2e1afc2c2cb7854dbbcfdd430ec0001affc", func := "stepwell/stepwelllaw20.JoinTurned", spec := "joinTurned", unfollowed := true, recurses := true, apart := false, narrowed := true }
def JoinTurnedUptoSaid : Prop := joinTurnedUptoRow.holds Try.pinned (OpenSpec.upto joinTurnedSpec)

/-- 'stepwelllaw20.JoinRises', WHERE WHAT IT READS IS OF BULK AT MOST 1048576: true; the input reads as it did. -/
def joinRisesUptoRow : OpenClaim := { program := "ytncknalipjaccaa", sum := "a221ad153ac09bcd7c794c32feddc2e1afc2c2cb7854dbbcfdd430ec0001affc", func := "stepwell/stepwelllaw20.JoinRises", spec := "joinRises", apart := false, narrowed := true }
def JoinRisesUptoSaid : Prop := joinRisesUptoRow.holds Try.pinned (OpenSpec.upto joinRisesSpec)

end Rows
end Go.Proofs.Ytncknalipjaccaa
