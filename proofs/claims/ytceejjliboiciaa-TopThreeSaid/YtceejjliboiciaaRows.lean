/-
  No cell of these rows narrows 'for every input' (looked for: loops, veiled, ifaces, maps, wideKeys, modest, calm, conditions, laid).
  DERIVED. THE GIVEN ROWS OF THIS SEAT. 2 by the template 'for every input the law returns true; each argument reads behind the call as it read before'; 0 by the template 'total and deterministic' (their statements: YtceejjliboiciaaTotals.lean).
  GIVEN WITH THE SEED: the statements are not yours to turn. If you find one false, say at which input.
  Laid BY PROGRAM, IN A SANDBOX (cutbox-rows.mjs): the forced cells as the released guide's own fill.sh prints them over the translation d29746900ee16c41… (all of the seat's roots in one cut). By AI agents, Wed Nov 11 2026. No macro, syntax, notation, axiom, sorry.
-/
import Derived.Test.YtceejjliboiciaaChecked
import GoSem.Claim
import GoSem.ClaimJoined
import GoSem.ClaimMapViews
import Derived.JoinedTies
import Derived.KernelRfl
namespace Go.Proofs.Ytceejjliboiciaa
/- THE CELL 'sum', in the pinned program and in every row, IS THE sha256 OF THE DUMP (.gsa) THAT YtceejjliboiciaaProg.lean LOADS. Nothing in Lean hashes anything: it is a label: what it is worth is what the hold of that sum in a sandbox is worth. -/
noncomputable def Try.pinned : Pinned := { name := "ytceejjliboiciaa", sum := "d29746900ee16c4151bfa0b9505cc1be1f8d89e343912d87d30bd8bc2275e392", checked := Try.checked }
namespace Rows
def none {H : Type} : Left H := { results := [], args := [] }

/-- 'stepwelllaw16.LaneMirror': WHATEVER THE INPUT: true; the input reads as it did. -/
def laneMirrorSpec : ChangeSpec := { name := "laneMirror", fn := fun _ => fun
  | [d1, d2] => { results := [.lit (.bool true)], args := [d1, d2] }
  | _ => none }
def laneMirrorRow : OpenClaim := { program := "ytceejjliboiciaa", sum := "d29746900ee16c4151bfa0b9505cc1be1f8d89e343912d87d30bd8bc2275e392", func := "stepwell/stepwelllaw16.LaneMirror", spec := "laneMirror", apart := false }
def LaneMirrorSaid : Prop := laneMirrorRow.holds Try.pinned (OpenSpec.ofChange laneMirrorSpec)

/-- ITS FALSE NEIGHBOUR: 'it returns false'. Refute it at one input. -/
def laneMirrorWrong : ChangeSpec := { name := "laneMirror", fn := fun _ => fun
  | [d1, d2] => { results := [.lit (.bool false)], args := [d1, d2] }
  | _ => none }
def LaneMirrorWrongFalsely : Prop := laneMirrorRow.holds Try.pinned (OpenSpec.ofChange laneMirrorWrong)

/-- 'stepwelltop.TopThree': WHATEVER THE INPUT: true; the input reads as it did. -/
def topThreeSpec : ChangeSpec := { name := "topThree", fn := fun _ => fun
  | [d1, d2] => { results := [.lit (.bool true)], args := [d1, d2] }
  | _ => none }
def topThreeRow : OpenClaim := { program := "ytceejjliboiciaa", sum := "d29746900ee16c4151bfa0b9505cc1be1f8d89e343912d87d30bd8bc2275e392", func := "stepwell/stepwelltop.TopThree", spec := "topThree", unfollowed := true, recurses := true, apart := false }
def TopThreeSaid : Prop := topThreeRow.holds Try.pinned (OpenSpec.ofChange topThreeSpec)

/-- ITS FALSE NEIGHBOUR: 'it returns false'. Refute it at one input. -/
def topThreeWrong : ChangeSpec := { name := "topThree", fn := fun _ => fun
  | [d1, d2] => { results := [.lit (.bool false)], args := [d1, d2] }
  | _ => none }
def TopThreeWrongFalsely : Prop := topThreeRow.holds Try.pinned (OpenSpec.ofChange topThreeWrong)

/- THE SECOND FORM. 'bulk': how many values and letters a reading holds, each counted each time it is reached (what is shared counts as often as it is met; a slice's spare places count too). A statement '..UptoSaid' is the law's where the arguments, and the package variables that the reading takes, are together of bulk at most 1048576: NARROWER than '..Said'. Prove '..Said' where nothing that the law and all that it calls make is longer than what came in: it says more and counts as full. Else prove '..UptoSaid'. A law counts once. -/
mutual
def uptoBulk {H : Type} : DataW H → Nat
  | .lit (.string bytes) => bytes.length + 1
  | .lit _ => 1
  | .nil => 1
  | .ptr d => uptoBulk d + 1
  | .slice elems spare => uptoBulkAll elems + uptoBulkAll spare + 1
  | .agg parts => uptoBulkAll parts + 1
  | .iface _ d => uptoBulk d + 1
  | .map entries => uptoBulkEntries entries + 1
  | .held _ => 1
def uptoBulkAll {H : Type} : List (DataW H) → Nat
  | [] => 0
  | d :: r => uptoBulk d + uptoBulkAll r
def uptoBulkEntries {H : Type} : List (Lit × DataW H) → Nat
  | [] => 0
  | x :: r => uptoBulkEntry x + uptoBulkEntries r
def uptoBulkEntry {H : Type} : Lit × DataW H → Nat
  | (.string bytes, d) => bytes.length + uptoBulk d + 1
  | (_, d) => uptoBulk d + 1
 end
def uptoSmall : (H : Type) → List (DataW H) → Bool := fun _ ds => decide (uptoBulkAll ds ≤ 1048576)
def OpenSpec.upto (s : _root_.Go.ChangeSpec) : _root_.Go.OpenSpec := { _root_.Go.OpenSpec.ofChange s with cond := some uptoSmall }

/-- 'stepwelllaw16.LaneMirror', WHERE WHAT IT READS IS OF BULK AT MOST 1048576: true; the input reads as it did. -/
def laneMirrorUptoRow : OpenClaim := { program := "ytceejjliboiciaa", sum := "d29746900ee16c4151bfa0b9505cc1be1f8d89e343912d87d30bd8bc2275e392", func := "stepwell/stepwelllaw16.LaneMirror", spec := "laneMirror", apart := false, narrowed := true }
def LaneMirrorUptoSaid : Prop := laneMirrorUptoRow.holds Try.pinned (OpenSpec.upto laneMirrorSpec)

/-- 'stepwelltop.TopThree', WHERE WHAT IT READS IS OF BULK AT MOST 1048576: true; the input reads as it did. -/
def topThreeUptoRow : OpenClaim := { program := "ytceejjliboiciaa", sum := "d29746900ee16c4151bfa0b9505cc1be1f8d89e343912d87d30bd8bc2275e392", func := "stepwell/stepwelltop.TopThree", spec := "topThree", unfollowed := true, recurses := true, apart := false, narrowed := true }
def TopThreeUptoSaid : Prop := topThreeUptoRow.holds Try.pinned (OpenSpec.upto topThreeSpec)

end Rows
end Go.Proofs.Ytceejjliboiciaa
