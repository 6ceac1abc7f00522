/-
  No cell of these rows narrows 'for every input' (looked for: loops, veiled, ifaces, maps, wideKeys, modest, calm, conditions, laid).
  DERIVED. THE GIVEN ROWS OF THIS SEAT. 3 by the template 'for every input the law returns true; each argument reads behind the call as it read before'; 0 by the template 'total and deterministic' (their statements: YtbkbflhjfmkcoaaTotals.lean).
  GIVEN WITH THE SEED: the statements are not yours to turn. If you find one false, say at which input.
  Laid BY PROGRAM, IN A SANDBOX (cutbox-rows.mjs): the forced cells as the released guide's own fill.sh prints them over the translation 0ecaf6cf0a94f0ca… (all of the seat's roots in one cut). By AI agents, Wed Nov 11 2026. No macro, syntax, notation, axiom, sorry.
-/
import Derived.Test.YtbkbflhjfmkcoaaChecked
import GoSem.Claim
import GoSem.ClaimJoined
import GoSem.ClaimMapViews
import Derived.JoinedTies
import Derived.KernelRfl
namespace Go.Proofs.Ytbkbflhjfmkcoaa
/- THE CELL 'sum', in the pinned program and in every row, IS THE sha256 OF THE DUMP (.gsa) THAT YtbkbflhjfmkcoaaProg.lean LOADS. Nothing in Lean hashes anything: it is a label: what it is worth is what the hold of that sum in a sandbox is worth. -/
noncomputable def Try.pinned : Pinned := { name := "ytbkbflhjfmkcoaa", sum := "0ecaf6cf0a94f0ca003636ae8260398a1af0279d10568ec243fc3d438feacc5b", checked := Try.checked }
namespace Rows
def none {H : Type} : Left H := { results := [], args := [] }

/-- 'stepwelllaw12.GemmMul': WHATEVER THE INPUT: true; the input reads as it did. -/
def gemmMulSpec : ChangeSpec := { name := "gemmMul", fn := fun _ => fun
  | [d1, d2, d3, d4, d5] => { results := [.lit (.bool true)], args := [d1, d2, d3, d4, d5] }
  | _ => none }
def gemmMulRow : OpenClaim := { program := "ytbkbflhjfmkcoaa", sum := "0ecaf6cf0a94f0ca003636ae8260398a1af0279d10568ec243fc3d438feacc5b", func := "stepwell/stepwelllaw12.GemmMul", spec := "gemmMul", apart := false }
def GemmMulSaid : Prop := gemmMulRow.holds Try.pinned (OpenSpec.ofChange gemmMulSpec)

/-- ITS FALSE NEIGHBOUR: 'it returns false'. Refute it at one input. -/
def gemmMulWrong : ChangeSpec := { name := "gemmMul", fn := fun _ => fun
  | [d1, d2, d3, d4, d5] => { results := [.lit (.bool false)], args := [d1, d2, d3, d4, d5] }
  | _ => none }
def GemmMulWrongFalsely : Prop := gemmMulRow.holds Try.pinned (OpenSpec.ofChange gemmMulWrong)

/-- 'stepwelllaw12.GemmTurn': WHATEVER THE INPUT: true; the input reads as it did. -/
def gemmTurnSpec : ChangeSpec := { name := "gemmTurn", fn := fun _ => fun
  | [d1, d2, d3] => { results := [.lit (.bool true)], args := [d1, d2, d3] }
  | _ => none }
def gemmTurnRow : OpenClaim := { program := "ytbkbflhjfmkcoaa", sum := "0ecaf6cf0a94f0ca003636ae8260398a1af0279d10568ec243fc3d438feacc5b", func := "stepwell/stepwelllaw12.GemmTurn", spec := "gemmTurn", apart := false }
def GemmTurnSaid : Prop := gemmTurnRow.holds Try.pinned (OpenSpec.ofChange gemmTurnSpec)

/-- ITS FALSE NEIGHBOUR: 'it returns false'. Refute it at one input. -/
def gemmTurnWrong : ChangeSpec := { name := "gemmTurn", fn := fun _ => fun
  | [d1, d2, d3] => { results := [.lit (.bool false)], args := [d1, d2, d3] }
  | _ => none }
def GemmTurnWrongFalsely : Prop := gemmTurnRow.holds Try.pinned (OpenSpec.ofChange gemmTurnWrong)

/-- 'stepwelllaw12.GemmParts': WHATEVER THE INPUT: true; the input reads as it did. -/
def gemmPartsSpec : ChangeSpec := { name := "gemmParts", fn := fun _ => fun
  | [d1, d2, d3, d4, d5, d6] => { results := [.lit (.bool true)], args := [d1, d2, d3, d4, d5, d6] }
  | _ => none }
def gemmPartsRow : OpenClaim := { program := "ytbkbflhjfmkcoaa", sum := "0ecaf6cf0a94f0ca003636ae8260398a1af0279d10568ec243fc3d438feacc5b", func := "stepwell/stepwelllaw12.GemmParts", spec := "gemmParts", apart := false }
def GemmPartsSaid : Prop := gemmPartsRow.holds Try.pinned (OpenSpec.ofChange gemmPartsSpec)

/-- ITS FALSE NEIGHBOUR: 'it returns false'. Refute it at one input. -/
def gemmPartsWrong : ChangeSpec := { name := "gemmParts", fn := fun _ => fun
  | [d1, d2, d3, d4, d5, d6] => { results := [.lit (.bool false)], args := [d1, d2, d3, d4, d5, d6] }
  | _ => none }
def GemmPartsWrongFalsely : Prop := gemmPartsRow.holds Try.pinned (OpenSpec.ofChange gemmPartsWrong)

/- THE SECOND FORM. 'bulk': how many values and letters a reading holds, each counted each time it is reached (what is shared counts as often as it is met; a slice's spare places count too). A statement '..UptoSaid' is the law's where the arguments, and the package variables that the reading takes, are together of bulk at most 1048576: NARROWER than '..Said'. Prove '..Said' where nothing that the law and all that it calls make is longer than what came in: it says more and counts as full. Else prove '..UptoSaid'. A law counts once. -/
mutual
def uptoBulk {H : Type} : DataW H → Nat
  | .lit (.string bytes) => bytes.length + 1
  | .lit _ => 1
  | .nil => 1
  | .ptr d => uptoBulk d + 1
  | .slice elems spare => uptoBulkAll elems + uptoBulkAll spare + 1
  | .agg parts => uptoBulkAll parts + 1
  | .iface _ d => uptoBulk d + 1
  | .map entries => uptoBulkEntries entries + 1
  | .held _ => 1
def uptoBulkAll {H : Type} : List (DataW H) → Nat
  | [] => 0
  | d :: r => uptoBulk d + uptoBulkAll r
def uptoBulkEntries {H : Type} : List (Lit × DataW H) → Nat
  | [] => 0
  | x :: r => uptoBulkEntry x + uptoBulkEntries r
def uptoBulkEntry {H : Type} : Lit × DataW H → Nat
  | (.string bytes, d) => bytes.length + uptoBulk d + 1
  | (_, d) => uptoBulk d + 1
 end
def uptoSmall : (H : Type) → List (DataW H) → Bool := fun _ ds => decide (uptoBulkAll ds ≤ 1048576)
def OpenSpec.upto (s : _root_.Go.ChangeSpec) : _root_.Go.OpenSpec := { _root_.Go.OpenSpec.ofChange s with cond := some uptoSmall }

/-- 'stepwelllaw12.GemmMul', WHERE WHAT IT READS IS OF BULK AT MOST 1048576: true; the input reads as it did. -/
def gemmMulUptoRow : OpenClaim := { program := "ytbkbflhjfmkcoaa", sum := "0ecaf6cf0a94f0ca003636ae8260398a1af0279d10568ec243fc3d438feacc5b", func := "stepwell/stepwelllaw12.GemmMul", spec := "gemmMul", apart := false, narrowed := true }
def GemmMulUptoSaid : Prop := gemmMulUptoRow.holds Try.pinned (OpenSpec.upto gemmMulSpec)

/-- 'stepwelllaw12.GemmTurn', WHERE WHAT IT READS IS OF BULK AT MOST 1048576: true; the input reads as it did. -/
def gemmTurnUptoRow : OpenClaim := { program := "ytbkbflhjfmkcoaa", sum := "0ecaf6cf0a94f0ca003636ae8260398a1af0279d10568ec243fc3d438feacc5b", func := "stepwell/stepwelllaw12.GemmTurn", spec := "gemmTurn", apart := false, narrowed := true }
def GemmTurnUptoSaid : Prop := gemmTurnUptoRow.holds Try.pinned (OpenSpec.upto gemmTurnSpec)

/-- 'stepwelllaw12.GemmParts', WHERE WHAT IT READS IS OF BULK AT MOST 1048576: true; the input reads as it did. -/
def gemmPartsUptoRow : OpenClaim := { program := "ytbkbflhjfmkcoaa", sum := "0ecaf6cf0a94f0ca003636ae8260398a1af0279d10568ec243fc3d438feacc5b", func := "stepwell/stepwelllaw12.GemmParts", spec := "gemmParts", apart := false, narrowed := true }
def GemmPartsUptoSaid : Prop := gemmPartsUptoRow.holds Try.pinned (OpenSpec.upto gemmPartsSpec)

end Rows
end Go.Proofs.Ytbkbflhjfmkcoaa
