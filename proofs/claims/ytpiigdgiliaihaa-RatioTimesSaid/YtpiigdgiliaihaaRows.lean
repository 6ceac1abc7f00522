/-
  No cell of these rows narrows 'for every input' (looked for: loops, veiled, ifaces, maps, wideKeys, modest, calm, conditions, laid).
  DERIVED. THE GIVEN ROWS OF THIS SEAT. 4 by the template 'for every input the law returns true; each argument reads behind the call as it read before'; 0 by the template 'total and deterministic' (their statements: YtpiigdgiliaihaaTotals.lean).
  GIVEN WITH THE SEED: the statements are not yours to turn. If you find one false, say at which input.
  Laid BY PROGRAM, IN A SANDBOX (cutbox-rows.mjs): the forced cells as the released guide's own fill.sh prints them over the translation 01fd81b32104e3ba… (all of the seat's roots in one cut). By AI agents, Wed Nov 11 2026. No macro, syntax, notation, axiom, sorry.
-/
import Derived.Test.YtpiigdgiliaihaaChecked
import GoSem.Claim
import GoSem.ClaimJoined
import GoSem.ClaimMapViews
import Derived.JoinedTies
import Derived.KernelRfl
namespace Go.Proofs.Ytpiigdgiliaihaa
/- THE CELL 'sum', in the pinned program and in every row, IS THE sha256 OF THE DUMP (.gsa) THAT YtpiigdgiliaihaaProg.lean LOADS. Nothing in Lean hashes anything: it is a label: what it is worth is what the hold of that sum in a sandbox is worth. -/
noncomputable def Try.pinned : Pinned := { name := "ytpiigdgiliaihaa", sum := "01fd81b32104e3ba06d643b720de9785238ebf00e0b7169caed059fbfdc2bbd4", checked := Try.checked }
namespace Rows
def none {H : Type} : Left H := { results := [], args := [] }

/-- 'stepwelllaw03.RatioOf': WHATEVER THE INPUT: true; the input reads as it did. -/
def ratioOfSpec : ChangeSpec := { name := "ratioOf", fn := fun _ => fun
  | [d1, d2] => { results := [.lit (.bool true)], args := [d1, d2] }
  | _ => none }
def ratioOfRow : OpenClaim := { program := "ytpiigdgiliaihaa", sum := "01fd81b32104e3ba06d643b720de9785238ebf00e0b7169caed059fbfdc2bbd4", func := "stepwell/stepwelllaw03.RatioOf", spec := "ratioOf", apart := false }
def RatioOfSaid : Prop := ratioOfRow.holds Try.pinned (OpenSpec.ofChange ratioOfSpec)

/-- ITS FALSE NEIGHBOUR: 'it returns false'. Refute it at one input. -/
def ratioOfWrong : ChangeSpec := { name := "ratioOf", fn := fun _ => fun
  | [d1, d2] => { results := [.lit (.bool false)], args := [d1, d2] }
  | _ => none }
def RatioOfWrongFalsely : Prop := ratioOfRow.holds Try.pinned (OpenSpec.ofChange ratioOfWrong)

/-- 'stepwelllaw03.RatioBetween': WHATEVER THE INPUT: true; the input reads as it did. -/
def ratioBetweenSpec : ChangeSpec := { name := "ratioBetween", fn := fun _ => fun
  | [d1, d2] => { results := [.lit (.bool true)], args := [d1, d2] }
  | _ => none }
def ratioBetweenRow : OpenClaim := { program := "ytpiigdgiliaihaa", sum := "01fd81b32104e3ba06d643b720de9785238ebf00e0b7169caed059fbfdc2bbd4", func := "stepwell/stepwelllaw03.RatioBetween", spec := "ratioBetween", apart := false }
def RatioBetweenSaid : Prop := ratioBetweenRow.holds Try.pinned (OpenSpec.ofChange ratioBetweenSpec)

/-- ITS FALSE NEIGHBOUR: 'it returns false'. Refute it at one input. -/
def ratioBetweenWrong : ChangeSpec := { name := "ratioBetween", fn := fun _ => fun
  | [d1, d2] => { results := [.lit (.bool false)], args := [d1, d2] }
  | _ => none }
def RatioBetweenWrongFalsely : Prop := ratioBetweenRow.holds Try.pinned (OpenSpec.ofChange ratioBetweenWrong)

/-- 'stepwelllaw03.RatioTimes': WHATEVER THE INPUT: true; the input reads as it did. -/
def ratioTimesSpec : ChangeSpec := { name := "ratioTimes", fn := fun _ => fun
  | [d1, d2] => { results := [.lit (.bool true)], args := [d1, d2] }
  | _ => none }
def ratioTimesRow : OpenClaim := { program := "ytpiigdgiliaihaa", sum := "01fd81b32104e3ba06d643b720de9785238ebf00e0b7169caed059fbfdc2bbd4", func := "stepwell/stepwelllaw03.RatioTimes", spec := "ratioTimes", apart := false }
def RatioTimesSaid : Prop := ratioTimesRow.holds Try.pinned (OpenSpec.ofChange ratioTimesSpec)

/-- ITS FALSE NEIGHBOUR: 'it returns false'. Refute it at one input. -/
def ratioTimesWrong : ChangeSpec := { name := "ratioTimes", fn := fun _ => fun
  | [d1, d2] => { results := [.lit (.bool false)], args := [d1, d2] }
  | _ => none }
def RatioTimesWrongFalsely : Prop := ratioTimesRow.holds Try.pinned (OpenSpec.ofChange ratioTimesWrong)

/-- 'stepwelllaw03.RatioLess': WHATEVER THE INPUT: true; the input reads as it did. -/
def ratioLessSpec : ChangeSpec := { name := "ratioLess", fn := fun _ => fun
  | [d1, d2, d3] => { results := [.lit (.bool true)], args := [d1, d2, d3] }
  | _ => none }
def ratioLessRow : OpenClaim := { program := "ytpiigdgiliaihaa", sum := "01fd81b32104e3ba06d643b720de9785238ebf00e0b7169caed059fbfdc2bbd4", func := "stepwell/stepwelllaw03.RatioLess", spec := "ratioLess", apart := false }
def RatioLessSaid : Prop := ratioLessRow.holds Try.pinned (OpenSpec.ofChange ratioLessSpec)

/-- ITS FALSE NEIGHBOUR: 'it returns false'. Refute it at one input. -/
def ratioLessWrong : ChangeSpec := { name := "ratioLess", fn := fun _ => fun
  | [d1, d2, d3] => { results := [.lit (.bool false)], args := [d1, d2, d3] }
  | _ => none }
def RatioLessWrongFalsely : Prop := ratioLessRow.holds Try.pinned (OpenSpec.ofChange ratioLessWrong)

/- THE SECOND FORM. 'bulk': how many values and letters a reading holds, each counted each time it is reached (what is shared counts as often as it is met; a slice's spare places count too). A statement '..UptoSaid' is the law's where the arguments, and the package variables that the reading takes, are together of bulk at most 1048576: NARROWER than '..Said'. Prove '..Said' where nothing that the law and all that it calls make is longer than what came in: it says more and counts as full. Else prove '..UptoSaid'. A law counts once. -/
mutual
def uptoBulk {H : Type} : DataW H → Nat
  | .lit (.string bytes) => bytes.length + 1
  | .lit _ => 1
  | .nil => 1
  | .ptr d => uptoBulk d + 1
  | .slice elems spare => uptoBulkAll elems + uptoBulkAll spare + 1
  | .agg parts => uptoBulkAll parts + 1
  | .iface _ d => uptoBulk d + 1
  | .map entries => uptoBulkEntries entries + 1
  | .held _ => 1
def uptoBulkAll {H : Type} : List (DataW H) → Nat
  | [] => 0
  | d :: r => uptoBulk d + uptoBulkAll r
def uptoBulkEntries {H : Type} : List (Lit × DataW H) → Nat
  | [] => 0
  | x :: r => uptoBulkEntry x + uptoBulkEntries r
def uptoBulkEntry {H : Type} : Lit × DataW H → Nat
  | (.string bytes, d) => bytes.length + uptoBulk d + 1
  | (_, d) => uptoBulk d + 1
 end
def uptoSmall : (H : Type) → List (DataW H) → Bool := fun _ ds => decide (uptoBulkAll ds ≤ 1048576)
def OpenSpec.upto (s : _root_.Go.ChangeSpec) : _root_.Go.OpenSpec := { _root_.Go.OpenSpec.ofChange s with cond := some uptoSmall }

/-- 'stepwelllaw03.RatioOf', WHERE WHAT IT READS IS OF BULK AT MOST 1048576: true; the input reads as it did. -/
def ratioOfUptoRow : OpenClaim := { program := "ytpiigdgiliaihaa", sum := "01fd81b32104e3ba06d643b720de9785238ebf00e0b7169caed059fbfdc2bbd4", func := "stepwell/stepwelllaw03.RatioOf", spec := "ratioOf", apart := false, narrowed := true }
def RatioOfUptoSaid : Prop := ratioOfUptoRow.holds Try.pinned (OpenSpec.upto ratioOfSpec)

/-- 'stepwelllaw03.RatioBetween', WHERE WHAT IT READS IS OF BULK AT MOST 1048576: true; the input reads as it did. -/
def ratioBetweenUptoRow : OpenClaim := { program := "ytpiigdgiliaihaa", sum := "01fd81b32104e3ba06d643b720de9785238ebf00e0b7169caed059fbfdc2bbd4", func := "stepwell/stepwelllaw03.RatioBetween", spec := "ratioBetween", apart := false, narrowed := true }
def RatioBetweenUptoSaid : Prop := ratioBetweenUptoRow.holds Try.pinned (OpenSpec.upto ratioBetweenSpec)

/-- 'stepwelllaw03.RatioTimes', WHERE WHAT IT READS IS OF BULK AT MOST 1048576: true; the input reads as it did. -/
def ratioTimesUptoRow : OpenClaim := { program := "ytpiigdgiliaihaa", sum := "01fd81b32104e3ba06d643b720de9785238ebf00e0b7169caed059fbfdc2bbd4", func := "stepwell/stepwelllaw03.RatioTimes", spec := "ratioTimes", apart := false, narrowed := true }
def RatioTimesUptoSaid : Prop := ratioTimesUptoRow.holds Try.pinned (OpenSpec.upto ratioTimesSpec)

/-- 'stepwelllaw03.RatioLess', WHERE WHAT IT READS IS OF BULK AT MOST 1048576: true; the input reads as it did. -/
def ratioLessUptoRow : OpenClaim := { program := "ytpiigdgiliaihaa", sum := "01fd81b32104e3ba06d643b720de9785238ebf00e0b7169caed059fbfdc2bbd4", func := "stepwell/stepwelllaw03.RatioLess", spec := "ratioLess", apart := false, narrowed := true }
def RatioLessUptoSaid : Prop := ratioLessUptoRow.holds Try.pinned (OpenSpec.upto ratioLessSpec)

end Rows
end Go.Proofs.Ytpiigdgiliaihaa
