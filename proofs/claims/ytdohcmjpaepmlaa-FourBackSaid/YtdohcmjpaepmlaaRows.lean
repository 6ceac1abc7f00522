/-
  No cell of these rows narrows 'for every input' (looked for: loops, veiled, ifaces, maps, wideKeys, modest, calm, conditions, laid).
  DERIVED. THE GIVEN ROWS OF THIS SEAT. 3 by the template 'for every input the law returns true; each argument reads behind the call as it read before'; 0 by the template 'total and deterministic' (their statements: YtdohcmjpaepmlaaTotals.lean).
  GIVEN WITH THE SEED: the statements are not yours to turn. If you find one false, say at which input.
  Laid BY PROGRAM, IN A SANDBOX (cutbox-rows.mjs): the forced cells as the released guide's own fill.sh prints them over the translation d859931445da4a9a… (all of the seat's roots in one cut). By AI agents, Wed Nov 11 2026. No macro, syntax, notation, axiom, sorry.
-/
import Derived.Test.YtdohcmjpaepmlaaChecked
import GoSem.Claim
import GoSem.ClaimJoined
import GoSem.ClaimMapViews
import Derived.JoinedTies
import Derived.KernelRfl
namespace Go.Proofs.Ytdohcmjpaepmlaa
/- THE CELL 'sum', in the pinned program and in every row, IS THE sha256 OF THE DUMP (.gsa) THAT YtdohcmjpaepmlaaProg.lean LOADS. Nothing in Lean hashes anything: it is a label: what it is worth is what the hold of that sum in a sandbox is worth. -/
noncomputable def Try.pinned : Pinned := { name := "ytdohcmjpaepmlaa", sum := "d859931445da4a9a1b657b01c5735b8355599852628ff78805044718deafd86f", checked := Try.checked }
namespace Rows
def none {H : Type} : Left H := { results := [], args := [] }

/-- 'stepwelllaw14.FourParts': WHATEVER THE INPUT: true; the input reads as it did. -/
def fourPartsSpec : ChangeSpec := { name := "fourParts", fn := fun _ => fun
  | [d] => { results := [.lit (.bool true)], args := [d] }
  | _ => none }
def fourPartsRow : OpenClaim := { program := "ytdohcmjpaepmlaa", sum := "d859931445da4a9a1b657b01c5735b8355599852628ff78805044718deafd86f", func := "stepwell/stepwelllaw14.FourParts", spec := "fourParts", apart := false }
def FourPartsSaid : Prop := fourPartsRow.holds Try.pinned (OpenSpec.ofChange fourPartsSpec)

/-- ITS FALSE NEIGHBOUR: 'it returns false'. Refute it at one input. -/
def fourPartsWrong : ChangeSpec := { name := "fourParts", fn := fun _ => fun
  | [d] => { results := [.lit (.bool false)], args := [d] }
  | _ => none }
def FourPartsWrongFalsely : Prop := fourPartsRow.holds Try.pinned (OpenSpec.ofChange fourPartsWrong)

/-- 'stepwelllaw14.FourBack': WHATEVER THE INPUT: true; the input reads as it did. -/
def fourBackSpec : ChangeSpec := { name := "fourBack", fn := fun _ => fun
  | [d1, d2] => { results := [.lit (.bool true)], args := [d1, d2] }
  | _ => none }
def fourBackRow : OpenClaim := { program := "ytdohcmjpaepmlaa", sum := "d859931445da4a9a1b657b01c5735b8355599852628ff78805044718deafd86f", func := "stepwell/stepwelllaw14.FourBack", spec := "fourBack", apart := false }
def FourBackSaid : Prop := fourBackRow.holds Try.pinned (OpenSpec.ofChange fourBackSpec)

/-- ITS FALSE NEIGHBOUR: 'it returns false'. Refute it at one input. -/
def fourBackWrong : ChangeSpec := { name := "fourBack", fn := fun _ => fun
  | [d1, d2] => { results := [.lit (.bool false)], args := [d1, d2] }
  | _ => none }
def FourBackWrongFalsely : Prop := fourBackRow.holds Try.pinned (OpenSpec.ofChange fourBackWrong)

/-- 'stepwelllaw14.FourTimes': WHATEVER THE INPUT: true; the input reads as it did. -/
def fourTimesSpec : ChangeSpec := { name := "fourTimes", fn := fun _ => fun
  | [d1, d2] => { results := [.lit (.bool true)], args := [d1, d2] }
  | _ => none }
def fourTimesRow : OpenClaim := { program := "ytdohcmjpaepmlaa", sum := "d859931445da4a9a1b657b01c5735b8355599852628ff78805044718deafd86f", func := "stepwell/stepwelllaw14.FourTimes", spec := "fourTimes", apart := false }
def FourTimesSaid : Prop := fourTimesRow.holds Try.pinned (OpenSpec.ofChange fourTimesSpec)

/-- ITS FALSE NEIGHBOUR: 'it returns false'. Refute it at one input. -/
def fourTimesWrong : ChangeSpec := { name := "fourTimes", fn := fun _ => fun
  | [d1, d2] => { results := [.lit (.bool false)], args := [d1, d2] }
  | _ => none }
def FourTimesWrongFalsely : Prop := fourTimesRow.holds Try.pinned (OpenSpec.ofChange fourTimesWrong)

/- THE SECOND FORM. 'bulk': how many values and letters a reading holds, each counted each time it is reached (what is shared counts as often as it is met; a slice's spare places count too). A statement '..UptoSaid' is the law's where the arguments, and the package variables that the reading takes, are together of bulk at most 1048576: NARROWER than '..Said'. Prove '..Said' where nothing that the law and all that it calls make is longer than what came in: it says more and counts as full. Else prove '..UptoSaid'. A law counts once. -/
mutual
def uptoBulk {H : Type} : DataW H → Nat
  | .lit (.string bytes) => bytes.length + 1
  | .lit _ => 1
  | .nil => 1
  | .ptr d => uptoBulk d + 1
  | .slice elems spare => uptoBulkAll elems + uptoBulkAll spare + 1
  | .agg parts => uptoBulkAll parts + 1
  | .iface _ d => uptoBulk d + 1
  | .map entries => uptoBulkEntries entries + 1
  | .held _ => 1
def uptoBulkAll {H : Type} : List (DataW H) → Nat
  | [] => 0
  | d :: r => uptoBulk d + uptoBulkAll r
def uptoBulkEntries {H : Type} : List (Lit × DataW H) → Nat
  | [] => 0
  | x :: r => uptoBulkEntry x + uptoBulkEntries r
def uptoBulkEntry {H : Type} : Lit × DataW H → Nat
  | (.string bytes, d) => bytes.length + uptoBulk d + 1
  | (_, d) => uptoBulk d + 1
 end
def uptoSmall : (H : Type) → List (DataW H) → Bool := fun _ ds => decide (uptoBulkAll ds ≤ 1048576)
def OpenSpec.upto (s : _root_.Go.ChangeSpec) : _root_.Go.OpenSpec := { _root_.Go.OpenSpec.ofChange s with cond := some uptoSmall }

/-- 'stepwelllaw14.FourParts', WHERE WHAT IT READS IS OF BULK AT MOST 1048576: true; the input reads as it did. -/
def fourPartsUptoRow : OpenClaim := { program := "ytdohcmjpaepmlaa", sum := "d859931445da4a9a1b657b01c5735b8355599852628ff78805044718deafd86f", func := "stepwell/stepwelllaw14.FourParts", spec := "fourParts", apart := false, narrowed := true }
def FourPartsUptoSaid : Prop := fourPartsUptoRow.holds Try.pinned (OpenSpec.upto fourPartsSpec)

/-- 'stepwelllaw14.FourBack', WHERE WHAT IT READS IS OF BULK AT MOST 1048576: true; the input reads as it did. -/
def fourBackUptoRow : OpenClaim := { program := "ytdohcmjpaepmlaa", sum := "d859931445da4a9a1b657b01c5735b8355599852628ff78805044718deafd86f", func := "stepwell/stepwelllaw14.FourBack", spec := "fourBack", apart := false, narrowed := true }
def FourBackUptoSaid : Prop := fourBackUptoRow.holds Try.pinned (OpenSpec.upto fourBackSpec)

/-- 'stepwelllaw14.FourTimes', WHERE WHAT IT READS IS OF BULK AT MOST 1048576: true; the input reads as it did. -/
def fourTimesUptoRow : OpenClaim := { program := "ytdohcmjpaepmlaa", sum := "d859931445da4a9a1b657b01c5735b8355599852628ff78805044718deafd86f", func := "stepwell/stepwelllaw14.FourTimes", spec := "fourTimes", apart := false, narrowed := true }
def FourTimesUptoSaid : Prop := fourTimesUptoRow.holds Try.pinned (OpenSpec.upto fourTimesSpec)

end Rows
end Go.Proofs.Ytdohcmjpaepmlaa
