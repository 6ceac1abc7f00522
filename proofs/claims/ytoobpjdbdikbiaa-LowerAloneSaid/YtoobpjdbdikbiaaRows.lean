/-
  No cell of these rows narrows 'for every input' (looked for: loops, veiled, ifaces, maps, wideKeys, modest, calm, conditions, laid).
  DERIVED. THE GIVEN ROWS OF THIS SEAT. 4 by the template 'for every input the law returns true; each argument reads behind the call as it read before'; 0 by the template 'total and deterministic' (their statements: YtoobpjdbdikbiaaTotals.lean).
  GIVEN WITH THE SEED: the statements are not yours to turn. If you find one false, say at which input.
  Laid BY PROGRAM, IN A SANDBOX (cutbox-rows.mjs): the forced cells as the released guide's own fill.sh prints them over the translation d5bcee12b032a024… (all of the seat's roots in one cut). By AI agents, Wed Nov 11 2026. No macro, syntax, notation, axiom, sorry.
-/
import Derived.Test.YtoobpjdbdikbiaaChecked
import GoSem.Claim
import GoSem.ClaimJoined
import GoSem.ClaimMapViews
import Derived.JoinedTies
import Derived.KernelRfl
namespace Go.Proofs.Ytoobpjdbdikbiaa
/- THE CELL 'sum', in the pinned program and in every row, IS THE sha256 OF THE DUMP (.gsa) THAT YtoobpjdbdikbiaaProg.lean LOADS. Nothing in Lean hashes anything: it is a label: what it is worth is what the hold of that sum in a sandbox is worth. -/
noncomputable def Try.pinned : Pinned := { name := "ytoobpjdbdikbiaa", sum := "d5bcee12b032a024d8c475fa1bab8b30dc834c083c607b11ea535e8271d93210", checked := Try.checked }
namespace Rows
def none {H : Type} : Left H := { results := [], args := [] }

/-- 'stepwelllaw10.ConvBias': WHATEVER THE INPUT: true; the input reads as it did. -/
def convBiasSpec : ChangeSpec := { name := "convBias", fn := fun _ => fun
  | [d1, d2, d3, d4] => { results := [.lit (.bool true)], args := [d1, d2, d3, d4] }
  | _ => none }
def convBiasRow : OpenClaim := { program := "ytoobpjdbdikbiaa", sum := "d5bcee12b032a024d8c475fa1bab8b30dc834c083c607b11ea535e8271d93210", func := "stepwell/stepwelllaw10.ConvBias", spec := "convBias", apart := false }
def ConvBiasSaid : Prop := convBiasRow.holds Try.pinned (OpenSpec.ofChange convBiasSpec)

/-- ITS FALSE NEIGHBOUR: 'it returns false'. Refute it at one input. -/
def convBiasWrong : ChangeSpec := { name := "convBias", fn := fun _ => fun
  | [d1, d2, d3, d4] => { results := [.lit (.bool false)], args := [d1, d2, d3, d4] }
  | _ => none }
def ConvBiasWrongFalsely : Prop := convBiasRow.holds Try.pinned (OpenSpec.ofChange convBiasWrong)

/-- 'stepwelllaw13.LowerSums': WHATEVER THE INPUT: true; the input reads as it did. -/
def lowerSumsSpec : ChangeSpec := { name := "lowerSums", fn := fun _ => fun
  | [d1, d2] => { results := [.lit (.bool true)], args := [d1, d2] }
  | _ => none }
def lowerSumsRow : OpenClaim := { program := "ytoobpjdbdikbiaa", sum := "d5bcee12b032a024d8c475fa1bab8b30dc834c083c607b11ea535e8271d93210", func := "stepwell/stepwelllaw13.LowerSums", spec := "lowerSums", unfollowed := true, recurses := true, apart := false }
def LowerSumsSaid : Prop := lowerSumsRow.holds Try.pinned (OpenSpec.ofChange lowerSumsSpec)

/-- ITS FALSE NEIGHBOUR: 'it returns false'. Refute it at one input. -/
def lowerSumsWrong : ChangeSpec := { name := "lowerSums", fn := fun _ => fun
  | [d1, d2] => { results := [.lit (.bool false)], args := [d1, d2] }
  | _ => none }
def LowerSumsWrongFalsely : Prop := lowerSumsRow.holds Try.pinned (OpenSpec.ofChange lowerSumsWrong)

/-- 'stepwelllaw13.LowerWork': WHATEVER THE INPUT: true; the input reads as it did. -/
def lowerWorkSpec : ChangeSpec := { name := "lowerWork", fn := fun _ => fun
  | [d1, d2] => { results := [.lit (.bool true)], args := [d1, d2] }
  | _ => none }
def lowerWorkRow : OpenClaim := { program := "ytoobpjdbdikbiaa", sum := "d5bcee12b032a024d8c475fa1bab8b30dc834c083c607b11ea535e8271d93210", func := "stepwell/stepwelllaw13.LowerWork", spec := "lowerWork", apart := false }
def LowerWorkSaid : Prop := lowerWorkRow.holds Try.pinned (OpenSpec.ofChange lowerWorkSpec)

/-- ITS FALSE NEIGHBOUR: 'it returns false'. Refute it at one input. -/
def lowerWorkWrong : ChangeSpec := { name := "lowerWork", fn := fun _ => fun
  | [d1, d2] => { results := [.lit (.bool false)], args := [d1, d2] }
  | _ => none }
def LowerWorkWrongFalsely : Prop := lowerWorkRow.holds Try.pinned (OpenSpec.ofChange lowerWorkWrong)

/-- 'stepwelllaw13.LowerAlone': WHATEVER THE INPUT: true; the input reads as it did. -/
def lowerAloneSpec : ChangeSpec := { name := "lowerAlone", fn := fun _ => fun
  | [d1, d2, d3] => { results := [.lit (.bool true)], args := [d1, d2, d3] }
  | _ => none }
def lowerAloneRow : OpenClaim := { program := "ytoobpjdbdikbiaa", sum := "d5bcee12b032a024d8c475fa1bab8b30dc834c083c607b11ea535e8271d93210", func := "stepwell/stepwelllaw13.LowerAlone", spec := "lowerAlone", unfollowed := true, recurses := true, apart := false }
def LowerAloneSaid : Prop := lowerAloneRow.holds Try.pinned (OpenSpec.ofChange lowerAloneSpec)

/-- ITS FALSE NEIGHBOUR: 'it returns false'. Refute it at one input. -/
def lowerAloneWrong : ChangeSpec := { name := "lowerAlone", fn := fun _ => fun
  | [d1, d2, d3] => { results := [.lit (.bool false)], args := [d1, d2, d3] }
  | _ => none }
def LowerAloneWrongFalsely : Prop := lowerAloneRow.holds Try.pinned (OpenSpec.ofChange lowerAloneWrong)

/- THE SECOND FORM. 'bulk': how many values and letters a reading holds, each counted each time it is reached (what is shared counts as often as it is met; a slice's spare places count too). A statement '..UptoSaid' is the law's where the arguments, and the package variables that the reading takes, are together of bulk at most 1048576: NARROWER than '..Said'. Prove '..Said' where nothing that the law and all that it calls make is longer than what came in: it says more and counts as full. Else prove '..UptoSaid'. A law counts once. -/
mutual
def uptoBulk {H : Type} : DataW H → Nat
  | .lit (.string bytes) => bytes.length + 1
  | .lit _ => 1
  | .nil => 1
  | .ptr d => uptoBulk d + 1
  | .slice elems spare => uptoBulkAll elems + uptoBulkAll spare + 1
  | .agg parts => uptoBulkAll parts + 1
  | .iface _ d => uptoBulk d + 1
  | .map entries => uptoBulkEntries entries + 1
  | .held _ => 1
def uptoBulkAll {H : Type} : List (DataW H) → Nat
  | [] => 0
  | d :: r => uptoBulk d + uptoBulkAll r
def uptoBulkEntries {H : Type} : List (Lit × DataW H) → Nat
  | [] => 0
  | x :: r => uptoBulkEntry x + uptoBulkEntries r
def uptoBulkEntry {H : Type} : Lit × DataW H → Nat
  | (.string bytes, d) => bytes.length + uptoBulk d + 1
  | (_, d) => uptoBulk d + 1
 end
def uptoSmall : (H : Type) → List (DataW H) → Bool := fun _ ds => decide (uptoBulkAll ds ≤ 1048576)
def OpenSpec.upto (s : _root_.Go.ChangeSpec) : _root_.Go.OpenSpec := { _root_.Go.OpenSpec.ofChange s with cond := some uptoSmall }

/-- 'stepwelllaw10.ConvBias', WHERE WHAT IT READS IS OF BULK AT MOST 1048576: true; the input reads as it did. -/
def convBiasUptoRow : OpenClaim := { program := "ytoobpjdbdikbiaa", sum := "d5bcee12b032a024d8c475fa1bab8b30dc834c083c607b11ea535e8271d93210", func := "stepwell/stepwelllaw10.ConvBias", spec := "convBias", apart := false, narrowed := true }
def ConvBiasUptoSaid : Prop := convBiasUptoRow.holds Try.pinned (OpenSpec.upto convBiasSpec)

/-- 'stepwelllaw13.LowerSums', WHERE WHAT IT READS IS OF BULK AT MOST 1048576: true; the input reads as it did. -/
def lowerSumsUptoRow : OpenClaim := { program := "ytoobpjdbdikbiaa", sum := "d5bcee12b032a024d8c475fa1bab8b30dc834c083c607b11ea535e8271d93210", func := "stepwell/stepwelllaw13.LowerSums", spec := "lowerSums", unfollowed := true, recurses := true, apart := false, narrowed := true }
def LowerSumsUptoSaid : Prop := lowerSumsUptoRow.holds Try.pinned (OpenSpec.upto lowerSumsSpec)

/-- 'stepwelllaw13.LowerWork', WHERE WHAT IT READS IS OF BULK AT MOST 1048576: true; the input reads as it did. -/
def lowerWorkUptoRow : OpenClaim := { program := "ytoobpjdbdikbiaa", sum := "d5bcee12b032a024d8c475fa1bab8b30dc834c083c607b11ea535e8271d93210", func := "stepwell/stepwelllaw13.LowerWork", spec := "lowerWork", apart := false, narrowed := true }
def LowerWorkUptoSaid : Prop := lowerWorkUptoRow.holds Try.pinned (OpenSpec.upto lowerWorkSpec)

/-- 'stepwelllaw13.LowerAlone', WHERE WHAT IT READS IS OF BULK AT MOST 1048576: true; the input reads as it did. -/
def lowerAloneUptoRow : OpenClaim := { program := "ytoobpjdbdikbiaa", sum := "d5bcee12b032a024d8c475fa1bab8b30dc834c083c607b11ea535e8271d93210", func := "stepwell/stepwelllaw13.LowerAlone", spec := "lowerAlone", unfollowed := true, recurses := true, apart := false, narrowed := true }
def LowerAloneUptoSaid : Prop := lowerAloneUptoRow.holds Try.pinned (OpenSpec.upto lowerAloneSpec)

end Rows
end Go.Proofs.Ytoobpjdbdikbiaa
