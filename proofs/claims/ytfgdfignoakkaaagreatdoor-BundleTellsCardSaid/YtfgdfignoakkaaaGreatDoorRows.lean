/-
  NARROWER THAN 'FOR EVERY INPUT', by the rows' own cells (each row's printed sentence says how): BundleEncodes: laid · BundleCopies: laid · BundleDecodes: laid · BundleBack: laid · BundleTells: laid.
  DERIVED. THE GIVEN ROWS OF THIS SEAT. 5 by the template 'for every input the law returns true; each argument reads behind the call as it read before'; 0 by the template 'total and deterministic' (their statements: YtfgdfignoakkaaaGreatDoorTotals.lean).
  GIVEN WITH THE SEED: the statements are not yours to turn. If you find one false, say at which input.
  Laid BY PROGRAM, IN A SANDBOX (cutbox-rows.mjs): the forced cells as the released guide's own fill.sh prints them over the translation 3d58c23b97959e86… (all of the seat's roots in one cut). By AI agents, Wed Nov 11 2026. No macro, syntax, notation, axiom, sorry.
-/
import Derived.Test.YtfgdfignoakkaaaGreatDoorChecked
import GoSem.Claim
import GoSem.ClaimJoined
import GoSem.ClaimMapViews
import Derived.JoinedTies
import Derived.KernelRfl
namespace Go.Proofs.YtfgdfignoakkaaaGreatDoor
/- THE CELL 'sum', in the pinned program and in every row, IS THE sha256 OF THE DUMP (.gsa) THAT YtfgdfignoakkaaaGreatDoorProg.lean LOADS. Nothing in Lean hashes anything: it is a label: what it is worth is what the hold of that sum in a sandbox is worth. -/
noncomputable def Tryz.pinned : Pinned := { name := "ytfgdfignoakkaaagreatdoor", sum := "3d58c23b97959e86fefd14f2e06294141a0068fe02585b9cd8534ec73b0b9d34", checked := Tryz.checked }
namespace Rows
def none {H : Type} : Left H := { results := [], args := [] }

/- WHAT THE LISTED PACKAGE-LEVEL VARIABLES READ AS WHEN THE CALL BEGINS. Each datum BY PROGRAM (the guide's laid-datum.mjs) off the statement by which the dump's own 'gosem.cut.vars' lays the variable. In a bare row this is a premise. The card (YtfgdfignoakkaaaGreatDoorCards.lean) ties it to the program's text. -/
def laid_stepwell_crc_halves {H : Type} : DataW H := .agg [.lit (.int .u32 0), .lit (.int .u32 498536548), .lit (.int .u32 997073096), .lit (.int .u32 651767980), .lit (.int .u32 1994146192), .lit (.int .u32 1802195444), .lit (.int .u32 1303535960), .lit (.int .u32 1342533948), .lit (.int .u32 3988292384), .lit (.int .u32 4027552580), .lit (.int .u32 3604390888), .lit (.int .u32 3412177804), .lit (.int .u32 2607071920), .lit (.int .u32 2262029012), .lit (.int .u32 2685067896), .lit (.int .u32 3183342108)]
def laid_stepwell_kinds_names {H : Type} : DataW H := .agg [.lit (.string []), .lit (.string [99, 111, 110, 118]), .lit (.string [100, 101, 112, 116, 104]), .lit (.string [100, 101, 110, 115, 101]), .lit (.string [109, 97, 120, 112, 111, 111, 108]), .lit (.string [97, 118, 103, 112, 111, 111, 108]), .lit (.string [106, 111, 105, 110]), .lit (.string [97, 99, 116]), .lit (.string [112, 97, 100]), .lit (.string [102, 108, 97, 116])]

/-- 'stepwelllaw35.BundleEncodes': WHATEVER THE INPUT: true; the input reads as it did. -/
def bundleEncodesSpec : ChangeSpec := { name := "bundleEncodes", fn := fun _ => fun
  | [d1, d2, d3] => { results := [.lit (.bool true)], args := [d1, d2, d3] }
  | _ => none }
def bundleEncodesRow : OpenClaim := { program := "ytfgdfignoakkaaagreatdoor", sum := "3d58c23b97959e86fefd14f2e06294141a0068fe02585b9cd8534ec73b0b9d34", func := "stepwell/stepwelllaw35.BundleEncodes", spec := "bundleEncodes", unfollowed := true, recurses := true, named := ["stepwell/crc.halves", "stepwell/kinds.names"], apart := false, laid := [("stepwell/crc.halves", laid_stepwell_crc_halves), ("stepwell/kinds.names", laid_stepwell_kinds_names)] }
def BundleEncodesSaid : Prop := bundleEncodesRow.holds Tryz.pinned (OpenSpec.ofChange bundleEncodesSpec)

/-- ITS FALSE NEIGHBOUR: 'it returns false'. Refute it at one input. -/
def bundleEncodesWrong : ChangeSpec := { name := "bundleEncodes", fn := fun _ => fun
  | [d1, d2, d3] => { results := [.lit (.bool false)], args := [d1, d2, d3] }
  | _ => none }
def BundleEncodesWrongFalsely : Prop := bundleEncodesRow.holds Tryz.pinned (OpenSpec.ofChange bundleEncodesWrong)

/-- 'stepwelllaw35.BundleCopies': WHATEVER THE INPUT: true; the input reads as it did. -/
def bundleCopiesSpec : ChangeSpec := { name := "bundleCopies", fn := fun _ => fun
  | [d] => { results := [.lit (.bool true)], args := [d] }
  | _ => none }
def bundleCopiesRow : OpenClaim := { program := "ytfgdfignoakkaaagreatdoor", sum := "3d58c23b97959e86fefd14f2e06294141a0068fe02585b9cd8534ec73b0b9d34", func := "stepwell/stepwelllaw35.BundleCopies", spec := "bundleCopies", unfollowed := true, recurses := true, named := ["stepwell/crc.halves", "stepwell/kinds.names"], apart := false, laid := [("stepwell/crc.halves", laid_stepwell_crc_halves), ("stepwell/kinds.names", laid_stepwell_kinds_names)] }
def BundleCopiesSaid : Prop := bundleCopiesRow.holds Tryz.pinned (OpenSpec.ofChange bundleCopiesSpec)

/-- ITS FALSE NEIGHBOUR: 'it returns false'. Refute it at one input. -/
def bundleCopiesWrong : ChangeSpec := { name := "bundleCopies", fn := fun _ => fun
  | [d] => { results := [.lit (.bool false)], args := [d] }
  | _ => none }
def BundleCopiesWrongFalsely : Prop := bundleCopiesRow.holds Tryz.pinned (OpenSpec.ofChange bundleCopiesWrong)

/-- 'stepwelllaw35.BundleDecodes': WHATEVER THE INPUT: true; the input reads as it did. -/
def bundleDecodesSpec : ChangeSpec := { name := "bundleDecodes", fn := fun _ => fun
  | [d] => { results := [.lit (.bool true)], args := [d] }
  | _ => none }
def bundleDecodesRow : OpenClaim := { program := "ytfgdfignoakkaaagreatdoor", sum := "3d58c23b97959e86fefd14f2e06294141a0068fe02585b9cd8534ec73b0b9d34", func := "stepwell/stepwelllaw35.BundleDecodes", spec := "bundleDecodes", unfollowed := true, recurses := true, named := ["stepwell/crc.halves", "stepwell/kinds.names"], apart := false, laid := [("stepwell/crc.halves", laid_stepwell_crc_halves), ("stepwell/kinds.names", laid_stepwell_kinds_names)] }
def BundleDecodesSaid : Prop := bundleDecodesRow.holds Tryz.pinned (OpenSpec.ofChange bundleDecodesSpec)

/-- ITS FALSE NEIGHBOUR: 'it returns false'. Refute it at one input. -/
def bundleDecodesWrong : ChangeSpec := { name := "bundleDecodes", fn := fun _ => fun
  | [d] => { results := [.lit (.bool false)], args := [d] }
  | _ => none }
def BundleDecodesWrongFalsely : Prop := bundleDecodesRow.holds Tryz.pinned (OpenSpec.ofChange bundleDecodesWrong)

/-- 'stepwelllaw35.BundleBack': WHATEVER THE INPUT: true; the input reads as it did. -/
def bundleBackSpec : ChangeSpec := { name := "bundleBack", fn := fun _ => fun
  | [d1, d2] => { results := [.lit (.bool true)], args := [d1, d2] }
  | _ => none }
def bundleBackRow : OpenClaim := { program := "ytfgdfignoakkaaagreatdoor", sum := "3d58c23b97959e86fefd14f2e06294141a0068fe02585b9cd8534ec73b0b9d34", func := "stepwell/stepwelllaw35.BundleBack", spec := "bundleBack", unfollowed := true, recurses := true, named := ["stepwell/crc.halves", "stepwell/kinds.names"], apart := false, laid := [("stepwell/crc.halves", laid_stepwell_crc_halves), ("stepwell/kinds.names", laid_stepwell_kinds_names)] }
def BundleBackSaid : Prop := bundleBackRow.holds Tryz.pinned (OpenSpec.ofChange bundleBackSpec)

/-- ITS FALSE NEIGHBOUR: 'it returns false'. Refute it at one input. -/
def bundleBackWrong : ChangeSpec := { name := "bundleBack", fn := fun _ => fun
  | [d1, d2] => { results := [.lit (.bool false)], args := [d1, d2] }
  | _ => none }
def BundleBackWrongFalsely : Prop := bundleBackRow.holds Tryz.pinned (OpenSpec.ofChange bundleBackWrong)

/-- 'stepwelllaw35.BundleTells': WHATEVER THE INPUT: true; the input reads as it did. -/
def bundleTellsSpec : ChangeSpec := { name := "bundleTells", fn := fun _ => fun
  | [d1, d2, d3] => { results := [.lit (.bool true)], args := [d1, d2, d3] }
  | _ => none }
def bundleTellsRow : OpenClaim := { program := "ytfgdfignoakkaaagreatdoor", sum := "3d58c23b97959e86fefd14f2e06294141a0068fe02585b9cd8534ec73b0b9d34", func := "stepwell/stepwelllaw35.BundleTells", spec := "bundleTells", unfollowed := true, recurses := true, named := ["stepwell/crc.halves", "stepwell/kinds.names"], apart := false, laid := [("stepwell/crc.halves", laid_stepwell_crc_halves), ("stepwell/kinds.names", laid_stepwell_kinds_names)] }
def BundleTellsSaid : Prop := bundleTellsRow.holds Tryz.pinned (OpenSpec.ofChange bundleTellsSpec)

/-- ITS FALSE NEIGHBOUR: 'it returns false'. Refute it at one input. -/
def bundleTellsWrong : ChangeSpec := { name := "bundleTells", fn := fun _ => fun
  | [d1, d2, d3] => { results := [.lit (.bool false)], args := [d1, d2, d3] }
  | _ => none }
def BundleTellsWrongFalsely : Prop := bundleTellsRow.holds Tryz.pinned (OpenSpec.ofChange bundleTellsWrong)

/- THE SECOND FORM. 'bulk': how many values and letters a reading holds, each counted each time it is reached (what is shared counts as often as it is met; a slice's spare places count too). A statement '..UptoSaid' is the law's where the arguments, and the package variables that the reading takes, are together of bulk at most 1048576: NARROWER than '..Said'. Prove '..Said' where nothing that the law and all that it calls make is longer than what came in: it says more and counts as full. Else prove '..UptoSaid'. A law counts once. -/
mutual
def uptoBulk {H : Type} : DataW H → Nat
  | .lit (.string bytes) => bytes.length + 1
  | .lit _ => 1
  | .nil => 1
  | .ptr d => uptoBulk d + 1
  | .slice elems spare => uptoBulkAll elems + uptoBulkAll spare + 1
  | .agg parts => uptoBulkAll parts + 1
  | .iface _ d => uptoBulk d + 1
  | .map entries => uptoBulkEntries entries + 1
  | .held _ => 1
def uptoBulkAll {H : Type} : List (DataW H) → Nat
  | [] => 0
  | d :: r => uptoBulk d + uptoBulkAll r
def uptoBulkEntries {H : Type} : List (Lit × DataW H) → Nat
  | [] => 0
  | x :: r => uptoBulkEntry x + uptoBulkEntries r
def uptoBulkEntry {H : Type} : Lit × DataW H → Nat
  | (.string bytes, d) => bytes.length + uptoBulk d + 1
  | (_, d) => uptoBulk d + 1
 end
def uptoSmall : (H : Type) → List (DataW H) → Bool := fun _ ds => decide (uptoBulkAll ds ≤ 1048576)
def OpenSpec.upto (s : _root_.Go.ChangeSpec) : _root_.Go.OpenSpec := { _root_.Go.OpenSpec.ofChange s with cond := some uptoSmall }

/-- 'stepwelllaw35.BundleEncodes', WHERE WHAT IT READS IS OF BULK AT MOST 1048576: true; the input reads as it did. -/
def bundleEncodesUptoRow : OpenClaim := { program := "ytfgdfignoakkaaagreatdoor", sum := "3d58c23b97959e86fefd14f2e06294141a0068fe02585b9cd8534ec73b0b9d34", func := "stepwell/stepwelllaw35.BundleEncodes", spec := "bundleEncodes", unfollowed := true, recurses := true, named := ["stepwell/crc.halves", "stepwell/kinds.names"], apart := false, laid := [("stepwell/crc.halves", laid_stepwell_crc_halves), ("stepwell/kinds.names", laid_stepwell_kinds_names)], narrowed := true }
def BundleEncodesUptoSaid : Prop := bundleEncodesUptoRow.holds Tryz.pinned (OpenSpec.upto bundleEncodesSpec)

/-- 'stepwelllaw35.BundleCopies', WHERE WHAT IT READS IS OF BULK AT MOST 1048576: true; the input reads as it did. -/
def bundleCopiesUptoRow : OpenClaim := { program := "ytfgdfignoakkaaagreatdoor", sum := "3d58c23b97959e86fefd14f2e06294141a0068fe02585b9cd8534ec73b0b9d34", func := "stepwell/stepwelllaw35.BundleCopies", spec := "bundleCopies", unfollowed := true, recurses := true, named := ["stepwell/crc.halves", "stepwell/kinds.names"], apart := false, laid := [("stepwell/crc.halves", laid_stepwell_crc_halves), ("stepwell/kinds.names", laid_stepwell_kinds_names)], narrowed := true }
def BundleCopiesUptoSaid : Prop := bundleCopiesUptoRow.holds Tryz.pinned (OpenSpec.upto bundleCopiesSpec)

/-- 'stepwelllaw35.BundleDecodes', WHERE WHAT IT READS IS OF BULK AT MOST 1048576: true; the input reads as it did. -/
def bundleDecodesUptoRow : OpenClaim := { program := "ytfgdfignoakkaaagreatdoor", sum := "3d58c23b97959e86fefd14f2e06294141a0068fe02585b9cd8534ec73b0b9d34", func := "stepwell/stepwelllaw35.BundleDecodes", spec := "bundleDecodes", unfollowed := true, recurses := true, named := ["stepwell/crc.halves", "stepwell/kinds.names"], apart := false, laid := [("stepwell/crc.halves", laid_stepwell_crc_halves), ("stepwell/kinds.names", laid_stepwell_kinds_names)], narrowed := true }
def BundleDecodesUptoSaid : Prop := bundleDecodesUptoRow.holds Tryz.pinned (OpenSpec.upto bundleDecodesSpec)

/-- 'stepwelllaw35.BundleBack', WHERE WHAT IT READS IS OF BULK AT MOST 1048576: true; the input reads as it did. -/
def bundleBackUptoRow : OpenClaim := { program := "ytfgdfignoakkaaagreatdoor", sum := "3d58c23b97959e86fefd14f2e06294141a0068fe02585b9cd8534ec73b0b9d34", func := "stepwell/stepwelllaw35.BundleBack", spec := "bundleBack", unfollowed := true, recurses := true, named := ["stepwell/crc.halves", "stepwell/kinds.names"], apart := false, laid := [("stepwell/crc.halves", laid_stepwell_crc_halves), ("stepwell/kinds.names", laid_stepwell_kinds_names)], narrowed := true }
def BundleBackUptoSaid : Prop := bundleBackUptoRow.holds Tryz.pinned (OpenSpec.upto bundleBackSpec)

/-- 'stepwelllaw35.BundleTells', WHERE WHAT IT READS IS OF BULK AT MOST 1048576: true; the input reads as it did. -/
def bundleTellsUptoRow : OpenClaim := { program := "ytfgdfignoakkaaagreatdoor", sum := "3d58c23b97959e86fefd14f2e06294141a0068fe02585b9cd8534ec73b0b9d34", func := "stepwell/stepwelllaw35.BundleTells", spec := "bundleTells", unfollowed := true, recurses := true, named := ["stepwell/crc.halves", "stepwell/kinds.names"], apart := false, laid := [("stepwell/crc.halves", laid_stepwell_crc_halves), ("stepwell/kinds.names", laid_stepwell_kinds_names)], narrowed := true }
def BundleTellsUptoSaid : Prop := bundleTellsUptoRow.holds Tryz.pinned (OpenSpec.upto bundleTellsSpec)

end Rows
end Go.Proofs.YtfgdfignoakkaaaGreatDoor
