/- Texts of this seat, one behind the other: ConvWin. -/
import Derived.OrdersHeld
import Derived.Deep.RegionHeld3
import Derived.Lib.SliceRun
import Derived.Laws.StructEq
import Derived.IntWalk
import Derived.BigQuiet
import Derived.Handy
import Derived.Test.YtahekhpeomcfjaaDoorGE2
import Derived.Test.YtahekhpeomcfjaaDoorGE5
import Derived.Test.YtahekhpeomcfjaaDoorGE7
import Derived.Test.YtahekhpeomcfjaaDoorGE9
namespace Go.Proofs.YtahekhpeomcfjaaDoor.CTensor
end Go.Proofs.YtahekhpeomcfjaaDoor.CTensor
section
namespace Go.Proofs.YtahekhpeomcfjaaDoor.CConv
open Go Go.ChangeShapes Go.WideShapes Go.ChangeAt Go.RowKit
open Plain CSat CShape CTensor
set_option linter.unusedVariables false
/-- the box of a node. -/
def NodeAt (B : Nat) (x0 x1 x2 x8 x11 x12 x13 x14 x15 x16 x17 x18 : Value) (K S P O Z : Int) (WA BA : Option Addr) (nW cW nB cB : Nat) (wd : World) : Prop := wd.rangeAt B 0 [x0, x1, x2, .int .i64 K, .int .i64 S, .int .i64 P, .int .i64 O, .int .i8 Z, x8, .slice WA nW cW, .slice BA nB cB, x11, x12, x13, x14, x15, x16, x17, x18]
theorem NodeAt.new (x0 x1 x2 x8 x11 x12 x13 x14 x15 x16 x17 x18 : Value) (K S P O Z : Int) (WA BA : Option Addr) (nW cW nB cB : Nat) (T : TypeId) (w : World) : NodeAt w.heap.size x0 x1 x2 x8 x11 x12 x13 x14 x15 x16 x17 x18 K S P O Z WA BA nW cW nB cB (w.alloc (.cells #[x0, x1, x2, .int .i64 K, .int .i64 S, .int .i64 P, .int .i64 O, .int .i8 Z, x8, .slice WA nW cW, .slice BA nB cB, x11, x12, x13, x14, x15, x16, x17, x18] T)) := fun j v hj => by
  rw [Nat.zero_add, Kit.new_cell]
  simpa using hj
theorem NodeAt.below {B B' : Nat} {x0 x1 x2 x8 x11 x12 x13 x14 x15 x16 x17 x18 : Value} {K S P O Z : Int} {WA BA : Option Addr} {nW cW nB cB : Nat} {w w' : World} (h : NodeAt B x0 x1 x2 x8 x11 x12 x13 x14 x15 x16 x17 x18 K S P O Z WA BA nW cW nB cB w) (hB : B < B') (hb : Below B' w w') : NodeAt B x0 x1 x2 x8 x11 x12 x13 x14 x15 x16 x17 x18 K S P O Z WA BA nW cW nB cB w' := fun j v hj =>
  (hb.cell (p := ⟨B, 0 + j, none⟩) hB).trans (h j v hj)
theorem NodeAt.at {B : Nat} {x0 x1 x2 x8 x11 x12 x13 x14 x15 x16 x17 x18 : Value} {K S P O Z : Int} {WA BA : Option Addr} {nW cW nB cB : Nat} {w : World} (h : NodeAt B x0 x1 x2 x8 x11 x12 x13 x14 x15 x16 x17 x18 K S P O Z WA BA nW cW nB cB w) (i : Nat) (v : Value) (hi : ([x0, x1, x2, .int .i64 K, .int .i64 S, .int .i64 P, .int .i64 O, .int .i8 Z, x8, .slice WA nW cW, .slice BA nB cB, x11, x12, x13, x14, x15, x16, x17, x18] : List Value)[i]? = some v) : w.cell? ⟨B, i, none⟩ = some v := by
  have := h i v hi
  rwa [Nat.zero_add] at this
end Go.Proofs.YtahekhpeomcfjaaDoor.CConv
end
