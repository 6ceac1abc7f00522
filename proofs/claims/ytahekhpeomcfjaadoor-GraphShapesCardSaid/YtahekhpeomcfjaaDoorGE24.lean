/- Texts of this seat, one behind the other: ConvOf, KindOwn. -/
import Derived.Laws.MakeOwn
import Derived.Deep.CutRange
import Derived.Test.YtahekhpeomcfjaaDoorGE2
import Derived.Test.YtahekhpeomcfjaaDoorGE10
import Derived.Test.YtahekhpeomcfjaaDoorGE22
import Derived.Test.YtahekhpeomcfjaaDoorGE23
namespace Go.Proofs.YtahekhpeomcfjaaDoor.CConv
end Go.Proofs.YtahekhpeomcfjaaDoor.CConv
namespace Go.Proofs.YtahekhpeomcfjaaDoor.CTensor
end Go.Proofs.YtahekhpeomcfjaaDoor.CTensor
section
namespace Go.Proofs.YtahekhpeomcfjaaDoor.CConv
open Go Go.ChangeShapes Go.WideShapes Go.ChangeAt Go.RowKit
open Plain CSat CShape CTensor
set_option linter.unusedVariables false
def ShapeAt (B : Nat) (H W C : Int) (wd : World) : Prop :=
  wd.cell? ⟨B, 0, none⟩ = some (.int .i64 H) ∧ wd.cell? ⟨B, 1, none⟩ = some (.int .i64 W) ∧ wd.cell? ⟨B, 2, none⟩ = some (.int .i64 C)
theorem ShapeAt.below {B B' : Nat} {H W C : Int} {w w' : World} (h : ShapeAt B H W C w) (hB : B < B') (hb : Below B' w w') : ShapeAt B H W C w' :=
  ⟨(hb.cell (p := ⟨B, 0, none⟩) hB).trans h.1, (hb.cell (p := ⟨B, 1, none⟩) hB).trans h.2.1, (hb.cell (p := ⟨B, 2, none⟩) hB).trans h.2.2⟩
theorem shapeNew (H W C : Int) (T : TypeId) (w : World) : ShapeAt w.heap.size H W C (w.alloc (.cells #[.int .i64 H, .int .i64 W, .int .i64 C] T)) := ⟨Kit.new_cell _ _ _ _, Kit.new_cell _ _ _ _, Kit.new_cell _ _ _ _⟩
end Go.Proofs.YtahekhpeomcfjaaDoor.CConv
end
section
namespace Go.Proofs.YtahekhpeomcfjaaDoor.CKind
open Go Go.ChangeShapes Go.WideShapes Go.ChangeAt Go.RowKit Go.Deep
open Plain CSat CShape CTensor CConv
set_option linter.unusedVariables false
set_option linter.unusedSimpArgs false
theorem own_to (x : Nd) (h : 1 ≤ x.kd ∧ x.kd ≤ 9) (w : World) :
    Calls Tryd.prog 36 #[.agg x.val] w fun e w' => e = .returned (.agg (x.ownK x.kd).val) ∧ Below w.heap.size w w' := by
  have : x.kd = 1 ∨ x.kd = 2 ∨ x.kd = 3 ∨ x.kd = 4 ∨ x.kd = 5 ∨ x.kd = 6 ∨ x.kd = 7 ∨ x.kd = 8 ∨ x.kd = 9 := by omega
  rcases this with h | h | h | h | h | h | h | h | h
  · rw [h]; exact own_1 x h w
  · rw [h]; exact own_2 x h w
  · rw [h]; exact own_3 x h w
  · rw [h]; exact own_4 x h w
  · rw [h]; exact own_5 x h w
  · rw [h]; exact own_6 x h w
  · rw [h]; exact own_7 x h w
  · rw [h]; exact own_8 x h w
  · rw [h]; exact own_9 x h w
end Go.Proofs.YtahekhpeomcfjaaDoor.CKind
end
