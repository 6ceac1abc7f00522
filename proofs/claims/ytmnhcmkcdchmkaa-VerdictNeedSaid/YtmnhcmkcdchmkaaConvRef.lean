/- Layer 10: the document's sums of a node. -/
import Derived.Test.YtmnhcmkcdchmkaaTk
import Derived.Test.YtmnhcmkcdchmkaaConvSum
namespace Go.Proofs.Ytmnhcmkcdchmkaa.CConv
open Go Go.ChangeShapes Go.WideShapes Go.ChangeAt Go.RowKit
open Plain CSat CShape CTensor
set_option linter.unusedVariables false

/-- the box of the sums in the making. -/
def OutAt (B : Nat) (X Y U : Int) (v : Value) (wd : World) : Prop :=
  wd.cell? ⟨B, 0, none⟩ = some (.int .i64 X) ∧ wd.cell? ⟨B, 1, none⟩ = some (.int .i64 Y) ∧ wd.cell? ⟨B, 2, none⟩ = some (.int .i64 U) ∧ wd.cell? ⟨B, 3, none⟩ = some v ∧ wd.frozen? ⟨B, 3, none⟩ = false
theorem OutAt.below {B B' : Nat} {X Y U : Int} {v : Value} {w w' : World} (h : OutAt B X Y U v w) (hB : B < B') (hb : Below B' w w') : OutAt B X Y U v w' :=
  ⟨(hb.cell (p := ⟨B, 0, none⟩) hB).trans h.1, (hb.cell (p := ⟨B, 1, none⟩) hB).trans h.2.1, (hb.cell (p := ⟨B, 2, none⟩) hB).trans h.2.2.1, (hb.cell (p := ⟨B, 3, none⟩) hB).trans h.2.2.2.1, (hb.frozen (p := ⟨B, 3, none⟩) hB).trans h.2.2.2.2⟩
theorem OutAt.new (X Y U : Int) (v : Value) (T : TypeId) (w : World) : OutAt w.heap.size X Y U v (w.alloc (.cells #[.int .i64 X, .int .i64 Y, .int .i64 U, v] T)) :=
  ⟨Kit.new_cell _ _ _ _, Kit.new_cell _ _ _ _, Kit.new_cell _ _ _ _, Kit.new_cell _ _ _ _, World.frozen?_alloc_at _ _ _ _ rfl⟩
theorem OutAt.store {B : Nat} {X Y U : Int} {v : Value} {w : World} (h : OutAt B X Y U v w) (u : Value) : OutAt B X Y U u (w.setCell ⟨B, 3, none⟩ u) := by
  obtain ⟨h1, h2, h3, h4, h5⟩ := h
  have k : ∀ (i : Nat), i ≠ 3 → (w.setCell ⟨B, 3, none⟩ u).cell? ⟨B, i, none⟩ = w.cell? ⟨B, i, none⟩ := fun i hne => World.cell?_setCell_other _ _ _ _ (fun e => by injection e; omega)
  exact ⟨(k 0 (by omega)).trans h1, (k 1 (by omega)).trans h2, (k 2 (by omega)).trans h3, World.cell?_setCell_same _ _ _ h4, (World.frozen?_setCell _ _ _ _).trans h5⟩
end Go.Proofs.Ytmnhcmkcdchmkaa.CConv
