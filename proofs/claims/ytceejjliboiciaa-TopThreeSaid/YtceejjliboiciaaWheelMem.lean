/- Blocks of two and of four cells that are set whole. -/
import Derived.Test.YtceejjliboiciaaFourTurn
import Derived.Deep.MidRow
namespace Go.Proofs.Ytceejjliboiciaa.CFour
open Go Go.ChangeShapes Go.WideShapes Go.ChangeAt Go.RowKit
open FloatNum
set_option linter.unusedVariables false

/-- four cells of a block that are set. -/
def set4 (g : Nat) (L : Nat → Value) (w : World) : World := (((w.setCell ⟨g, 0, none⟩ (L 0)).setCell ⟨g, 1, none⟩ (L 1)).setCell ⟨g, 2, none⟩ (L 2)).setCell ⟨g, 3, none⟩ (L 3)
theorem Four.set4 {g : Nat} {S : Nat → Value} {w : World} (h : Four g S w) (L : Nat → Value) : Four g L (set4 g L w) := by
  have h4 := (((h.set (k := 0) (by omega) (L 0)).set (k := 1) (by omega) (L 1)).set (k := 2) (by omega) (L 2)).set (k := 3) (by omega) (L 3)
  refine ⟨fun i hi => (h4.1 i hi).trans ?_, h4.2.1, h4.2.2⟩
  obtain rfl | rfl | rfl | rfl := lt4 hi <;> rfl
theorem Four.oth4 {g g' : Nat} {S : Nat → Value} {w : World} (h : Four g S w) (L : Nat → Value) (hg : g ≠ g') : Four g S (CFour.set4 g' L w) := (((h.other (L 0) hg).other (L 1) hg).other (L 2) hg).other (L 3) hg
theorem Four.there {g : Nat} {S : Nat → Value} {w : World} (h : Four g S w) : w.there g 0 4 := fun j hj => by
  rw [Nat.zero_add]
  exact ⟨by rw [h.1 j hj]; rfl, h.2.1 j hj⟩
theorem one4 (a b c d : Int) : (#[Value.int .i64 a, .int .i64 b, .int .i64 c, .int .i64 d].all (·.oneCell')) = true := all_oneCell_toArray (cs := [Value.int .i64 a, .int .i64 b, .int .i64 c, .int .i64 d]) (by intro v hv; simp at hv; rcases hv with rfl | rfl | rfl | rfl <;> rfl)
theorem oneC {S : Nat → Value} {p : Nat → G} (h : ∀ i, i < 4 → IsC (S i) (p i)) : (#[S 0, S 1, S 2, S 3].all (·.oneCell')) = true := by
  obtain ⟨_, _, h0, _⟩ := h 0 (by omega)
  obtain ⟨_, _, h1, _⟩ := h 1 (by omega)
  obtain ⟨_, _, h2, _⟩ := h 2 (by omega)
  obtain ⟨_, _, h3, _⟩ := h 3 (by omega)
  rw [h0, h1, h2, h3]
  exact all_oneCell_toArray (cs := [_, _, _, _]) (by intro v hv; simp at hv; rcases hv with rfl | rfl | rfl | rfl <;> rfl)
theorem below_set4 {B g : Nat} {a w : World} (h : Below B a w) (hg : B ≤ g) (L : Nat → Value) : Below B a (set4 g L w) := (((h.setCell (p := ⟨g, 0, none⟩) hg (L 0)).setCell (p := ⟨g, 1, none⟩) hg (L 1)).setCell (p := ⟨g, 2, none⟩) hg (L 2)).setCell (p := ⟨g, 3, none⟩) hg (L 3)

/-- two cells of block g, none frozen. -/
def Two (g : Nat) (a b : Value) (w : World) : Prop := w.cell? ⟨g, 0, none⟩ = some a ∧ w.cell? ⟨g, 1, none⟩ = some b ∧ (∀ i, i < 2 → w.frozen? ⟨g, i, none⟩ = false) ∧ g < w.heap.size
theorem Two.below {g : Nat} {a b : Value} {w w' : World} (h : Two g a b w) {B : Nat} (hb : Below B w w') (hg : g < B) : Two g a b w' := by
  refine ⟨?_, ?_, fun i hi => ?_, Nat.lt_of_lt_of_le h.2.2.2 hb.size⟩
  · rw [hb.cell (p := ⟨g, 0, none⟩) hg]; exact h.1
  · rw [hb.cell (p := ⟨g, 1, none⟩) hg]; exact h.2.1
  · rw [hb.frozen (p := ⟨g, i, none⟩) hg]; exact h.2.2.1 i hi
theorem Two.drew {g : Nat} {a b : Value} {w : World} (h : Two g a b w) : Two g a b w.drew := h
theorem Two.new (w : World) (v u : Value) (T : TypeId) : Two w.heap.size v u (w.alloc (.cells #[v, u] T)) := by
  refine ⟨by go_cell, by go_cell, fun i hi => ?_, by simp⟩
  rcases i with _ | _ | i
  all_goals first | (exact absurd hi (by omega)) | go_cell
theorem Two.there {g : Nat} {a b : Value} {w : World} (h : Two g a b w) : w.there g 0 2 := fun j hj => by
  rw [Nat.zero_add]
  refine ⟨?_, h.2.2.1 j hj⟩
  rcases j with _ | _ | j
  · rw [h.1]; rfl
  · rw [h.2.1]; rfl
  · omega
def set2 (g : Nat) (a b : Value) (w : World) : World := (w.setCell ⟨g, 0, none⟩ a).setCell ⟨g, 1, none⟩ b
theorem Two.set2 {g : Nat} {a b : Value} {w : World} (h : Two g a b w) (x y : Value) : Two g x y (set2 g x y w) := by
  refine ⟨?_, ?_, fun i hi => ?_, ?_⟩
  · show ((w.setCell ⟨g, 0, none⟩ x).setCell ⟨g, 1, none⟩ y).cell? ⟨g, 0, none⟩ = _
    rw [World.cell?_setCell_other _ _ _ _ (by intro q; cases q)]
    exact World.cell?_setCell_same' _ _ _ (by rw [h.1]; rfl)
  · show ((w.setCell ⟨g, 0, none⟩ x).setCell ⟨g, 1, none⟩ y).cell? ⟨g, 1, none⟩ = _
    refine World.cell?_setCell_same' _ _ _ ?_
    rw [World.cell?_setCell_other _ _ _ _ (by intro q; cases q), h.2.1]; rfl
  · show ((w.setCell ⟨g, 0, none⟩ x).setCell ⟨g, 1, none⟩ y).frozen? _ = _
    rw [World.frozen?_setCell, World.frozen?_setCell]; exact h.2.2.1 i hi
  · show _ < ((w.setCell ⟨g, 0, none⟩ x).setCell ⟨g, 1, none⟩ y).heap.size
    simp; exact h.2.2.2
theorem Four.oth2 {g g' : Nat} {S : Nat → Value} {w : World} (h : Four g S w) (x y : Value) (hg : g ≠ g') : Four g S (CFour.set2 g' x y w) := (h.other x hg).other y hg
theorem Two.oth4 {g g' : Nat} {a b : Value} {w : World} (h : Two g a b w) (L : Nat → Value) (hg : g ≠ g') : Two g a b (CFour.set4 g' L w) := by
  have e : ∀ (k : Nat) (p : Addr), p.block = g' → (⟨g, k, none⟩ : Addr) ≠ p := fun k p hp q => by subst q; exact hg hp
  unfold CFour.set4
  refine ⟨?_, ?_, fun i hi => ?_, ?_⟩
  · rw [World.cell?_setCell_other _ _ _ _ (fun q => hg (congrArg Addr.block q).symm), World.cell?_setCell_other _ _ _ _ (fun q => hg (congrArg Addr.block q).symm), World.cell?_setCell_other _ _ _ _ (fun q => hg (congrArg Addr.block q).symm), World.cell?_setCell_other _ _ _ _ (fun q => hg (congrArg Addr.block q).symm)]; exact h.1
  · rw [World.cell?_setCell_other _ _ _ _ (fun q => hg (congrArg Addr.block q).symm), World.cell?_setCell_other _ _ _ _ (fun q => hg (congrArg Addr.block q).symm), World.cell?_setCell_other _ _ _ _ (fun q => hg (congrArg Addr.block q).symm), World.cell?_setCell_other _ _ _ _ (fun q => hg (congrArg Addr.block q).symm)]; exact h.2.1
  · simp only [World.frozen?_setCell]; exact h.2.2.1 i hi
  · simp; exact h.2.2.2
theorem below_set2 {B g : Nat} {a w : World} (h : Below B a w) (hg : B ≤ g) (x y : Value) : Below B a (set2 g x y w) := (h.setCell (p := ⟨g, 0, none⟩) hg x).setCell (p := ⟨g, 1, none⟩) hg y
end Go.Proofs.Ytceejjliboiciaa.CFour
