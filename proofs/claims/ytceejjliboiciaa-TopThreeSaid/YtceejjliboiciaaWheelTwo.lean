/- Layer 15 (wheel): the contract of the code's two sums of four numbers. -/
import Derived.Test.YtceejjliboiciaaWheelAddY
namespace Go.Proofs.Ytceejjliboiciaa.CWheel
open Go Go.ChangeShapes Go.WideShapes Go.ChangeAt Go.RowKit
open FloatNum CFour
set_option linter.unusedVariables false

theorem Three.below {g : Nat} {a b c : Value} {w w' : World} (h : Three g a b c w) {B : Nat} (hb : Below B w w') (hg : g < B) : Three g a b c w' := by
  refine ⟨?_, ?_, ?_, Nat.lt_of_lt_of_le h.2.2.2 hb.size⟩
  · rw [hb.cell (p := ⟨g, 0, none⟩) hg]; exact h.1
  · rw [hb.cell (p := ⟨g, 1, none⟩) hg]; exact h.2.1
  · rw [hb.cell (p := ⟨g, 2, none⟩) hg]; exact h.2.2.1
theorem Three.drew {g : Nat} {a b c : Value} {w : World} (h : Three g a b c w) : Three g a b c w.drew := h
theorem Three.range {g : Nat} {a b c : Value} {w : World} (h : Three g a b c w) : w.rangeAt g 0 [a, b, c] := Kit.range_3 h.1 h.2.1 h.2.2.1
theorem Three.oth2 {g g' : Nat} {a b c : Value} {w : World} (h : Three g a b c w) (x y : Value) (hg : g ≠ g') : Three g a b c (CFour.set2 g' x y w) := by
  unfold CFour.set2
  refine ⟨?_, ?_, ?_, by simp; exact h.2.2.2⟩
  · rw [World.cell?_setCell_other _ _ _ _ (fun q => hg (congrArg Addr.block q).symm), World.cell?_setCell_other _ _ _ _ (fun q => hg (congrArg Addr.block q).symm)]; exact h.1
  · rw [World.cell?_setCell_other _ _ _ _ (fun q => hg (congrArg Addr.block q).symm), World.cell?_setCell_other _ _ _ _ (fun q => hg (congrArg Addr.block q).symm)]; exact h.2.1
  · rw [World.cell?_setCell_other _ _ _ _ (fun q => hg (congrArg Addr.block q).symm), World.cell?_setCell_other _ _ _ _ (fun q => hg (congrArg Addr.block q).symm)]; exact h.2.2.1

end Go.Proofs.Ytceejjliboiciaa.CWheel
