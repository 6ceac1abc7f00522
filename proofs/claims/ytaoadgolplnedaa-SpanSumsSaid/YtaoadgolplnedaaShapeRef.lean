/- Contracts of the document's own answers of layer 4 (shape), and of its fixed calls. -/
import Derived.Test.YtaoadgolplnedaaShapeTwo
namespace Go.Proofs.Ytaoadgolplnedaa.CShape
open Go Go.ChangeShapes Go.WideShapes Go.ChangeAt Go.RowKit
open Plain CSat
set_option linter.unusedVariables false

theorem elemsZ_some {h w c : Int} (hs : shapeB h w c = true) : ∃ n, elemsZ h w c = n ∧ 1 ≤ n ∧ n ≤ 1024 := by
  refine ⟨_, rfl, ?_, (elemsZ_bd h w c).2⟩
  have := elemsZ_pos h w c
  rw [hs] at this
  simp at this; omega

end Go.Proofs.Ytaoadgolplnedaa.CShape
