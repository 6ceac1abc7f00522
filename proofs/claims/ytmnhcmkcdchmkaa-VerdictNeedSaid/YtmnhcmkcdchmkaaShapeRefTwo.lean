/- Contracts of the document's own answers of layer 4 (shape), the second part: a place that is counted, the shape of a window, and the fixed calls. -/
import Derived.Test.YtmnhcmkcdchmkaaShapeRef
namespace Go.Proofs.Ytmnhcmkcdchmkaa.CShape
open Go Go.ChangeShapes Go.WideShapes Go.ChangeAt Go.RowKit
open Plain CSat
set_option linter.unusedVariables false

/-- within the sides? -/
def sides (H W C h w c : Int) : Prop := 0 ≤ h ∧ h < H ∧ 0 ≤ w ∧ w < W ∧ 0 ≤ c ∧ c < C
/-- not yet behind it? -/
def ahead2 (i k h w : Int) : Prop := i < h ∨ i = h ∧ k ≤ w
def ahead3 (i k j h w c : Int) : Prop := i < h ∨ i = h ∧ k < w ∨ i = h ∧ k = w ∧ j ≤ c

/-- the position, or none. -/
def indexZ (H W C h w c z : Int) : Int := if inB H W C h w c then (h * W + w) * C + c else z
theorem indexZ_yes {H W C h w c z : Int} (hs : inB H W C h w c = true) : indexZ H W C h w c z = (h * W + w) * C + c := by unfold indexZ; rw [if_pos hs]
theorem indexZ_no {H W C h w c z : Int} (hs : inB H W C h w c = false) : indexZ H W C h w c z = z := by unfold indexZ; rw [if_neg (by simp [hs])]
end Go.Proofs.Ytmnhcmkcdchmkaa.CShape
