/- Contracts of package tensor (layer 5): flat tensors, tensors of one number. -/
import Derived.Test.YtpokeklphmfcnaaTensorOf
import Derived.Test.YtpokeklphmfcnaaTensorRep
import Derived.Test.YtpokeklphmfcnaaShapeRef
import Derived.Test.YtpokeklphmfcnaaTensorSame
namespace Go.Proofs.Ytpokeklphmfcnaa.CTensor
open Go Go.ChangeShapes Go.WideShapes Go.ChangeAt Go.RowKit
open Plain CSat CShape
set_option linter.unusedVariables false

theorem flat_tens {H W C m : Int} {n : Nat} {b : Bool} (hm : elemsZ H W C = m) (hb : tensB H W C n = b) : tensB 1 1 m n = b := by
  cases hr : shapeB H W C
  · rw [elemsZ_no hr] at hm
    subst hm hb
    have h0 : shapeB 1 1 0 = false := by decide
    simp [tensB, hr, h0]
  · rw [elemsZ_yes hr] at hm
    have hs := hr
    simp only [shapeB, decide_eq_true_eq] at hs
    obtain ⟨h1, h2, h3, h4, h5, h6, h7⟩ := hs
    have := prod_bd h1 h2 h3 h4 h5 h6
    have hs1 : shapeB 1 1 m = true := by simp [shapeB]; omega
    rw [← hb]
    simp only [tensB, hr, hs1, Bool.true_and]
    rw [hm]; simp
end Go.Proofs.Ytpokeklphmfcnaa.CTensor
