/- Contracts of layer 9's document side: a number of a tensor, or one beyond it. -/
import Derived.Test.YtmnhcmkcdchmkaaTensorRef
import Derived.Test.YtmnhcmkcdchmkaaTensorTwo
namespace Go.Proofs.Ytmnhcmkcdchmkaa.CPad
open Go Go.ChangeShapes Go.WideShapes Go.ChangeAt Go.RowKit
open Plain CSat CShape CTensor
set_option linter.unusedVariables false

/-- the number at a row, a column, a channel; z, where there is none. -/
def pixZ (zs : List Int) (H W C h w k z : Int) : Int := if 0 ≤ h ∧ h < H ∧ 0 ≤ w ∧ w < W then zs.getD ((h * W + w) * C + k).toNat 0 else z
theorem mul_lt {a b c d : Int} (h0 : 0 ≤ a) (h1 : a < b) (h2 : 0 ≤ c) (h3 : c < d) : 0 ≤ a * d + c ∧ a * d + c < b * d := by
  have e1 : 0 ≤ a * d := Int.mul_nonneg h0 (by omega)
  have e2 : (a + 1) * d ≤ b * d := Int.mul_le_mul_of_nonneg_right (by omega) (by omega)
  rw [Int.add_mul, Int.one_mul] at e2
  omega
/-- where a place of a right tensor lies in its list. -/
theorem place_bd {H W C h w k : Int} {n : Nat} (hs : shapeB H W C = true) (hn : (n : Int) = H * W * C) (h0 : 0 ≤ h) (h1 : h < H) (w0 : 0 ≤ w) (w1 : w < W) (k0 : 0 ≤ k) (k1 : k < C) :
    0 ≤ h * W ∧ h * W ≤ 256 ∧ 0 ≤ h * W + w ∧ h * W + w ≤ 256 ∧ 0 ≤ (h * W + w) * C ∧ (h * W + w) * C ≤ 1024 ∧ 0 ≤ (h * W + w) * C + k ∧ (h * W + w) * C + k < (n : Int) := by
  obtain ⟨a1, a2, a3, a4, a5, a6, a7⟩ := shapeB_yes hs
  have m1 := mul_lt h0 h1 w0 w1
  have m2 := mul_lt m1.1 m1.2 k0 k1
  have e1 : 0 ≤ h * W := Int.mul_nonneg h0 (by omega)
  have e2 : H * W ≤ 256 := Int.mul_le_mul a2 a4 (by omega) (by omega)
  have e3 : 0 ≤ (h * W + w) * C := Int.mul_nonneg m1.1 (by omega)
  rw [← hn] at m2 a7
  exact ⟨e1, by omega, m1.1, by omega, e3, by omega, m2.1, m2.2⟩
end Go.Proofs.Ytmnhcmkcdchmkaa.CPad
