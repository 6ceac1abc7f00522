/- Layer 10: the shape of what a window makes, and the document's. -/
import Derived.Test.YtmnhcmkcdchmkaaShapeTwo
import Derived.Test.YtmnhcmkcdchmkaaShapeRefTwo
import Derived.Test.YtmnhcmkcdchmkaaTensorTwo
namespace Go.Proofs.Ytmnhcmkcdchmkaa.CConv
open Go Go.ChangeShapes Go.WideShapes Go.ChangeAt Go.RowKit
open Plain CSat CShape CTensor
set_option linter.unusedVariables false

/-- the first error of a node's shape. -/
def convE (H W C K S P O : Int) (nW nB : Nat) : Int :=
  if slideE H W C K S P O ≠ 0 then slideE H W C K S P O else if (nW : Int) = O * K * K * C ∧ nW ≤ 16384 ∧ (nB : Int) = O then 0 else 9
def convS (H W C K S P O : Int) (nW nB : Nat) : Array Value :=
  if convE H W C K S P O nW nB = 0 then #[.int .i64 (stepsM H K S P), .int .i64 (stepsM W K S P), .int .i64 O] else #[.int .i64 0, .int .i64 0, .int .i64 0]
theorem slide_ok {H W C K S P O : Int} (h : slideE H W C K S P O = 0) :
    shapeB H W C = true ∧ argsB H K S P = true ∧ argsB W K S P = true ∧ 0 ≤ H + 2 * P - K ∧ 0 ≤ W + 2 * P - K ∧ shapeB (stepsM H K S P) (stepsM W K S P) O = true := by
  unfold slideE at h
  by_cases h1 : shapeB H W C = false
  · rw [if_pos h1] at h; omega
  · rw [if_neg h1] at h
    by_cases h2 : stepsE H K S P ≠ 0
    · rw [if_pos h2] at h; exact absurd h h2
    · rw [if_neg h2] at h
      by_cases h3 : stepsE W K S P ≠ 0
      · rw [if_pos h3] at h; exact absurd h h3
      · rw [if_neg h3] at h
        by_cases h4 : shapeB (stepsM H K S P) (stepsM W K S P) O = false
        · rw [if_neg (by simp [h4])] at h; omega
        · have e1 : stepsE H K S P = 0 := by omega
          have e2 : stepsE W K S P = 0 := by omega
          unfold stepsE at e1 e2
          have a1 : argsB H K S P = true := by
            cases h : argsB H K S P
            · rw [h] at e1; simp at e1
            · rfl
          have a2 : argsB W K S P = true := by
            cases h : argsB W K S P
            · rw [h] at e2; simp at e2
            · rfl
          rw [if_pos a1] at e1
          rw [if_pos a2] at e2
          refine ⟨by simpa using h1, a1, a2, ?_, ?_, by simpa using h4⟩
          · by_cases h : H + 2 * P - K < 0
            · rw [if_pos h] at e1; omega
            · omega
          · by_cases h : W + 2 * P - K < 0
            · rw [if_pos h] at e2; omega
            · omega
theorem weights_bd {C K O : Int} (h1 : 1 ≤ C) (h2 : C ≤ 1024) (h3 : 1 ≤ K) (h4 : K ≤ 7) (h5 : 1 ≤ O) (h6 : O ≤ 1024) :
    0 ≤ O * K ∧ O * K ≤ 7168 ∧ 0 ≤ O * K * K ∧ O * K * K ≤ 50176 ∧ 0 ≤ O * K * K * C ∧ O * K * K * C ≤ 51380224 := by
  have e1 : 0 ≤ O * K := Int.mul_nonneg (by omega) (by omega)
  have e2 : O * K ≤ 1024 * 7 := Int.mul_le_mul h6 h4 (by omega) (by omega)
  have e3 : 0 ≤ O * K * K := Int.mul_nonneg e1 (by omega)
  have e4 : O * K * K ≤ 7168 * 7 := Int.mul_le_mul (by omega) h4 (by omega) (by omega)
  have e5 : 0 ≤ O * K * K * C := Int.mul_nonneg e3 (by omega)
  have e6 : O * K * K * C ≤ 50176 * 1024 := Int.mul_le_mul (by omega) h2 (by omega) (by omega)
  omega
end Go.Proofs.Ytmnhcmkcdchmkaa.CConv
