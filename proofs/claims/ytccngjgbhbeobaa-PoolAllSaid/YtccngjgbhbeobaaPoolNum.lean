/- Layer 19 (pool): sums by numbers, to the nearest. -/
import Derived.Test.YtccngjgbhbeobaaPlain
namespace Go.Proofs.Ytccngjgbhbeobaa.CPool
set_option linter.unusedVariables false

/-- a sum by a number, to the nearest; of two that are equally near the one farther from 0. -/
def nearZ (s m : Int) : Int := if m < 1 then 0 else if s < 0 then -((2 * -s + m) / (2 * m)) else (2 * s + m) / (2 * m)
/-- the document's way: the quotient, and one more where the rest is half or more. -/
theorem near_way {s m : Int} (hm : 1 ≤ m) (hs : 0 ≤ s) : (2 * s + m) / (2 * m) = if m - s % m ≤ s % m then s / m + 1 else s / m := by
  have h1 : 0 ≤ s % m := Int.emod_nonneg _ (by omega)
  have h2 : s % m < m := Int.emod_lt_of_pos _ (by omega)
  have h3 : m * (s / m) + s % m = s := Int.mul_ediv_add_emod s m
  generalize s % m = r at h1 h2 h3 ⊢
  generalize s / m = q at h3 ⊢
  have e : 2 * s + m = (2 * r + m) + 2 * m * q := by rw [← h3, Int.mul_assoc]; omega
  rw [e, Int.add_mul_ediv_left _ _ (by omega)]
  by_cases h : m - r ≤ r
  · rw [if_pos h]
    have : (2 * r + m) / (2 * m) = 1 := by
      have a : 1 ≤ (2 * r + m) / (2 * m) := by rw [Int.le_ediv_iff_mul_le (by omega)]; omega
      have b : (2 * r + m) / (2 * m) < 2 := by rw [Int.ediv_lt_iff_lt_mul (by omega)]; omega
      omega
    omega
  · rw [if_neg h]
    have : (2 * r + m) / (2 * m) = 0 := Int.ediv_eq_zero_of_lt (by omega) (by omega)
    omega
theorem near_le {s m M : Int} (hm : 1 ≤ m) (h : s ≤ M * m) : nearZ s m ≤ M := by
  unfold nearZ
  rw [if_neg (by omega)]
  by_cases hs : s < 0
  · rw [if_pos hs]
    have : -M ≤ (2 * -s + m) / (2 * m) := by
      rw [Int.le_ediv_iff_mul_le (by omega), Int.neg_mul]
      have e : M * (2 * m) = 2 * (M * m) := by rw [← Int.mul_assoc, Int.mul_comm M 2, Int.mul_assoc]
      rw [e]; omega
    omega
  · rw [if_neg hs]
    have : (2 * s + m) / (2 * m) < M + 1 := by
      rw [Int.ediv_lt_iff_lt_mul (by omega), Int.add_mul]
      have e : M * (2 * m) = 2 * (M * m) := by rw [← Int.mul_assoc, Int.mul_comm M 2, Int.mul_assoc]
      rw [e]; omega
    omega
theorem near_ge {s m M : Int} (hm : 1 ≤ m) (h : M * m ≤ s) : M ≤ nearZ s m := by
  unfold nearZ
  rw [if_neg (by omega)]
  by_cases hs : s < 0
  · rw [if_pos hs]
    have : (2 * -s + m) / (2 * m) < -M + 1 := by
      rw [Int.ediv_lt_iff_lt_mul (by omega), Int.add_mul, Int.neg_mul]
      have e : M * (2 * m) = 2 * (M * m) := by rw [← Int.mul_assoc, Int.mul_comm M 2, Int.mul_assoc]
      rw [e]; omega
    omega
  · rw [if_neg hs, Int.le_ediv_iff_mul_le (by omega)]
    have e : M * (2 * m) = 2 * (M * m) := by rw [← Int.mul_assoc, Int.mul_comm M 2, Int.mul_assoc]
    rw [e]; omega
/-- of one number alone. -/
theorem near_one (s : Int) : nearZ s 1 = s := by
  have h1 := near_le (s := s) (m := 1) (M := s) (by omega) (by omega)
  have h2 := near_ge (s := s) (m := 1) (M := s) (by omega) (by omega)
  omega
end Go.Proofs.Ytccngjgbhbeobaa.CPool
