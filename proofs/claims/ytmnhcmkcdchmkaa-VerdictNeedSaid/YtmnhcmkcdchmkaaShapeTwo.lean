/- Contracts of package shape (layer 4), the second part: places, and windows. -/
import Derived.Test.YtmnhcmkcdchmkaaShape
import Derived.Deep.RegionHeld3
import Derived.Handy
namespace Go.Proofs.Ytmnhcmkcdchmkaa.CShape
open Go Go.ChangeShapes Go.WideShapes Go.ChangeAt Go.RowKit
open Plain CSat
set_option linter.unusedVariables false

/-! ### windows -/
def argsB (n k s p : Int) : Bool := decide (1 ≤ n ∧ n ≤ 1024 ∧ 1 ≤ k ∧ k ≤ 5 ∧ 1 ≤ s ∧ s ≤ 4 ∧ 0 ≤ p ∧ p ≤ 4 ∧ p < k)
def stepsM (n k s p : Int) : Int := if argsB n k s p then (if n + 2 * p - k < 0 then 0 else (n + 2 * p - k) / s + 1) else 0
def stepsE (n k s p : Int) : Int := if argsB n k s p then (if n + 2 * p - k < 0 then 5 else 0) else 2
theorem argsB_yes {n k s p : Int} (h : argsB n k s p = true) : 1 ≤ n ∧ n ≤ 1024 ∧ 1 ≤ k ∧ k ≤ 5 ∧ 1 ≤ s ∧ s ≤ 4 ∧ 0 ≤ p ∧ p ≤ 4 ∧ p < k := by simpa [argsB] using h
theorem argsB_no {n k s p : Int} (h : argsB n k s p = false) : (n < 1 ∨ 1024 < n) ∨ (1 ≤ n ∧ n ≤ 1024 ∧ (k < 1 ∨ 5 < k)) ∨ (1 ≤ n ∧ n ≤ 1024 ∧ 1 ≤ k ∧ k ≤ 5 ∧ (s < 1 ∨ 4 < s)) ∨
    (1 ≤ n ∧ n ≤ 1024 ∧ 1 ≤ k ∧ k ≤ 5 ∧ 1 ≤ s ∧ s ≤ 4 ∧ (p < 0 ∨ 4 < p)) ∨ (1 ≤ n ∧ n ≤ 1024 ∧ 1 ≤ k ∧ k ≤ 5 ∧ 1 ≤ s ∧ s ≤ 4 ∧ 0 ≤ p ∧ p ≤ 4 ∧ k ≤ p) := by
  simp [argsB] at h; omega

/-! ### places -/
/-! ### the shape that a window makes -/
def slideE (H W C k s p o : Int) : Int := if shapeB H W C = false then 5 else if stepsE H k s p ≠ 0 then stepsE H k s p else if stepsE W k s p ≠ 0 then stepsE W k s p else if shapeB (stepsM H k s p) (stepsM W k s p) o then 0 else 5
def slideS (H W C k s p o : Int) : Array Value := if slideE H W C k s p o = 0 then #[.int .i64 (stepsM H k s p), .int .i64 (stepsM W k s p), .int .i64 o] else #[.int .i64 0, .int .i64 0, .int .i64 0]

end Go.Proofs.Ytmnhcmkcdchmkaa.CShape
