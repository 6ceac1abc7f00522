/- Contracts of the document's own answers of layer 1. -/
import Derived.Test.YtaoadgolplnedaaSatSum
namespace Go.Proofs.Ytaoadgolplnedaa.CSat
open Go Go.ChangeShapes Go.WideShapes Go.ChangeAt Go.RowKit
open Plain
set_option linter.unusedVariables false

theorem refHeld (v lo hi : Int) (w : World) :
    Calls Try.prog 32 #[.int .i64 v, .int .i64 lo, .int .i64 hi] w fun e w' => e = .returned (.int .i64 (clampZ v lo hi)) ∧ w = w' := by
  by_cases h1 : v < lo
  · go_enter Try.func32, Try.ntmps32
    go_wp2
    go_ret
    exact ⟨ret_int (by exact clampZ_lo (by omega)), rfl⟩
  · by_cases h2 : v > hi
    · go_enter Try.func32, Try.ntmps32
      go_wp2
      go_ret
      exact ⟨ret_int (by exact clampZ_hi (by omega) (by omega)), rfl⟩
    · go_enter Try.func32, Try.ntmps32
      go_wp2
      go_ret
      exact ⟨ret_int (by exact clampZ_in (by omega) (by omega)), rfl⟩

theorem ret_fit {a b : Int} {c : Bool} (h : a = b) : Ending.returned (.tuple #[.int .i64 a, .bool c]) = Ending.returned (.tuple #[.int .i64 b, .bool c]) := by rw [h]

end Go.Proofs.Ytaoadgolplnedaa.CSat
