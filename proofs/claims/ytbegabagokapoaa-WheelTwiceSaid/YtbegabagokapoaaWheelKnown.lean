/- Layer 15 (wheel): the fixed calls. -/
import Derived.Test.YtbegabagokapoaaWheelMany
import Derived.Test.YtbegabagokapoaaWheelRef
import Derived.Laws.StructEq
namespace Go.Proofs.Ytbegabagokapoaa.CWheel
open Go Go.ChangeShapes Go.WideShapes Go.ChangeAt Go.RowKit
open FloatNum CFour
set_option linter.unusedVariables false
theorem eq64 (a b x y : Int) (w : World) : (Op.equalIn 10000 30 (.agg #[.int .i64 a, .int .i64 b]) (.agg #[.int .i64 x, .int .i64 y])).run Try.prog w = .ok (a == x && b == y) w := by
  have u3 := Try.underlying2
  have a3 := Try.isAgg2
  have z3 := Try.sizeOf2
  rw [show (10000 : Nat) = 9999 + 1 from rfl, Op.equalIn]
  simp only [Sem.run_bind, run_underlying Try.underlying30, Result.andThen_ok]
  simp only [Std.Legacy.Range.forIn_eq_forIn_range', Std.Legacy.Range.size, Nat.sub_zero, Nat.add_sub_cancel, Nat.div_one, List.range'_succ, List.range'_zero, List.forIn_cons, List.forIn_nil]
  go_simp
  by_cases h1 : a = x <;> by_cases h2 : b = y <;> simp [h1, h2]
theorem known_two (w : World) : Calls Try.prog 8 #[.agg #[.int .i16 1, .int .i16 2, .int .i16 3, .int .i16 4], .agg #[.int .i8 1, .int .i8 10, .int .i8 100]] w fun e' w' => e' = .returned (.agg #[.int .i64 321, .int .i64 432]) ∧ Below w.heap.size w w' :=
  two_to 1 2 3 4 1 10 100 (by unfold In16; omega) (by unfold In16; omega) (by unfold In16; omega) (by unfold In16; omega) (by unfold InW; omega) (by unfold InW; omega) (by unfold InW; omega) 321 432 (by decide) (by decide) w
theorem known_blocks (w : World) : Calls Try.prog 11 #[.int .i64 5] w fun e' w' => e' = .returned (.int .i64 2) ∧ w = w' := blocks_to 5 (by omega) (by omega) 2 (by decide) w

set_option maxHeartbeats 2000000 in
theorem known15 (w : World) : Calls Try.prog 6 #[] w fun e w' => e = .returned (.bool true) ∧ Below w.heap.size w w' := by
  have HE := eq64 321 432 321 432
  have hu := Try.underlying30
  have hg := Try.eqGuardType30
  go_enter Try.func6, Try.ntmps6
  go_wp2_with (first
    | (go_at_call 8; ((with_reducible refine (known_two _).mono ?_); rintro e1 w1 ⟨rfl, h1⟩))
    | (go_at_call 11; ((with_reducible refine (known_blocks _).mono ?_); rintro e1 w2 ⟨rfl, rfl⟩)))
  go_ret
  exact ⟨rfl, h1⟩
end Go.Proofs.Ytbegabagokapoaa.CWheel
