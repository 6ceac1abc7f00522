/- Layer 14 (four): the fixed call. -/
import Derived.Test.YtdohcmjpaepmlaaFourCyc
import Derived.Laws.StructEq
namespace Go.Proofs.Ytdohcmjpaepmlaa.CFour
open Go Go.ChangeShapes Go.WideShapes Go.ChangeAt Go.RowKit
open FloatNum
set_option linter.unusedVariables false

theorem refParts_at (a b c d : Int) (ha : In16 a) (hb : In16 b) (hc : In16 c) (hd : In16 d) (k : Nat) (hk : k < 4) (K : Int) (hK : (k : Int) = K) (w : World) :
    Calls Try.prog 7 #[.agg #[.int .i16 a, .int .i16 b, .int .i16 c, .int .i16 d], .int .i64 K] w fun e' w' => e' = .returned (.tuple #[.int .i64 (reF a b c d k), .int .i64 (imF a b c d k)]) ∧ Below w.heap.size w w' := by
  subst hK
  exact refParts_to a b c d ha hb hc hd k hk w
theorem eq32 (a b c d x y z u : Int) (w : World) : (Op.equalIn 10000 24 (.agg #[.int .i32 a, .int .i32 b, .int .i32 c, .int .i32 d]) (.agg #[.int .i32 x, .int .i32 y, .int .i32 z, .int .i32 u])).run Try.prog w = .ok (a == x && (b == y && (c == z && d == u))) w := by
  have u3 := Try.underlying21
  have a3 := Try.isAgg21
  have z3 := Try.sizeOf21
  rw [show (10000 : Nat) = 9999 + 1 from rfl, Op.equalIn]
  simp only [Sem.run_bind, run_underlying Try.underlying24, Result.andThen_ok]
  simp only [Std.Legacy.Range.forIn_eq_forIn_range', Std.Legacy.Range.size, Nat.sub_zero, Nat.add_sub_cancel, Nat.div_one, List.range'_succ, List.range'_zero, List.forIn_cons, List.forIn_nil]
  go_simp
  by_cases h1 : a = x <;> by_cases h2 : b = y <;> by_cases h3 : c = z <;> by_cases h4 : d = u <;> simp [h1, h2, h3, h4]
theorem nat_int (n : Nat) : (n : Int) = (n : Int) := rfl
theorem in16 (n : Int) (h1 : -32768 ≤ n) (h2 : n ≤ 32767) : In16 n := ⟨h1, h2⟩
theorem known_parts (w : World) : Calls Try.prog 6 #[.agg #[.int .i16 1, .int .i16 2, .int .i16 3, .int .i16 4]] w fun e' w' => e' = .returned (.tuple #[.agg #[.int .i32 10, .int .i32 (-2), .int .i32 (-2), .int .i32 (-2)], .agg #[.int .i32 0, .int .i32 2, .int .i32 0, .int .i32 (-2)]]) ∧ Below w.heap.size w w' :=
  parts_to 1 2 3 4 (by unfold In16; omega) (by unfold In16; omega) (by unfold In16; omega) (by unfold In16; omega) w

set_option maxHeartbeats 2000000 in
theorem known14 (w : World) : Calls Try.prog 8 #[] w fun e w' => e = .returned (.bool true) ∧ Below w.heap.size w w' := by
  have HE := eq32 10 (-2) (-2) (-2) 10 (-2) (-2) (-2)
  have HE2 := eq32 0 2 0 (-2) 0 2 0 (-2)
  have hu := Try.underlying24
  have hg := Try.eqGuardType24
  go_enter Try.func8, Try.ntmps8
  go_wp2_with (go_at_call 6; ((with_reducible refine (known_parts _).mono ?_); rintro e1 w1 ⟨rfl, h1⟩))
  go_ret
  exact ⟨rfl, (h1.alloc h1.size _).alloc (by have := h1.size; simp; omega) _⟩
end Go.Proofs.Ytdohcmjpaepmlaa.CFour
