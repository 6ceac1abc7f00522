/- Contracts of package sat (layer 1) and of the document's answers to it: what each function returns, as plain integers. -/
import Derived.Test.YtpiigdgiliaihaaRows
import Derived.Test.YtpiigdgiliaihaaPlain
import Derived.WalkKit
import Derived.ProofKit
import Derived.OpenShut
import Derived.Laws.Bits64
import Derived.Test.YtpiigdgiliaihaaShelf
import Derived.Outline
namespace Go.Proofs.Ytpiigdgiliaihaa.CSat
open Go.ChangeShapes Go.WideShapes Go.ChangeAt Go.RowKit
open Plain
set_option linter.unusedVariables false

theorem ret_int {k : IntKind} {a b : Int} (h : a = b) : Ending.returned (.int k a) = .returned (.int k b) := by rw [h]

theorem mul_bd (a b : Int) (ha1 : -2147483648 ≤ a) (ha2 : a ≤ 2147483647) (hb1 : -2147483648 ≤ b) (hb2 : b ≤ 2147483647) : -4611686018427387904 ≤ a * b ∧ a * b ≤ 4611686018427387904 := by
  have h : (a * b).natAbs ≤ 2147483648 * 2147483648 := by
    rw [Int.natAbs_mul]; exact Nat.mul_le_mul (by omega) (by omega)
  omega

theorem mul64_small (x y P : Nat) (hx : x < 18446744073709551616) (hy : y < 18446744073709551616) (hP : P = x * y) (h : P < 18446744073709551616) (w : World) :
    Calls Try.prog 23 #[.int .u64 x, .int .u64 y] w fun e w' => e = .returned (.tuple #[.int .u64 0, .int .u64 (P : Int)]) ∧ w = w' := by
  refine (Try.bits_Mul64 x y hx hy w).mono fun e w' he => ?_
  rw [← hP, Nat.div_eq_of_lt h, Nat.mod_eq_of_lt h] at he
  exact ⟨he.1, he.2.symm⟩

def BigHigh (w : World) (e : Ending) (w' : World) : Prop := ∃ h l : Int, 1 ≤ h ∧ (h != 0) = true ∧ e = .returned (.tuple #[.int .u64 h, .int .u64 l]) ∧ w = w'

theorem mul64_big (x y : Nat) (hx : x < 18446744073709551616) (hy : y < 18446744073709551616) (h : 18446744073709551616 ≤ x * y) (w : World) :
    Calls Try.prog 23 #[.int .u64 x, .int .u64 y] w (BigHigh w) := by
  refine (Try.bits_Mul64 x y hx hy w).mono fun e w' he => ?_
  have h1 : 1 ≤ x * y / 18446744073709551616 := (Nat.le_div_iff_mul_le (by omega)).2 (by omega)
  generalize x * y / 18446744073709551616 = q at h1 he
  exact ⟨q, _, by omega, by rw [bne_iff_ne]; omega, he.1, he.2.symm⟩

theorem abs_mul (a b : Int) : (a * b).natAbs = a.natAbs * b.natAbs := Int.natAbs_mul a b

theorem neg_back (P : Nat) (h : P ≤ 9223372036854775808) : Ending.returned (.tuple #[.int .i64 (wrap64 (IntKind.u64.wrap (-(P : Int)))), .bool true]) = Ending.returned (.tuple #[.int .i64 (-(P : Int)), .bool true]) := by
  have : wrap64 (IntKind.u64.wrap (-(P : Int))) = -(P : Int) := by rw [IntKind.wrap_u64]; unfold wrap64; omega
  rw [this]

end Go.Proofs.Ytpiigdgiliaihaa.CSat
