/- Layer 24 (span): each sum of a window lies within the range of its row. -/
import Derived.Test.YtaoadgolplnedaaSpanAllC
import Derived.Test.YtaoadgolplnedaaSpanBothC
import Derived.Test.YtaoadgolplnedaaSpanSumNum
import Derived.Test.YtaoadgolplnedaaConvBoth
namespace Go.Proofs.Ytaoadgolplnedaa.CSpan
open Go Go.ChangeShapes Go.WideShapes Go.ChangeAt Go.RowKit
open Plain CSat CFix CShape CTensor CConv CJoin
set_option linter.unusedVariables false

theorem step_in {H K S P : Int} {a kk i h : Nat} (ha : stepsM H K S P = (a : Int)) (har : argsB H K S P = true) (hge : 0 ≤ H + 2 * P - K) (hP : P = 0) (hk : K = (kk : Int)) (hi : i < kk) (hh : h < a) : 0 ≤ (h : Int) * S - P + (i : Int) ∧ (h : Int) * S - P + (i : Int) < H := by
  obtain ⟨-, -, -, -, t1, -, -, -, -⟩ := argsB_yes har
  unfold stepsM at ha
  rw [if_pos har, if_neg (by omega)] at ha
  subst hP
  have e1 := Int.ediv_mul_le (H + 2 * 0 - K) (show S ≠ 0 by omega)
  have e2 : (h : Int) * S ≤ (H + 2 * 0 - K) / S * S := Int.mul_le_mul_of_nonneg_right (by omega) (by omega)
  have e3 : 0 ≤ (h : Int) * S := Int.mul_nonneg (by omega) (by omega)
  omega
/-- a sum over whole numbers, by its place. -/
def wholeF (zs ws bs : List Int) (H W C S P : Int) (d kk : Nat) (Z : Int) (b oo i : Nat) : Int :=
  bs.getD (i % oo) 0 + winF zs ws H W C (((i / oo / b : Nat) : Int) * S - P) (((i / oo % b : Nat) : Int) * S - P) d kk (i % oo) Z
theorem whole_wrap (zs ws bs : List Int) (H W C S P : Int) (d kk : Nat) (Z : Int) (b oo i : Nat) : gridF b oo (sumF zs ws bs H W C S P d kk Z) i = IntKind.i32.wrap (wholeF zs ws bs H W C S P d kk Z b oo i) := rfl
theorem whole_in {zs ws bs : List Int} {H W C K S P : Int} {a b oo d kk n i : Nat} {Z lo hi : Int} (g : Bool) (hg : decide (P > 0) = g) (hP0 : 0 ≤ P) (h1 : argsB H K S P = true) (h2 : argsB W K S P = true) (h3 : 0 ≤ H + 2 * P - K) (h4 : 0 ≤ W + 2 * P - K)
    (ha : stepsM H K S P = (a : Int)) (hb : stepsM W K S P = (b : Int)) (hk : K = (kk : Int)) (hd : C = (d : Int)) (hm : (n : Int) = H * W * C) (hz : ∀ q, q < n → lo ≤ zs.getD q 0 ∧ zs.getD q 0 ≤ hi) (hlt : i < a * b * oo) :
    rowP ws bs lo hi Z g (kk * kk * d) (i % oo) ≤ wholeF zs ws bs H W C S P d kk Z b oo i ∧ wholeF zs ws bs H W C S P d kk Z b oo i ≤ rowQ ws bs lo hi Z g (kk * kk * d) (i % oo) := by
  have ho : 0 < oo := by rcases Nat.eq_zero_or_pos oo with h | h; · subst h; simp at hlt
                         · exact h
  have hb0 : 0 < b := by rcases Nat.eq_zero_or_pos b with h | h; · subst h; simp at hlt
                         · exact h
  have e1 : i / oo < a * b := Nat.div_lt_of_lt_mul (by rw [Nat.mul_comm]; exact hlt)
  have e2 : i / oo / b < a := Nat.div_lt_of_lt_mul (by rw [Nat.mul_comm]; exact e1)
  have e3 : i / oo % b < b := Nat.mod_lt _ hb0
  refine win_btw g hd hm hz fun y x hy hx => ?_
  by_cases hp : P = 0
  · have p1 := step_in ha h1 h3 hp hk hy e2
    have p2 := step_in hb h2 h4 hp hk hx e3
    exact .inr ⟨p1.1, p1.2, p2.1, p2.2⟩
  · left
    rw [← hg]
    simp; omega
theorem i32_wrap_bd (R : Int) : -2147483648 ≤ IntKind.i32.wrap R ∧ IntKind.i32.wrap R ≤ 2147483647 := by rw [IntKind.wrap_i32]; omega
theorem quietB {P : Program} {f : FuncId} {args : Array Value} {w : World} {v : Value} (h : Calls P f args w fun e w' => e = .returned v ∧ ∃ k, w' = w.drewN k) : Calls P f args w fun e w' => e = .returned v ∧ Below w.heap.size w w' :=
  h.mono fun _ _ ⟨he, k, hk⟩ => ⟨he, by rw [hk]; exact Kit.below_drewN (Below.refl _ _) k⟩
end Go.Proofs.Ytaoadgolplnedaa.CSpan
