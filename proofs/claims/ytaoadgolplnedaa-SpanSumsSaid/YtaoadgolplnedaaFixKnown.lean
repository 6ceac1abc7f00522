/- The fixed calls of layer 2's laws, and order among rounded numbers. -/
import Derived.Test.YtaoadgolplnedaaFixRef
namespace Go.Proofs.Ytaoadgolplnedaa.CFix
open Go Go.ChangeShapes Go.WideShapes Go.ChangeAt Go.RowKit
open Plain CSat
set_option linter.unusedVariables false

theorem round_int (v s t : Int) (h1 : 0 ≤ s) (h2 : s ≤ 62) (hv1 : -9223372036854775808 ≤ v) (hv2 : v ≤ 9223372036854775807) (ht : roundZ v s.toNat = t) (w : World) :
    Calls Try.prog 45 #[.int .i64 v, .int .i64 s] w fun e w' => e = .returned (.int .i64 t) ∧ w = w' := by
  obtain ⟨n, rfl⟩ := Int.eq_ofNat_of_zero_le h1
  exact ht ▸ round_yes v n (by omega) hv1 hv2 w
theorem refRound_int (v s t : Int) (h1 : 0 ≤ s) (h2 : s ≤ 62) (hv1 : -9223372036854775808 ≤ v) (hv2 : v ≤ 9223372036854775807) (ht : roundZ v s.toNat = t) (w : World) :
    Calls Try.prog 31 #[.int .i64 v, .int .i64 s] w fun e w' => e = .returned (.int .i64 t) ∧ ∃ m, w' = w.drewN m := by
  obtain ⟨n, rfl⟩ := Int.eq_ofNat_of_zero_le h1
  exact ht ▸ refRound_yes v n (by omega) hv1 hv2 w
theorem scale_int (a m s t : Int) (h1 : 0 ≤ s) (h2 : s ≤ 62) (ha1 : -2147483648 ≤ a) (ha2 : a ≤ 2147483647) (hm1 : -2147483648 ≤ m) (hm2 : m ≤ 2147483647) (ht : roundZ (a * m) s.toNat = t) (w : World) :
    Calls Try.prog 40 #[.int .i32 a, .int .i32 m, .int .i64 s] w fun e w' => e = .returned (.int .i64 t) ∧ w = w' := by
  obtain ⟨n, rfl⟩ := Int.eq_ofNat_of_zero_le h1
  exact ht ▸ scale_yes a m n (by omega) ha1 ha2 hm1 hm2 w
theorem round_mono (v u : Int) (s : Nat) (h : v ≤ u) : roundZ v s ≤ roundZ u s := by
  obtain ⟨p, hp⟩ : ∃ p, 2 ^ s = p := ⟨_, rfl⟩
  unfold roundZ
  rw [hp]
  by_cases h1 : v < 0 <;> by_cases h2 : u < 0
  · rw [if_pos h1, if_pos h2]
    have := Nat.div_le_div_right (c := p) (show u.natAbs + p / 2 ≤ v.natAbs + p / 2 by omega)
    omega
  · rw [if_pos h1, if_neg h2]
    generalize (v.natAbs + p / 2) / p = x
    generalize (u.natAbs + p / 2) / p = y
    omega
  · omega
  · rw [if_neg h1, if_neg h2]
    have := Nat.div_le_div_right (c := p) (show v.natAbs + p / 2 ≤ u.natAbs + p / 2 by omega)
    omega
theorem round_neg (v : Int) (s : Nat) : roundZ (-v) s = -roundZ v s := by
  unfold roundZ
  rw [Int.natAbs_neg]
  by_cases h1 : v < 0
  · rw [if_pos h1, if_neg (by omega)]; omega
  · by_cases h2 : v = 0
    · subst h2
      have h3 : ((0 : Int).natAbs + 2 ^ s / 2) / 2 ^ s = 0 := Nat.div_eq_of_lt (by have := Nat.two_pow_pos s; simp; omega)
      rw [h3]; simp
    · rw [if_neg h1, if_pos (by omega)]
theorem held_mono (a b m s z lo hi : Int) (h : a ≤ b) (hl : lo ≤ hi) : heldZ a m s z lo hi ≤ heldZ b m s z lo hi := by
  unfold heldZ
  split
  · rename_i hr
    obtain ⟨h1, _, _⟩ : 0 < m ∧ 0 ≤ s ∧ s ≤ 62 := by simpa [rightB] using hr
    have hm := round_mono (a * m) (b * m) s.toNat (Int.mul_le_mul_of_nonneg_right h (by omega))
    generalize roundZ (a * m) s.toNat = x at *
    generalize roundZ (b * m) s.toNat = y at *
    unfold clampZ
    split <;> split <;> (try split) <;> (try split) <;> omega
  · omega
/-- how far a rounded number is away. -/
theorem round_far (v : Int) (s p : Nat) (hp : 2 ^ s = p) : (v - roundZ v s * p).natAbs * 2 ≤ p := by
  have hp1 : 1 ≤ p := by rw [← hp]; exact Nat.one_le_two_pow
  have hd := Nat.div_add_mod (v.natAbs + p / 2) p
  have hm := Nat.mod_lt (v.natAbs + p / 2) (show 0 < p by omega)
  have hc : (((v.natAbs + p / 2) / p : Nat) : Int) * (p : Int) = ((p * ((v.natAbs + p / 2) / p) : Nat) : Int) := by rw [Int.natCast_mul, Int.mul_comm]
  unfold roundZ
  rw [hp]
  have hpe : p = 1 ∨ 2 * (p / 2) = p := by
    cases s with
    | zero => simp at hp; omega
    | succ s => rw [Nat.pow_succ] at hp; omega
  split
  · rw [Int.neg_mul, hc]
    generalize p * ((v.natAbs + p / 2) / p) = x at *
    omega
  · rw [hc]
    generalize p * ((v.natAbs + p / 2) / p) = x at *
    omega
end Go.Proofs.Ytaoadgolplnedaa.CFix
