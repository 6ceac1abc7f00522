/- Contracts of the document's own answers of layer 2, and of fix.All. -/
import Derived.Test.YtpiigdgiliaihaaFix
namespace Go.Proofs.Ytpiigdgiliaihaa.CFix
open Go Go.ChangeShapes Go.WideShapes Go.ChangeAt Go.RowKit
open Plain CSat
set_option linter.unusedVariables false

theorem pow_even (s p : Nat) (h : 2 ^ s = p) (h1 : 1 < p) : 2 * (p / 2) = p := by
  cases s with
  | zero => simp at h; omega
  | succ s => rw [Nat.pow_succ] at h; omega

/-- the quotient and the rest, and what is rounded: what the document's own way comes to. -/
theorem round_parts (v : Int) (s p : Nat) (h : 2 ^ s = p) (h1 : 1 ≤ p) : ∃ Q R : Nat, R < p ∧ Q ≤ v.natAbs ∧ (1 < p → 2 * Q ≤ v.natAbs) ∧
    (0 ≤ v → v.tdiv (p : Int) = Q ∧ v.tmod (p : Int) = R) ∧ (v < 0 → v.tdiv (p : Int) = -(Q : Int) ∧ v.tmod (p : Int) = -(R : Int)) ∧
    (p ≤ 2 * R ∧ 1 < p → roundZ v s = if v < 0 then -(Q : Int) - 1 else (Q : Int) + 1) ∧ (¬ (p ≤ 2 * R ∧ 1 < p) → roundZ v s = if v < 0 then -(Q : Int) else (Q : Int)) := by
  refine ⟨v.natAbs / p, v.natAbs % p, Nat.mod_lt _ (by omega), Nat.div_le_self _ _, ?_, ?_, ?_, ?_, ?_⟩
  · intro h2
    have hd := Nat.div_add_mod v.natAbs p
    have : 2 * (v.natAbs / p) ≤ p * (v.natAbs / p) := Nat.mul_le_mul_right _ h2
    omega
  · intro h0
    obtain ⟨n, rfl⟩ := Int.eq_ofNat_of_zero_le h0
    exact ⟨by simp, by rw [Int.tmod_eq_emod_of_nonneg (by omega)]; simp⟩
  · intro h0
    have e : v = -(v.natAbs : Int) := by omega
    generalize v.natAbs = n at e
    subst e
    rw [Int.neg_tdiv, Int.neg_tmod, Int.tmod_eq_emod_of_nonneg (by omega)]
    simp
  · rintro ⟨h2, h3⟩
    have he := pow_even s p h h3
    have hm := Nat.mod_lt v.natAbs (show 0 < p by omega)
    have hd := Nat.div_add_mod v.natAbs p
    have hx : (v.natAbs + p / 2) / p = v.natAbs / p + 1 := by
      rw [Nat.div_eq_iff (by omega)]
      have : (v.natAbs / p + 1) * p = p * (v.natAbs / p) + p := by rw [Nat.add_mul, Nat.one_mul, Nat.mul_comm]
      omega
    unfold roundZ
    rw [h, hx]
    split <;> omega
  · intro h2
    have hx : (v.natAbs + p / 2) / p = v.natAbs / p := by
      have hm := Nat.mod_lt v.natAbs (show 0 < p by omega)
      have hd := Nat.div_add_mod v.natAbs p
      rw [Nat.div_eq_iff (by omega)]
      have : (v.natAbs / p) * p = p * (v.natAbs / p) := Nat.mul_comm _ _
      omega
    unfold roundZ
    rw [h, hx]

theorem refRight_yes (m s z : Int) (h : rightB m s = true) (w : World) :
    Calls Try.prog 16 #[.agg #[.int .i32 m, .int .i64 s, .int .i8 z]] w fun e w' => e = .returned (.bool true) ∧ Below w.heap.size w w' := by
  obtain ⟨h1, h2, h3⟩ : 0 < m ∧ 0 ≤ s ∧ s ≤ 62 := by simpa [rightB] using h
  clear h
  go_enter Try.func16, Try.ntmps16
  go_wp2
  go_ret
  exact ⟨rfl, (Below.refl _ _).alloc (Nat.le_refl _) _⟩
theorem refRight_no (m s z : Int) (h : rightB m s = false) (w : World) :
    Calls Try.prog 16 #[.agg #[.int .i32 m, .int .i64 s, .int .i8 z]] w fun e w' => e = .returned (.bool false) ∧ Below w.heap.size w w' := by
  have h0 : ¬ (0 < m ∧ 0 ≤ s ∧ s ≤ 62) := by simpa [rightB] using h
  clear h
  have h1 : (decide (0 < m) = false) ∨ (0 < m ∧ decide (0 ≤ s) = false) ∨ (0 < m ∧ 0 ≤ s ∧ decide (s ≤ 62) = false) := by simp; omega
  clear h0
  rcases h1 with h1 | ⟨h1, h2⟩ | ⟨h1, h2, h3⟩
  all_goals
    go_enter Try.func16, Try.ntmps16
    go_wp2
    go_ret
    exact ⟨rfl, (Below.refl _ _).alloc (Nat.le_refl _) _⟩

end Go.Proofs.Ytpiigdgiliaihaa.CFix
