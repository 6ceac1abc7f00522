/- Plain facts on natural numbers for the layers ratio and shape (doublings, bits, quotients): no program is named here. -/
import Derived.WalkKit
import Derived.Lib.Hide
namespace Go.Proofs.Ytmnhcmkcdchmkaa.Num

theorem pow_le {i j : Nat} (h : i ≤ j) : 2 ^ i ≤ 2 ^ j := Nat.pow_le_pow_right (by omega) h
theorem dbl_le (n : Nat) {i j : Nat} (h : i ≤ j) : n * 2 ^ i ≤ n * 2 ^ j := Nat.mul_le_mul_left _ (pow_le h)
theorem dbl_succ (n i : Nat) : n * 2 ^ (i + 1) = 2 * (n * 2 ^ i) := by rw [Nat.pow_succ, ← Nat.mul_assoc, Nat.mul_comm]
theorem dbl (n L : Nat) : ∀ B, ∃ j, j ≤ B ∧ (∀ i, i < j → n * 2 ^ i < L) ∧ (L ≤ n * 2 ^ j ∨ j = B)
  | 0 => ⟨0, Nat.le_refl _, fun i h => by omega, .inr rfl⟩
  | B + 1 => by
    obtain ⟨j, h1, h2, h3⟩ := dbl n L B
    by_cases h : L ≤ n * 2 ^ j
    · exact ⟨j, by omega, h2, .inl h⟩
    · have hj : j = B := by omega
      subst hj
      refine ⟨j + 1, Nat.le_refl _, fun i hi => ?_, .inr rfl⟩
      by_cases e : i = j
      · subst e; omega
      · exact h2 i (by omega)

/-- j doublings of num make it as great as den by 2 to the 30, and no fewer do. -/
def IsOf (num den j : Nat) : Prop := j ≤ 61 ∧ (∀ i, i < j → num * 2 ^ i < den * 1073741824) ∧ den * 1073741824 ≤ num * 2 ^ j
theorem isOf (num den : Nat) (h1 : 1 ≤ num) (h3 : den ≤ 2147483647) : ∃ j, IsOf num den j := by
  obtain ⟨j, a, b, c⟩ := dbl num (den * 1073741824) 61
  refine ⟨j, a, b, ?_⟩
  rcases c with c | c
  · exact c
  · subst c
    exact Nat.le_trans (Nat.le_trans (Nat.mul_le_mul_right _ h3) (by decide : 2147483647 * 1073741824 ≤ 1 * 2 ^ 61)) (Nat.mul_le_mul_right _ h1)
theorem IsOf.top {num den j : Nat} (h : IsOf num den j) (h2 : num ≤ 2147483647) (hd : 1 ≤ den) : num * 2 ^ j < den * 2147483648 := by
  obtain ⟨a, b, c⟩ := h
  cases j with
  | zero => simp; omega
  | succ j => have := b j (by omega); rw [dbl_succ]; omega
theorem IsOf.short {num den j B : Nat} (h : IsOf num den j) (hb : den * 1073741824 ≤ num * 2 ^ B) : j ≤ B := by
  by_cases hj : j ≤ B
  · exact hj
  · have := h.2.1 B (by omega); omega

/-- x is m doubled j times: to 2 to the 30 at least, as long as s, counted on, is below 62. -/
def IsPlain (m s j x : Nat) : Prop := m * 2 ^ j = x ∧ j ≤ 62 - s ∧ (∀ i, i < j → m * 2 ^ i < 1073741824) ∧ (1073741824 ≤ x ∨ j = 62 - s)
theorem isPlain (m s : Nat) : ∃ j x, IsPlain m s j x := by
  obtain ⟨j, a, b, c⟩ := dbl m 1073741824 (62 - s)
  exact ⟨j, m * 2 ^ j, rfl, a, b, c⟩
theorem IsPlain.top {m s j x : Nat} (h : IsPlain m s j x) (h2 : m ≤ 2147483647) : x ≤ 2147483647 := by
  obtain ⟨rfl, a, b, c⟩ := h
  cases j with
  | zero => simp; omega
  | succ j => have := b j (by omega); rw [dbl_succ]; omega
theorem IsPlain.pos {m s j x : Nat} (h : IsPlain m s j x) (h1 : 1 ≤ m) : 1 ≤ x := by
  obtain ⟨rfl, _⟩ := h
  exact Nat.mul_pos h1 (Nat.two_pow_pos j)
theorem IsPlain.same {m s j x m' s' j' : Nat} (h : IsPlain m s j x) (h' : IsPlain m' s' j' x) (hs : s + j = s' + j') : m * 2 ^ s' = m' * 2 ^ s := by
  obtain ⟨rfl, _⟩ := h
  have e := h'.1
  have k : m * 2 ^ s' * 2 ^ (j + j') = m' * 2 ^ s * 2 ^ (j + j') := by
    have a1 : m * 2 ^ s' * 2 ^ (j + j') = (m * 2 ^ j) * 2 ^ (s' + j') := by rw [Nat.pow_add, Nat.pow_add]; ac_rfl
    have a2 : m' * 2 ^ s * 2 ^ (j + j') = (m' * 2 ^ j') * 2 ^ (s + j) := by rw [Nat.pow_add, Nat.pow_add]; ac_rfl
    rw [a1, a2, e, hs]
  exact Nat.eq_of_mul_eq_mul_right (Nat.two_pow_pos _) k

/-! ### which of two scales is less -/
def lessN (m s m' s' : Nat) : Bool := decide (m * 2 ^ s' < m' * 2 ^ s)
theorem less_anti {m s m' s' : Nat} (h : lessN m s m' s' = true) : lessN m' s' m s = false := by
  simp only [lessN, decide_eq_true_eq, decide_eq_false_iff_not] at *
  omega
theorem less_trans {m s m' s' m'' s'' : Nat} (h : lessN m s m' s' = true) (h2 : lessN m' s' m'' s'' = true) : lessN m s m'' s'' = true := by
  simp only [lessN, decide_eq_true_eq] at *
  have a := Nat.mul_lt_mul_of_pos_right h (Nat.two_pow_pos s'')
  have b := Nat.mul_lt_mul_of_pos_right h2 (Nat.two_pow_pos s)
  have e1 : m' * 2 ^ s * 2 ^ s'' = m' * 2 ^ s'' * 2 ^ s := by ac_rfl
  have e2 : m * 2 ^ s' * 2 ^ s'' = m * 2 ^ s'' * 2 ^ s' := by ac_rfl
  have e3 : m'' * 2 ^ s' * 2 ^ s = m'' * 2 ^ s * 2 ^ s' := by ac_rfl
  rw [e1, e2] at a
  rw [e3] at b
  exact Nat.lt_of_mul_lt_mul_right (Nat.lt_trans a b)
theorem less_same {m s j x m' s' j' : Nat} (h : IsPlain m s j x) (h' : IsPlain m' s' j' x) (hs : s + j = s' + j') : lessN m s m' s' = false ∧ lessN m' s' m s = false := by
  have := h.same h' hs
  simp only [lessN, decide_eq_false_iff_not]
  omega

/-- a scale by 2 to the 64. -/
def up (m s : Nat) : Nat := m * 2 ^ (64 - s)
theorem up_less {m s m' s' : Nat} (hs : s ≤ 62) (hs' : s' ≤ 62) : decide (up m s < up m' s') = lessN m s m' s' := by
  unfold up lessN
  have e1 : 64 - s + (s + s') = s' + 64 := by omega
  have e2 : 64 - s' + (s + s') = s + 64 := by omega
  have a1 : m * 2 ^ (64 - s) * 2 ^ (s + s') = m * 2 ^ s' * 2 ^ 64 := by rw [Nat.mul_assoc, ← Nat.pow_add, e1, Nat.pow_add, Nat.mul_assoc]
  have a2 : m' * 2 ^ (64 - s') * 2 ^ (s + s') = m' * 2 ^ s * 2 ^ 64 := by rw [Nat.mul_assoc, ← Nat.pow_add, e2, Nat.pow_add, Nat.mul_assoc]
  have : (m * 2 ^ (64 - s) < m' * 2 ^ (64 - s')) ↔ m * 2 ^ s' < m' * 2 ^ s := by
    constructor
    · intro h
      have := Nat.mul_lt_mul_of_pos_right h (Nat.two_pow_pos (s + s'))
      rw [a1, a2] at this
      exact Nat.lt_of_mul_lt_mul_right this
    · intro h
      have := Nat.mul_lt_mul_of_pos_right h (Nat.two_pow_pos 64)
      rw [← a1, ← a2] at this
      exact Nat.lt_of_mul_lt_mul_right this
  simp only [this]
/-- the bit of 2 to the k, less 64, in a scale's value. -/
def bitN (m s k : Nat) : Nat := if 64 ≤ k + s ∧ k + s ≤ 95 then m / 2 ^ (k + s - 64) % 2 else 0
theorem bit_val {m s k : Nat} (hm : m < 2147483648) (hs : s ≤ 62) : bitN m s k = up m s / 2 ^ k % 2 := by
  unfold bitN up
  by_cases h : 64 ≤ k + s
  · have e : m * 2 ^ (64 - s) / 2 ^ k = m / 2 ^ (k + s - 64) := by
      have hk : k = (k + s - 64) + (64 - s) := by omega
      rw [show (2 : Nat) ^ k = 2 ^ ((k + s - 64) + (64 - s)) by rw [← hk], Nat.pow_add]
      exact Nat.mul_div_mul_right _ _ (Nat.two_pow_pos _)
    rw [e]
    by_cases h2 : k + s ≤ 95
    · rw [if_pos ⟨h, h2⟩]
    · rw [if_neg (by omega)]
      have : m < 2 ^ (k + s - 64) := Nat.lt_of_lt_of_le hm (pow_le (i := 31) (by omega))
      rw [Nat.div_eq_of_lt this]
  · rw [if_neg (by omega)]
    have hk : 64 - s = (64 - s - k - 1) + 1 + k := by omega
    rw [show (2 : Nat) ^ (64 - s) = 2 ^ ((64 - s - k - 1) + 1 + k) by rw [← hk], Nat.pow_add, ← Nat.mul_assoc, Nat.mul_div_cancel _ (Nat.two_pow_pos _), Nat.pow_succ, ← Nat.mul_assoc, Nat.mul_mod_left]
theorem up_top {m s : Nat} (hm : m < 2147483648) : up m s / 2 ^ 105 = 0 := by
  unfold up
  have h : m * 2 ^ (64 - s) < 2147483648 * 2 ^ 64 := Nat.lt_of_lt_of_le (Nat.mul_lt_mul_of_pos_right hm (Nat.two_pow_pos _)) (Nat.mul_le_mul_left _ (pow_le (by omega)))
  exact Nat.div_eq_of_lt (Nat.lt_of_lt_of_le h (by decide))
theorem div_two (X k : Nat) : X / 2 ^ k = 2 * (X / 2 ^ (k + 1)) + X / 2 ^ k % 2 := by
  rw [Nat.pow_succ, ← Nat.div_div_eq_div_mul]; omega
/-- alike above k + 1: the bit at k tells, or they are alike above k. -/
theorem bits_step {m s m' s' k : Nat} (hm : m < 2147483648) (hs : s ≤ 62) (hm' : m' < 2147483648) (hs' : s' ≤ 62) (h : up m s / 2 ^ (k + 1) = up m' s' / 2 ^ (k + 1)) :
    (bitN m s k = bitN m' s' k ∧ up m s / 2 ^ k = up m' s' / 2 ^ k) ∨ (bitN m s k ≠ bitN m' s' k ∧ decide (bitN m s k < bitN m' s' k) = lessN m s m' s') := by
  rw [← up_less hs hs', bit_val hm hs, bit_val hm' hs']
  have a := div_two (up m s) k
  have b := div_two (up m' s') k
  rw [h] at a
  by_cases e : up m s / 2 ^ k % 2 = up m' s' / 2 ^ k % 2
  · exact .inl ⟨e, by omega⟩
  · refine .inr ⟨e, ?_⟩
    have key : (up m s / 2 ^ k % 2 < up m' s' / 2 ^ k % 2) ↔ up m s < up m' s' := by
      constructor
      · intro hl
        have : up m s / 2 ^ k < up m' s' / 2 ^ k := by omega
        exact Nat.lt_of_not_le fun hle => by have := Nat.div_le_div_right (c := 2 ^ k) hle; omega
      · intro hl
        have := Nat.div_le_div_right (c := 2 ^ k) (Nat.le_of_lt hl)
        omega
    simp only [key]
theorem bits_end {m s m' s' : Nat} (hs : s ≤ 62) (hs' : s' ≤ 62) (h : up m s / 2 ^ 0 = up m' s' / 2 ^ 0) : lessN m s m' s' = false := by
  rw [← up_less hs hs']
  simp at h ⊢
  omega
theorem bitN_le (m s k : Nat) : bitN m s k ≤ 1 := by unfold bitN; split <;> omega
/-- two products, in two words each. -/
theorem words (P Q : Nat) : (if P / 18446744073709551616 ≠ Q / 18446744073709551616 then decide (P / 18446744073709551616 < Q / 18446744073709551616) else decide (P % 18446744073709551616 < Q % 18446744073709551616)) = decide (P < Q) := by
  split
  · congr 1; apply propext; omega
  · congr 1; apply propext; omega
end Go.Proofs.Ytmnhcmkcdchmkaa.Num
