/- Plain facts on digits to the base 128 (layer leb): no program is named here. -/
import Derived.WalkKit
import Derived.Lib.Hide
namespace Go.Proofs.Ytkmcmaickopobac.LebNum
open Go

/-- the digits of a number, each but the last with 128 more. -/
def digN (n : Nat) : List Int := if h : n < 128 then [(n : Int)] else ((128 + n % 128 : Nat) : Int) :: digN (n / 128)
termination_by n
decreasing_by omega
def digZ (n : Int) : List Int := digN n.toNat

theorem digZ_lo {n : Int} (h0 : 0 ≤ n) (h : n < 128) : digZ n = [n] := by
  unfold digZ
  rw [digN, dif_pos (by omega)]
  congr 1; omega
theorem digZ_hi {n : Int} (h : 128 ≤ n) : digZ n = (128 + n % 128) :: digZ (n / 128) := by
  unfold digZ
  rw [digN, dif_neg (by omega)]
  congr 1
  · omega
  · congr 1; omega

/-- the number of digits. -/
def valD : List Int → Int
  | [] => 0
  | d :: ds => d % 128 + 128 * valD ds
theorem valD_nonneg : ∀ ds : List Int, 0 ≤ valD ds
  | [] => Int.le_refl _
  | d :: ds => by have := valD_nonneg ds; simp only [valD]; omega

/-- digits, as few as there can be. -/
def Enc : List Int → Prop
  | [] => False
  | [d] => 0 ≤ d ∧ d < 128
  | d :: e :: ds => 128 ≤ d ∧ d < 256 ∧ Enc (e :: ds) ∧ 1 ≤ valD (e :: ds)

theorem enc_dig (k : Nat) : ∀ n : Nat, n ≤ k → Enc (digN n) ∧ valD (digN n) = n ∧ digN n ≠ [] := by
  induction k with
  | zero => intro n hn; rw [digN, dif_pos (by omega)]; refine ⟨⟨by omega, by omega⟩, ?_, by simp⟩; simp only [valD]; omega
  | succ k ih =>
    intro n hn
    rw [digN]
    by_cases h : n < 128
    · rw [dif_pos h]; refine ⟨⟨by omega, by omega⟩, ?_, by simp⟩; simp only [valD]; omega
    · rw [dif_neg h]
      obtain ⟨h1, h2, h3⟩ := ih (n / 128) (by omega)
      cases hd : digN (n / 128) with
      | nil => exact absurd hd h3
      | cons e ds =>
        rw [hd] at h1 h2
        refine ⟨⟨by omega, by omega, h1, by rw [h2]; omega⟩, ?_, by simp⟩
        rw [valD, h2]; omega
theorem digZ_enc {n : Int} (h : 0 ≤ n) : Enc (digZ n) ∧ valD (digZ n) = n ∧ digZ n ≠ [] := by
  obtain ⟨h1, h2, h3⟩ := enc_dig n.toNat n.toNat (Nat.le_refl _)
  exact ⟨h1, by unfold digZ; rw [h2]; omega, h3⟩

theorem enc_back : ∀ ds : List Int, Enc ds → digZ (valD ds) = ds
  | [], h => h.elim
  | [d], ⟨h1, h2⟩ => by
    have e : valD [d] = d := by simp only [valD]; omega
    rw [e, digZ_lo h1 h2]
  | d :: e :: ds, ⟨h1, h2, h3, h4⟩ => by
    have ih := enc_back (e :: ds) h3
    have ev : valD (d :: e :: ds) = d % 128 + 128 * valD (e :: ds) := rfl
    rw [ev, digZ_hi (by omega)]
    have q : (d % 128 + 128 * valD (e :: ds)) / 128 = valD (e :: ds) := by omega
    rw [q, ih]
    congr 1
    omega

theorem digN_len (k : Nat) : ∀ n : Nat, n < 128 ^ (k + 1) → (digN n).length ≤ k + 1 := by
  induction k with
  | zero => intro n hn; rw [digN, dif_pos (by simpa using hn)]; simp
  | succ k ih =>
    intro n hn
    rw [digN]
    by_cases h : n < 128
    · rw [dif_pos h]; simp
    · rw [dif_neg h]
      have := ih (n / 128) (by
        rw [Nat.pow_succ] at hn
        exact (Nat.div_lt_iff_lt_mul (by omega)).2 hn)
      simpa using this
theorem digZ_len {n : Int} (h0 : 0 ≤ n) (h : n ≤ 18446744073709551615) : 1 ≤ (digZ n).length ∧ (digZ n).length ≤ 10 := by
  refine ⟨?_, digN_len 9 n.toNat (by have : (128 : Nat) ^ (9 + 1) = 1180591620717411303424 := by decide
                                     rw [this]; omega)⟩
  have := (digZ_enc h0).2.2
  cases hd : digZ n with
  | nil => exact absurd hd this
  | cons a as => simp

/-- how long: by the number's place between the powers. -/
theorem digN_lt (k : Nat) : ∀ n : Nat, 128 ^ k ≤ n → k + 1 ≤ (digN n).length := by
  induction k with
  | zero => intro n hn; rw [digN]; split <;> simp
  | succ k ih =>
    intro n hn
    have h128 : 128 ≤ n := Nat.le_trans (by rw [Nat.pow_succ]; have := Nat.one_le_two_pow (n := k); have h2 : 1 ≤ 128 ^ k := Nat.pow_pos (by omega); omega) hn
    rw [digN, dif_neg (by omega)]
    have := ih (n / 128) (by rw [Nat.pow_succ] at hn; exact (Nat.le_div_iff_mul_le (by omega)).2 hn)
    simpa using this
theorem digN_is {k n : Nat} (h1 : 128 ^ k ≤ n) (h2 : n < 128 ^ (k + 1)) : (digN n).length = k + 1 := by
  have := digN_lt k n h1
  have := digN_len k n h2
  omega

/-! ### what bytes begin with -/
def AllHi (zs : List Int) (j : Nat) : Prop := ∀ i (h : i < zs.length), i < j → 128 ≤ zs[i]
def GetR (zs : List Int) (n : Int) (k : Nat) (e : Int) : Prop :=
  (∃ j, ∃ h : j < zs.length, j ≤ 9 ∧ AllHi zs j ∧ zs[j] < 128 ∧ (j = 9 → zs[j] ≤ 1) ∧ (0 < j → zs[j] ≠ 0) ∧ n = valD (zs.take (j + 1)) ∧ k = j + 1 ∧ e = 0) ∨
  (∃ j, ∃ h : j < zs.length, 1 ≤ j ∧ j ≤ 9 ∧ AllHi zs j ∧ zs[j] = 0 ∧ n = 0 ∧ k = 0 ∧ e = 21) ∨
  (∃ h : 9 < zs.length, AllHi zs 9 ∧ 1 < zs[9] ∧ n = 0 ∧ k = 0 ∧ e = 21) ∨
  (zs.length ≤ 9 ∧ AllHi zs zs.length ∧ n = 0 ∧ k = 0 ∧ e = 20)

theorem first_lo (zs : List Int) : ∀ m, (∃ j, ∃ h : j < zs.length, j < m ∧ AllHi zs j ∧ zs[j] < 128) ∨ AllHi zs m
  | 0 => .inr fun i h hi => by omega
  | m + 1 => by
    rcases first_lo zs m with ⟨j, h, h1, h2, h3⟩ | h
    · exact .inl ⟨j, h, by omega, h2, h3⟩
    · by_cases hm : m < zs.length
      · by_cases h1 : zs[m] < 128
        · exact .inl ⟨m, hm, by omega, h, h1⟩
        · refine .inr fun i hi hlt => ?_
          by_cases e : i = m
          · subst e; omega
          · exact h i hi (by omega)
      · exact .inr fun i hi hlt => h i hi (by omega)
theorem getR_any (zs : List Int) : ∃ n k e, GetR zs n k e := by
  rcases first_lo zs 9 with ⟨j, h, h1, h2, h3⟩ | hall
  · by_cases h0 : 0 < j ∧ zs[j] = 0
    · exact ⟨0, 0, 21, .inr (.inl ⟨j, h, by omega, by omega, h2, h0.2, rfl, rfl, rfl⟩)⟩
    · exact ⟨_, _, 0, .inl ⟨j, h, by omega, h2, h3, fun e => by omega, fun h4 h5 => h0 ⟨h4, h5⟩, rfl, rfl, rfl⟩⟩
  · by_cases hl : 9 < zs.length
    · by_cases h9 : 1 < zs[9]
      · exact ⟨0, 0, 21, .inr (.inr (.inl ⟨hl, hall, h9, rfl, rfl, rfl⟩))⟩
      · by_cases h0 : zs[9] = 0
        · exact ⟨0, 0, 21, .inr (.inl ⟨9, hl, by omega, by omega, hall, h0, rfl, rfl, rfl⟩)⟩
        · exact ⟨_, _, 0, .inl ⟨9, hl, by omega, hall, by omega, fun _ => by omega, fun _ => h0, rfl, rfl, rfl⟩⟩
    · refine ⟨0, 0, 20, .inr (.inr (.inr ⟨by omega, fun i h hi => hall i h (by omega), rfl, rfl, rfl⟩))⟩

/-! the number of a beginning -/
theorem valD_append (xs ys : List Int) : valD (xs ++ ys) = valD xs + 128 ^ xs.length * valD ys := by
  induction xs with
  | nil => simp [valD]
  | cons x xs ih =>
    simp only [List.cons_append, valD, ih, List.length_cons, Int.pow_succ]
    rw [Int.mul_add, Int.mul_comm (128 ^ xs.length) 128, Int.mul_assoc]
    omega
theorem valD_lt (xs : List Int) : valD xs < 128 ^ xs.length := by
  induction xs with
  | nil => simp [valD]
  | cons x xs ih =>
    simp only [valD, List.length_cons, Int.pow_succ]
    omega
theorem valD_one (d : Int) : valD [d] = d % 128 := by simp [valD]
theorem valD_snoc {zs : List Int} {j : Nat} (h : j < zs.length) : valD (zs.take (j + 1)) = valD (zs.take j) + 128 ^ j * (zs[j] % 128) := by
  rw [List.take_succ_eq_append_getElem h, valD_append, valD_one, List.length_take, Nat.min_eq_left (by omega)]
theorem valD_take_lt {zs : List Int} {j : Nat} (h : j ≤ zs.length) : valD (zs.take j) < 128 ^ j := by
  have := valD_lt (zs.take j)
  rwa [List.length_take, Nat.min_eq_left h] at this
theorem valD_top {zs : List Int} {j : Nat} (h : j < zs.length) (h9 : j ≤ 9) (hlo : 0 ≤ zs[j]) (h1 : j = 9 → zs[j] ≤ 1) : valD (zs.take (j + 1)) ≤ 18446744073709551615 := by
  by_cases e : j = 9
  · have a1 := h1 e
    have a2 := valD_take_lt (zs := zs) (j := j) (by omega)
    have a3 := valD_snoc h
    have a4 : zs[j] % 128 ≤ 1 := by omega
    have a5 : (0:Int) ≤ zs[j] % 128 := by omega
    rw [a3]
    subst e
    have p : (128 : Int) ^ 9 = 9223372036854775808 := by decide
    rw [p] at a2 ⊢
    omega
  · have a2 := valD_take_lt (zs := zs) (j := j + 1) (by omega)
    have a3 : (128 : Int) ^ (j + 1) ≤ 128 ^ 9 := by exact_mod_cast Nat.pow_le_pow_right (n := 128) (by omega) (show j + 1 ≤ 9 by omega)
    have p : (128 : Int) ^ 9 = 9223372036854775808 := by decide
    omega
theorem valD_drop_le (zs : List Int) (i m : Nat) : valD ((zs.take m).drop i) ≤ valD (zs.take m) := by
  have e : zs.take m = (zs.take m).take i ++ (zs.take m).drop i := (List.take_append_drop i _).symm
  have e2 := congrArg valD e
  rw [valD_append] at e2
  have a1 := valD_nonneg ((zs.take m).take i)
  have a2 := valD_nonneg ((zs.take m).drop i)
  have a3 : (1 : Int) ≤ 128 ^ ((zs.take m).take i).length := by
    have : (0 : Int) < 128 ^ ((zs.take m).take i).length := Int.pow_pos (by decide)
    omega
  have a4 : valD ((zs.take m).drop i) ≤ 128 ^ ((zs.take m).take i).length * valD ((zs.take m).drop i) := by
    have := Int.mul_le_mul_of_nonneg_right a3 a2
    omega
  omega
theorem valD_drop {zs : List Int} {i m : Nat} (h : i < m) (hm : m ≤ zs.length) : valD ((zs.take m).drop i) = zs[i] % 128 + 128 * valD ((zs.take m).drop (i + 1)) := by
  rw [List.drop_eq_getElem_cons (by simp; omega)]
  simp [valD]

/-! from places to lists, and back -/
theorem enc_of_all : ∀ (j : Nat) (zs : List Int) (h : j < zs.length), (∀ z ∈ zs, 0 ≤ z ∧ z < 256) → AllHi zs j → zs[j] < 128 → (0 < j → zs[j] ≠ 0) → Enc (zs.take (j + 1)) ∧ (zs[j] ≠ 0 → 1 ≤ valD (zs.take (j + 1)))
  | 0, [], h, _, _, _, _ => by simp at h
  | 0, z :: zs, h, hb, hh, hl, h0 => by
    have h1 := hb z (by simp)
    simp at hl
    refine ⟨⟨by omega, hl⟩, fun hz => ?_⟩
    simp [valD] at hz ⊢
    omega
  | j + 1, [], h, _, _, _, _ => by simp at h
  | j + 1, [z], h, _, _, _, _ => by simp at h
  | j + 1, z :: y :: zs, h, hb, hh, hl, h0 => by
    have h1 := hb z (by simp)
    have h2 : 128 ≤ z := by have := hh 0 (by simp) (by omega); simpa using this
    have h3 : (z :: y :: zs)[j + 1] = (y :: zs)[j]'(by simpa using h) := rfl
    have h4 := h0 (by omega)
    rw [h3] at hl h4
    obtain ⟨i1, i2⟩ := enc_of_all j (y :: zs) (by simpa using h) (fun a ha => hb a (by simp at ha ⊢; right; exact ha)) (fun i hi hlt => by have := hh (i + 1) (by simpa using hi) (by omega); simpa using this) hl (fun _ => h4)
    have i3 := i2 h4
    refine ⟨⟨h2, h1.2, i1, i3⟩, fun _ => ?_⟩
    show 1 ≤ z % 128 + 128 * valD ((y :: zs).take (j + 1))
    omega
theorem all_of_enc : ∀ (ds t : List Int), Enc ds → ∃ j, ∃ h : j < (ds ++ t).length, ds.length = j + 1 ∧ AllHi (ds ++ t) j ∧ 0 ≤ (ds ++ t)[j] ∧ (ds ++ t)[j] < 128 ∧ (0 < j → (ds ++ t)[j] ≠ 0) ∧ (ds ++ t).take (j + 1) = ds ∧ (1 ≤ valD ds → (ds ++ t)[j] ≠ 0)
  | [], t, h => h.elim
  | [d], t, h => ⟨0, by simp, rfl, fun i h hi => by omega, by simpa using h.1, by simpa using h.2, fun h => by omega, by simp, fun h1 h2 => by
      simp at h2; subst h2; simp [valD] at h1⟩
  | d :: e :: ds, t, ⟨h1, h2, h3, h4⟩ => by
    obtain ⟨j, hj, a1, a2, a3, a4, a5, a6, a7⟩ := all_of_enc (e :: ds) t h3
    have a8 := a7 h4
    refine ⟨j + 1, by simpa using hj, by simp at a1 ⊢; omega, fun i hi hlt => ?_, a3, a4, fun _ => a8, ?_, fun _ => a8⟩
    · cases i with
      | zero => exact h1
      | succ i => exact a2 i (by simpa using hi) (by omega)
    · show d :: ((e :: ds) ++ t).take (j + 1) = _
      rw [a6]

theorem getR_dig {n : Int} (h0 : 0 ≤ n) (h : n ≤ 18446744073709551615) (t : List Int) : GetR (digZ n ++ t) n (digZ n).length 0 := by
  obtain ⟨e1, e2, e3⟩ := digZ_enc h0
  obtain ⟨l1, l2⟩ := digZ_len h0 h
  obtain ⟨j, hj, a1, a2, a3, a4, a5, a6, a7⟩ := all_of_enc (digZ n) t e1
  refine .inl ⟨j, hj, by omega, a2, a4, fun e => ?_, a5, by rw [a6, e2], a1, rfl⟩
  have b1 := valD_snoc hj
  rw [a6, e2] at b1
  have b2 := valD_nonneg ((digZ n ++ t).take j)
  subst e
  have p : (128 : Int) ^ 9 = 9223372036854775808 := by decide
  rw [p] at b1
  omega
theorem getR_ok {zs : List Int} {n : Int} {k : Nat} (hb : ∀ z ∈ zs, 0 ≤ z ∧ z < 256) (h : GetR zs n k 0) : k ≤ zs.length ∧ 1 ≤ k ∧ 0 ≤ n ∧ n ≤ 18446744073709551615 ∧ digZ n = zs.take k := by
  rcases h with ⟨j, hj, h9, h1, h2, h3, h4, rfl, rfl, _⟩ | ⟨_, _, _, _, _, _, _, _, h⟩ | ⟨_, _, _, _, _, h⟩ | ⟨_, _, _, _, h⟩
  · have e := (enc_of_all j zs hj hb h1 h2 h4).1
    exact ⟨by omega, by omega, valD_nonneg _, valD_top hj h9 (hb _ (List.getElem_mem hj)).1 h3, enc_back _ e⟩
  all_goals omega
theorem getR_short {n : Int} (h0 : 0 ≤ n) (h : n ≤ 18446744073709551615) {k : Nat} (hk : k < (digZ n).length) : GetR ((digZ n).take k) 0 0 20 := by
  obtain ⟨e1, e2, e3⟩ := digZ_enc h0
  obtain ⟨l1, l2⟩ := digZ_len h0 h
  obtain ⟨j, hj, a1, a2, a3, a4, a5, a6, a7⟩ := all_of_enc (digZ n) [] e1
  refine .inr (.inr (.inr ⟨by simp; omega, fun i hi hlt => ?_, rfl, rfl, rfl⟩))
  simp at hi
  have := a2 i (by simp; omega) (by omega)
  simpa using this
theorem getR_bd {zs : List Int} {n : Int} {k : Nat} {e : Int} (hb : ∀ z ∈ zs, 0 ≤ z ∧ z < 256) (h : GetR zs n k e) : 0 ≤ n ∧ n ≤ 18446744073709551615 ∧ k ≤ 10 ∧ k ≤ zs.length ∧ (e = 0 ∨ e = 20 ∨ e = 21) ∧ (e ≠ 0 → n = 0 ∧ k = 0) := by
  rcases h with ⟨j, hj, h9, h1, h2, h3, h4, rfl, rfl, rfl⟩ | ⟨j, hj, a1, a2, a3, a4, rfl, rfl, rfl⟩ | ⟨a1, a2, a3, rfl, rfl, rfl⟩ | ⟨a1, a2, rfl, rfl, rfl⟩
  · exact ⟨valD_nonneg _, valD_top hj h9 (hb _ (List.getElem_mem hj)).1 h3, by omega, by omega, .inl rfl, fun h => absurd rfl h⟩
  all_goals refine ⟨by omega, by omega, by omega, by omega, by omega, fun _ => ⟨rfl, rfl⟩⟩

/-! ### signs -/
def foldZ (v : Int) : Int := if 0 ≤ v then 2 * v else 2 * (-(v + 1)) + 1
def unfoldZ (n : Int) : Int := if n % 2 = 0 then n / 2 else -(n / 2) - 1
theorem foldZ_bd {v : Int} (h1 : -9223372036854775808 ≤ v) (h2 : v ≤ 9223372036854775807) : 0 ≤ foldZ v ∧ foldZ v ≤ 18446744073709551615 := by
  unfold foldZ; split <;> omega
theorem unfold_fold (v : Int) : unfoldZ (foldZ v) = v := by
  unfold foldZ unfoldZ; split <;> split <;> omega
theorem unfoldZ_bd {n : Int} (h1 : 0 ≤ n) (h2 : n ≤ 18446744073709551615) : -9223372036854775808 ≤ unfoldZ n ∧ unfoldZ n ≤ 9223372036854775807 := by
  unfold unfoldZ; split <;> omega
end Go.Proofs.Ytkmcmaickopobac.LebNum
