/- Contracts of package leb (layer 6): sizes, numbers with signs. -/
import Derived.Test.YtikendjjolpnoaaLeb
import Derived.Test.YtikendjjolpnoaaShelf
namespace Go.Proofs.Ytikendjjolpnoaa.CLeb
open Go Go.ChangeShapes Go.WideShapes Go.ChangeAt Go.RowKit
open LebNum
set_option linter.unusedVariables false

theorem bitLenAux_is : ∀ (f k x : Nat), k ≤ f → (k = 0 ∨ 2 ^ (k - 1) ≤ x) → x < 2 ^ k → Lib.bitLenAux f x = k
  | 0, k, x, h, h1, h2 => by
    have : k = 0 := by omega
    subst this; rfl
  | f + 1, 0, x, h, h1, h2 => by
    have : x = 0 := by simpa using h2
    subst this
    rw [Lib.bitLenAux]; simp
  | f + 1, 1, x, h, h1, h2 => by
    have : x = 1 := by simp at h1 h2; omega
    subst this
    rw [Lib.bitLenAux, if_neg (by omega), bitLenAux_is f 0 (1 / 2) (by omega) (.inl rfl) (by simp)]
  | f + 1, k + 2, x, h, h1, h2 => by
    have e : 2 ^ (k + 2) = 2 * 2 ^ (k + 1) := by rw [Nat.pow_succ _ (k + 1)]; omega
    have e1 : 2 ^ (k + 1) = 2 * 2 ^ k := by rw [Nat.pow_succ]; omega
    have hp : 1 ≤ 2 ^ k := Nat.pow_pos (by omega)
    have h3 : 2 ^ (k + 1) ≤ x := by simpa using h1
    rw [Lib.bitLenAux, if_neg (by omega), bitLenAux_is f (k + 1) (x / 2) (by omega) (.inr ?_) ?_]
    · omega
    · show 2 ^ k ≤ x / 2
      omega
    · omega
theorem bitLen_is {x : Nat} (h1 : 1 ≤ x) (h2 : x < 18446744073709551616) : 1 ≤ Lib.bitLen x ∧ 2 ^ (Lib.bitLen x - 1) ≤ x ∧ x < 2 ^ Lib.bitLen x := by
  have a1 := Nat.log2_self_le (n := x) (by omega)
  have a2 := Nat.lt_log2_self (n := x)
  have a3 : x.log2 < 64 := (Nat.log2_lt (by omega)).2 (by simpa using h2)
  have e : Lib.bitLen x = x.log2 + 1 := bitLenAux_is 64 _ x (by omega) (.inr (by simpa using a1)) a2
  rw [e]
  exact ⟨by omega, by simpa using a1, a2⟩
theorem size_of (n : Nat) (h : n < 18446744073709551616) : (Lib.bitLen (n ||| 1) + 6) / 7 = (digN n).length := by
  have hx2 : n ||| 1 < 2 ^ 64 := Nat.or_lt_two_pow (by simpa using h) (by decide)
  have hx1 : n ≤ n ||| 1 := Nat.left_le_or
  have hx0 : 1 ≤ n ||| 1 := Nat.right_le_or
  obtain ⟨b1, b2, b3⟩ := bitLen_is hx0 (by simpa using hx2)
  generalize Lib.bitLen (n ||| 1) = k at b1 b2 b3 ⊢
  generalize hj : (digN n).length = j
  have hj1 : 1 ≤ j := by have h0 := (enc_dig n n (Nat.le_refl _)).2.2; cases hd : digN n with
    | nil => exact absurd hd h0
    | cons a l => rw [← hj, hd]; simp
  have p7 : ∀ m : Nat, 128 ^ m = 2 ^ (7 * m) := fun m => by rw [Nat.pow_mul]
  have hn : n < 2 ^ (7 * j) := by
    rw [← p7]
    rcases Nat.lt_or_ge n (128 ^ j) with h | h
    · exact h
    · have := digN_lt j n h; omega
  have hx3 : n ||| 1 < 2 ^ (7 * j) := Nat.or_lt_two_pow hn (Nat.one_lt_two_pow (by omega))
  have hk1 : k - 1 < 7 * j := (Nat.pow_lt_pow_iff_right (by omega : 1 < 2)).1 (Nat.lt_of_le_of_lt b2 hx3)
  have hk2 : 7 * (j - 1) < k := by
    rcases Nat.lt_or_ge 1 j with h1 | h1
    · have h2 : 2 ^ (7 * (j - 1)) ≤ n := by
        rw [← p7]
        rcases Nat.lt_or_ge n (128 ^ (j - 1)) with h | h
        · have := digN_len (j - 2) n (by rw [show j - 2 + 1 = j - 1 by omega]; exact h); omega
        · exact h
      exact (Nat.pow_lt_pow_iff_right (by omega : 1 < 2)).1 (Nat.lt_of_le_of_lt (Nat.le_trans h2 hx1) b3)
    · omega
  omega

theorem wraps_u64 (n : Int) (h₀ : 0 ≤ n) (h₁ : n < 2 ^ 64) : IntKind.u64.wrap n = n := by rw [IntKind.wrap_u64]; omega
theorem or_one (n : Int) (h0 : 0 ≤ n) (h1 : n ≤ 18446744073709551615) : bits .or .u64 n 1 = ((n.toNat ||| 1 : Nat) : Int) := by
  have h := (bits_nat .u64 64 (by decide) wraps_u64 n.toNat 1 (by omega) (by decide)).2
  rw [Int.toNat_of_nonneg h0] at h
  exact h
theorem xor_neg (v : Int) (h1 : -9223372036854775808 ≤ v) (h2 : v ≤ 9223372036854775807) : bits .xor .i64 (-1) v = -v - 1 := by
  have e : BitVec.ofInt 64 (-1) = BitVec.allOnes 64 := by decide
  show IntKind.i64.wrap ((BitVec.ofInt 64 (-1) ^^^ BitVec.ofInt 64 v).toNat : Int) = _
  rw [e, BitVec.allOnes_xor, BitVec.toNat_not, BitVec.toNat_ofInt, IntKind.wrap_i64]
  omega

theorem size (n : Int) (h0 : 0 ≤ n) (h1 : n ≤ 18446744073709551615) (w : World) :
    Calls Try.prog 31 #[.int .u64 n] w fun e w' => e = .returned (.int .i64 (digZ n).length) ∧ w = w' := by
  have hs := size_of n.toNat (by omega)
  have hx2 : n.toNat ||| 1 < 2 ^ 64 := Nat.or_lt_two_pow (by omega) (by decide)
  have hx0 : 1 ≤ n.toNat ||| 1 := Nat.right_le_or
  obtain ⟨b1, b2, b3⟩ := bitLen_is hx0 (by simpa using hx2)
  have hor := or_one n h0 h1
  have hlen : (digZ n).length = (digN n.toNat).length := rfl
  rw [hlen]
  obtain ⟨x, hx⟩ : ∃ x, n.toNat ||| 1 = x := ⟨_, rfl⟩
  rw [hx] at hs hx2 hx0 b1 b2 b3 hor
  obtain ⟨k, hk⟩ : ∃ k : Nat, Lib.bitLen x = k := ⟨_, rfl⟩
  rw [hk] at hs b1 b2 b3
  have hk64 : k ≤ 64 := by
    have : k - 1 < 64 := (Nat.pow_lt_pow_iff_right (by omega : 1 < 2)).1 (Nat.lt_of_le_of_lt b2 hx2)
    omega
  have hxb : (x : Int) ≤ 18446744073709551615 := by omega
  have HK := Lib.hid hk
  have HOR := Lib.hid hor
  have HS := Lib.hid hs
  have HXB := Lib.hid hxb
  have HX0 : Hid (0 ≤ (x : Int)) := Lib.hid (by omega)
  clear hk hor hs hxb hlen hx hx2 hx0 b1 b2 b3
  go_enter Try.func31, Try.ntmps31
  go_wp2_with (go_at_call 48; rw [HOR.out]; refine (Try.bits_Len64 _ _ HX0.out HXB.out).mono ?_; rintro e w1 ⟨rfl, rfl⟩; rw [Int.toNat_natCast, HK.out])
  go_ret
  have := HS.out
  exact ⟨ret_int (by omega), rfl⟩

theorem refFold (v : Int) (h1 : -9223372036854775808 ≤ v) (h2 : v ≤ 9223372036854775807) (w : World) :
    Calls Try.prog 33 #[.int .i64 v] w fun e w' => e = .returned (.int .u64 (foldZ v)) ∧ w = w' := by
  unfold foldZ
  by_cases h : 0 ≤ v
  · rw [if_pos h]
    go_enter Try.func33, Try.ntmps33
    go_wp2
    go_ret
    exact ⟨rfl, rfl⟩
  · rw [if_neg h]
    go_enter Try.func33, Try.ntmps33
    go_wp2
    go_ret
    exact ⟨rfl, rfl⟩
theorem refUnfold (n : Int) (h1 : 0 ≤ n) (h2 : n ≤ 18446744073709551615) (w : World) :
    Calls Try.prog 38 #[.int .u64 n] w fun e w' => e = .returned (.int .i64 (unfoldZ n)) ∧ w = w' := by
  unfold unfoldZ
  by_cases h : n % 2 = 0
  · rw [if_pos h]
    go_enter Try.func38, Try.ntmps38
    go_wp2
    go_ret
    exact ⟨rfl, rfl⟩
  · rw [if_neg h]
    go_enter Try.func38, Try.ntmps38
    go_wp2
    go_ret
    exact ⟨rfl, rfl⟩
theorem putInt (v : Int) (h1 : -9223372036854775808 ≤ v) (h2 : v ≤ 9223372036854775807) (w : World) :
    Calls Try.prog 32 #[.int .i64 v] w (Owned w 5 1 (digZ (foldZ v)).length (bytesV (digZ (foldZ v)))) := by
  obtain ⟨f, hf⟩ : ∃ f, foldZ v = f := ⟨_, rfl⟩
  have hb := foldZ_bd h1 h2
  rw [hf] at hb ⊢
  obtain ⟨b1, b2⟩ := hb
  unfold foldZ at hf
  by_cases h : 0 ≤ v
  · rw [if_pos h] at hf
    have HF := Lib.hid hf
    clear hf
    go_enter Try.func32, Try.ntmps32
    go_wp2_with (go_at_call 29; rw [HF.out]; refine (put f b1 b2 _).mono ?_; rintro e w1 ⟨v1, rfl, ho, hb⟩)
    go_ret
    exact ⟨_, rfl, ho, hb⟩
  · rw [if_neg h] at hf
    have HF := Lib.hid hf
    clear hf
    go_enter Try.func32, Try.ntmps32
    have HXV := Lib.hid (xor_neg v h1 h2)
    go_wp2_with (go_at_call 29; rw [HXV.out, wraps_u64 (-v - 1) (by omega) (by omega), wraps_u64 (2 * (-v - 1)) (by omega) (by omega), wraps_u64 (2 * (-v - 1) + 1) (by omega) (by omega), show 2 * (-v - 1) + 1 = f by have := HF.out; omega]; refine (put f b1 b2 _).mono ?_; rintro e w1 ⟨v1, rfl, ho, hb⟩)
    go_ret
    exact ⟨_, rfl, ho, hb⟩
end Go.Proofs.Ytikendjjolpnoaa.CLeb
