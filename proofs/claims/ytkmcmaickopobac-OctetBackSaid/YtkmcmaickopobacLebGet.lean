/- Contracts of package leb (layer 6): getting. -/
import Derived.Test.YtkmcmaickopobacLebTwo
namespace Go.Proofs.Ytkmcmaickopobac.CLeb
open Go Go.ChangeShapes Go.WideShapes Go.ChangeAt Go.RowKit
open LebNum
set_option linter.unusedVariables false

theorem or_digit (N d : Int) (k : Nat) (h0 : 0 ≤ N) (hN : N < 128 ^ k) (hd0 : 0 ≤ d) (hd : d < 128) (hk : k ≤ 8 ∨ (k = 9 ∧ d ≤ 1)) :
    bits .or .u64 N (IntKind.u64.wrap (d * 2 ^ (7 * k))) = N + 128 ^ k * d := by
  have e7 : (2 : Int) ^ (7 * k) = 128 ^ k := by rw [Int.pow_mul]; rfl
  have hpos : (0 : Int) < 128 ^ k := Int.pow_pos (by decide)
  have hle : (128 : Int) ^ k * d < 18446744073709551616 ∧ (128 : Int) ^ k ≤ 9223372036854775808 := by
    rcases hk with hk | ⟨rfl, hk⟩
    · have a3 : (128 : Int) ^ k ≤ 128 ^ 8 := by exact_mod_cast Nat.pow_le_pow_right (n := 128) (by omega) hk
      have p : (128 : Int) ^ 8 = 72057594037927936 := by decide
      rw [p] at a3
      have a4 : (128 : Int) ^ k * d ≤ 72057594037927936 * d := Int.mul_le_mul_of_nonneg_right a3 hd0
      omega
    · have p : (128 : Int) ^ 9 = 9223372036854775808 := by decide
      rw [p]; omega
  have hnn : 0 ≤ (128 : Int) ^ k * d := Int.mul_nonneg (by omega) hd0
  rw [e7, Int.mul_comm d, wraps_u64 _ hnn (by omega)]
  obtain ⟨a, rfl⟩ := Int.eq_ofNat_of_zero_le h0
  obtain ⟨b, rfl⟩ := Int.eq_ofNat_of_zero_le hd0
  have ec : (128 : Int) ^ k * (b : Int) = ((2 ^ (7 * k) * b : Nat) : Int) := by rw [Nat.pow_mul]; simp
  have ha : a < 2 ^ (7 * k) := by rw [Nat.pow_mul]; exact_mod_cast hN
  rw [ec] at hle ⊢
  have hl2 : (2 ^ (7 * k) * b : Nat) < 2 ^ 64 := by omega
  have hl1 : a < 2 ^ 64 := by omega
  rw [(bits_nat .u64 64 (by decide) wraps_u64 a _ hl1 hl2).2, Nat.or_comm, ← Nat.two_pow_add_eq_or_of_lt ha b]
  omega

theorem ret_get {a a' b b' e : Int} (h : a = a') (h2 : b = b') : Ending.returned (.tuple #[.int .u64 a, .int .i64 b, .int .i64 e]) = .returned (.tuple #[.int .u64 a', .int .i64 b', .int .i64 e]) := by rw [h, h2]
def Bytes (zs : List Int) : Prop := ∀ z ∈ zs, 0 ≤ z ∧ z < 256
/-- what stands behind the first byte below 128. -/
def LoR (zs : List Int) (j : Nat) (z : Int) (n : Int) (k : Nat) (e : Int) : Prop :=
  (0 < j ∧ z = 0 ∧ n = 0 ∧ k = 0 ∧ e = 21) ∨ ((0 < j → z ≠ 0) ∧ n = valD (zs.take (j + 1)) ∧ k = j + 1 ∧ e = 0)

theorem get_lo (A : Option Addr) (zs : List Int) (c : Nat) (j : Nat) (hj : j < zs.length) (h9 : j ≤ 9) (hh : AllHi zs j) (z : Int) (hz : zs[j] = z) (hlo : z < 128) (h1 : j = 9 → z ≤ 1) (hb : Bytes zs)
    (n : Int) (k : Nat) (e : Int) (hr : LoR zs j z n k e) (hm : zs.length ≤ 9223372036854775807) {B : Nat} (w : World) (hrd : Kit.Rd w B A (zs.map (.int .u8))) :
    Calls Try.prog 30 #[.slice A zs.length c] w fun r w' => r = .returned (.tuple #[.int .u64 n, .int .i64 k, .int .i64 e]) ∧ w = w' := by
  have hz0 : 0 ≤ z := by rw [← hz]; exact (hb _ (List.getElem_mem hj)).1
  obtain ⟨b, off, rfl, hbB, hcz⟩ := hrd.ints hj
  rw [hz] at hcz
  have HZ := Lib.hid hz
  have HR := Lib.hid hr
  clear hz hr
  go_enter Try.func30, Try.ntmps30
  go_wp2
  go_step3
  go_wp2
  go_step3
  go_wp2
  go_loop [5, 6, 11] (fun a s i => ∃ (m : Nat) (N : Int), m ≤ j ∧ i = .int .i64 m ∧ s = .int .i64 0 ∧ a = .int .u64 N ∧ 0 ≤ N ∧ Hid (N = valD (zs.take m))) (fun _ _ i => j - (intOf i).toNat)
  case atStart => exact ⟨0, 0, Nat.zero_le _, rfl, rfl, rfl, Int.le_refl _, Lib.hid (by simp [valD])⟩
  case round =>
    obtain ⟨m, N, hm1, rfl, rfl, rfl, hN0, hN⟩ := hrel
    have hml : m < zs.length := by omega
    obtain ⟨b', off', hA, _, hcm⟩ := hrd.ints hml
    cases hA
    have hNlt : N < 128 ^ m := by rw [hN.out]; exact valD_take_lt (by omega)
    by_cases hlt : m < j
    · obtain ⟨x, hx⟩ : ∃ x, zs[m] = x := ⟨_, rfl⟩
      have hx1 : 128 ≤ x := by rw [← hx]; exact hh m hml hlt
      have hx2 : x < 256 := by rw [← hx]; exact (hb _ (List.getElem_mem hml)).2
      have hnx : valD (zs.take (m + 1)) = N + 128 ^ m * (x - 128) := by
        rw [valD_snoc hml, hx, hN.out, show x % 128 = x - 128 by omega]
      have hor := or_digit N (x - 128) m hN0 hNlt (by omega) (by omega) (.inl (by omega))
      rw [← hnx] at hor
      have hnn : 0 ≤ valD (zs.take (m + 1)) := valD_nonneg _
      rw [hx] at hcm
      have HOR := Lib.hid hor
      clear hor hnx hx hh hb hNlt
      go_wp2
      go_round
      case rel => exact ⟨m + 1, _, by omega, by go_num, rfl, (by first | rfl | (rw [HOR.out])), hnn, Lib.hid rfl⟩
      case measure => simp [intOf]; omega
    · have hmj : m = j := by omega
      subst hmj
      have hor := or_digit N z m hN0 hNlt hz0 hlo (by omega)
      have hcz' : w.cell? ⟨b, off + m, none⟩ = some (.int .u8 z) := hcz
      have hval : N + 128 ^ m * z = valD (zs.take (m + 1)) := by
        rw [valD_snoc hml, HZ.out, hN.out, show z % 128 = z by omega]
      rw [hval] at hor
      clear hh hb hNlt hN hcm hcz
      rcases HR.out with ⟨r1, r2, r3, r4, r5⟩ | ⟨r1, r3, r4, r5⟩
      · subst r2 r3 r4 r5
        clear hor hval
        by_cases e9 : m = 9
        · subst e9
          go_wp2
          go_ret3
          exact ⟨rfl, rfl⟩
        · go_wp2
          go_ret3
          exact ⟨rfl, rfl⟩
      · subst r3 r4 r5
        have HOR := Lib.hid hor
        clear hor hval
        by_cases e0 : m = 0
        · subst e0
          have hcz0 : w.cell? ⟨b, off, none⟩ = some (.int .u8 z) := hcz'
          clear hcz'
          go_wp2
          go_ret3
          have hor := HOR.out
          rw [show (2 : Int) ^ (7 * 0) = 1 by decide, Int.mul_one, wraps_u64 _ (by omega) (by omega)] at hor
          exact ⟨ret_get hor rfl, rfl⟩
        · have hz1 : 1 ≤ z := by have := r1 (by omega); omega
          by_cases e9 : m = 9
          · subst e9
            go_wp2
            go_ret3
            have hor := HOR.out
            have hz9 := h1 trivial
            rw [show (2 : Int) ^ (7 * 9) = 9223372036854775808 by decide, wraps_u64 _ (by omega) (by omega)] at hor
            exact ⟨ret_get hor rfl, rfl⟩
          · go_wp2
            go_ret3
            exact ⟨ret_get HOR.out (by omega), rfl⟩
end Go.Proofs.Ytkmcmaickopobac.CLeb
