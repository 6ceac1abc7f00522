/- Contracts of package leb (layer 6): sizes, numbers with signs. -/
import Derived.Test.YtkmcmaickopobacLeb
namespace Go.Proofs.Ytkmcmaickopobac.CLeb
open Go Go.ChangeShapes Go.WideShapes Go.ChangeAt Go.RowKit
open LebNum
set_option linter.unusedVariables false

theorem wraps_u64 (n : Int) (h₀ : 0 ≤ n) (h₁ : n < 2 ^ 64) : IntKind.u64.wrap n = n := by rw [IntKind.wrap_u64]; omega
theorem or_one (n : Int) (h0 : 0 ≤ n) (h1 : n ≤ 18446744073709551615) : bits .or .u64 n 1 = ((n.toNat ||| 1 : Nat) : Int) := by
  have h := (bits_nat .u64 64 (by decide) wraps_u64 n.toNat 1 (by omega) (by decide)).2
  rw [Int.toNat_of_nonneg h0] at h
  exact h
theorem xor_neg (v : Int) (h1 : -9223372036854775808 ≤ v) (h2 : v ≤ 9223372036854775807) : bits .xor .i64 (-1) v = -v - 1 := by
  have e : BitVec.ofInt 64 (-1) = BitVec.allOnes 64 := by decide
  show IntKind.i64.wrap ((BitVec.ofInt 64 (-1) ^^^ BitVec.ofInt 64 v).toNat : Int) = _
  rw [e, BitVec.allOnes_xor, BitVec.toNat_not, BitVec.toNat_ofInt, IntKind.wrap_i64]
  omega

theorem refFold (v : Int) (h1 : -9223372036854775808 ≤ v) (h2 : v ≤ 9223372036854775807) (w : World) :
    Calls Try.prog 27 #[.int .i64 v] w fun e w' => e = .returned (.int .u64 (foldZ v)) ∧ w = w' := by
  unfold foldZ
  by_cases h : 0 ≤ v
  · rw [if_pos h]
    go_enter Try.func27, Try.ntmps27
    go_wp2
    go_ret
    exact ⟨rfl, rfl⟩
  · rw [if_neg h]
    go_enter Try.func27, Try.ntmps27
    go_wp2
    go_ret
    exact ⟨rfl, rfl⟩
theorem putInt (v : Int) (h1 : -9223372036854775808 ≤ v) (h2 : v ≤ 9223372036854775807) (w : World) :
    Calls Try.prog 26 #[.int .i64 v] w (Owned w 5 1 (digZ (foldZ v)).length (bytesV (digZ (foldZ v)))) := by
  obtain ⟨f, hf⟩ : ∃ f, foldZ v = f := ⟨_, rfl⟩
  have hb := foldZ_bd h1 h2
  rw [hf] at hb ⊢
  obtain ⟨b1, b2⟩ := hb
  unfold foldZ at hf
  by_cases h : 0 ≤ v
  · rw [if_pos h] at hf
    have HF := Lib.hid hf
    clear hf
    go_enter Try.func26, Try.ntmps26
    go_wp2_with (go_at_call 35; rw [HF.out]; refine (put f b1 b2 _).mono ?_; rintro e w1 ⟨v1, rfl, ho, hb⟩)
    go_ret
    exact ⟨_, rfl, ho, hb⟩
  · rw [if_neg h] at hf
    have HF := Lib.hid hf
    clear hf
    go_enter Try.func26, Try.ntmps26
    have HXV := Lib.hid (xor_neg v h1 h2)
    go_wp2_with (go_at_call 35; rw [HXV.out, wraps_u64 (-v - 1) (by omega) (by omega), wraps_u64 (2 * (-v - 1)) (by omega) (by omega), wraps_u64 (2 * (-v - 1) + 1) (by omega) (by omega), show 2 * (-v - 1) + 1 = f by have := HF.out; omega]; refine (put f b1 b2 _).mono ?_; rintro e w1 ⟨v1, rfl, ho, hb⟩)
    go_ret
    exact ⟨_, rfl, ho, hb⟩
end Go.Proofs.Ytkmcmaickopobac.CLeb
