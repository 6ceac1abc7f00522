/- Contracts of the document's own answers of layer 1. -/
import Derived.Test.YtcpfdinfoldklaaSatSum
namespace Go.Proofs.Ytcpfdinfoldklaa.CSat
open Go Go.ChangeShapes Go.WideShapes Go.ChangeAt Go.RowKit
open Plain
set_option linter.unusedVariables false

theorem refHeld (v lo hi : Int) (w : World) :
    Calls Try.prog 13 #[.int .i64 v, .int .i64 lo, .int .i64 hi] w fun e w' => e = .returned (.int .i64 (clampZ v lo hi)) ∧ w = w' := by
  by_cases h1 : v < lo
  · go_enter Try.func13, Try.ntmps13
    go_wp2
    go_ret
    exact ⟨ret_int (by exact clampZ_lo (by omega)), rfl⟩
  · by_cases h2 : v > hi
    · go_enter Try.func13, Try.ntmps13
      go_wp2
      go_ret
      exact ⟨ret_int (by exact clampZ_hi (by omega) (by omega)), rfl⟩
    · go_enter Try.func13, Try.ntmps13
      go_wp2
      go_ret
      exact ⟨ret_int (by exact clampZ_in (by omega) (by omega)), rfl⟩

theorem refPlus (a b : Int) (ha1 : -9223372036854775808 ≤ a) (ha2 : a ≤ 9223372036854775807) (hb1 : -9223372036854775808 ≤ b) (hb2 : b ≤ 9223372036854775807) (w : World) :
    Calls Try.prog 21 #[.int .i64 a, .int .i64 b] w fun e w' => e = .returned (.tuple #[.int .i64 (fitZ (a + b)), .bool (fits (a + b))]) ∧ w = w' := by
  by_cases p : b > 0
  · by_cases q : a > 9223372036854775807 - b
    · rw [fitZ_no (by omega), fits_no (by omega)]
      go_enter Try.func21, Try.ntmps21
      go_wp2
      go_ret2
      exact ⟨rfl, rfl⟩
    · rw [fitZ_yes (by omega) (by omega), fits_yes (by omega) (by omega)]
      go_enter Try.func21, Try.ntmps21
      go_wp2
      go_ret2
      exact ⟨rfl, rfl⟩
  · by_cases p2 : b < 0
    · by_cases q : a < -9223372036854775808 - b
      · rw [fitZ_no (by omega), fits_no (by omega)]
        go_enter Try.func21, Try.ntmps21
        go_wp2
        go_ret2
        exact ⟨rfl, rfl⟩
      · rw [fitZ_yes (by omega) (by omega), fits_yes (by omega) (by omega)]
        go_enter Try.func21, Try.ntmps21
        go_wp2
        go_ret2
        exact ⟨rfl, rfl⟩
    · rw [fitZ_yes (by omega) (by omega), fits_yes (by omega) (by omega)]
      go_enter Try.func21, Try.ntmps21
      go_wp2
      go_ret2
      exact ⟨rfl, rfl⟩

theorem ret_fit {a b : Int} {c : Bool} (h : a = b) : Ending.returned (.tuple #[.int .i64 a, .bool c]) = Ending.returned (.tuple #[.int .i64 b, .bool c]) := by rw [h]

theorem refTimes (a b : Int) (ha1 : -9223372036854775808 ≤ a) (ha2 : a ≤ 9223372036854775807) (hb1 : -9223372036854775808 ≤ b) (hb2 : b ≤ 9223372036854775807) (w : World) :
    Calls Try.prog 22 #[.int .i64 a, .int .i64 b] w fun e w' => e = .returned (.tuple #[.int .i64 (fitZ (a * b)), .bool (fits (a * b))]) ∧ w = w' := by
  by_cases a0 : a = 0
  · subst a0
    rw [Int.zero_mul]
    go_enter Try.func22, Try.ntmps22
    go_wp2
    go_ret2
    exact ⟨rfl, rfl⟩
  · by_cases b0 : b = 0
    · subst b0
      rw [Int.mul_zero]
      go_enter Try.func22, Try.ntmps22
      go_wp2
      go_ret2
      exact ⟨rfl, rfl⟩
    · have ea : (a == 0) = false := beq_eq_false_iff_ne.2 a0
      have eb : (b == 0) = false := beq_eq_false_iff_ne.2 b0
      by_cases s1 : a = -1 ∧ b = -9223372036854775808
      · obtain ⟨rfl, rfl⟩ := s1
        rw [fitZ_no (by omega), fits_no (by omega)]
        go_enter Try.func22, Try.ntmps22
        go_wp2
        go_ret2
        exact ⟨rfl, rfl⟩
      · by_cases s2 : a = -9223372036854775808 ∧ b = -1
        · obtain ⟨rfl, rfl⟩ := s2
          rw [fitZ_no (by omega), fits_no (by omega)]
          go_enter Try.func22, Try.ntmps22
          go_wp2
          go_ret2
          exact ⟨rfl, rfl⟩
        · have key : ∀ (c1 c2 c3 c4 : Bool), (a == -1) = c1 → (b == -9223372036854775808) = c2 → (b == -1) = c3 → (a == -9223372036854775808) = c4 → (c1 && c2) = false → (c3 && c4) = false →
              Calls Try.prog 22 #[.int .i64 a, .int .i64 b] w fun e w' => e = .returned (.tuple #[.int .i64 (fitZ (a * b)), .bool (fits (a * b))]) ∧ w = w' := by
            intro c1 c2 c3 c4 d1 d2 d3 d4 k1 k2
            by_cases hf : -9223372036854775808 ≤ a * b ∧ a * b ≤ 9223372036854775807
            · obtain ⟨t1, t2, t3⟩ := times_yes a b b0 hf ⟨ha1, ha2⟩
              rw [fitZ_yes hf.1 hf.2, fits_yes hf.1 hf.2]
              have H := Lib.hid t3
              clear t3 hf s1 s2
              cases c1 <;> cases c2 <;> cases c3 <;> cases c4 <;> first | (simp at k1; done) | (simp at k2; done) | skip
              all_goals
                go_enter Try.func22, Try.ntmps22
                go_wp2
                go_ret2
                exact ⟨ret_fit H.out, rfl⟩
            · have t := times_no a b b0 hf ⟨ha1, ha2⟩ s2
              rw [fitZ_no (by omega), fits_no (by omega)]
              clear hf s1 s2
              cases c1 <;> cases c2 <;> cases c3 <;> cases c4 <;> first | (simp at k1; done) | (simp at k2; done) | skip
              all_goals
                rcases t with t | ⟨t, t2⟩
                · go_enter Try.func22, Try.ntmps22
                  go_wp2
                  go_ret2
                  exact ⟨rfl, rfl⟩
                · go_enter Try.func22, Try.ntmps22
                  go_wp2
                  go_ret2
                  exact ⟨rfl, rfl⟩
          refine key _ _ _ _ rfl rfl rfl rfl ?_ ?_
          · by_cases x : a = -1 <;> by_cases y : b = -9223372036854775808 <;> simp_all
          · by_cases x : b = -1 <;> by_cases y : a = -9223372036854775808 <;> simp_all
end Go.Proofs.Ytcpfdinfoldklaa.CSat
