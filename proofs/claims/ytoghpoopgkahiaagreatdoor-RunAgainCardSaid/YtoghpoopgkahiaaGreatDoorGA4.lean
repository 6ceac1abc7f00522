/- Texts of this seat, one behind the other: Shelf, Sat, Shape. -/
import Derived.Shelf.Bits.Mul64
import Derived.Ground.SlgnProg
import Derived.Shelf.SlicesE.Clone
import Derived.Test.YtoghpoopgkahiaaGreatDoorProg
import Derived.Test.YtoghpoopgkahiaaGreatDoorRows
import Derived.WalkKit
import Derived.ProofKit
import Derived.OpenShut
import Derived.Laws.Bits64
import Derived.Outline
import Derived.Lib.Hide
import Derived.Test.YtoghpoopgkahiaaGreatDoorGA1
import Derived.Test.YtoghpoopgkahiaaGreatDoorGA3
section
namespace Go.Proofs
open Go.Shelf
def Tryz.lays264_ren : Go.Shelf.Ren := ⟨fun | 264 => 149 | n => n, fun | 53 => 184 | 46 => 188 | n => n, fun | n => n⟩
theorem Tryz.lays264 : Go.Proofs.Lays.n264 Tryz.prog Tryz.lays264_ren := {
  mixed := by kernel_rfl
  f264 := Tryz.func149.trans (congrArg some (by kernel_rfl))
  t46 := Tryz.underlying188
  a46 := Tryz.isAgg188
  z46 := Tryz.sizeOf188
  v46 := Tryz.zeroValue188
  t53 := Tryz.underlying184
  a53 := Tryz.isAgg184
  z53 := Tryz.sizeOf184
  v53 := Tryz.zeroValue184 }
open Go.RowKit Go.Lib in
theorem Tryz.bits_Mul64 (x y : Nat) (hx : x < 18446744073709551616) (hy : y < 18446744073709551616) (w : World) :
    Calls Tryz.prog 149 #[.int .u64 x, .int .u64 y] w fun e w' => e = .returned (.tuple #[.int .u64 ((x * y / 18446744073709551616 : Nat) : Int), .int .u64 ((x * y % 18446744073709551616 : Nat) : Int)]) ∧ w' = w := Any.bits_Mul64 Tryz.lays264 x y hx hy w
def Tryz.lays212_ren : Go.Shelf.Ren := ⟨fun | 212 => 152 | 263 => 157 | 264 => 149 | n => n, fun | 46 => 188 | 51 => 196 | 146 => 197 | 53 => 184 | 148 => 185 | n => n, fun | n => n⟩
theorem Tryz.lays212 : Go.Proofs.Lays.n212 Tryz.prog Tryz.lays212_ren := {
  mixed := by kernel_rfl
  f212 := Tryz.func152.trans (congrArg some (by kernel_rfl))
  f263 := Tryz.func157.trans (congrArg some (by kernel_rfl))
  f264 := Tryz.func149.trans (congrArg some (by kernel_rfl))
  t46 := Tryz.underlying188
  a46 := Tryz.isAgg188
  z46 := Tryz.sizeOf188
  v46 := Tryz.zeroValue188
  t51 := Tryz.underlying196
  a51 := Tryz.isAgg196
  z51 := Tryz.sizeOf196
  v51 := Tryz.zeroValue196
  t53 := Tryz.underlying184
  a53 := Tryz.isAgg184
  z53 := Tryz.sizeOf184
  v53 := Tryz.zeroValue184
  t146 := Tryz.underlying197
  a146 := Tryz.isAgg197
  z146 := Tryz.sizeOf197
  v146 := Tryz.zeroValue197
  t148 := Tryz.underlying185
  a148 := Tryz.isAgg185
  z148 := Tryz.sizeOf185
  v148 := Tryz.zeroValue185 }
open Go.RowKit Go.Lib in
/-- math/bits.Mul: "Mul returns the full-width product of x and y": on a machine of 64 bits: Mul64's. (LAID: no walk: one application.) -/
theorem Tryz.bits_Mul (x y : Nat) (hx : x < 18446744073709551616) (hy : y < 18446744073709551616) (w : World) :
    Calls Tryz.prog 152 #[.int .u64 x, .int .u64 y] w fun e w' => e = .returned (.tuple #[.int .u64 ((x * y / 18446744073709551616 : Nat) : Int), .int .u64 ((x * y % 18446744073709551616 : Nat) : Int)]) ∧ w' = w := Any.bits_Mul Tryz.lays212 x y hx hy w
end Go.Proofs
end
section
namespace Go.Proofs.YtoghpoopgkahiaaGreatDoor.CSat
open Go.ChangeShapes Go.WideShapes Go.ChangeAt Go.RowKit
open Plain
set_option linter.unusedVariables false
theorem ret_int {k : IntKind} {a b : Int} (h : a = b) : Ending.returned (.int k a) = .returned (.int k b) := by rw [h]
theorem clamp (v lo hi : Int) (hl1 : -128 ≤ lo) (hl2 : lo ≤ 127) (hh1 : -128 ≤ hi) (hh2 : hi ≤ 127) (w : World) :
    Calls Tryz.prog 140 #[.int .i64 v, .int .i8 lo, .int .i8 hi] w fun e w' => e = .returned (.int .i8 (clampZ v lo hi)) ∧ w = w' := by
  by_cases h1 : v < lo
  · go_enter Tryz.func140, Tryz.ntmps140
    go_wp2
    go_ret
    exact ⟨ret_int (by exact clampZ_lo (by omega)), rfl⟩
  · by_cases h2 : v > hi
    · go_enter Tryz.func140, Tryz.ntmps140
      go_wp2
      go_ret
      exact ⟨ret_int (by exact clampZ_hi (by omega) (by omega)), rfl⟩
    · go_enter Tryz.func140, Tryz.ntmps140
      go_wp2
      go_ret
      exact ⟨ret_int (by exact clampZ_in (by omega) (by omega)), rfl⟩
theorem mul_bd (a b : Int) (ha1 : -2147483648 ≤ a) (ha2 : a ≤ 2147483647) (hb1 : -2147483648 ≤ b) (hb2 : b ≤ 2147483647) : -4611686018427387904 ≤ a * b ∧ a * b ≤ 4611686018427387904 := by
  have h : (a * b).natAbs ≤ 2147483648 * 2147483648 := by
    rw [Int.natAbs_mul]; exact Nat.mul_le_mul (by omega) (by omega)
  omega
theorem size (a : Int) (ha1 : -9223372036854775808 ≤ a) (ha2 : a ≤ 9223372036854775807) (w : World) :
    Calls Tryz.prog 150 #[.int .i64 a] w fun e w' => e = .returned (.int .u64 (a.natAbs : Int)) ∧ w = w' := by
  by_cases h : a < 0
  · have hx : IntKind.u64.wrap a = a + 18446744073709551616 := by rw [IntKind.wrap_u64]; omega
    go_enter Tryz.func150, Tryz.ntmps150
    go_wp2
    go_ret
    exact ⟨ret_int (by rw [IntKind.wrap_u64]; omega), rfl⟩
  · go_enter Tryz.func150, Tryz.ntmps150
    go_wp2
    go_ret
    exact ⟨ret_int (by omega), rfl⟩
theorem mul64_small (x y P : Nat) (hx : x < 18446744073709551616) (hy : y < 18446744073709551616) (hP : P = x * y) (h : P < 18446744073709551616) (w : World) :
    Calls Tryz.prog 149 #[.int .u64 x, .int .u64 y] w fun e w' => e = .returned (.tuple #[.int .u64 0, .int .u64 (P : Int)]) ∧ w = w' := by
  refine (Tryz.bits_Mul64 x y hx hy w).mono fun e w' he => ?_
  rw [← hP, Nat.div_eq_of_lt h, Nat.mod_eq_of_lt h] at he
  exact ⟨he.1, he.2.symm⟩
def BigHigh (w : World) (e : Ending) (w' : World) : Prop := ∃ h l : Int, 1 ≤ h ∧ (h != 0) = true ∧ e = .returned (.tuple #[.int .u64 h, .int .u64 l]) ∧ w = w'
theorem mul64_big (x y : Nat) (hx : x < 18446744073709551616) (hy : y < 18446744073709551616) (h : 18446744073709551616 ≤ x * y) (w : World) :
    Calls Tryz.prog 149 #[.int .u64 x, .int .u64 y] w (BigHigh w) := by
  refine (Tryz.bits_Mul64 x y hx hy w).mono fun e w' he => ?_
  have h1 : 1 ≤ x * y / 18446744073709551616 := (Nat.le_div_iff_mul_le (by omega)).2 (by omega)
  generalize x * y / 18446744073709551616 = q at h1 he
  exact ⟨q, _, by omega, by rw [bne_iff_ne]; omega, he.1, he.2.symm⟩
theorem abs_mul (a b : Int) : (a * b).natAbs = a.natAbs * b.natAbs := Int.natAbs_mul a b
theorem neg_back (P : Nat) (h : P ≤ 9223372036854775808) : Ending.returned (.tuple #[.int .i64 (wrap64 (IntKind.u64.wrap (-(P : Int)))), .bool true]) = Ending.returned (.tuple #[.int .i64 (-(P : Int)), .bool true]) := by
  have : wrap64 (IntKind.u64.wrap (-(P : Int))) = -(P : Int) := by rw [IntKind.wrap_u64]; unfold wrap64; omega
  rw [this]
theorem times (a b : Int) (ha1 : -9223372036854775808 ≤ a) (ha2 : a ≤ 9223372036854775807) (hb1 : -9223372036854775808 ≤ b) (hb2 : b ≤ 9223372036854775807) (w : World) :
    Calls Tryz.prog 136 #[.int .i64 a, .int .i64 b] w fun e w' => e = .returned (.tuple #[.int .i64 (fitZ (a * b)), .bool (fits (a * b))]) ∧ w = w' := by
  have hm := abs_mul a b
  have hA : a.natAbs < 18446744073709551616 := by omega
  have hB : b.natAbs < 18446744073709551616 := by omega
  by_cases hbig : 18446744073709551616 ≤ a.natAbs * b.natAbs
  · have h2 : a * b < -9223372036854775808 ∨ 9223372036854775807 < a * b := by omega
    rw [fitZ_no h2, fits_no h2]
    have H := Lib.hid hbig
    clear hm h2 hbig
    go_enter Tryz.func136, Tryz.ntmps136
    go_wp2_with (first | (go_at_call 150; refine (size _ (by omega) (by omega) _).mono ?_; rintro e w' ⟨rfl, rfl⟩) | (go_at_call 149; refine (mul64_big _ _ hA hB H.out _).mono ?_; rintro e w' ⟨h, l, h1, h2, rfl, rfl⟩))
    go_ret2
    exact ⟨rfl, rfl⟩
  · obtain ⟨P, hP⟩ : ∃ P, P = a.natAbs * b.natAbs := ⟨_, rfl⟩
    have hsm : P < 18446744073709551616 := by omega
    have key : (((a < 0) = (b < 0)) → a * b = P) ∧ (((a < 0) ≠ (b < 0)) → a * b = - (P : Int)) := by
      have hs : (a * b = P) ∨ (a * b = -(P : Int)) := by omega
      constructor
      · intro hsg
        by_cases ha : a < 0
        · have hb : b < 0 := hsg ▸ ha
          have := Int.mul_pos_of_neg_of_neg ha hb
          omega
        · have hb : ¬ b < 0 := hsg ▸ ha
          have := Int.mul_nonneg (Int.not_lt.1 ha) (Int.not_lt.1 hb)
          omega
      · intro hsg
        by_cases ha : a < 0
        · have hb : ¬ b < 0 := fun h => hsg (by simp [ha, h])
          have := Int.mul_nonpos_of_nonpos_of_nonneg (Int.le_of_lt ha) (Int.not_lt.1 hb)
          omega
        · have hb : b < 0 := by
            by_cases hb : b < 0
            · exact hb
            · exact absurd (by simp [ha, hb]) hsg
          have := Int.mul_nonpos_of_nonneg_of_nonpos (Int.not_lt.1 ha) (Int.le_of_lt hb)
          omega
    obtain ⟨k1, k2⟩ := key
    clear hm hbig
    have H := Lib.hid hP
    clear hP
    by_cases ha : a < 0 <;> by_cases hb : b < 0
    · rw [k1 (by simp [ha, hb])]; clear k1 k2
      have da : decide (a < 0) = true := by simp; omega
      have db : decide (b < 0) = true := by simp; omega
      by_cases hq : P ≤ 9223372036854775807
      · rw [fitZ_yes (by omega) (by omega), fits_yes (by omega) (by omega)]
        go_enter Tryz.func136, Tryz.ntmps136
        go_wp2_with (first | (go_at_call 150; refine (size _ (by omega) (by omega) _).mono ?_; rintro e w' ⟨rfl, rfl⟩) | (go_at_call 149; refine (mul64_small _ _ P hA hB H.out (by omega) _).mono ?_; rintro e w' ⟨rfl, rfl⟩))
        go_ret2
        exact ⟨rfl, rfl⟩
      · rw [fitZ_no (by omega), fits_no (by omega)]
        go_enter Tryz.func136, Tryz.ntmps136
        go_wp2_with (first | (go_at_call 150; refine (size _ (by omega) (by omega) _).mono ?_; rintro e w' ⟨rfl, rfl⟩) | (go_at_call 149; refine (mul64_small _ _ P hA hB H.out (by omega) _).mono ?_; rintro e w' ⟨rfl, rfl⟩))
        go_ret2
        exact ⟨rfl, rfl⟩
    · rw [k2 (by simp [ha, hb])]; clear k1 k2
      have da : decide (a < 0) = true := by simp; omega
      have db : decide (b < 0) = false := by simp; omega
      by_cases hq : P ≤ 9223372036854775808
      · rw [fitZ_yes (by omega) (by omega), fits_yes (by omega) (by omega)]
        go_enter Tryz.func136, Tryz.ntmps136
        go_wp2_with (first | (go_at_call 150; refine (size _ (by omega) (by omega) _).mono ?_; rintro e w' ⟨rfl, rfl⟩) | (go_at_call 149; refine (mul64_small _ _ P hA hB H.out (by omega) _).mono ?_; rintro e w' ⟨rfl, rfl⟩))
        go_ret2
        exact ⟨neg_back P (by omega), rfl⟩
      · rw [fitZ_no (by omega), fits_no (by omega)]
        go_enter Tryz.func136, Tryz.ntmps136
        go_wp2_with (first | (go_at_call 150; refine (size _ (by omega) (by omega) _).mono ?_; rintro e w' ⟨rfl, rfl⟩) | (go_at_call 149; refine (mul64_small _ _ P hA hB H.out (by omega) _).mono ?_; rintro e w' ⟨rfl, rfl⟩))
        go_ret2
        exact ⟨rfl, rfl⟩
    · rw [k2 (by simp [ha, hb])]; clear k1 k2
      have da : decide (a < 0) = false := by simp; omega
      have db : decide (b < 0) = true := by simp; omega
      by_cases hq : P ≤ 9223372036854775808
      · rw [fitZ_yes (by omega) (by omega), fits_yes (by omega) (by omega)]
        go_enter Tryz.func136, Tryz.ntmps136
        go_wp2_with (first | (go_at_call 150; refine (size _ (by omega) (by omega) _).mono ?_; rintro e w' ⟨rfl, rfl⟩) | (go_at_call 149; refine (mul64_small _ _ P hA hB H.out (by omega) _).mono ?_; rintro e w' ⟨rfl, rfl⟩))
        go_ret2
        exact ⟨neg_back P (by omega), rfl⟩
      · rw [fitZ_no (by omega), fits_no (by omega)]
        go_enter Tryz.func136, Tryz.ntmps136
        go_wp2_with (first | (go_at_call 150; refine (size _ (by omega) (by omega) _).mono ?_; rintro e w' ⟨rfl, rfl⟩) | (go_at_call 149; refine (mul64_small _ _ P hA hB H.out (by omega) _).mono ?_; rintro e w' ⟨rfl, rfl⟩))
        go_ret2
        exact ⟨rfl, rfl⟩
    · rw [k1 (by simp [ha, hb])]; clear k1 k2
      have da : decide (a < 0) = false := by simp; omega
      have db : decide (b < 0) = false := by simp; omega
      by_cases hq : P ≤ 9223372036854775807
      · rw [fitZ_yes (by omega) (by omega), fits_yes (by omega) (by omega)]
        go_enter Tryz.func136, Tryz.ntmps136
        go_wp2_with (first | (go_at_call 150; refine (size _ (by omega) (by omega) _).mono ?_; rintro e w' ⟨rfl, rfl⟩) | (go_at_call 149; refine (mul64_small _ _ P hA hB H.out (by omega) _).mono ?_; rintro e w' ⟨rfl, rfl⟩))
        go_ret2
        exact ⟨rfl, rfl⟩
      · rw [fitZ_no (by omega), fits_no (by omega)]
        go_enter Tryz.func136, Tryz.ntmps136
        go_wp2_with (first | (go_at_call 150; refine (size _ (by omega) (by omega) _).mono ?_; rintro e w' ⟨rfl, rfl⟩) | (go_at_call 149; refine (mul64_small _ _ P hA hB H.out (by omega) _).mono ?_; rintro e w' ⟨rfl, rfl⟩))
        go_ret2
        exact ⟨rfl, rfl⟩
end Go.Proofs.YtoghpoopgkahiaaGreatDoor.CSat
end
section
namespace Go.Proofs.YtoghpoopgkahiaaGreatDoor.CShape
open Go Go.ChangeShapes Go.WideShapes Go.ChangeAt Go.RowKit
open Plain CSat
set_option linter.unusedVariables false
theorem within_yes (n lo hi : Int) (h1 : lo ≤ n) (h2 : n ≤ hi) (w : World) :
    Calls Tryz.prog 100 #[.int .i64 n, .int .i64 lo, .int .i64 hi] w fun e w' => e = .returned (.bool true) ∧ w = w' := by
  go_enter Tryz.func100, Tryz.ntmps100
  go_wp2
  go_ret
  exact ⟨rfl, rfl⟩
theorem within_no (n lo hi : Int) (h : n < lo ∨ hi < n) (w : World) :
    Calls Tryz.prog 100 #[.int .i64 n, .int .i64 lo, .int .i64 hi] w fun e w' => e = .returned (.bool false) ∧ w = w' := by
  by_cases h1 : n < lo
  · have hd : decide (n ≥ lo) = false := by simp; omega
    go_enter Tryz.func100, Tryz.ntmps100
    go_wp2
    go_ret
    exact ⟨rfl, rfl⟩
  · have h2 : hi < n := by omega
    have hd : decide (n ≤ hi) = false := by simp; omega
    go_enter Tryz.func100, Tryz.ntmps100
    go_wp2
    go_ret
    exact ⟨rfl, rfl⟩
theorem times_in (a b c : Int) (ha1 : -9223372036854775808 ≤ a) (ha2 : a ≤ 9223372036854775807) (hb1 : -9223372036854775808 ≤ b) (hb2 : b ≤ 9223372036854775807) (hc : a * b = c) (hc1 : -9223372036854775808 ≤ c) (hc2 : c ≤ 9223372036854775807) (w : World) :
    Calls Tryz.prog 136 #[.int .i64 a, .int .i64 b] w fun e w' => e = .returned (.tuple #[.int .i64 c, .bool true]) ∧ w = w' := by
  subst hc
  have h := times a b ha1 ha2 hb1 hb2 w
  rw [fitZ_yes hc1 hc2, fits_yes hc1 hc2] at h
  exact h
theorem product (a b c p q : Int) (ha1 : 1 ≤ a) (ha2 : a ≤ 16) (hb1 : 1 ≤ b) (hb2 : b ≤ 16) (hc1 : 1 ≤ c) (hc2 : c ≤ 1024) (hp : a * b = p) (hq : p * c = q) (w : World) :
    Calls Tryz.prog 101 #[.agg #[.int .i64 a, .int .i64 b, .int .i64 c]] w fun e w' => e = .returned (.tuple #[.int .i64 q, .bool true]) ∧ Below w.heap.size w w' := by
  have hp1 : 1 ≤ p := hp ▸ Int.mul_le_mul ha1 hb1 (by omega) (by omega)
  have hp2 : p ≤ 256 := hp ▸ Int.mul_le_mul ha2 hb2 (by omega) (by omega)
  have hq1 : 1 ≤ q := hq ▸ Int.mul_le_mul hp1 hc1 (by omega) (by omega)
  have hq2 : q ≤ 262144 := hq ▸ Int.mul_le_mul hp2 hc2 (by omega) (by omega)
  have HP := Lib.hid hp
  have HQ := Lib.hid hq
  clear hp hq
  go_enter Tryz.func101, Tryz.ntmps101
  go_wp2
  go_loop [4, 5, 6, 7] (fun n ok i t => (n = .int .i64 1 ∧ t = .int .i64 0) ∨ (n = .int .i64 a ∧ t = .int .i64 1) ∨ (n = .int .i64 p ∧ t = .int .i64 2) ∨ (n = .int .i64 q ∧ t = .int .i64 3)) (fun _ _ _ t => 3 - (intOf t).toNat)
  case atStart => exact .inl ⟨rfl, rfl⟩
  case round =>
    rcases hrel with ⟨rfl, rfl⟩ | ⟨rfl, rfl⟩ | ⟨rfl, rfl⟩ | ⟨rfl, rfl⟩
    · go_wp2_with (go_at_call 136; refine (times_in _ _ a (by omega) (by omega) (by omega) (by omega) (by omega) (by omega) (by omega) _).mono ?_; rintro e w' ⟨rfl, rfl⟩)
      go_round
      case rel => exact .inr (.inl ⟨rfl, rfl⟩)
      case measure => simp [intOf]
    · go_wp2_with (go_at_call 136; refine (times_in _ _ p (by omega) (by omega) (by omega) (by omega) HP.out (by omega) (by omega) _).mono ?_; rintro e w' ⟨rfl, rfl⟩)
      go_round
      case rel => exact .inr (.inr (.inl ⟨rfl, rfl⟩))
      case measure => simp [intOf]
    · go_wp2_with (go_at_call 136; refine (times_in _ _ q (by omega) (by omega) (by omega) (by omega) HQ.out (by omega) (by omega) _).mono ?_; rintro e w' ⟨rfl, rfl⟩)
      go_round
      case rel => exact .inr (.inr (.inr ⟨rfl, rfl⟩))
      case measure => simp [intOf]
    · go_wp2
      go_ret2
      exact ⟨rfl, (Below.refl _ _).alloc (Nat.le_refl _) _⟩
/-- may a shape be? -/
def shapeB (h w c : Int) : Bool := decide (1 ≤ h ∧ h ≤ 16 ∧ 1 ≤ w ∧ w ≤ 16 ∧ 1 ≤ c ∧ c ≤ 1024 ∧ h * w * c ≤ 1024)
def elemsZ (h w c : Int) : Int := if shapeB h w c then h * w * c else 0
theorem prod_bd {h w c : Int} (h1 : 1 ≤ h) (h2 : h ≤ 16) (h3 : 1 ≤ w) (h4 : w ≤ 16) (h5 : 1 ≤ c) (h6 : c ≤ 1024) : 1 ≤ h * w * c ∧ h * w * c ≤ 262144 := by
  have a1 : 1 ≤ h * w := Int.mul_le_mul h1 h3 (by omega) (by omega)
  have a2 : h * w ≤ 256 := Int.mul_le_mul h2 h4 (by omega) (by omega)
  exact ⟨Int.mul_le_mul a1 h5 (by omega) (by omega), Int.mul_le_mul a2 h6 (by omega) (by omega)⟩
theorem shapeB_yes {h w c : Int} (hs : shapeB h w c = true) : 1 ≤ h ∧ h ≤ 16 ∧ 1 ≤ w ∧ w ≤ 16 ∧ 1 ≤ c ∧ c ≤ 1024 ∧ h * w * c ≤ 1024 := by simpa [shapeB] using hs
theorem elemsZ_yes {h w c : Int} (hs : shapeB h w c = true) : elemsZ h w c = h * w * c := by unfold elemsZ; rw [if_pos hs]
theorem elemsZ_no {h w c : Int} (hs : shapeB h w c = false) : elemsZ h w c = 0 := by unfold elemsZ; rw [if_neg (by simp [hs])]
theorem elemsZ_pos (h w c : Int) : decide (elemsZ h w c > 0) = shapeB h w c := by
  cases hs : shapeB h w c
  · rw [elemsZ_no hs]; rfl
  · obtain ⟨a1, a2, a3, a4, a5, a6, a7⟩ := shapeB_yes hs
    rw [elemsZ_yes hs]
    have := prod_bd a1 a2 a3 a4 a5 a6
    simp; omega
theorem elems_yes (h w c n : Int) (h1 : 1 ≤ h) (h2 : h ≤ 16) (h3 : 1 ≤ w) (h4 : w ≤ 16) (h5 : 1 ≤ c) (h6 : c ≤ 1024) (hn : h * w * c = n) (hn1 : n ≤ 1024) (W : World) :
    Calls Tryz.prog 52 #[.agg #[.int .i64 h, .int .i64 w, .int .i64 c]] W fun e w' => e = .returned (.int .i64 n) ∧ Below W.heap.size W w' := by
  have hb := prod_bd h1 h2 h3 h4 h5 h6
  rw [hn] at hb
  obtain ⟨b1, b2⟩ := hb
  have HN := Lib.hid hn
  clear hn
  go_enter Tryz.func52, Tryz.ntmps52
  go_wp2_with (first
      | (go_at_call 100; refine (within_yes _ _ _ (by omega) (by omega) _).mono ?_; rintro e w' ⟨rfl, rfl⟩)
      | (go_at_call 101; refine (product h w c _ n h1 h2 h3 h4 h5 h6 rfl HN.out _).mono ?_; rintro e w1 ⟨rfl, hb⟩))
  go_ret
  exact ⟨rfl, ((Below.refl _ _).alloc (Nat.le_refl _) _).trans (hb.mono (by simp))⟩
theorem elems_many (h w c n : Int) (h1 : 1 ≤ h) (h2 : h ≤ 16) (h3 : 1 ≤ w) (h4 : w ≤ 16) (h5 : 1 ≤ c) (h6 : c ≤ 1024) (hn : h * w * c = n) (hn1 : 1024 < n) (W : World) :
    Calls Tryz.prog 52 #[.agg #[.int .i64 h, .int .i64 w, .int .i64 c]] W fun e w' => e = .returned (.int .i64 0) ∧ Below W.heap.size W w' := by
  have hb := prod_bd h1 h2 h3 h4 h5 h6
  rw [hn] at hb
  obtain ⟨b1, b2⟩ := hb
  have HN := Lib.hid hn
  clear hn
  go_enter Tryz.func52, Tryz.ntmps52
  go_wp2_with (first
      | (go_at_call 100; refine (within_yes _ _ _ (by omega) (by omega) _).mono ?_; rintro e w' ⟨rfl, rfl⟩)
      | (go_at_call 101; refine (product h w c _ n h1 h2 h3 h4 h5 h6 rfl HN.out _).mono ?_; rintro e w1 ⟨rfl, hb⟩))
  go_ret
  exact ⟨rfl, ((Below.refl _ _).alloc (Nat.le_refl _) _).trans (hb.mono (by simp))⟩
theorem elems_out (h w c : Int) (hw : (h < 1 ∨ 16 < h) ∨ (1 ≤ h ∧ h ≤ 16 ∧ (w < 1 ∨ 16 < w)) ∨ (1 ≤ h ∧ h ≤ 16 ∧ 1 ≤ w ∧ w ≤ 16 ∧ (c < 1 ∨ 1024 < c))) (W : World) :
    Calls Tryz.prog 52 #[.agg #[.int .i64 h, .int .i64 w, .int .i64 c]] W fun e w' => e = .returned (.int .i64 0) ∧ Below W.heap.size W w' := by
  rcases hw with h1 | ⟨h1, h2, h3⟩ | ⟨h1, h2, h3, h4, h5⟩
  all_goals
    go_enter Tryz.func52, Tryz.ntmps52
    go_wp2_with (first
      | (go_at_call 100; refine (within_yes _ _ _ (by omega) (by omega) _).mono ?_; rintro e w' ⟨rfl, rfl⟩)
      | (go_at_call 100; refine (within_no _ _ _ (by omega) _).mono ?_; rintro e w' ⟨rfl, rfl⟩))
    go_ret
    exact ⟨rfl, (Below.refl _ _).alloc (Nat.le_refl _) _⟩
theorem elems_to (h w c n : Int) (hn : elemsZ h w c = n) (W : World) :
    Calls Tryz.prog 52 #[.agg #[.int .i64 h, .int .i64 w, .int .i64 c]] W fun e w' => e = .returned (.int .i64 n) ∧ Below W.heap.size W w' := by
  cases hs : shapeB h w c
  · rw [elemsZ_no hs] at hn
    subst hn
    by_cases hi : 1 ≤ h ∧ h ≤ 16 ∧ 1 ≤ w ∧ w ≤ 16 ∧ 1 ≤ c ∧ c ≤ 1024
    · obtain ⟨a1, a2, a3, a4, a5, a6⟩ := hi
      exact elems_many h w c _ a1 a2 a3 a4 a5 a6 rfl (by simp [shapeB] at hs; omega) W
    · exact elems_out h w c (by omega) W
  · obtain ⟨a1, a2, a3, a4, a5, a6, a7⟩ := shapeB_yes hs
    rw [elemsZ_yes hs] at hn
    exact elems_yes h w c n a1 a2 a3 a4 a5 a6 hn (hn ▸ a7) W
theorem right_to (h w c : Int) (b : Bool) (hb : shapeB h w c = b) (W : World) :
    Calls Tryz.prog 51 #[.agg #[.int .i64 h, .int .i64 w, .int .i64 c]] W fun e w' => e = .returned (.bool b) ∧ Below W.heap.size W w' := by
  obtain ⟨n, hn⟩ : ∃ n, elemsZ h w c = n := ⟨_, rfl⟩
  have hd : decide (n > 0) = b := by rw [← hn, elemsZ_pos, hb]
  have HN := Lib.hid hn
  clear hn
  go_enter Tryz.func51, Tryz.ntmps51
  go_wp2_with (go_at_call 52; refine (elems_to _ _ _ n HN.out _).mono ?_; rintro e w1 ⟨rfl, hb⟩)
  go_ret
  exact ⟨rfl, ((Below.refl _ _).alloc (Nat.le_refl _) _).trans (hb.mono (by simp))⟩
/-- is there such an element? -/
def inB (H W C h w c : Int) : Bool := shapeB H W C && decide (0 ≤ h ∧ h < H ∧ 0 ≤ w ∧ w < W ∧ 0 ≤ c ∧ c < C)
theorem at_bd {H W C h w c : Int} (hs : shapeB H W C = true) (h1 : 0 ≤ h) (h2 : h < H) (w1 : 0 ≤ w) (w2 : w < W) (c1 : 0 ≤ c) (c2 : c < C) :
    0 ≤ h * W ∧ h * W ≤ 256 ∧ 0 ≤ (h * W + w) * C ∧ (h * W + w) * C + c < H * W * C ∧ H * W * C ≤ 1024 := by
  obtain ⟨a1, a2, a3, a4, a5, a6, a7⟩ := shapeB_yes hs
  have b1 : 0 ≤ h * W := Int.mul_nonneg h1 (by omega)
  have b2 : h * W ≤ 15 * 16 := Int.mul_le_mul (by omega) a4 (by omega) (by omega)
  have b3 : 0 ≤ (h * W + w) * C := Int.mul_nonneg (by omega) (by omega)
  have b4 : (h + 1) * W ≤ H * W := Int.mul_le_mul_of_nonneg_right (by omega) (by omega)
  have b5 : h * W + w + 1 ≤ H * W := by rw [Int.add_mul, Int.one_mul] at b4; omega
  have b6 : (h * W + w + 1) * C ≤ H * W * C := Int.mul_le_mul_of_nonneg_right b5 (by omega)
  rw [Int.add_mul, Int.one_mul] at b6
  omega
theorem index_yes (H W C h w c p : Int) (hs : shapeB H W C = true) (h1 : 0 ≤ h) (h2 : h < H) (w1 : 0 ≤ w) (w2 : w < W) (c1 : 0 ≤ c) (c2 : c < C) (hp : (h * W + w) * C + c = p) (wd : World) :
    Calls Tryz.prog 133 #[.agg #[.int .i64 H, .int .i64 W, .int .i64 C], .int .i64 h, .int .i64 w, .int .i64 c] wd fun e w' => e = .returned (.tuple #[.int .i64 p, .bool true]) ∧ Below wd.heap.size wd w' := by
  obtain ⟨b1, b2, b3, b4, b5⟩ := at_bd hs h1 h2 w1 w2 c1 c2
  obtain ⟨a1, a2, a3, a4, a5, a6, a7⟩ := shapeB_yes hs
  have b6 : (h * W + w) * C + c < 1024 := by omega
  subst hp
  have HS := Lib.hid hs
  clear hs b4 b5 a7
  go_enter Tryz.func133, Tryz.ntmps133
  go_wp2_with (first
      | (go_at_call 100; refine (within_yes _ _ _ (by omega) (by omega) _).mono ?_; rintro e w' ⟨rfl, rfl⟩)
      | (go_at_call 51; refine (right_to _ _ _ _ HS.out _).mono ?_; rintro e w1 ⟨rfl, hb⟩; obtain ⟨hc, hf⟩ := Kit.bcell hb))
  go_ret2
  exact ⟨rfl, ((Below.refl _ _).alloc (Nat.le_refl _) _).trans (hb.mono (by simp))⟩
theorem index_no (H W C h w c : Int) (hs : inB H W C h w c = false) (wd : World) :
    Calls Tryz.prog 133 #[.agg #[.int .i64 H, .int .i64 W, .int .i64 C], .int .i64 h, .int .i64 w, .int .i64 c] wd fun e w' => e = .returned (.tuple #[.int .i64 0, .bool false]) ∧ Below wd.heap.size wd w' := by
  cases hr : shapeB H W C
  · have HS := Lib.hid hr
    clear hs hr
    go_enter Tryz.func133, Tryz.ntmps133
    go_wp2_with (go_at_call 51; refine (right_to _ _ _ _ HS.out _).mono ?_; rintro e w1 ⟨rfl, hb⟩; obtain ⟨hc, hf⟩ := Kit.bcell hb)
    go_ret2
    exact ⟨rfl, ((Below.refl _ _).alloc (Nat.le_refl _) _).trans (hb.mono (by simp))⟩
  · have h0 : (h < 0 ∨ H - 1 < h) ∨ (0 ≤ h ∧ h ≤ H - 1 ∧ (w < 0 ∨ W - 1 < w)) ∨ (0 ≤ h ∧ h ≤ H - 1 ∧ 0 ≤ w ∧ w ≤ W - 1 ∧ (c < 0 ∨ C - 1 < c)) := by
      simp [inB, hr] at hs; omega
    obtain ⟨a1, a2, a3, a4, a5, a6, a7⟩ := shapeB_yes hr
    have HS := Lib.hid hr
    clear hs hr a7
    rcases h0 with h1 | ⟨h1, h2, h3⟩ | ⟨h1, h2, h3, h4, h5⟩
    all_goals
      go_enter Tryz.func133, Tryz.ntmps133
      go_wp2_with (first
        | (go_at_call 100; refine (within_yes _ _ _ (by omega) (by omega) _).mono ?_; rintro e w' ⟨rfl, rfl⟩)
        | (go_at_call 100; refine (within_no _ _ _ (by omega) _).mono ?_; rintro e w' ⟨rfl, rfl⟩)
        | (go_at_call 51; refine (right_to _ _ _ _ HS.out _).mono ?_; rintro e w1 ⟨rfl, hb⟩; obtain ⟨hc, hf⟩ := Kit.bcell hb))
      go_ret2
      exact ⟨rfl, ((Below.refl _ _).alloc (Nat.le_refl _) _).trans (hb.mono (by simp))⟩
end Go.Proofs.YtoghpoopgkahiaaGreatDoor.CShape
end
