/- Contracts of package shape (layer 4): what each function returns, as plain integers. -/
import Derived.Test.YtmnhcmkcdchmkaaSat
import Derived.Test.YtmnhcmkcdchmkaaKit
import Derived.Test.YtmnhcmkcdchmkaaNum
namespace Go.Proofs.Ytmnhcmkcdchmkaa.CShape
open Go Go.ChangeShapes Go.WideShapes Go.ChangeAt Go.RowKit
open Plain CSat
set_option linter.unusedVariables false

theorem within_yes (n lo hi : Int) (h1 : lo ≤ n) (h2 : n ≤ hi) (w : World) :
    Calls Try.prog 28 #[.int .i64 n, .int .i64 lo, .int .i64 hi] w fun e w' => e = .returned (.bool true) ∧ w = w' := by
  go_enter Try.func28, Try.ntmps28
  go_wp2
  go_ret
  exact ⟨rfl, rfl⟩
theorem within_no (n lo hi : Int) (h : n < lo ∨ hi < n) (w : World) :
    Calls Try.prog 28 #[.int .i64 n, .int .i64 lo, .int .i64 hi] w fun e w' => e = .returned (.bool false) ∧ w = w' := by
  by_cases h1 : n < lo
  · have hd : decide (n ≥ lo) = false := by simp; omega
    go_enter Try.func28, Try.ntmps28
    go_wp2
    go_ret
    exact ⟨rfl, rfl⟩
  · have h2 : hi < n := by omega
    have hd : decide (n ≤ hi) = false := by simp; omega
    go_enter Try.func28, Try.ntmps28
    go_wp2
    go_ret
    exact ⟨rfl, rfl⟩

theorem times_in (a b c : Int) (ha1 : -9223372036854775808 ≤ a) (ha2 : a ≤ 9223372036854775807) (hb1 : -9223372036854775808 ≤ b) (hb2 : b ≤ 9223372036854775807) (hc : a * b = c) (hc1 : -9223372036854775808 ≤ c) (hc2 : c ≤ 9223372036854775807) (w : World) :
    Calls Try.prog 32 #[.int .i64 a, .int .i64 b] w fun e w' => e = .returned (.tuple #[.int .i64 c, .bool true]) ∧ w = w' := by
  subst hc
  have h := times a b ha1 ha2 hb1 hb2 w
  rw [fitZ_yes hc1 hc2, fits_yes hc1 hc2] at h
  exact h

theorem product (a b c p q : Int) (ha1 : 1 ≤ a) (ha2 : a ≤ 16) (hb1 : 1 ≤ b) (hb2 : b ≤ 16) (hc1 : 1 ≤ c) (hc2 : c ≤ 1024) (hp : a * b = p) (hq : p * c = q) (w : World) :
    Calls Try.prog 29 #[.agg #[.int .i64 a, .int .i64 b, .int .i64 c]] w fun e w' => e = .returned (.tuple #[.int .i64 q, .bool true]) ∧ Below w.heap.size w w' := by
  have hp1 : 1 ≤ p := hp ▸ Int.mul_le_mul ha1 hb1 (by omega) (by omega)
  have hp2 : p ≤ 256 := hp ▸ Int.mul_le_mul ha2 hb2 (by omega) (by omega)
  have hq1 : 1 ≤ q := hq ▸ Int.mul_le_mul hp1 hc1 (by omega) (by omega)
  have hq2 : q ≤ 262144 := hq ▸ Int.mul_le_mul hp2 hc2 (by omega) (by omega)
  have HP := Lib.hid hp
  have HQ := Lib.hid hq
  clear hp hq
  go_enter Try.func29, Try.ntmps29
  go_wp2
  go_loop [4, 5, 6, 7] (fun n ok i t => (n = .int .i64 1 ∧ t = .int .i64 0) ∨ (n = .int .i64 a ∧ t = .int .i64 1) ∨ (n = .int .i64 p ∧ t = .int .i64 2) ∨ (n = .int .i64 q ∧ t = .int .i64 3)) (fun _ _ _ t => 3 - (intOf t).toNat)
  case atStart => exact .inl ⟨rfl, rfl⟩
  case round =>
    rcases hrel with ⟨rfl, rfl⟩ | ⟨rfl, rfl⟩ | ⟨rfl, rfl⟩ | ⟨rfl, rfl⟩
    · go_wp2_with (go_at_call 32; refine (times_in _ _ a (by omega) (by omega) (by omega) (by omega) (by omega) (by omega) (by omega) _).mono ?_; rintro e w' ⟨rfl, rfl⟩)
      go_round
      case rel => exact .inr (.inl ⟨rfl, rfl⟩)
      case measure => simp [intOf]
    · go_wp2_with (go_at_call 32; refine (times_in _ _ p (by omega) (by omega) (by omega) (by omega) HP.out (by omega) (by omega) _).mono ?_; rintro e w' ⟨rfl, rfl⟩)
      go_round
      case rel => exact .inr (.inr (.inl ⟨rfl, rfl⟩))
      case measure => simp [intOf]
    · go_wp2_with (go_at_call 32; refine (times_in _ _ q (by omega) (by omega) (by omega) (by omega) HQ.out (by omega) (by omega) _).mono ?_; rintro e w' ⟨rfl, rfl⟩)
      go_round
      case rel => exact .inr (.inr (.inr ⟨rfl, rfl⟩))
      case measure => simp [intOf]
    · go_wp2
      go_ret2
      exact ⟨rfl, (Below.refl _ _).alloc (Nat.le_refl _) _⟩

/-- may a shape be? -/
def shapeB (h w c : Int) : Bool := decide (1 ≤ h ∧ h ≤ 16 ∧ 1 ≤ w ∧ w ≤ 16 ∧ 1 ≤ c ∧ c ≤ 1024 ∧ h * w * c ≤ 1024)
def elemsZ (h w c : Int) : Int := if shapeB h w c then h * w * c else 0
theorem prod_bd {h w c : Int} (h1 : 1 ≤ h) (h2 : h ≤ 16) (h3 : 1 ≤ w) (h4 : w ≤ 16) (h5 : 1 ≤ c) (h6 : c ≤ 1024) : 1 ≤ h * w * c ∧ h * w * c ≤ 262144 := by
  have a1 : 1 ≤ h * w := Int.mul_le_mul h1 h3 (by omega) (by omega)
  have a2 : h * w ≤ 256 := Int.mul_le_mul h2 h4 (by omega) (by omega)
  exact ⟨Int.mul_le_mul a1 h5 (by omega) (by omega), Int.mul_le_mul a2 h6 (by omega) (by omega)⟩
theorem shapeB_yes {h w c : Int} (hs : shapeB h w c = true) : 1 ≤ h ∧ h ≤ 16 ∧ 1 ≤ w ∧ w ≤ 16 ∧ 1 ≤ c ∧ c ≤ 1024 ∧ h * w * c ≤ 1024 := by simpa [shapeB] using hs
theorem elemsZ_yes {h w c : Int} (hs : shapeB h w c = true) : elemsZ h w c = h * w * c := by unfold elemsZ; rw [if_pos hs]
theorem elemsZ_no {h w c : Int} (hs : shapeB h w c = false) : elemsZ h w c = 0 := by unfold elemsZ; rw [if_neg (by simp [hs])]
theorem elemsZ_bd (h w c : Int) : 0 ≤ elemsZ h w c ∧ elemsZ h w c ≤ 1024 := by
  unfold elemsZ
  split
  · rename_i hs
    obtain ⟨a1, a2, a3, a4, a5, a6, a7⟩ := shapeB_yes hs
    have := prod_bd a1 a2 a3 a4 a5 a6
    omega
  · omega
theorem elemsZ_pos (h w c : Int) : decide (elemsZ h w c > 0) = shapeB h w c := by
  cases hs : shapeB h w c
  · rw [elemsZ_no hs]; rfl
  · obtain ⟨a1, a2, a3, a4, a5, a6, a7⟩ := shapeB_yes hs
    rw [elemsZ_yes hs]
    have := prod_bd a1 a2 a3 a4 a5 a6
    simp; omega

theorem elems_yes (h w c n : Int) (h1 : 1 ≤ h) (h2 : h ≤ 16) (h3 : 1 ≤ w) (h4 : w ≤ 16) (h5 : 1 ≤ c) (h6 : c ≤ 1024) (hn : h * w * c = n) (hn1 : n ≤ 1024) (W : World) :
    Calls Try.prog 22 #[.agg #[.int .i64 h, .int .i64 w, .int .i64 c]] W fun e w' => e = .returned (.int .i64 n) ∧ Below W.heap.size W w' := by
  have hb := prod_bd h1 h2 h3 h4 h5 h6
  rw [hn] at hb
  obtain ⟨b1, b2⟩ := hb
  have HN := Lib.hid hn
  clear hn
  go_enter Try.func22, Try.ntmps22
  go_wp2_with (first
      | (go_at_call 28; refine (within_yes _ _ _ (by omega) (by omega) _).mono ?_; rintro e w' ⟨rfl, rfl⟩)
      | (go_at_call 29; refine (product h w c _ n h1 h2 h3 h4 h5 h6 rfl HN.out _).mono ?_; rintro e w1 ⟨rfl, hb⟩))
  go_ret
  exact ⟨rfl, ((Below.refl _ _).alloc (Nat.le_refl _) _).trans (hb.mono (by simp))⟩
theorem elems_many (h w c n : Int) (h1 : 1 ≤ h) (h2 : h ≤ 16) (h3 : 1 ≤ w) (h4 : w ≤ 16) (h5 : 1 ≤ c) (h6 : c ≤ 1024) (hn : h * w * c = n) (hn1 : 1024 < n) (W : World) :
    Calls Try.prog 22 #[.agg #[.int .i64 h, .int .i64 w, .int .i64 c]] W fun e w' => e = .returned (.int .i64 0) ∧ Below W.heap.size W w' := by
  have hb := prod_bd h1 h2 h3 h4 h5 h6
  rw [hn] at hb
  obtain ⟨b1, b2⟩ := hb
  have HN := Lib.hid hn
  clear hn
  go_enter Try.func22, Try.ntmps22
  go_wp2_with (first
      | (go_at_call 28; refine (within_yes _ _ _ (by omega) (by omega) _).mono ?_; rintro e w' ⟨rfl, rfl⟩)
      | (go_at_call 29; refine (product h w c _ n h1 h2 h3 h4 h5 h6 rfl HN.out _).mono ?_; rintro e w1 ⟨rfl, hb⟩))
  go_ret
  exact ⟨rfl, ((Below.refl _ _).alloc (Nat.le_refl _) _).trans (hb.mono (by simp))⟩
theorem elems_out (h w c : Int) (hw : (h < 1 ∨ 16 < h) ∨ (1 ≤ h ∧ h ≤ 16 ∧ (w < 1 ∨ 16 < w)) ∨ (1 ≤ h ∧ h ≤ 16 ∧ 1 ≤ w ∧ w ≤ 16 ∧ (c < 1 ∨ 1024 < c))) (W : World) :
    Calls Try.prog 22 #[.agg #[.int .i64 h, .int .i64 w, .int .i64 c]] W fun e w' => e = .returned (.int .i64 0) ∧ Below W.heap.size W w' := by
  rcases hw with h1 | ⟨h1, h2, h3⟩ | ⟨h1, h2, h3, h4, h5⟩
  all_goals
    go_enter Try.func22, Try.ntmps22
    go_wp2_with (first
      | (go_at_call 28; refine (within_yes _ _ _ (by omega) (by omega) _).mono ?_; rintro e w' ⟨rfl, rfl⟩)
      | (go_at_call 28; refine (within_no _ _ _ (by omega) _).mono ?_; rintro e w' ⟨rfl, rfl⟩))
    go_ret
    exact ⟨rfl, (Below.refl _ _).alloc (Nat.le_refl _) _⟩
theorem elems_to (h w c n : Int) (hn : elemsZ h w c = n) (W : World) :
    Calls Try.prog 22 #[.agg #[.int .i64 h, .int .i64 w, .int .i64 c]] W fun e w' => e = .returned (.int .i64 n) ∧ Below W.heap.size W w' := by
  cases hs : shapeB h w c
  · rw [elemsZ_no hs] at hn
    subst hn
    by_cases hi : 1 ≤ h ∧ h ≤ 16 ∧ 1 ≤ w ∧ w ≤ 16 ∧ 1 ≤ c ∧ c ≤ 1024
    · obtain ⟨a1, a2, a3, a4, a5, a6⟩ := hi
      exact elems_many h w c _ a1 a2 a3 a4 a5 a6 rfl (by simp [shapeB] at hs; omega) W
    · exact elems_out h w c (by omega) W
  · obtain ⟨a1, a2, a3, a4, a5, a6, a7⟩ := shapeB_yes hs
    rw [elemsZ_yes hs] at hn
    exact elems_yes h w c n a1 a2 a3 a4 a5 a6 hn (hn ▸ a7) W

theorem right_to (h w c : Int) (b : Bool) (hb : shapeB h w c = b) (W : World) :
    Calls Try.prog 19 #[.agg #[.int .i64 h, .int .i64 w, .int .i64 c]] W fun e w' => e = .returned (.bool b) ∧ Below W.heap.size W w' := by
  obtain ⟨n, hn⟩ : ∃ n, elemsZ h w c = n := ⟨_, rfl⟩
  have hd : decide (n > 0) = b := by rw [← hn, elemsZ_pos, hb]
  have HN := Lib.hid hn
  clear hn
  go_enter Try.func19, Try.ntmps19
  go_wp2_with (go_at_call 22; refine (elems_to _ _ _ n HN.out _).mono ?_; rintro e w1 ⟨rfl, hb⟩)
  go_ret
  exact ⟨rfl, ((Below.refl _ _).alloc (Nat.le_refl _) _).trans (hb.mono (by simp))⟩
/-- is there such an element? -/
def inB (H W C h w c : Int) : Bool := shapeB H W C && decide (0 ≤ h ∧ h < H ∧ 0 ≤ w ∧ w < W ∧ 0 ≤ c ∧ c < C)
theorem at_bd {H W C h w c : Int} (hs : shapeB H W C = true) (h1 : 0 ≤ h) (h2 : h < H) (w1 : 0 ≤ w) (w2 : w < W) (c1 : 0 ≤ c) (c2 : c < C) :
    0 ≤ h * W ∧ h * W ≤ 256 ∧ 0 ≤ (h * W + w) * C ∧ (h * W + w) * C + c < H * W * C ∧ H * W * C ≤ 1024 := by
  obtain ⟨a1, a2, a3, a4, a5, a6, a7⟩ := shapeB_yes hs
  have b1 : 0 ≤ h * W := Int.mul_nonneg h1 (by omega)
  have b2 : h * W ≤ 15 * 16 := Int.mul_le_mul (by omega) a4 (by omega) (by omega)
  have b3 : 0 ≤ (h * W + w) * C := Int.mul_nonneg (by omega) (by omega)
  have b4 : (h + 1) * W ≤ H * W := Int.mul_le_mul_of_nonneg_right (by omega) (by omega)
  have b5 : h * W + w + 1 ≤ H * W := by rw [Int.add_mul, Int.one_mul] at b4; omega
  have b6 : (h * W + w + 1) * C ≤ H * W * C := Int.mul_le_mul_of_nonneg_right b5 (by omega)
  rw [Int.add_mul, Int.one_mul] at b6
  omega

end Go.Proofs.Ytmnhcmkcdchmkaa.CShape
