/- Contracts of package ratio (layer 3): what each function returns, as plain integers. -/
import Derived.Test.YtpiigdgiliaihaaFixRef
import Derived.Test.YtpiigdgiliaihaaNum
import Derived.Deep.RegionHeld3
import Derived.Handy
namespace Go.Proofs.Ytpiigdgiliaihaa.CRatio
open Go Go.ChangeShapes Go.WideShapes Go.ChangeAt Go.RowKit
open Plain CSat CFix Num
set_option linter.unusedVariables false

theorem term_yes (n : Int) (h1 : 1 ≤ n) (h2 : n ≤ 2147483647) (w : World) :
    Calls Try.prog 17 #[.int .i64 n] w fun e w' => e = .returned (.bool true) ∧ w = w' := by
  go_enter Try.func17, Try.ntmps17
  go_wp2
  go_ret
  exact ⟨rfl, rfl⟩
theorem term_no (n : Int) (h : n < 1 ∨ 2147483647 < n) (w : World) :
    Calls Try.prog 17 #[.int .i64 n] w fun e w' => e = .returned (.bool false) ∧ w = w' := by
  by_cases h1 : n < 1
  · have hd : decide (n ≥ 1) = false := by simp; omega
    go_enter Try.func17, Try.ntmps17
    go_wp2
    go_ret
    exact ⟨rfl, rfl⟩
  · have h2 : 2147483647 < n := by omega
    have hd : decide (n ≤ 2147483647) = false := by simp; omega
    go_enter Try.func17, Try.ntmps17
    go_wp2
    go_ret
    exact ⟨rfl, rfl⟩

theorem grow (n s L j x : Nat) (hx : n * 2 ^ j = x) (h0 : s ≤ 62) (hj : ∀ i, i < j → n * 2 ^ i < L ∧ s + i < 62) (he : L ≤ x ∨ 62 ≤ s + j) (hb : x ≤ 4611686018427387904) (hL : L ≤ 4611686018427387904) (w : World) :
    Calls Try.prog 18 #[.int .i64 (n : Int), .int .i64 (s : Int), .int .i64 (L : Int)] w fun e w' => e = .returned (.tuple #[.int .i64 (x : Int), .int .i64 ((s + j : Nat) : Int)]) ∧ w = w' := by
  have hn : n ≤ x := by rw [← hx]; have := dbl_le n (Nat.zero_le j); simpa using this
  have HX := Lib.hid hx
  have HJ := Lib.hid hj
  clear hx hj
  go_enter Try.func18, Try.ntmps18
  go_wp2
  go_step3
  go_wp2
  go_step3
  go_wp2
  go_loop [0, 1] (fun a t => ∃ (i p : Nat), i ≤ j ∧ p ≤ x ∧ a = .int .i64 (p : Int) ∧ t = .int .i64 ((s + i : Nat) : Int) ∧ Hid (n * 2 ^ i = p)) (fun _ t => (62 - intOf t).toNat)
  case atStart => exact ⟨0, n, Nat.zero_le _, hn, rfl, rfl, Lib.hid (by simp)⟩
  case round =>
    obtain ⟨i, p, hi, hp, rfl, rfl, hpe⟩ := hrel
    by_cases hlt : i < j
    · obtain ⟨q1, q2⟩ := HJ.out i hlt
      rw [hpe.out] at q1
      have q3 : 2 * p ≤ x := by
        have := dbl_le n (show i + 1 ≤ j by omega)
        rw [dbl_succ, hpe.out, HX.out] at this
        exact this
      go_wp2
      go_round
      case rel => exact ⟨i + 1, 2 * p, by omega, q3, by go_num, by go_num, Lib.hid (by rw [dbl_succ, hpe.out])⟩
      case measure => simp [intOf]; omega
    · have hie : i = j := by omega
      subst hie
      have hpx : p = x := by rw [← hpe.out, HX.out]
      subst hpx
      by_cases h1 : L ≤ p
      · go_wp2
        go_ret2
        exact ⟨rfl, rfl⟩
      · have h2 : 62 ≤ s + i := by omega
        go_wp2
        go_ret2
        exact ⟨rfl, rfl⟩

theorem of_arg (num den : Int) (h : (num < 1 ∨ 2147483647 < num) ∨ (1 ≤ num ∧ num ≤ 2147483647 ∧ (den < 1 ∨ 2147483647 < den))) (w : World) :
    Calls Try.prog 7 #[.int .i64 num, .int .i64 den] w fun e w' => e = .returned (.tuple #[.agg #[.int .i32 0, .int .i64 0, .int .i8 0], .int .i64 2]) ∧ Below w.heap.size w w' := by
  rcases h with h1 | ⟨h1, h2, h3⟩
  all_goals
    go_enter Try.func7, Try.ntmps7
    go_wp2_with (first
      | (go_at_call 17; refine (term_yes _ (by omega) (by omega) _).mono ?_; rintro e w' ⟨rfl, rfl⟩)
      | (go_at_call 17; refine (term_no _ (by omega) _).mono ?_; rintro e w' ⟨rfl, rfl⟩))
    refine bodyPost_ret (Kit.results_ct rfl _ _ w.heap.size 0 [.int .i32 0, .int .i64 0, .int .i8 0] _ rfl (Kit.range_3 (by go_cell) (by go_cell) (by go_cell)) Try.underlying24 rfl (by kernel_rfl)) rfl ?_
    exact ⟨rfl, by go_grown⟩
theorem grow_of (n den j x : Nat) (hx : n * 2 ^ j = x) (hj : j ≤ 61) (hi : ∀ i, i < j → n * 2 ^ i < den * 1073741824) (he : den * 1073741824 ≤ x) (hb : x ≤ 4611686018427387904) (w : World) :
    Calls Try.prog 18 #[.int .i64 (n : Int), .int .i64 0, .int .i64 ((den : Int) * 1073741824)] w fun e w' => e = .returned (.tuple #[.int .i64 (x : Int), .int .i64 (j : Int)]) ∧ w = w' := by
  have := grow n 0 (den * 1073741824) j x hx (by omega) (fun i h => ⟨hi i h, by omega⟩) (.inl he) hb (by omega) w
  rw [Nat.zero_add] at this
  exact this
theorem of_good (num den j q : Nat) (h1 : 1 ≤ num) (h2 : num ≤ 2147483647) (h3 : 1 ≤ den) (h4 : den ≤ 2147483647) (hj : IsOf num den j) (hq : num * 2 ^ j / den = q) (w : World) :
    Calls Try.prog 7 #[.int .i64 (num : Int), .int .i64 (den : Int)] w fun e w' => e = .returned (.tuple #[.agg #[.int .i32 (q : Int), .int .i64 (j : Int), .int .i8 0], .int .i64 0]) ∧ Below w.heap.size w w' := by
  obtain ⟨x, hx⟩ : ∃ x, num * 2 ^ j = x := ⟨_, rfl⟩
  have t := hj.top h2 h3
  obtain ⟨j1, j2, j3⟩ := hj
  rw [hx] at hq t j3
  have hxb : x ≤ 4611686018427387904 := by omega
  have hq1 : q < 2147483648 := by rw [← hq]; exact Nat.div_lt_of_lt_mul t
  have hL : den * 1073741824 ≤ 4611686018427387904 := by omega
  have hd : (x : Int).tdiv (den : Int) = (q : Int) := by rw [← hq]; simp
  have n0 : ¬ (den : Int) = 0 := by omega
  have HX := Lib.hid hx
  have HJ := Lib.hid j2
  clear hx hq j2 t
  go_enter Try.func7, Try.ntmps7
  go_wp2_with (first
      | (go_at_call 17; refine (term_yes _ (by omega) (by omega) _).mono ?_; rintro e w' ⟨rfl, rfl⟩)
      | (go_at_call 18; refine (grow_of num den j x HX.out j1 HJ.out j3 hxb _).mono ?_; rintro e w' ⟨rfl, rfl⟩))
  refine bodyPost_ret (Kit.results_ct rfl _ _ w.heap.size 0 [.int .i32 (q : Int), .int .i64 (j : Int), .int .i8 0] _ rfl (Kit.range_3 (by go_cell) (by go_cell) (by go_cell)) Try.underlying24 rfl (by kernel_rfl)) rfl ?_
  exact ⟨rfl, by go_grown⟩

theorem raised (m s P : Nat) (h1 : 1 ≤ m) (h2 : m ≤ 2147483647) (hs : s ≤ 62) (hP : m * 2 ^ s = P) (w : World) :
    Calls Try.prog 20 #[.int .i32 (m : Int), .int .i64 (s : Int)] w fun e w' => e = .returned (.agg #[.int .u64 ((P / 18446744073709551616 : Nat) : Int), .int .u64 ((P % 18446744073709551616 : Nat) : Int)]) ∧ Below w.heap.size w w' := by
  obtain ⟨p, hp, hp1, hp2, hpi⟩ := pow_bd s hs
  rw [hp] at hP
  subst hP
  clear hp
  go_enter Try.func20, Try.ntmps20
  go_wp2_with (go_at_call 23; refine (Try.bits_Mul64 m p (by omega) (by omega) _).mono ?_; rintro e w' ⟨rfl, rfl⟩)
  refine bodyPost_ret (Kit.results_c rfl _ _ w.heap.size 0 [.int .u64 ((m * p / 18446744073709551616 : Nat) : Int), .int .u64 ((m * p % 18446744073709551616 : Nat) : Int)] _ rfl (Kit.range_2 (by go_cell) (by go_cell)) Try.underlying45 rfl (by kernel_rfl)) rfl ?_
  exact ⟨rfl, by go_grown⟩
theorem raised_to (m s : Nat) (a b : Int) (h1 : 1 ≤ m) (h2 : m ≤ 2147483647) (hs : s ≤ 62) (ha : ((m * 2 ^ s / 18446744073709551616 : Nat) : Int) = a) (hb : ((m * 2 ^ s % 18446744073709551616 : Nat) : Int) = b) (w : World) :
    Calls Try.prog 20 #[.int .i32 (m : Int), .int .i64 (s : Int)] w fun e w' => e = .returned (.agg #[.int .u64 a, .int .u64 b]) ∧ Below w.heap.size w w' := by
  subst ha hb
  exact raised m s _ h1 h2 hs rfl w

theorem plain_no (m s z : Int) (h : rightB m s = false) (w : World) :
    Calls Try.prog 12 #[.agg #[.int .i32 m, .int .i64 s, .int .i8 z]] w fun e w' => e = .returned (.agg #[.int .i32 0, .int .i64 0, .int .i8 0]) ∧ Below w.heap.size w w' := by
  have HR := Lib.hid h
  clear h
  go_enter Try.func12, Try.ntmps12
  go_wp2_with (go_at_call 19; refine (isRight_no _ _ _ HR.out _).mono ?_; rintro e w1 ⟨rfl, hb⟩; obtain ⟨hc, hf⟩ := Kit.bcell hb)
  have s1 : w.heap.size + 1 < w1.heap.size := by have := hb.size; simp at this; omega
  have z1 : Below w.heap.size w w1 := (((Below.refl _ _).alloc (Nat.le_refl _) _).alloc (by simp) _).trans (hb.mono (by simp; omega))
  refine bodyPost_ret (Kit.results_c rfl _ _ (w.heap.size + 1) 0 [.int .i32 0, .int .i64 0, .int .i8 0] _ rfl (Kit.range_3 (by go_cell) (by go_cell) (by go_cell)) Try.underlying24 rfl (by kernel_rfl)) rfl ?_
  exact ⟨rfl, by go_grown⟩
theorem grow_plain (m s j x : Nat) (hs : s ≤ 62) (h2 : m ≤ 2147483647) (hj : IsPlain m s j x) (w : World) :
    Calls Try.prog 18 #[.int .i64 (m : Int), .int .i64 (s : Int), .int .i64 1073741824] w fun e w' => e = .returned (.tuple #[.int .i64 (x : Int), .int .i64 ((s + j : Nat) : Int)]) ∧ w = w' := by
  have t := hj.top h2
  obtain ⟨e, a, b, c⟩ := hj
  exact grow m s 1073741824 j x e hs (fun i h => ⟨b i h, by omega⟩) (by omega) (by omega) (by omega) w
theorem plain_yes (m s j x y : Nat) (z : Int) (h1 : 1 ≤ m) (h2 : m ≤ 2147483647) (hs : s ≤ 62) (hj : IsPlain m s j x) (hy : s + j = y) (w : World) :
    Calls Try.prog 12 #[.agg #[.int .i32 (m : Int), .int .i64 (s : Int), .int .i8 z]] w fun e w' => e = .returned (.agg #[.int .i32 (x : Int), .int .i64 (y : Int), .int .i8 z]) ∧ Below w.heap.size w w' := by
  have t := hj.top h2
  have hr : rightB m s = true := by simp [rightB]; omega
  have HR := Lib.hid hr
  have HJ := Lib.hid hj
  clear hr hj
  subst hy
  go_enter Try.func12, Try.ntmps12
  go_wp2_with (first
    | (go_at_call 19; refine (isRight_yes _ _ _ HR.out _).mono ?_; rintro e w1 ⟨rfl, hb⟩; obtain ⟨hc, hf⟩ := Kit.bcell hb)
    | (go_at_call 18; refine (grow_plain m s j x hs h2 HJ.out _).mono ?_; rintro e w' ⟨rfl, rfl⟩))
  have s1 : w.heap.size + 1 < w1.heap.size := by have := hb.size; simp at this; omega
  have z1 : Below w.heap.size w w1 := (((Below.refl _ _).alloc (Nat.le_refl _) _).alloc (by simp) _).trans (hb.mono (by simp; omega))
  refine bodyPost_ret (Kit.results_c rfl _ _ (w.heap.size + 1) 0 [.int .i32 (x : Int), .int .i64 ((s + j : Nat) : Int), .int .i8 z] _ rfl (Kit.range_3 (by go_cell) (by go_cell) (by go_cell)) Try.underlying24 rfl (by kernel_rfl)) rfl ?_
  exact ⟨rfl, by go_grown⟩
end Go.Proofs.Ytpiigdgiliaihaa.CRatio
