/- Layer 24 (span): the fixed call; ranges compared; what a sum's bounds are. -/
import Derived.Test.YtaoadgolplnedaaSpanRowC
import Derived.Laws.StructEq
namespace Go.Proofs.Ytaoadgolplnedaa.CSpan
open Go Go.ChangeShapes Go.WideShapes Go.ChangeAt Go.RowKit
open Plain CSat CFix CShape CTensor CConv
set_option linter.unusedVariables false

theorem eqRange (a b x y : Int) (w : World) : (Op.equalIn 10000 35 (.agg #[.int .i64 a, .int .i64 b]) (.agg #[.int .i64 x, .int .i64 y])).run Try.prog w = .ok (a == x && b == y) w := by
  have u3 := Try.underlying3
  have a3 := Try.isAgg3
  have z3 := Try.sizeOf3
  have hS : Try.prog.underlying 35 = some (.struct (Try.prog.fieldsOf 35)) := by kernel_rfl
  rw [show (10000 : Nat) = 9999 + 1 from rfl, run_equalIn_agg w 9999 35 _ _ hS Try.stoodInHeld35]
  simp only [Program.fieldsOf, Try.underlying35]
  go_simp
  by_cases h1 : a = x <;> by_cases h2 : b = y <;> simp [h1, h2]
theorem I8b_two : I8b [2, -3] := fun q => by rcases q with _ | _ | q <;> simp
set_option maxRecDepth 100000 in
set_option maxHeartbeats 2000000 in
theorem known24 (w : World) : Calls Try.prog 7 #[] w fun e w' => e = .returned (.bool true) ∧ Below w.heap.size w w' := by
  have hal : Below w.heap.size w (w.alloc (.cells #[.int .i8 2, .int .i8 (-3)] 22)) := (Below.refl _ _).alloc (Nat.le_refl _) _
  have hr0 : Kit.Rd (w.alloc (.cells #[.int .i8 2, .int .i8 (-3)] 22)) (w.alloc (.cells #[.int .i8 2, .int .i8 (-3)] 22)).heap.size (some ⟨w.heap.size, 0, none⟩) (I8s [2, -3]) := Kit.Rd.new w [.int .i8 2, .int .i8 (-3)] 22 (by simp)
  have h := crow_to (some ⟨w.heap.size, 0, none⟩) [2, -3] 2 2 rfl (by omega) I8b_two 1 0 10 0 (by omega) (by omega) (by omega) (by omega) (by omega) (by omega) (by omega) (by omega) false (-29) 21 (by decide) (by decide) _ hr0
  have H := Lib.hid h
  have HAL := Lib.hid hal
  clear h hal hr0
  have HE := eqRange (-29) 21 (-29) 21
  have hg := Try.eqGuardType35
  go_enter Try.func7, Try.ntmps7
  go_wp2_with (go_at_call 14; (refine H.out.mono ?_); rintro e w1 ⟨rfl, hb⟩)
  go_ret
  exact ⟨rfl, HAL.out.trans (hb.mono HAL.out.size)⟩
/-! ### sums between their bounds -/
theorem mul_le_of {y p q : Int} (h : 0 ≤ y) (hpq : p ≤ q) : y * p ≤ y * q := Int.mul_le_mul_of_nonneg_left hpq h
theorem mul_ge_of {y p q : Int} (h : y < 0) (hpq : p ≤ q) : y * q ≤ y * p := Int.mul_le_mul_of_nonpos_left (by omega) hpq
theorem psum_mono {F G : Nat → Int} {n : Nat} (h : ∀ k, k < n → F k ≤ G k) : psum F n ≤ psum G n := by
  induction n with
  | zero => exact Int.le_refl _
  | succ n ih => have := ih (fun k hk => h k (by omega)); have := h n (by omega); simp only [psum]; omega
theorem psum_same {F G : Nat → Int} {n : Nat} (h : ∀ k, k < n → F k = G k) : psum F n = psum G n := by
  induction n with
  | zero => rfl
  | succ n ih => simp only [psum]; rw [ih (fun k hk => h k (by omega)), h n (by omega)]
theorem dnF_neg {ws : List Int} {lo hi z : Int} {k : Nat} (hl : lo ≤ hi) (h : ws.getD k 0 < 0) : dnF ws lo hi z false k = ws.getD k 0 * (hi - z) ∧ upF ws lo hi z false k = ws.getD k 0 * (lo - z) := by
  have := mul_ge_of h (show lo - z ≤ hi - z by omega)
  unfold dnF upF
  simp only [Bool.false_eq_true, if_false]
  omega
theorem dnF_pos {ws : List Int} {lo hi z : Int} {k : Nat} (hl : lo ≤ hi) (h : 0 ≤ ws.getD k 0) : dnF ws lo hi z false k = ws.getD k 0 * (lo - z) ∧ upF ws lo hi z false k = ws.getD k 0 * (hi - z) := by
  have := mul_le_of h (show lo - z ≤ hi - z by omega)
  unfold dnF upF
  simp only [Bool.false_eq_true, if_false]
  omega
theorem between {ws : List Int} {lo hi z v : Int} {k : Nat} (h1 : lo ≤ v) (h2 : v ≤ hi) : dnF ws lo hi z false k ≤ ws.getD k 0 * (v - z) ∧ ws.getD k 0 * (v - z) ≤ upF ws lo hi z false k := by
  rcases Int.lt_or_le (ws.getD k 0) 0 with h | h
  · rw [(dnF_neg (by omega) h).1, (dnF_neg (by omega) h).2]
    exact ⟨mul_ge_of h (by omega), mul_ge_of h (by omega)⟩
  · rw [(dnF_pos (by omega) h).1, (dnF_pos (by omega) h).2]
    exact ⟨mul_le_of h (by omega), mul_le_of h (by omega)⟩
theorem gaps_wide (ws : List Int) (lo hi z : Int) (k : Nat) : dnF ws lo hi z true k ≤ dnF ws lo hi z false k ∧ upF ws lo hi z false k ≤ upF ws lo hi z true k ∧ dnF ws lo hi z true k ≤ 0 ∧ 0 ≤ upF ws lo hi z true k := by
  unfold dnF upF
  simp only [Bool.false_eq_true, if_false, if_true]
  omega
theorem psum_neg {F : Nat → Int} {n : Nat} (h : ∀ k, F k ≤ 0) : psum F n ≤ 0 := by
  induction n with
  | zero => exact Int.le_refl _
  | succ n ih => have := h n; simp only [psum]; omega
theorem psum_nonneg {F : Nat → Int} {n : Nat} (h : ∀ k, 0 ≤ F k) : 0 ≤ psum F n := by
  induction n with
  | zero => exact Int.le_refl _
  | succ n ih => have := h n; simp only [psum]; omega
end Go.Proofs.Ytaoadgolplnedaa.CSpan
