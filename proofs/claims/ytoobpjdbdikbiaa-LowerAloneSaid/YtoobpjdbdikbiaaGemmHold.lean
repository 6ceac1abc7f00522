/- Layer 12 (gemm): what a matrix holds; tiles and their bounds. -/
import Derived.Test.YtoobpjdbdikbiaaGemm
namespace Go.Proofs.Ytoobpjdbdikbiaa.CGemm
open Go Go.ChangeShapes Go.WideShapes Go.ChangeAt Go.RowKit
open Plain
set_option linter.unusedVariables false

/-- may a matrix of so many rows and columns have so many numbers? -/
def holdsB (L r c : Int) : Bool := decide (1 ≤ r ∧ r ≤ 16384 ∧ 1 ≤ c ∧ c ≤ 16384 ∧ L = r * c)
theorem small_mul {r c : Int} (h1 : 1 ≤ r) (h2 : r ≤ 16384) (h3 : 1 ≤ c) (h4 : c ≤ 16384) : 1 ≤ r * c ∧ r * c ≤ 268435456 := by
  have a := Int.mul_le_mul h2 h4 (by omega) (by omega)
  have b := Int.mul_le_mul h1 h3 (by omega) (by omega)
  omega
theorem holdsB_yes {L r c : Int} (h : holdsB L r c = true) : 1 ≤ r ∧ r ≤ 16384 ∧ 1 ≤ c ∧ c ≤ 16384 ∧ L = r * c := by simpa [holdsB] using h
theorem holds_to (L r c : Int) (b : Bool) (hb : holdsB L r c = b) (w : World) :
    Calls Try.prog 39 #[.int .i64 L, .int .i64 r, .int .i64 c] w fun e w' => e = .returned (.bool b) ∧ w = w' := by
  have HB := Lib.hid hb
  clear hb
  rcases (show r < 1 ∨ (1 ≤ r ∧ 16384 < r) ∨ (1 ≤ r ∧ r ≤ 16384 ∧ c < 1) ∨ (1 ≤ r ∧ r ≤ 16384 ∧ 1 ≤ c ∧ 16384 < c) ∨ (1 ≤ r ∧ r ≤ 16384 ∧ 1 ≤ c ∧ c ≤ 16384) by omega) with h1 | ⟨h1, h2⟩ | ⟨h1, h2, h3⟩ | ⟨h1, h2, h3, h4⟩ | ⟨h1, h2, h3, h4⟩
  · obtain rfl : b = false := by rw [← HB.out]; simp [holdsB]; omega
    go_enter Try.func39, Try.ntmps39
    go_wp2_with fail
    go_ret
    exact ⟨rfl, rfl⟩
  · obtain rfl : b = false := by rw [← HB.out]; simp [holdsB]; omega
    go_enter Try.func39, Try.ntmps39
    go_wp2_with fail
    go_ret
    exact ⟨rfl, rfl⟩
  · obtain rfl : b = false := by rw [← HB.out]; simp [holdsB]; omega
    go_enter Try.func39, Try.ntmps39
    go_wp2_with fail
    go_ret
    exact ⟨rfl, rfl⟩
  · obtain rfl : b = false := by rw [← HB.out]; simp [holdsB]; omega
    go_enter Try.func39, Try.ntmps39
    go_wp2_with fail
    go_ret
    exact ⟨rfl, rfl⟩
  · obtain ⟨s1, s2⟩ := small_mul h1 h2 h3 h4
    have e : IntKind.i64.wrap (r * c) = r * c := IntWalk.i64_in _ (by omega)
    have hbb : decide (L = r * c) = b := by rw [← HB.out]; simp [holdsB, h1, h2, h3, h4]
    obtain ⟨q, hq⟩ : ∃ q, r * c = q := ⟨_, rfl⟩
    rw [hq] at e hbb
    have e2 : IntKind.i64.wrap (r * c) = q := by rw [hq]; exact e
    clear hq s1 s2 HB
    go_enter Try.func39, Try.ntmps39
    go_wp2_with fail
    go_ret
    refine ⟨?_, rfl⟩
    rw [← hbb]
    first | rfl | simp
theorem tiles_to (n : Nat) (h : n ≤ 16384) (w : World) :
    Calls Try.prog 40 #[.int .i64 (n : Int)] w fun e w' => e = .returned (.int .i64 (((n + 31) / 32 : Nat) : Int)) ∧ w = w' := by
  have e1 : IntKind.i64.wrap ((n : Int) + 32) = (n : Int) + 32 := IntWalk.i64_in _ (by omega)
  have e2 : IntKind.i64.wrap ((n : Int) + 32 - 1) = (n : Int) + 31 := by rw [IntWalk.i64_in _ (by omega)]; omega
  have e3 : ((n : Int) + 31).tdiv 32 = (((n + 31) / 32 : Nat) : Int) := by
    rw [Int.tdiv_eq_ediv_of_nonneg (by omega)]; omega
  have e4 : IntKind.i64.wrap ((((n + 31) / 32 : Nat) : Int)) = (((n + 31) / 32 : Nat) : Int) := IntWalk.i64_in _ (by omega)
  generalize (n + 31) / 32 = q at e3 e4 ⊢
  go_enter Try.func40, Try.ntmps40
  go_wp2_with fail
  go_ret
  exact ⟨rfl, rfl⟩
theorem range_4 {w : World} {b : Nat} {v0 v1 v2 v3 : Value} (h0 : w.cell? ⟨b, 0, none⟩ = some v0) (h1 : w.cell? ⟨b, 1, none⟩ = some v1) (h2 : w.cell? ⟨b, 2, none⟩ = some v2) (h3 : w.cell? ⟨b, 3, none⟩ = some v3) :
    w.rangeAt b 0 [v0, v1, v2, v3] := fun j v hj => by
  match j, hj with
  | 0, hj => simp only [List.getElem?_cons_zero] at hj; cases hj; exact h0
  | 1, hj => simp at hj; cases hj; exact h1
  | 2, hj => simp at hj; cases hj; exact h2
  | 3, hj => simp at hj; cases hj; exact h3
  | j + 4, hj => simp at hj
theorem bounds_to (p q e0 e1 e2 e3 : Nat) (h : p ≤ 1000) (h' : q ≤ 1000) (h0 : p * 32 = e0) (h1 : (p + 1) * 32 = e1) (h2 : q * 32 = e2) (h3 : (q + 1) * 32 = e3) (w : World) :
    Calls Try.prog 41 #[.int .i64 (p : Int), .int .i64 (q : Int)] w fun e w' => e = .returned (.agg #[.int .i64 (e0 : Int), .int .i64 (e1 : Int), .int .i64 (e2 : Int), .int .i64 (e3 : Int)]) ∧ Below w.heap.size w w' := by
  obtain ⟨p', hp⟩ : ∃ p' : Int, (p : Int) + 1 = p' := ⟨_, rfl⟩
  obtain ⟨q', hq⟩ : ∃ q' : Int, (q : Int) + 1 = q' := ⟨_, rfl⟩
  have g1 : IntKind.i64.wrap ((p : Int) * 32) = (e0 : Int) := by rw [IntWalk.i64_in _ (by omega)]; omega
  have g2 : IntKind.i64.wrap ((p : Int) + 1) = p' := by rw [IntWalk.i64_in _ (by omega)]; omega
  have g3 : IntKind.i64.wrap (p' * 32) = (e1 : Int) := by rw [IntWalk.i64_in _ (by omega)]; omega
  have f1 : IntKind.i64.wrap ((q : Int) * 32) = (e2 : Int) := by rw [IntWalk.i64_in _ (by omega)]; omega
  have f2 : IntKind.i64.wrap ((q : Int) + 1) = q' := by rw [IntWalk.i64_in _ (by omega)]; omega
  have f3 : IntKind.i64.wrap (q' * 32) = (e3 : Int) := by rw [IntWalk.i64_in _ (by omega)]; omega
  clear hp hq h0 h1 h2 h3
  go_enter Try.func41, Try.ntmps41
  go_wp2_with fail
  refine bodyPost_ret (Kit.results_c rfl _ _ w.heap.size 0 [.int .i64 (e0 : Int), .int .i64 (e1 : Int), .int .i64 (e2 : Int), .int .i64 (e3 : Int)] _ rfl (range_4 (by go_cell) (by go_cell) (by go_cell) (by go_cell)) Try.underlying81 rfl (by kernel_rfl)) rfl ?_
  exact ⟨rfl, (Below.refl _ _).alloc (Nat.le_refl _) _⟩
end Go.Proofs.Ytoobpjdbdikbiaa.CGemm
