/- Contracts of the document's own answers of layer 4 (shape), and of its fixed calls. -/
import Derived.Test.YtmnhcmkcdchmkaaShapeTwo
namespace Go.Proofs.Ytmnhcmkcdchmkaa.CShape
open Go Go.ChangeShapes Go.WideShapes Go.ChangeAt Go.RowKit
open Plain CSat
set_option linter.unusedVariables false

theorem refElems_yes (h w c n : Int) (h1 : 1 ≤ h) (h2 : h ≤ 16) (h3 : 1 ≤ w) (h4 : w ≤ 16) (h5 : 1 ≤ c) (h6 : c ≤ 1024) (hn : h * w * c = n) (hn1 : n ≤ 1024) (W : World) :
    Calls Try.prog 21 #[.agg #[.int .i64 h, .int .i64 w, .int .i64 c]] W fun e w' => e = .returned (.int .i64 n) ∧ Below W.heap.size W w' := by
  have hb := prod_bd h1 h2 h3 h4 h5 h6
  obtain ⟨b1, b2⟩ := hb
  have a1 : 1 ≤ h * w := Int.mul_le_mul h1 h3 (by omega) (by omega)
  have a2 : h * w ≤ 256 := Int.mul_le_mul h2 h4 (by omega) (by omega)
  subst hn
  go_enter Try.func21, Try.ntmps21
  go_wp2
  go_ret
  exact ⟨rfl, (Below.refl _ _).alloc (Nat.le_refl _) _⟩
theorem refElems_many (h w c n : Int) (h1 : 1 ≤ h) (h2 : h ≤ 16) (h3 : 1 ≤ w) (h4 : w ≤ 16) (h5 : 1 ≤ c) (h6 : c ≤ 1024) (hn : h * w * c = n) (hn1 : 1024 < n) (W : World) :
    Calls Try.prog 21 #[.agg #[.int .i64 h, .int .i64 w, .int .i64 c]] W fun e w' => e = .returned (.int .i64 0) ∧ Below W.heap.size W w' := by
  have hb := prod_bd h1 h2 h3 h4 h5 h6
  obtain ⟨b1, b2⟩ := hb
  have a1 : 1 ≤ h * w := Int.mul_le_mul h1 h3 (by omega) (by omega)
  have a2 : h * w ≤ 256 := Int.mul_le_mul h2 h4 (by omega) (by omega)
  subst hn
  go_enter Try.func21, Try.ntmps21
  go_wp2
  go_ret
  exact ⟨rfl, (Below.refl _ _).alloc (Nat.le_refl _) _⟩
theorem refElems_out (h w c : Int) (hw : h < 1 ∨ (1 ≤ h ∧ 16 < h) ∨ (1 ≤ h ∧ h ≤ 16 ∧ w < 1) ∨ (1 ≤ h ∧ h ≤ 16 ∧ 1 ≤ w ∧ 16 < w) ∨ (1 ≤ h ∧ h ≤ 16 ∧ 1 ≤ w ∧ w ≤ 16 ∧ c < 1) ∨ (1 ≤ h ∧ h ≤ 16 ∧ 1 ≤ w ∧ w ≤ 16 ∧ 1 ≤ c ∧ 1024 < c)) (W : World) :
    Calls Try.prog 21 #[.agg #[.int .i64 h, .int .i64 w, .int .i64 c]] W fun e w' => e = .returned (.int .i64 0) ∧ Below W.heap.size W w' := by
  rcases hw with h1 | ⟨h1, h2⟩ | ⟨h1, h2, h3⟩ | ⟨h1, h2, h3, h4⟩ | ⟨h1, h2, h3, h4, h5⟩ | ⟨h1, h2, h3, h4, h5, h6⟩
  all_goals
    go_enter Try.func21, Try.ntmps21
    go_wp2
    go_ret
    exact ⟨rfl, (Below.refl _ _).alloc (Nat.le_refl _) _⟩
theorem refElems_to (h w c n : Int) (hn : elemsZ h w c = n) (W : World) :
    Calls Try.prog 21 #[.agg #[.int .i64 h, .int .i64 w, .int .i64 c]] W fun e w' => e = .returned (.int .i64 n) ∧ Below W.heap.size W w' := by
  cases hs : shapeB h w c
  · rw [elemsZ_no hs] at hn
    subst hn
    by_cases hi : 1 ≤ h ∧ h ≤ 16 ∧ 1 ≤ w ∧ w ≤ 16 ∧ 1 ≤ c ∧ c ≤ 1024
    · obtain ⟨a1, a2, a3, a4, a5, a6⟩ := hi
      exact refElems_many h w c _ a1 a2 a3 a4 a5 a6 rfl (by simp [shapeB] at hs; omega) W
    · exact refElems_out h w c (by omega) W
  · obtain ⟨a1, a2, a3, a4, a5, a6, a7⟩ := shapeB_yes hs
    rw [elemsZ_yes hs] at hn
    exact refElems_yes h w c n a1 a2 a3 a4 a5 a6 hn (hn ▸ a7) W
theorem elemsZ_some {h w c : Int} (hs : shapeB h w c = true) : ∃ n, elemsZ h w c = n ∧ 1 ≤ n ∧ n ≤ 1024 := by
  refine ⟨_, rfl, ?_, (elemsZ_bd h w c).2⟩
  have := elemsZ_pos h w c
  rw [hs] at this
  simp at this; omega

end Go.Proofs.Ytmnhcmkcdchmkaa.CShape
