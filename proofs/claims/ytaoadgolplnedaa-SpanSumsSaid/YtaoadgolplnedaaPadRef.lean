/- Contracts of layer 9's document side: a number of a tensor, or one beyond it. -/
import Derived.Test.YtaoadgolplnedaaTensorRef
import Derived.Test.YtaoadgolplnedaaTensorTwo
namespace Go.Proofs.Ytaoadgolplnedaa.CPad
open Go Go.ChangeShapes Go.WideShapes Go.ChangeAt Go.RowKit
open Plain CSat CShape CTensor
set_option linter.unusedVariables false

/-- the number at a row, a column, a channel; z, where there is none. -/
def pixZ (zs : List Int) (H W C h w k z : Int) : Int := if 0 ≤ h ∧ h < H ∧ 0 ≤ w ∧ w < W then zs.getD ((h * W + w) * C + k).toNat 0 else z
theorem mul_lt {a b c d : Int} (h0 : 0 ≤ a) (h1 : a < b) (h2 : 0 ≤ c) (h3 : c < d) : 0 ≤ a * d + c ∧ a * d + c < b * d := by
  have e1 : 0 ≤ a * d := Int.mul_nonneg h0 (by omega)
  have e2 : (a + 1) * d ≤ b * d := Int.mul_le_mul_of_nonneg_right (by omega) (by omega)
  rw [Int.add_mul, Int.one_mul] at e2
  omega
/-- where a place of a right tensor lies in its list. -/
theorem place_bd {H W C h w k : Int} {n : Nat} (hs : shapeB H W C = true) (hn : (n : Int) = H * W * C) (h0 : 0 ≤ h) (h1 : h < H) (w0 : 0 ≤ w) (w1 : w < W) (k0 : 0 ≤ k) (k1 : k < C) :
    0 ≤ h * W ∧ h * W ≤ 256 ∧ 0 ≤ h * W + w ∧ h * W + w ≤ 256 ∧ 0 ≤ (h * W + w) * C ∧ (h * W + w) * C ≤ 1024 ∧ 0 ≤ (h * W + w) * C + k ∧ (h * W + w) * C + k < (n : Int) := by
  obtain ⟨a1, a2, a3, a4, a5, a6, a7⟩ := shapeB_yes hs
  have m1 := mul_lt h0 h1 w0 w1
  have m2 := mul_lt m1.1 m1.2 k0 k1
  have e1 : 0 ≤ h * W := Int.mul_nonneg h0 (by omega)
  have e2 : H * W ≤ 256 := Int.mul_le_mul a2 a4 (by omega) (by omega)
  have e3 : 0 ≤ (h * W + w) * C := Int.mul_nonneg m1.1 (by omega)
  rw [← hn] at m2 a7
  exact ⟨e1, by omega, m1.1, by omega, e3, by omega, m2.1, m2.2⟩
theorem get_to (H W C : Int) (A : Option Addr) (zs : List Int) (n c : Nat) (hn : zs.length = n) (ht : tensB H W C n = true) (h w k : Int) (h0 : 0 ≤ h) (h1 : h < H) (w0 : 0 ≤ w) (w1 : w < W) (k0 : 0 ≤ k) (k1 : k < C) (x : Int) (hx : zs.getD ((h * W + w) * C + k).toNat 0 = x)
    {B : Nat} (W0 : World) (hB : B ≤ W0.heap.size) (hr : Kit.Rd W0 B A (I8s zs)) :
    Calls Try.prog 28 #[.agg #[.int .i64 H, .int .i64 W, .int .i64 C, .slice A n c], .int .i64 h, .int .i64 w, .int .i64 k] W0 fun e w' => e = .returned (.int .i8 x) ∧ Below W0.heap.size W0 w' := by
  simp only [tensB, Bool.and_eq_true, decide_eq_true_eq] at ht
  obtain ⟨g1, g2, g3, g4, g5, g6, g7, g8⟩ := place_bd ht.1 ht.2 h0 h1 w0 w1 k0 k1
  obtain ⟨p, hp⟩ : ∃ p : Nat, (h * W + w) * C + k = (p : Int) := ⟨((h * W + w) * C + k).toNat, by omega⟩
  have hpn : p < n := by omega
  rw [hp] at hx
  have hx2 : zs[p]'(by omega) = x := by
    rw [← hx]; simp [List.getD_eq_getElem?_getD, List.getElem?_eq_getElem (show p < zs.length by omega)]
  obtain ⟨b, off, rfl, hbB, hc⟩ := hr.plain (by simp [I8s]; omega)
  have hcell : W0.cell? ⟨b, off + p, none⟩ = some (.int .i8 x) := hc p _ (by simp [I8s, List.getElem?_eq_getElem (show p < zs.length by omega), hx2])
  have hcell2 : ∀ o, (W0.alloc o).cell? ⟨b, off + p, none⟩ = some (.int .i8 x) := fun o => (World.cell?_alloc_lt W0 o _ (by show b < _; omega)).trans hcell
  have hpI : (p : Int) < (n : Int) := by omega
  have hp0 : (0 : Int) ≤ (p : Int) := by omega
  have hp1 : (p : Int) ≤ 1024 := by have := (shapeB_yes ht.1).2.2.2.2.2.2; rw [← ht.2] at this; omega
  clear hr hx hx2 hc g7 g8 hcell ht
  go_enter Try.func28, Try.ntmps28
  go_wp2
  go_ret
  exact ⟨rfl, (Below.refl _ _).alloc (Nat.le_refl _) _⟩
end Go.Proofs.Ytaoadgolplnedaa.CPad
