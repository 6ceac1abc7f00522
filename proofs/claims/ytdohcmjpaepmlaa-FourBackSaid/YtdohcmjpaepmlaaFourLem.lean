/- Layer 14 (four): what comes back of sums, and of products of sums; four cells of a block that are set. -/
import Derived.Test.YtdohcmjpaepmlaaFourKnown
namespace Go.Proofs.Ytdohcmjpaepmlaa.CFour
open Go Go.ChangeShapes Go.WideShapes Go.ChangeAt Go.RowKit
open FloatNum
set_option linter.unusedVariables false

abbrev sums4 (a b c d : Int) (k : Nat) : G := gpart (lp a b c d) (-1) k 4
theorem sums4_0 (a b c d : Int) : sums4 a b c d 0 = (a + b + c + d, 0) := by simp [sums4, gpart, gadd, gmul, lp, l4, upow]
theorem sums4_1 (a b c d : Int) : sums4 a b c d 1 = (a - c, d - b) := by
  simp [sums4, gpart, gadd, gmul, lp, l4, upow]; omega
theorem sums4_2 (a b c d : Int) : sums4 a b c d 2 = (a - b + c - d, 0) := by
  simp [sums4, gpart, gadd, gmul, lp, l4, upow]; omega
theorem sums4_3 (a b c d : Int) : sums4 a b c d 3 = (a - c, b - d) := by
  simp [sums4, gpart, gadd, gmul, lp, l4, upow]; omega
theorem back_part (p : Nat → G) : (gpart p 1 0 4).1 = (p 0).1 + (p 1).1 + (p 2).1 + (p 3).1 ∧ (gpart p 1 1 4).1 = (p 0).1 - (p 1).2 - (p 2).1 + (p 3).2
    ∧ (gpart p 1 2 4).1 = (p 0).1 - (p 1).1 + (p 2).1 - (p 3).1 ∧ (gpart p 1 3 4).1 = (p 0).1 + (p 1).2 - (p 2).1 - (p 3).2 := by
  simp [gpart, gadd, gmul, upow]; omega
theorem back_one (a b c d : Int) : ∀ i, i < 4 → (gpart (sums4 a b c d) 1 i 4).1 = 4 * l4 a b c d i := by
  intro i hi
  obtain ⟨h0, h1, h2, h3⟩ := back_part (sums4 a b c d)
  rw [sums4_0, sums4_1, sums4_2, sums4_3] at h0 h1 h2 h3
  obtain rfl | rfl | rfl | rfl := lt4 hi
  · rw [h0]; show _ = 4 * a; simp only; omega
  · rw [h1]; show _ = 4 * b; simp only; omega
  · rw [h2]; show _ = 4 * c; simp only; omega
  · rw [h3]; show _ = 4 * d; simp only; omega
theorem back_two (a b c d x y z u : Int) : ∀ i, i < 4 → (gpart (fun k => gadd (sums4 a b c d k) (sums4 x y z u k)) 1 i 4).1 = 4 * (l4 a b c d i + l4 x y z u i) := by
  intro i hi
  obtain ⟨h0, h1, h2, h3⟩ := back_part (fun k => gadd (sums4 a b c d k) (sums4 x y z u k))
  simp only [sums4_0, sums4_1, sums4_2, sums4_3, gadd] at h0 h1 h2 h3
  obtain rfl | rfl | rfl | rfl := lt4 hi
  · refine h0.trans ?_; show _ = 4 * (a + x); omega
  · refine h1.trans ?_; show _ = 4 * (b + y); omega
  · refine h2.trans ?_; show _ = 4 * (c + z); omega
  · refine h3.trans ?_; show _ = 4 * (d + u); omega
theorem back_times (a b c d x y z u : Int) : ∀ i, i < 4 → (gpart (fun k => gmul (sums4 a b c d k) (sums4 x y z u k)) 1 i 4).1 = 4 * cycF (l4 a b c d) (l4 x y z u) i 16 := by
  intro i hi
  obtain ⟨h0, h1, h2, h3⟩ := back_part (fun k => gmul (sums4 a b c d k) (sums4 x y z u k))
  simp only [sums4_0, sums4_1, sums4_2, sums4_3, gmul, Int.mul_zero, Int.zero_mul, Int.add_mul, Int.mul_add, Int.sub_mul, Int.mul_sub] at h0 h1 h2 h3
  obtain rfl | rfl | rfl | rfl := lt4 hi
  · refine h0.trans ?_; simp only [cycF]; simp [l4]; omega
  · refine h1.trans ?_; simp only [cycF]; simp [l4]; omega
  · refine h2.trans ?_; simp only [cycF]; simp [l4]; omega
  · refine h3.trans ?_; simp only [cycF]; simp [l4]; omega

/-- four cells of a block that are set. -/
def set4 (g : Nat) (L : Nat → Value) (w : World) : World := (((w.setCell ⟨g, 0, none⟩ (L 0)).setCell ⟨g, 1, none⟩ (L 1)).setCell ⟨g, 2, none⟩ (L 2)).setCell ⟨g, 3, none⟩ (L 3)
theorem Four.set4 {g : Nat} {S : Nat → Value} {w : World} (h : Four g S w) (L : Nat → Value) : Four g L (set4 g L w) := by
  have h1 := (((h.set (k := 0) (by omega) (L 0)).set (k := 1) (by omega) (L 1)).set (k := 2) (by omega) (L 2)).set (k := 3) (by omega) (L 3)
  refine ⟨fun i hi => ?_, h1.2.1, h1.2.2⟩
  have := h1.1 i hi
  refine this.trans ?_
  obtain rfl | rfl | rfl | rfl := lt4 hi <;> rfl
theorem Four.oth4 {g g' : Nat} {S : Nat → Value} {w : World} (h : Four g S w) (L : Nat → Value) (hg : g ≠ g') : Four g S (CFour.set4 g' L w) := (((h.other (L 0) hg).other (L 1) hg).other (L 2) hg).other (L 3) hg
theorem Four.there {g : Nat} {S : Nat → Value} {w : World} (h : Four g S w) : w.there g 0 4 := fun j hj => by
  rw [Nat.zero_add]
  exact ⟨by rw [h.1 j hj]; rfl, h.2.1 j hj⟩
theorem one4 (a b c d : Int) : (#[Value.int .i64 a, .int .i64 b, .int .i64 c, .int .i64 d].all (·.oneCell')) = true :=
  all_oneCell_toArray (cs := [Value.int .i64 a, .int .i64 b, .int .i64 c, .int .i64 d]) (by intro v hv; simp at hv; rcases hv with rfl | rfl | rfl | rfl <;> rfl)
theorem below_set4 {B g : Nat} {a w : World} (h : Below B a w) (hg : B ≤ g) (L : Nat → Value) : Below B a (set4 g L w) := (((h.setCell (p := ⟨g, 0, none⟩) hg (L 0)).setCell (p := ⟨g, 1, none⟩) hg (L 1)).setCell (p := ⟨g, 2, none⟩) hg (L 2)).setCell (p := ⟨g, 3, none⟩) hg (L 3)
end Go.Proofs.Ytdohcmjpaepmlaa.CFour
