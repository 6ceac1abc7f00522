/- Layer 23 (turn): the fixed call; a tensor of no number. -/
import Derived.Test.YtmjcjdgdpecpjaaTurnBack
import Derived.Test.YtmjcjdgdpecpjaaTensorSameTwo
import Derived.Laws.StructEq
namespace Go.Proofs.Ytmjcjdgdpecpjaa.CTurn
open Go Go.ChangeShapes Go.WideShapes Go.ChangeAt Go.RowKit Go.Deep
open Plain CSat CShape CTensor CPad FloatNum
set_option linter.unusedVariables false

theorem boxT (H W C : Int) (A : Option Addr) (n c : Nat) (T : TypeId) (w : World) : BoxAt w.heap.size H W C A n c (w.alloc (.cells #[.int .i64 H, .int .i64 W, .int .i64 C, .slice A n c] T)) := ⟨Kit.new_cell _ _ _ _, Kit.new_cell _ _ _ _, Kit.new_cell _ _ _ _, Kit.new_cell _ _ _ _⟩
theorem refSame_00 (w : World) : Calls Try.prog 10 #[.agg #[.int .i64 0, .int .i64 0, .int .i64 0, .slice none 0 0], .agg #[.int .i64 0, .int .i64 0, .int .i64 0, .slice none 0 0]] w fun e w' => e = .returned (.bool true) ∧ Below w.heap.size w w' :=
  refSame_to 0 0 0 none none [] [] 0 0 0 rfl rfl (by omega) true (by decide) w (B1 := 0) (B2 := 0) (Nat.zero_le _) (Nat.zero_le _) (Kit.Rd.nil (B := 0)) (Kit.Rd.nil (B := 0))
theorem tens_cast {H W C : Int} {n : Nat} (ht : tensB H W C n = true) : ∃ a b d : Nat, H = (a : Int) ∧ W = (b : Int) ∧ C = (d : Int) := by
  obtain ⟨hs, -⟩ : shapeB H W C = true ∧ (n : Int) = H * W * C := by simpa [tensB] using ht
  obtain ⟨s1, s2, s3, s4, s5, s6, s7⟩ := shapeB_yes hs
  exact ⟨H.toNat, W.toNat, C.toNat, by omega, by omega, by omega⟩
set_option maxRecDepth 100000 in
set_option maxHeartbeats 4000000 in
theorem known23 (w : World) : Calls Try.prog 6 #[] w fun e w' => e = .returned (.bool true) ∧ Below w.heap.size w w' := by
  have hal : Below w.heap.size w (w.alloc (.cells #[.int .i8 1, .int .i8 2] 37)) := (Below.refl _ _).alloc (Nat.le_refl _) _
  have hr0 : Kit.Rd (w.alloc (.cells #[.int .i8 1, .int .i8 2] 37)) (w.alloc (.cells #[.int .i8 1, .int .i8 2] 37)).heap.size (some ⟨w.heap.size, 0, none⟩) (I8s [1, 2]) := Kit.Rd.new w [.int .i8 1, .int .i8 2] 37 (by simp)
  have h : Calls Try.prog 7 #[.agg #[.int .i64 1, .int .i64 2, .int .i64 1, .slice (some ⟨w.heap.size, 0, none⟩) 2 2], .int .i64 1] (w.alloc (.cells #[.int .i8 1, .int .i8 2] 37)) (MadeE (w.alloc (.cells #[.int .i8 1, .int .i8 2] 37)) 2 1 1 2 [2, 1] (.int .i64 0)) :=
    cby_to (a := 1) (b := 2) (d := 1) (n := 2) (some ⟨w.heap.size, 0, none⟩) [1, 2] 2 rfl (Nat.le_refl _) (by decide) 1 (by decide) (by decide) 2 1 [2, 1] (by decide) (by decide) (by decide) _ hr0
  have H := Lib.hid h
  have HAL := Lib.hid hal
  clear h hal hr0
  have HE := eqShape 2 1 1 2 1 1
  have hg := Try.eqGuardType23
  go_enter Try.func6, Try.ntmps6
  go_wp2_with (go_at_call 7; (refine H.out.mono ?_); rintro e w1 ⟨v1, rfl, ho1, hb⟩; (obtain ⟨A1, c1, rfl, -, -, hrd1⟩ := Kit.own_rd ho1); (obtain ⟨bb, oo, rfl, hbb, hcz⟩ := ints_getDT hrd1 (j := 0) (by simp)); (have k0 : w1.cell? ⟨bb, oo, none⟩ = some (.int .i8 2) := by simpa using hcz 0 (by simp)); (have k1 : w1.cell? ⟨bb, oo + 1, none⟩ = some (.int .i8 1) := by simpa using hcz 1 (by simp)); (have HB1 := Lib.hid (HAL.out.trans (hb.mono HAL.out.size))); clear ho1 hrd1 hcz hb)
  go_ret
  exact ⟨rfl, HB1.out.alloc HB1.out.size _⟩
end Go.Proofs.Ytmjcjdgdpecpjaa.CTurn
