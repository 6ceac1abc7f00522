/- Contracts of layer 5: the law's own tensor of one number. -/
import Derived.Test.YtkmcmaickopobaaTensorFillRef
namespace Go.Proofs.Ytkmcmaickopobaa.CTensor
open Go Go.ChangeShapes Go.WideShapes Go.ChangeAt Go.RowKit
open Plain CSat CShape
set_option linter.unusedVariables false

theorem lawfill_no (H W C x : Int) (hm : elemsZ H W C = 0) (w : World) :
    Calls Try.prog 14 #[.agg #[.int .i64 H, .int .i64 W, .int .i64 C], .int .i8 x] w fun e w' => e = .returned (.agg #[.int .i64 0, .int .i64 0, .int .i64 0, .slice none 0 0]) ∧ Below w.heap.size w w' := by
  have HM := Lib.hid hm
  clear hm
  go_enter Try.func14, Try.ntmps14
  go_wp2_with (go_at_call 12; ((with_reducible refine (refElems_to H W C 0 HM.out _).mono ?_); (rintro e w1 ⟨rfl, hb⟩; obtain ⟨hc, hf⟩ := Kit.bcell hb; have hz : w.heap.size + 2 ≤ w1.heap.size := (by have := hb.size; simp at this; omega); have HB : Hid (Below w.heap.size w w1) := Lib.hid (Below.trans (((Below.refl _ _).alloc (Nat.le_refl _) _).alloc (by simp) _) (hb.mono (by simp; omega))))))
  refine bodyPost_ret (Kit.results_c rfl _ _ (w.heap.size + 1) 0 [.int .i64 0, .int .i64 0, .int .i64 0, .slice none 0 0] _ rfl (range_4 (by go_cell) (by go_cell) (by go_cell) (by go_cell)) Try.underlying28 rfl (by kernel_rfl)) rfl ?_
  exact ⟨rfl, ((((HB.out.setCell (p := ⟨w.heap.size + 1, 0, none⟩) (by simp) _).setCell (p := ⟨w.heap.size + 1, 1, none⟩) (by simp) _).setCell (p := ⟨w.heap.size + 1, 2, none⟩) (by simp) _).setCell (p := ⟨w.heap.size + 1, 3, none⟩) (by simp) _)⟩
theorem lawfill_yes (H W C x : Int) (n : Nat) (hm : elemsZ H W C = (n : Int)) (h1 : 1 ≤ n) (hl : n ≤ 1000000) (w : World) :
    Calls Try.prog 14 #[.agg #[.int .i64 H, .int .i64 W, .int .i64 C], .int .i8 x] w (Cloned w H W C n (List.replicate n x)) := by
  have HM := Lib.hid hm
  have hne : ((n : Int) == 0) = false := by simp; omega
  clear hm
  go_enter Try.func14, Try.ntmps14
  go_wp2_with (first
    | (go_at_call 12; ((with_reducible refine (refElems_to H W C n HM.out _).mono ?_); (rintro e w1 ⟨rfl, hb⟩; obtain ⟨s1, s2, s3⟩ := ((ShapeAt.new H W C 23 w).below (Nat.lt_succ_self _) ((Below.refl _ _).alloc (by simp) (.cells #[.int .i64 0, .int .i64 0, .int .i64 0, .slice none 0 0] 28))).below (by simp; omega) hb; have HFR : Hid (FreshT (w.heap.size + 1) w1) := Lib.hid ((FreshT.new 28 (w.alloc (.cells #[.int .i64 H, .int .i64 W, .int .i64 C] 23)) (w.heap.size + 1) (by simp)).below (by simp) hb); have hz : w.heap.size + 2 ≤ w1.heap.size := (by have := hb.size; simp at this; omega); have HB : Hid (Below w.heap.size w w1) := Lib.hid (Below.trans (((Below.refl _ _).alloc (Nat.le_refl _) _).alloc (by simp) _) (hb.mono (by simp; omega))); clear hb)))
    | (go_at_call 29; ((with_reducible refine (refFill_yes H W C x n HM.out hl _).mono ?_); (rintro e w2 ⟨v2, rfl, ho2, hb2⟩; obtain ⟨⟨z0, z1, z2, z3⟩, z4, z5, z6, z7⟩ := HFR.out.below (by omega) hb2; obtain ⟨A2, c2, rfl, -, -, -⟩ := Kit.own_rd ho2; have HO := Lib.hid ho2; have HB2 := Lib.hid (HB.out.trans (hb2.mono (by omega))); have hz2 : w1.heap.size ≤ w2.heap.size := hb2.size; clear hb2 ho2))))
  refine bodyPost_ret (Kit.results_c rfl _ _ (w.heap.size + 1) 0 [.int .i64 H, .int .i64 W, .int .i64 C, .slice A2 n c2] _ rfl (range_4 (by go_cell) (by go_cell) (by go_cell) (by go_cell)) Try.underlying28 rfl (by kernel_rfl)) rfl ?_
  refine ⟨_, rfl, Kit.own_base (own_set (own_set (own_set (own_set HO.out _ _ ?_) _ _ ?_) _ _ ?_) _ _ ?_) ?_, ?_⟩
  any_goals (first | omega | (simp; done) | (simp; omega))
  exact ((((HB2.out.setCell (p := ⟨w.heap.size + 1, 0, none⟩) (by simp) _).setCell (p := ⟨w.heap.size + 1, 1, none⟩) (by simp) _).setCell (p := ⟨w.heap.size + 1, 2, none⟩) (by simp) _).setCell (p := ⟨w.heap.size + 1, 3, none⟩) (by simp) _)
end Go.Proofs.Ytkmcmaickopobaa.CTensor
