/- Layer 11 (patch): what windows cover of a shape, visit by visit (code). -/
import Derived.Test.YtbolneejjjjaeaaConvOf
import Derived.BigQuiet
namespace Go.Proofs.Ytbolneejjjjaeaa.CPatch
open Go Go.ChangeShapes Go.WideShapes Go.ChangeAt Go.RowKit
open Plain CSat CShape CTensor CConv
set_option linter.unusedVariables false

theorem ShapeAt_grown {B gd : Nat} {H W C : Int} {w w' : World} (h : ShapeAt B H W C w) (hg : w.grownBy w' (some gd)) (hB : B < w.heap.size) (hne : gd ≠ B) : ShapeAt B H W C w' :=
  ⟨(hg.cell_far ⟨B, 0, none⟩ hB (by simp; omega)).trans h.1, (hg.cell_far ⟨B, 1, none⟩ hB (by simp; omega)).trans h.2.1, (hg.cell_far ⟨B, 2, none⟩ hB (by simp; omega)).trans h.2.2⟩
theorem NodeAt_grown {B gd : Nat} {x0 x1 x2 x8 x11 x12 x13 x14 x15 x16 x17 x18 : Value} {K S P O Z : Int} {WA BA : Option Addr} {nW cW nB cB : Nat} {w w' : World} (h : NodeAt B x0 x1 x2 x8 x11 x12 x13 x14 x15 x16 x17 x18 K S P O Z WA BA nW cW nB cB w) (hg : w.grownBy w' (some gd)) (hB : B < w.heap.size) (hne : gd ≠ B) : NodeAt B x0 x1 x2 x8 x11 x12 x13 x14 x15 x16 x17 x18 K S P O Z WA BA nW cW nB cB w' := fun j v hj =>
  (hg.cell_far ⟨B, 0 + j, none⟩ hB (by simp; omega)).trans (h j v hj)
theorem begin_to (M Wd : Int) (x : Value) (i R : Int) (hR : IntKind.i64.wrap (i * Wd) = R) (w : World) :
    Calls Try.prog 18 #[.agg #[.int .i64 M, .int .i64 Wd, x], .int .i64 i] w fun e w' => e = .returned (.int .i64 R) ∧ Below w.heap.size w w' := by
  go_enter Try.func18, Try.ntmps18
  go_wp2_with fail
  go_ret
  exact ⟨rfl, (Below.refl _ _).alloc (Nat.le_refl _) _⟩
set_option maxHeartbeats 1000000 in
theorem empty_to (H W C a b c : Int) (x0 x1 x2 x8 x11 x12 x13 x14 x15 x16 x17 x18 : Value) (K S P O Z : Int) (WA BA : Option Addr) (nW cW nB cB : Nat) (M k2 Wd : Int) (h1 : IntKind.i64.wrap (a * b) = M) (h2 : IntKind.i64.wrap (K * K) = k2) (h3 : IntKind.i64.wrap (k2 * C) = Wd) (w : World) :
    Calls Try.prog 15 #[.agg #[.int .i64 H, .int .i64 W, .int .i64 C], .agg #[.int .i64 a, .int .i64 b, .int .i64 c], .agg #[x0, x1, x2, .int .i64 K, .int .i64 S, .int .i64 P, .int .i64 O, .int .i8 Z, x8, .slice WA nW cW, .slice BA nB cB, x11, x12, x13, x14, x15, x16, x17, x18]] w fun e w' => e = .returned (.agg #[.int .i64 M, .int .i64 Wd, .slice none 0 0]) ∧ Below w.heap.size w w' := by
  go_enter Try.func15, Try.ntmps15
  go_wp2_with fail
  refine bodyPost_ret (Kit.results_c rfl _ _ (w.heap.size + 3) 0 [.int .i64 M, .int .i64 Wd, .slice none 0 0] _ rfl (Kit.range_3 (by go_cell) (by go_cell) (by go_cell)) Try.underlying37 rfl (by kernel_rfl)) rfl ?_
  exact ⟨rfl, by first | exact ((((Below.refl _ _).alloc (Nat.le_refl _) _).alloc (by simp) _).alloc (by simp; omega) _).alloc (by simp; omega) _ | (refine ((((((((Below.refl _ _).alloc (Nat.le_refl _) _).alloc (by simp) _).alloc (by simp; omega) _).alloc (by simp; omega) _).setCell ?_ _).setCell ?_ _).setCell ?_ _) <;> simp)⟩
end Go.Proofs.Ytbolneejjjjaeaa.CPatch
