/- Layer 10: what conv makes, and the document beside it; likeness; the fixed call. -/
import Derived.Test.YtaoadgolplnedaaConvRef
import Derived.Test.YtaoadgolplnedaaTensorSame
namespace Go.Proofs.Ytaoadgolplnedaa.CConv
open Go Go.ChangeShapes Go.WideShapes Go.ChangeAt Go.RowKit
open Plain CSat CShape CTensor
set_option linter.unusedVariables false

theorem few_yes (H W C : Int) (A : Option Addr) (n c : Nat) (x0 x1 x2 x8 x11 x12 x13 x14 x15 x16 x17 x18 : Value) (K S P O Z : Int) (WA BA : Option Addr) (nW cW nB cB : Nat) (h1 : n ≤ 1024) (h2 : nW ≤ 2000) (h3 : nB ≤ 200) (w : World) :
    Calls Try.prog 15 #[.agg #[.int .i64 H, .int .i64 W, .int .i64 C, .slice A n c], .agg #[x0, x1, x2, .int .i64 K, .int .i64 S, .int .i64 P, .int .i64 O, .int .i8 Z, x8, .slice WA nW cW, .slice BA nB cB, x11, x12, x13, x14, x15, x16, x17, x18]] w fun e w' => e = .returned (.bool true) ∧ Below w.heap.size w w' := by
  have i1 : (n : Int) ≤ 1024 := by omega
  have i2 : (nW : Int) ≤ 2000 := by omega
  have i3 : (nB : Int) ≤ 200 := by omega
  go_enter Try.func15, Try.ntmps15
  go_wp2_with fail
  go_ret
  exact ⟨rfl, ((Below.refl _ _).alloc (Nat.le_refl _) _).alloc (by simp) _⟩
theorem few_no (H W C : Int) (A : Option Addr) (n c : Nat) (x0 x1 x2 x8 x11 x12 x13 x14 x15 x16 x17 x18 : Value) (K S P O Z : Int) (WA BA : Option Addr) (nW cW nB cB : Nat) (h : ¬ (n ≤ 1024 ∧ nW ≤ 2000 ∧ nB ≤ 200)) (w : World) :
    Calls Try.prog 15 #[.agg #[.int .i64 H, .int .i64 W, .int .i64 C, .slice A n c], .agg #[x0, x1, x2, .int .i64 K, .int .i64 S, .int .i64 P, .int .i64 O, .int .i8 Z, x8, .slice WA nW cW, .slice BA nB cB, x11, x12, x13, x14, x15, x16, x17, x18]] w fun e w' => e = .returned (.bool false) ∧ Below w.heap.size w w' := by
  rcases (show (1024 : Int) < n ∨ ((n : Int) ≤ 1024 ∧ (2000 : Int) < nW) ∨ ((n : Int) ≤ 1024 ∧ (nW : Int) ≤ 2000 ∧ (200 : Int) < nB) by omega) with i1 | ⟨i1, i2⟩ | ⟨i1, i2, i3⟩
  all_goals
    clear h
    go_enter Try.func15, Try.ntmps15
    go_wp2_with fail
    go_ret
    exact ⟨by first | rfl | exact congrArg (fun b => Ending.returned (Value.bool b)) (decide_eq_false (by omega)), ((Below.refl _ _).alloc (Nat.le_refl _) _).alloc (by simp) _⟩
theorem convS_three (H W C K S P O : Int) (nW nB : Nat) : ∃ s1 s2 s3 : Int, convS H W C K S P O nW nB = #[.int .i64 s1, .int .i64 s2, .int .i64 s3] := by
  unfold convS
  split
  · exact ⟨_, _, _, rfl⟩
  · exact ⟨_, _, _, rfl⟩
theorem I8b_of {zs : List Int} (h : ∀ n ∈ zs, (Lit.int .i8 n).wf = true) : I8b zs := fun q => by
  rw [List.getD_eq_getElem?_getD]
  cases hq : zs[q]? with
  | none => simp
  | some x =>
    have hx := h x (List.mem_of_getElem? hq)
    have ⟨a, b⟩ : -128 ≤ x ∧ x ≤ 127 := by simpa [Lit.wf, IntKind.min, IntKind.max, IntKind.signed, IntKind.bits] using hx
    exact ⟨a, b⟩
theorem I32b_of {zs : List Int} (h : ∀ n ∈ zs, (Lit.int .i32 n).wf = true) : ∀ q, -2147483648 ≤ zs.getD q 0 ∧ zs.getD q 0 ≤ 2147483647 := fun q => by
  rw [List.getD_eq_getElem?_getD]
  cases hq : zs[q]? with
  | none => simp
  | some x =>
    have hx := h x (List.mem_of_getElem? hq)
    have ⟨a, b⟩ : -2147483648 ≤ x ∧ x ≤ 2147483647 := by simpa [Lit.wf, IntKind.min, IntKind.max, IntKind.signed, IntKind.bits] using hx
    exact ⟨a, b⟩
end Go.Proofs.Ytaoadgolplnedaa.CConv
