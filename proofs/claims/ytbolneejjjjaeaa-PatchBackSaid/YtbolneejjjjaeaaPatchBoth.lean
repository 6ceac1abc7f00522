/- Layer 11 (patch): the program's rows and the document's, together. -/
import Derived.Test.YtbolneejjjjaeaaPatchRef
namespace Go.Proofs.Ytbolneejjjjaeaa.CPatch
open Go Go.ChangeShapes Go.WideShapes Go.ChangeAt Go.RowKit
open Plain CSat CShape CTensor CConv
set_option linter.unusedVariables false

theorem bytes_of {zs : List Int} (h : ∀ n ∈ zs, (Lit.int .i8 n).wf = true) : I8b zs := fun q => by
  rw [List.getD_eq_getElem?_getD]
  cases hq : zs[q]? with
  | none => simp
  | some x =>
    have hx := h x (List.mem_of_getElem? hq)
    have ⟨a, b⟩ : -128 ≤ x ∧ x ≤ 127 := by simpa [Lit.wf, IntKind.min, IntKind.max, IntKind.signed, IntKind.bits] using hx
    exact ⟨a, b⟩
theorem steps_le {n k s p : Int} (h : argsB n k s p = true) : stepsM n k s p ≤ n + 9 - k := by
  obtain ⟨a1, a2, a3, a4, a5, a6, a7, a8, a9⟩ := argsB_yes h
  unfold stepsM
  rw [if_pos h]
  split
  · omega
  · have := Int.ediv_le_self s (a := n + 2 * p - k) (by omega)
    omega
theorem side_le {n k x : Int} (h1 : 1 ≤ n) (k1 : 1 ≤ k) (k5 : k ≤ 5) (hx : x ≤ n + 9 - k) : x * k ≤ 25 * n := by
  rcases (show k = 1 ∨ k = 2 ∨ k = 3 ∨ k = 4 ∨ k = 5 by omega) with rfl | rfl | rfl | rfl | rfl <;> omega
theorem rboxNew (M Wd : Int) (v : Value) (T : TypeId) (w : World) : RBox w.heap.size M Wd v (w.alloc (.cells #[.int .i64 M, .int .i64 Wd, v] T)) := ⟨Kit.new_cell _ _ _ _, Kit.new_cell _ _ _ _, Kit.new_cell _ _ _ _⟩
end Go.Proofs.Ytbolneejjjjaeaa.CPatch
