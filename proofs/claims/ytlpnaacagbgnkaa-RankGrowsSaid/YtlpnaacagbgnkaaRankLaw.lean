/- Layer 22 (rank): what the laws share. -/
import Derived.Test.YtlpnaacagbgnkaaRankKnown
import Derived.Test.YtlpnaacagbgnkaaRows
import Derived.ProofKit
import Derived.OpenShut
import Derived.Outline
namespace Go.Proofs.Ytlpnaacagbgnkaa.CRank
open Go Go.ChangeShapes Go.WideShapes Go.ChangeAt Go.RowKit
open Plain
set_option linter.unusedVariables false

theorem quiet_b {P : Program} {f : FuncId} {args : Array Value} {w : World} {v : Value} (h : Calls P f args w fun e w' => e = .returned v ∧ ∃ m, w' = w.drewN m) : Calls P f args w fun e w' => e = .returned v ∧ Below w.heap.size w w' :=
  h.mono fun e w' ⟨he, m, hw⟩ => ⟨he, by subst hw; exact Kit.below_drewN (Below.refl _ _) m⟩
theorem same_b {P : Program} {f : FuncId} {args : Array Value} {w : World} {v : Value} (h : Calls P f args w fun e w' => e = .returned v ∧ w = w') : Calls P f args w fun e w' => e = .returned v ∧ Below w.heap.size w w' :=
  h.mono fun e w' ⟨he, hw⟩ => ⟨he, by subst hw; exact Below.refl _ _⟩
theorem i32b_of {zs : List Int} (h : ∀ n ∈ zs, (Lit.int .i32 n).wf = true) : I32b (fun i => zs.getD i 0) := fun q => by
  show -2147483648 ≤ zs.getD q 0 ∧ zs.getD q 0 ≤ 2147483647
  rw [List.getD_eq_getElem?_getD]
  cases hq : zs[q]? with
  | none => simp
  | some x =>
    have hx := h x (List.mem_of_getElem? hq)
    have ⟨a, b⟩ : -2147483648 ≤ x ∧ x ≤ 2147483647 := by simpa [Lit.wf, IntKind.min, IntKind.max, IntKind.signed, IntKind.bits] using hx
    simp; omega
theorem place_both (G : Nat → Int) (n : Nat) (hn : n ≤ 60) (A : Option Addr) (c : Nat) (i : Int) : ∃ R : Int,
    (∀ w : World, Kit.Rd w w.heap.size A (I32v (rowL G n)) → Calls Try.prog 11 #[.slice A n c, .int .i64 i] w fun e w' => e = .returned (.int .i64 R) ∧ Below w.heap.size w w') ∧
    (∀ w : World, Kit.Rd w w.heap.size A (I32v (rowL G n)) → Calls Try.prog 12 #[.slice A n c, .int .i64 i] w fun e w' => e = .returned (.int .i64 R) ∧ Below w.heap.size w w') := by
  by_cases h : i < 0 ∨ (n : Int) ≤ i
  · exact ⟨-1, fun w _ => same_b (place_no n A c i h w), fun w _ => same_b (refPlace_no n A c i h w)⟩
  · obtain ⟨q, rfl⟩ : ∃ q : Nat, i = q := ⟨i.toNat, by omega⟩
    exact ⟨_, fun w hr => place_yes G n hn A c q (by omega) _ rfl w hr, fun w hr => quiet_b (refPlace_yes G n hn A c q (by omega) _ rfl w hr)⟩
end Go.Proofs.Ytlpnaacagbgnkaa.CRank
