/- Kit: a field of a struct that is a slice of integers, opened. -/
import Derived.Test.YtmnhcmkcdchmkaaOpenNode
namespace Go.Proofs.Ytmnhcmkcdchmkaa.Kit
open Go Go.ChangeShapes Go.WideShapes Go.ChangeAt Go.RowKit Go.Deep
set_option linter.unusedVariables false

section
variable {H : Type} {enc : TypeId × Value → H} {P : Program} {w : World} {base b0 : Nat} {spare : Nat → Bool} {held : Bool} {r : Reach}
theorem flat_islice {t e : TypeId} {k : IntKind} {cs : Array Value} {j : Nat} {v : Value} (ht : P.underlying t = some (.slice e)) (he : P.underlying e = some (.int k)) (hce : P.cellsOf e = 1) (hv : cs[j]? = some v)
    (h : ∃ (u : Value) (n : Nat) (x : DataW H × List MemPlace), cs[j]? = some u ∧ DataW.trod enc P w base spare held n t [u] = some x) :
    ∃ (A : Option Addr) (zs : List Int) (c : Nat), v = .slice A zs.length c ∧ zs.length ≤ c ∧ c ≤ maxLen ∧ (∀ n ∈ zs, (Lit.int k n).wf = true) ∧ Rd w w.heap.size A (zs.map (.int k)) := by
  obtain ⟨u, n, x, hu, hx⟩ := h
  rw [hv] at hu
  cases hu
  exact trod_islice_n ht he hce hx
end
end Go.Proofs.Ytmnhcmkcdchmkaa.Kit
