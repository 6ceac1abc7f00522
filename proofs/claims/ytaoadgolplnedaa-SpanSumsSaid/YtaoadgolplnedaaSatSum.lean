/- Contracts of sat.Sum and of the document's own answers of layer 1. -/
import Derived.Test.YtaoadgolplnedaaSat
import Derived.Test.YtaoadgolplnedaaKit
namespace Go.Proofs.Ytaoadgolplnedaa.CSat
open Go Go.ChangeShapes Go.WideShapes Go.ChangeAt Go.RowKit
open Plain
set_option linter.unusedVariables false

/-- all from the first one on, each sum within 64 bits; none if one is not. -/
def sumO (t : Int) : List Int → Option Int
  | [] => some t
  | z :: zs => if fits (t + z) then sumO (t + z) zs else none

theorem sumO_append (t : Int) (xs ys : List Int) : sumO t (xs ++ ys) = (sumO t xs).bind fun s => sumO s ys := by
  induction xs generalizing t with
  | nil => rfl
  | cons x xs ih =>
    show (if fits (t + x) then sumO (t + x) (xs ++ ys) else none) = _
    simp only [sumO]
    split
    · exact ih _
    · rfl

theorem sumO_bd {t s : Int} {zs : List Int} (ht : -9223372036854775808 ≤ t ∧ t ≤ 9223372036854775807) (h : sumO t zs = some s) : -9223372036854775808 ≤ s ∧ s ≤ 9223372036854775807 := by
  induction zs generalizing t with
  | nil => simp [sumO] at h; subst h; exact ht
  | cons z zs ih =>
    simp only [sumO] at h
    split at h
    · rename_i hf
      exact ih (by simpa [fits] using hf) h
    · cases h

theorem take_next {zs : List Int} {k : Nat} (h : k < zs.length) : zs.take (k + 1) = zs.take k ++ [zs[k]] := by
  rw [List.take_succ_eq_append_getElem h]

def I64s (zs : List Int) : Prop := ∀ z ∈ zs, -9223372036854775808 ≤ z ∧ z ≤ 9223372036854775807

end Go.Proofs.Ytaoadgolplnedaa.CSat
