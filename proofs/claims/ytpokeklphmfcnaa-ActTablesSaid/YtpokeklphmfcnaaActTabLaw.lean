/- Layer 21 (act): what the law on tables wants. -/
import Derived.Test.YtpokeklphmfcnaaActTab
import Derived.Test.YtpokeklphmfcnaaActBoth
import Derived.Laws.MakeOwn
import Derived.Deep.CutRange
namespace Go.Proofs.Ytpokeklphmfcnaa.CAct
open Go Go.ChangeShapes Go.WideShapes Go.ChangeAt Go.RowKit Go.Deep
open Plain CSat CFix CShape CTensor CConv
set_option linter.unusedVariables false

theorem rowL_getDa (F : Nat → Int) {m q : Nat} (h : q < m) : (rowL F m).getD q 0 = F q := by simp [rowL, List.getD_eq_getElem?_getD, h]
theorem getD_bd {zs : List Int} (h : I8b zs) (k : Nat) : (((zs.getD k 0 + 128).toNat : Nat) : Int) = zs.getD k 0 + 128 ∧ (zs.getD k 0 + 128).toNat < 256 := by
  obtain ⟨a, b⟩ := h k
  generalize zs.getD k 0 = z at *
  omega
theorem table_held {zs : List Int} (h : I8b zs) (F : Nat → Int) (Z m1 s1 z1 lo hi : Int) (hF : ∀ k : Nat, F k = heldZ ((k : Int) - 128 - Z) m1 s1 z1 lo hi) (k : Nat) : F (zs.getD k 0 + 128).toNat = heldZ (zs.getD k 0 - Z) m1 s1 z1 lo hi := by
  rw [hF, (getD_bd h k).1]
  congr 1
  omega
end Go.Proofs.Ytpokeklphmfcnaa.CAct
namespace Go.Proofs.Ytpokeklphmfcnaa.Kit
open Go Go.ChangeShapes Go.WideShapes Go.ChangeAt Go.RowKit
section
variable {H : Type} {enc : TypeId × Value → H} {P : Program} {w : World} {base b0 : Nat} {spare : Nat → Bool} {held : Bool} {r : Reach}
theorem open_iarray {t e : TypeId} {n : Nat} {k : IntKind} {v : Value} {d : DataW H} {ps : List MemPlace} (hs : P.underlying t = some (.array n e)) (he : P.underlying e = some (.int k)) (hone : P.cellsOf e = 1) (hC : P.cellsOf t = n)
    (hv : Value.okWide P w r b0 t v) (h : DataW.Trod enc P w base spare held t v d ps) :
    ∃ cs : Array Value, v = .agg cs ∧ cs.size = n ∧ ∀ (j : Nat), j < n → ∃ z : Int, cs[j]? = some (.int k z) ∧ (Lit.int k z).wf = true := by
  obtain ⟨cs, rfl, hsz, hf⟩ := open_array hs hone hC hv h
  refine ⟨cs, rfl, hsz, fun j hj => ?_⟩
  obtain ⟨z, hz, hw⟩ := flat_int (v := cs[j]'(by omega)) he (Array.getElem?_eq_getElem (by omega)) (hf j hj)
  exact ⟨z, by rw [Array.getElem?_eq_getElem (by omega), hz], hw⟩
end
end Go.Proofs.Ytpokeklphmfcnaa.Kit
