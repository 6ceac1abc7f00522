/- ConvMoves: where a window's place lies within both, it makes of a tensor without its first rows, as many as a step, what it made of the whole one row farther on; the call returns true and leaves its arguments as they were. No condition. -/
import Derived.Test.YtmgaanojkkdabaaConvBoth
import Derived.Test.YtmgaanojkkdabaaConvLess
import Derived.Test.YtmgaanojkkdabaaOpenNode
namespace Go.Proofs.Ytmgaanojkkdabaa.lawConvMoves
open Go Go.ChangeShapes Go.WideShapes Go.ChangeAt Go.RowKit
open Plain CSat CShape CTensor CConv
set_option linter.unusedVariables false

theorem own_rd' {w : World} {base : Nat} {e : TypeId} {n c : Nat} {A : Option Addr} {xs : List Value} {size : Nat} (h : w.ownsRow base e size (.slice A n c) n xs) : Kit.Rd w w.heap.size A xs := by
  obtain ⟨A', c', e', -, -, hr⟩ := Kit.own_rd h
  injection e' with e1 e2 e3
  rw [e1]; exact hr
theorem own_ne4 {w : World} {base g : Nat} {e : TypeId} {size n : Nat} {v : Value} {xs : List Value} {x y z u : Value} (h : w.ownsRow base e size v n xs) (hg : v.ownBlock ≠ some g) : ((((w.setCell ⟨g, 0, none⟩ x).setCell ⟨g, 1, none⟩ y).setCell ⟨g, 2, none⟩ z).setCell ⟨g, 3, none⟩ u).ownsRow base e size v n xs := by
  have one : ∀ (w : World) (j : Nat) (u : Value), w.ownsRow base e size v n xs → (w.setCell ⟨g, j, none⟩ u).ownsRow base e size v n xs := fun w j u h =>
    h.kept (row := some g) ⟨rfl, rfl, rfl, by simp, fun k _ hk => Below.heap_setCell _ _ _ k (fun e => hk (by rw [e]))⟩ (.inr hg)
  exact one _ 3 _ (one _ 2 _ (one _ 1 _ (one _ 0 _ h)))
theorem _root_.Go.Proofs.Ytmgaanojkkdabaa.CTensor.FreshT.grown {B : Nat} {w w' : World} {row : Option Nat} (h : FreshT B w) (hl : B < w.heap.size) (hne : some B ≠ row) (hg : w.grownBy w' row) : FreshT B w' := by
  have e := hg.block B hl hne
  have c : ∀ i, w'.cell? ⟨B, i, none⟩ = w.cell? ⟨B, i, none⟩ := fun i => World.cell?_of_block (a := ⟨B, i, none⟩) e
  have f : ∀ i, w'.frozen? ⟨B, i, none⟩ = w.frozen? ⟨B, i, none⟩ := fun i => World.frozen?_of_block (a := ⟨B, i, none⟩) e
  unfold FreshT
  simp only [c, f]
  exact h
theorem _root_.Go.Proofs.Ytmgaanojkkdabaa.CTensor.FreshT.boxed {B : Nat} {w : World} (h : FreshT B w) (x y z : Int) (A : Option Addr) (n c : Nat) : BoxAt B x y z A n c ((((w.setCell ⟨B, 0, none⟩ (.int .i64 x)).setCell ⟨B, 1, none⟩ (.int .i64 y)).setCell ⟨B, 2, none⟩ (.int .i64 z)).setCell ⟨B, 3, none⟩ (.slice A n c)) := by
  obtain ⟨⟨h1, h2, h3, h4⟩, _⟩ := h
  have k : ∀ (wd : World) (i j : Nat) (v : Value), i ≠ j → (wd.setCell ⟨B, j, none⟩ v).cell? ⟨B, i, none⟩ = wd.cell? ⟨B, i, none⟩ := fun wd i j v hij => World.cell?_setCell_other _ _ _ _ (fun e => hij (by injection e with e1 e2 e3; first | exact e2 | exact e2.symm))
  have s : ∀ (wd : World) (j : Nat) (v o : Value), wd.cell? ⟨B, j, none⟩ = some o → (wd.setCell ⟨B, j, none⟩ v).cell? ⟨B, j, none⟩ = some v := fun wd j v o ho => World.cell?_setCell_same' _ _ _ (by rw [ho]; rfl)
  refine ⟨?_, ?_, ?_, ?_⟩
  · rw [k _ 0 3 _ (by decide), k _ 0 2 _ (by decide), k _ 0 1 _ (by decide)]; exact s _ _ _ _ h1
  · rw [k _ 1 3 _ (by decide), k _ 1 2 _ (by decide)]; exact s _ _ _ _ (by rw [k _ 1 0 _ (by decide)]; exact h2)
  · rw [k _ 2 3 _ (by decide)]; exact s _ _ _ _ (by rw [k _ 2 1 _ (by decide), k _ 2 0 _ (by decide)]; exact h3)
  · exact s _ _ _ _ (by rw [k _ 3 2 _ (by decide), k _ 3 1 _ (by decide), k _ 3 0 _ (by decide)]; exact h4)
end Go.Proofs.Ytmgaanojkkdabaa.lawConvMoves
