/- A node that is copied as a whole: each of its cells is one cell; a new block of 19 cells takes them. -/
import Derived.Test.YtaoadgolplnedaaOpenNode
import Derived.Test.YtaoadgolplnedaaConvOf
import Derived.Deep.RegionHeld3
namespace Go.Proofs.Ytaoadgolplnedaa.Kit
open Go Go.ChangeShapes Go.WideShapes Go.ChangeAt Go.RowKit
set_option linter.unusedVariables false
section
variable {P : Program} {w : World} {r : Reach} {b0 : Nat}
theorem cell_one {t : TypeId} {v : Value} (h : Cell.okWide P w r b0 t v) : v.oneCell' = true := by
  cases v with
  | agg cs =>
    exfalso
    unfold Cell.okWide at h
    split at h
    all_goals first | (rename_i e; cases e; done) | (rename_i e1 e2; cases e2; done) | skip
    unfold Cell.ok at h
    split at h
    all_goals first | (rename_i e1 e2; cases e2; done) | exact h
  | tuple cs =>
    exfalso
    unfold Cell.okWide at h
    split at h
    all_goals first | (rename_i e; cases e; done) | (rename_i e1 e2; cases e2; done) | skip
    unfold Cell.ok at h
    split at h
    all_goals first | (rename_i e1 e2; cases e2; done) | exact h
  | _ => rfl
theorem struct_ones {t : TypeId} {fs : Array Field} {cs : Array Value} (ht : P.underlying t = some (.struct fs)) (hv : Value.okWide P w r b0 t (.agg cs)) : ∀ v ∈ cs.toList, v.oneCell' = true := by
  simp only [Value.okWide, ht] at hv
  obtain ⟨cs', e, _, ts, _, _, hr⟩ := hv
  cases e
  intro v hv
  obtain ⟨i, hi, he⟩ := List.getElem_of_mem hv
  obtain ⟨u, _, hu⟩ := hr i v (by rw [← he]; simp)
  exact cell_one hu
end
theorem there_new (w : World) {cs : Array Value} (T : TypeId) {n : Nat} (h : cs.size = n) : (w.alloc (.cells cs T)).there w.heap.size 0 n := fun j hj => by
  rw [Nat.zero_add]
  refine ⟨?_, World.frozen?_alloc_new _ _ _ _⟩
  rw [new_cell, Array.getElem?_eq_getElem (by omega)]; rfl
theorem there_below {w w' : World} {g n B : Nat} (h : w.there g 0 n) (hb : Below B w w') (hg : g < B) : w'.there g 0 n := fun j hj => by
  rw [hb.cell (p := ⟨g, 0 + j, none⟩) hg, hb.frozen (p := ⟨g, 0 + j, none⟩) hg]; exact h j hj
theorem below_cells {B g : Nat} {a : World} (hg : B ≤ g) : ∀ (vs : List Value) (o : Nat) (w : World), Below B a w → Below B a (w.setCells g o vs)
  | [], _, _, h => h
  | v :: vs, o, w, h => below_cells hg vs (o + 1) _ (h.setCell (p := ⟨g, o, none⟩) hg v)
theorem frozen_cells (g : Nat) (p : Addr) : ∀ (vs : List Value) (o : Nat) (w : World), (w.setCells g o vs).frozen? p = w.frozen? p := fun vs o w => World.frozen?_setCells g vs o w p
theorem size_cells (g : Nat) : ∀ (vs : List Value) (o : Nat) (w : World), (w.setCells g o vs).heap.size = w.heap.size
  | [], _, _ => rfl
  | v :: vs, o, w => by
    show ((w.setCell ⟨g, o, none⟩ v).setCells g (o + 1) vs).heap.size = _
    rw [size_cells g vs]; simp
theorem there_cells {w : World} {g g' n : Nat} (h : w.there g 0 n) (vs : List Value) (hn : w.there g' 0 vs.length) : (w.setCells g' 0 vs).there g 0 n := fun j hj => by
  rw [frozen_cells]
  refine ⟨?_, (h j hj).2⟩
  by_cases e : g = g'
  · subst e
    rw [Nat.zero_add]
    by_cases hj2 : j < vs.length
    · have h1 := World.cell?_setCells_in g vs 0 w (fun i hi => (hn i hi).1) j hj2
      rw [Nat.zero_add] at h1
      rw [h1]; rfl
    · rw [World.cell?_setCells_out g vs 0 w ⟨g, j, none⟩ (fun _ _ => .inr (by simp; omega))]
      have := (h j hj).1
      rwa [Nat.zero_add] at this
  · rw [World.cell?_setCells_out g' vs 0 w ⟨g, 0 + j, none⟩ (fun h1 _ => absurd h1 e)]
    exact (h j hj).1
end Go.Proofs.Ytaoadgolplnedaa.Kit
namespace Go.Proofs.Ytaoadgolplnedaa.CConv
open Go Go.ChangeShapes Go.WideShapes Go.ChangeAt Go.RowKit
open Plain CSat CShape CTensor
theorem NodeAt.stored {w : World} {g : Nat} (hh : w.there g 0 19) (x0 x1 x2 x8 x11 x12 x13 x14 x15 x16 x17 x18 : Value) (K S P O Z : Int) (WA BA : Option Addr) (nW cW nB cB : Nat) :
    NodeAt g x0 x1 x2 x8 x11 x12 x13 x14 x15 x16 x17 x18 K S P O Z WA BA nW cW nB cB (w.setCells g 0 [x0, x1, x2, .int .i64 K, .int .i64 S, .int .i64 P, .int .i64 O, .int .i8 Z, x8, .slice WA nW cW, .slice BA nB cB, x11, x12, x13, x14, x15, x16, x17, x18]) :=
  World.rangeAt_setCells_same w g 0 _ hh
theorem NodeAt.apart {w : World} {g g' : Nat} {x0 x1 x2 x8 x11 x12 x13 x14 x15 x16 x17 x18 : Value} {K S P O Z : Int} {WA BA : Option Addr} {nW cW nB cB : Nat}
    (h : NodeAt g x0 x1 x2 x8 x11 x12 x13 x14 x15 x16 x17 x18 K S P O Z WA BA nW cW nB cB w) (hg : g ≠ g') (o : Nat) (vs : List Value) : NodeAt g x0 x1 x2 x8 x11 x12 x13 x14 x15 x16 x17 x18 K S P O Z WA BA nW cW nB cB (w.setCells g' o vs) :=
  World.rangeAt_setCells_apart h g' o vs (.inl hg)
end Go.Proofs.Ytaoadgolplnedaa.CConv
