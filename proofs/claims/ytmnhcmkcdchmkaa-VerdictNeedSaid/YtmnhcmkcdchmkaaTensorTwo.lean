/- Contracts of package tensor (layer 5): the copy, a tensor of numbers. -/
import Derived.Test.YtmnhcmkcdchmkaaTk
import Derived.Test.YtmnhcmkcdchmkaaTensor
namespace Go.Proofs.Ytmnhcmkcdchmkaa.CTensor
open Go Go.ChangeShapes Go.WideShapes Go.ChangeAt Go.RowKit
open Plain CSat CShape
set_option linter.unusedVariables false

/-- a block for a tensor, as it is made. -/
def FreshT (B : Nat) (wd : World) : Prop :=
  (wd.cell? ⟨B, 0, none⟩ = some (.int .i64 0) ∧ wd.cell? ⟨B, 1, none⟩ = some (.int .i64 0) ∧ wd.cell? ⟨B, 2, none⟩ = some (.int .i64 0) ∧ wd.cell? ⟨B, 3, none⟩ = some (.slice none 0 0)) ∧
  wd.frozen? ⟨B, 0, none⟩ = false ∧ wd.frozen? ⟨B, 1, none⟩ = false ∧ wd.frozen? ⟨B, 2, none⟩ = false ∧ wd.frozen? ⟨B, 3, none⟩ = false
theorem FreshT.new (T : TypeId) (w : World) (B : Nat) (hB : B = w.heap.size) : FreshT B (w.alloc (.cells #[.int .i64 0, .int .i64 0, .int .i64 0, .slice none 0 0] T)) := by
  subst hB
  exact ⟨⟨Kit.new_cell _ _ _ _, Kit.new_cell _ _ _ _, Kit.new_cell _ _ _ _, Kit.new_cell _ _ _ _⟩, World.frozen?_alloc_at _ _ _ _ rfl, World.frozen?_alloc_at _ _ _ _ rfl, World.frozen?_alloc_at _ _ _ _ rfl, World.frozen?_alloc_at _ _ _ _ rfl⟩
theorem FreshT.below {B B' : Nat} {w w' : World} (h : FreshT B w) (hB : B < B') (hb : Below B' w w') : FreshT B w' := by
  obtain ⟨⟨h1, h2, h3, h4⟩, h5, h6, h7, h8⟩ := h
  exact ⟨⟨(hb.cell (p := ⟨B, 0, none⟩) hB).trans h1, (hb.cell (p := ⟨B, 1, none⟩) hB).trans h2, (hb.cell (p := ⟨B, 2, none⟩) hB).trans h3, (hb.cell (p := ⟨B, 3, none⟩) hB).trans h4⟩,
    (hb.frozen (p := ⟨B, 0, none⟩) hB).trans h5, (hb.frozen (p := ⟨B, 1, none⟩) hB).trans h6, (hb.frozen (p := ⟨B, 2, none⟩) hB).trans h7, (hb.frozen (p := ⟨B, 3, none⟩) hB).trans h8⟩
theorem range_4 {w : World} {b : Nat} {x y z u : Value} (h0 : w.cell? ⟨b, 0, none⟩ = some x) (h1 : w.cell? ⟨b, 1, none⟩ = some y) (h2 : w.cell? ⟨b, 2, none⟩ = some z) (h3 : w.cell? ⟨b, 3, none⟩ = some u) : w.rangeAt b 0 [x, y, z, u] := by
  intro j v hj
  match j, hj with
  | 0, hj => simpa [← hj] using h0
  | 1, hj => simpa [← hj] using h1
  | 2, hj => simpa [← hj] using h2
  | 3, hj => simpa [← hj] using h3
/-- a store of four cells into a block beside. -/
theorem BoxAt.stores {B B2 : Nat} {H W C : Int} {A : Option Addr} {n c : Nat} {w : World} (h : BoxAt B H W C A n c w) (hne : B ≠ B2) (a b d e : Value) :
    BoxAt B H W C A n c ((((w.setCell ⟨B2, 0, none⟩ a).setCell ⟨B2, 1, none⟩ b).setCell ⟨B2, 2, none⟩ d).setCell ⟨B2, 3, none⟩ e) := by
  have k : ∀ i j (v : Value) (wd : World), (wd.setCell ⟨B2, j, none⟩ v).cell? ⟨B, i, none⟩ = wd.cell? ⟨B, i, none⟩ := fun i j v wd => World.cell?_setCell_other _ _ _ _ (fun e => hne (congrArg Addr.block e).symm)
  unfold BoxAt
  simp only [k]
  exact h
/-- what is owned stays over a store below. -/
theorem own_set {w : World} {base : Nat} {e : TypeId} {size n : Nat} {v : Value} {xs : List Value} (h : w.ownsRow base e size v n xs) (a : Addr) (u : Value) (ha : a.block < base) : (w.setCell a u).ownsRow base e size v n xs := by
  refine h.kept (row := some a.block) ⟨rfl, rfl, rfl, by simp, fun k _ hk => Below.heap_setCell _ _ _ k (fun e => hk (by rw [e]))⟩ ?_
  cases hv : v.ownBlock with
  | none => exact .inl rfl
  | some q => exact .inr (fun e => by have := Kit.own_block_ge h q hv; cases e; omega)
/-- a tensor of the call's own, handed back. -/
def Cloned (w : World) (H W C : Int) (n : Nat) (zs : List Int) (e : Ending) (w' : World) : Prop :=
  ∃ v, e = .returned (.agg #[.int .i64 H, .int .i64 W, .int .i64 C, v]) ∧ w'.ownsRow w.heap.size 46 1 v n (I8s zs) ∧ Below w.heap.size w w'
end Go.Proofs.Ytmnhcmkcdchmkaa.CTensor
