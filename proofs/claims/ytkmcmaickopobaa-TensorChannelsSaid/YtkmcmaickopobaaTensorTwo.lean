/- Contracts of package tensor (layer 5): the copy, a tensor of numbers. -/
import Derived.Test.YtkmcmaickopobaaTensor
namespace Go.Proofs.Ytkmcmaickopobaa.CTensor
open Go Go.ChangeShapes Go.WideShapes Go.ChangeAt Go.RowKit
open Plain CSat CShape
set_option linter.unusedVariables false

/-- a block for a tensor, as it is made. -/
def FreshT (B : Nat) (wd : World) : Prop :=
  (wd.cell? ⟨B, 0, none⟩ = some (.int .i64 0) ∧ wd.cell? ⟨B, 1, none⟩ = some (.int .i64 0) ∧ wd.cell? ⟨B, 2, none⟩ = some (.int .i64 0) ∧ wd.cell? ⟨B, 3, none⟩ = some (.slice none 0 0)) ∧
  wd.frozen? ⟨B, 0, none⟩ = false ∧ wd.frozen? ⟨B, 1, none⟩ = false ∧ wd.frozen? ⟨B, 2, none⟩ = false ∧ wd.frozen? ⟨B, 3, none⟩ = false
theorem FreshT.new (T : TypeId) (w : World) (B : Nat) (hB : B = w.heap.size) : FreshT B (w.alloc (.cells #[.int .i64 0, .int .i64 0, .int .i64 0, .slice none 0 0] T)) := by
  subst hB
  exact ⟨⟨Kit.new_cell _ _ _ _, Kit.new_cell _ _ _ _, Kit.new_cell _ _ _ _, Kit.new_cell _ _ _ _⟩, World.frozen?_alloc_at _ _ _ _ rfl, World.frozen?_alloc_at _ _ _ _ rfl, World.frozen?_alloc_at _ _ _ _ rfl, World.frozen?_alloc_at _ _ _ _ rfl⟩
theorem FreshT.below {B B' : Nat} {w w' : World} (h : FreshT B w) (hB : B < B') (hb : Below B' w w') : FreshT B w' := by
  obtain ⟨⟨h1, h2, h3, h4⟩, h5, h6, h7, h8⟩ := h
  exact ⟨⟨(hb.cell (p := ⟨B, 0, none⟩) hB).trans h1, (hb.cell (p := ⟨B, 1, none⟩) hB).trans h2, (hb.cell (p := ⟨B, 2, none⟩) hB).trans h3, (hb.cell (p := ⟨B, 3, none⟩) hB).trans h4⟩,
    (hb.frozen (p := ⟨B, 0, none⟩) hB).trans h5, (hb.frozen (p := ⟨B, 1, none⟩) hB).trans h6, (hb.frozen (p := ⟨B, 2, none⟩) hB).trans h7, (hb.frozen (p := ⟨B, 3, none⟩) hB).trans h8⟩
theorem range_4 {w : World} {b : Nat} {x y z u : Value} (h0 : w.cell? ⟨b, 0, none⟩ = some x) (h1 : w.cell? ⟨b, 1, none⟩ = some y) (h2 : w.cell? ⟨b, 2, none⟩ = some z) (h3 : w.cell? ⟨b, 3, none⟩ = some u) : w.rangeAt b 0 [x, y, z, u] := by
  intro j v hj
  match j, hj with
  | 0, hj => simpa [← hj] using h0
  | 1, hj => simpa [← hj] using h1
  | 2, hj => simpa [← hj] using h2
  | 3, hj => simpa [← hj] using h3
/-- a store of four cells into a block beside. -/
theorem BoxAt.stores {B B2 : Nat} {H W C : Int} {A : Option Addr} {n c : Nat} {w : World} (h : BoxAt B H W C A n c w) (hne : B ≠ B2) (a b d e : Value) :
    BoxAt B H W C A n c ((((w.setCell ⟨B2, 0, none⟩ a).setCell ⟨B2, 1, none⟩ b).setCell ⟨B2, 2, none⟩ d).setCell ⟨B2, 3, none⟩ e) := by
  have k : ∀ i j (v : Value) (wd : World), (wd.setCell ⟨B2, j, none⟩ v).cell? ⟨B, i, none⟩ = wd.cell? ⟨B, i, none⟩ := fun i j v wd => World.cell?_setCell_other _ _ _ _ (fun e => hne (congrArg Addr.block e).symm)
  unfold BoxAt
  simp only [k]
  exact h
/-- what is owned stays over a store below. -/
theorem own_set {w : World} {base : Nat} {e : TypeId} {size n : Nat} {v : Value} {xs : List Value} (h : w.ownsRow base e size v n xs) (a : Addr) (u : Value) (ha : a.block < base) : (w.setCell a u).ownsRow base e size v n xs := by
  refine h.kept (row := some a.block) ⟨rfl, rfl, rfl, by simp, fun k _ hk => Below.heap_setCell _ _ _ k (fun e => hk (by rw [e]))⟩ ?_
  cases hv : v.ownBlock with
  | none => exact .inl rfl
  | some q => exact .inr (fun e => by have := Kit.own_block_ge h q hv; cases e; omega)
/-- a tensor of the call's own, handed back. -/
def Cloned (w : World) (H W C : Int) (n : Nat) (zs : List Int) (e : Ending) (w' : World) : Prop :=
  ∃ v, e = .returned (.agg #[.int .i64 H, .int .i64 W, .int .i64 C, v]) ∧ w'.ownsRow w.heap.size 25 1 v n (I8s zs) ∧ Below w.heap.size w w'
theorem clone_to (H W C : Int) (A : Option Addr) (zs : List Int) (n c : Nat) (hn : zs.length = n) (hl : n ≤ 1000000) {B : Nat} (w : World) (hB : B ≤ w.heap.size) (hr : Kit.Rd w B A (zs.map (.int .i8))) :
    Calls Try.prog 25 #[.agg #[.int .i64 H, .int .i64 W, .int .i64 C, .slice A n c]] w (Cloned w H W C n zs) := by
  have HN := Lib.hid hn
  have HR := Lib.hid hr
  clear hn hr
  go_enter Try.func25, Try.ntmps25
  go_wp2_with fail
  have hbox : BoxAt w.heap.size H W C A n c ((w.alloc (.cells #[.int .i64 H, .int .i64 W, .int .i64 C, .slice A n c] 28)).alloc (.cells #[.int .i64 0, .int .i64 0, .int .i64 0, .slice none 0 0] 28)).drew :=
    (BoxAt.new H W C A n c 28 w).below (Nat.lt_succ_self _) (((Below.refl _ _).alloc (by simp) _))
  have HFR : Hid (FreshT (w.heap.size + 1) ((w.alloc (.cells #[.int .i64 H, .int .i64 W, .int .i64 C, .slice A n c] 28)).alloc (.cells #[.int .i64 0, .int .i64 0, .int .i64 0, .slice none 0 0] 28)).drew) := Lib.hid (FreshT.new _ _ _ (by simp))
  refine wp_region_held_drew (S := BoxAt w.heap.size H W C A n c) (by kernel_rfl) hbox (fun hHeld => ?_)
  refine wpAnyH_take (i := 0) (oi := ({ dst := some 3, op := Op.fieldAddr 28 (Operand.tmp 1) 0, type := 0, pos := "tensor.go:27", after := #[], guard := none } : Oper)) (v := ?_) rfl (by kernel_rfl) (by kernel_rfl) (by kernel_rfl) (fun _ _ _ h => h) (Or.inl ⟨by rfl, ?_⟩) (by assumption) ?_
  rotate_left
  · intro wS hSw
    obtain ⟨s1, s2, s3, s4⟩ := hSw
    first
      | (go_simp; done)
      | (go_simp; with_reducible rfl)
  try simp only [Act.put, List.setIfInBounds_toArray, List.set_cons_zero, List.set_cons_succ]
  refine wpAnyH_take (i := 1) (oi := ({ dst := some 4, op := Op.load 23 (Operand.tmp 3), type := 23, pos := "tensor.go:27", after := #[{ on := 0, ground := Ground.data }], guard := none } : Oper)) (v := ?_) rfl (by kernel_rfl) (by kernel_rfl) (by kernel_rfl) (fun _ _ _ h => h) (Or.inl ⟨by rfl, ?_⟩) (by assumption) ?_
  rotate_left
  · intro wS hSw
    obtain ⟨s1, s2, s3, s4⟩ := hSw
    first
      | (go_simp; done)
      | (go_simp; with_reducible rfl)
  try simp only [Act.put, List.setIfInBounds_toArray, List.set_cons_zero, List.set_cons_succ]
  refine wpAnyH_take (i := 2) (oi := ({ dst := some 5, op := Op.fieldAddr 28 (Operand.tmp 1) 1, type := 0, pos := "tensor.go:27", after := #[], guard := none } : Oper)) (v := ?_) rfl (by kernel_rfl) (by kernel_rfl) (by kernel_rfl) (fun _ _ _ h => h) (Or.inl ⟨by rfl, ?_⟩) (by assumption) ?_
  rotate_left
  · intro wS hSw
    obtain ⟨s1, s2, s3, s4⟩ := hSw
    first
      | (go_simp; done)
      | (go_simp; with_reducible rfl)
  try simp only [Act.put, List.setIfInBounds_toArray, List.set_cons_zero, List.set_cons_succ]
  refine wpAnyH_take (i := 3) (oi := ({ dst := some 6, op := Op.load 24 (Operand.tmp 5), type := 24, pos := "tensor.go:27", after := #[{ on := 2, ground := Ground.data }], guard := none } : Oper)) (v := ?_) rfl (by kernel_rfl) (by kernel_rfl) (by kernel_rfl) (fun _ _ _ h => h) (Or.inl ⟨by rfl, ?_⟩) (by assumption) ?_
  rotate_left
  · intro wS hSw
    obtain ⟨s1, s2, s3, s4⟩ := hSw
    first
      | (go_simp; done)
      | (go_simp; with_reducible rfl)
  try simp only [Act.put, List.setIfInBounds_toArray, List.set_cons_zero, List.set_cons_succ]
  refine wpAnyH_ready (rs := [4]) (by kernel_rfl) (by simp) ?_
  refine AllReadyH.cons (o := ({ dst := some 7, op := Op.call { callee := Callee.value (Operand.func 33), args := #[Operand.tmp 6], argTypes := #[24] }, type := 24, pos := "tensor.go:27", after := #[{ on := 3, ground := Ground.data }], guard := none } : Oper)) rfl (fun K hK => ?_) (AllReadyH.nil)
  go_simp
  go_at_call 33
  refine (sclone A zs n c HN.out hl (B := B) _ (by simp; omega) (((HR.out.alloc hB _).alloc (by simp; omega) _).drew)).mono ?_
  rintro e w1 ⟨v1, rfl, ho1, hb1⟩
  have hS1 := hHeld.below (by first | (simp; done) | (simp; omega)) hb1
  obtain ⟨⟨z0, z1, z2, z3⟩, z4, z5, z6, z7⟩ := HFR.out.below (by first | (simp; done) | (simp; omega)) hb1
  obtain ⟨A1, c1, rfl, _, _, _⟩ := Kit.own_rd ho1
  have HO := Lib.hid ho1
  have HB1 := Lib.hid hb1
  clear ho1 hb1 hHeld
  dsimp only
  refine hK.out _ _ ?_ (fun hHeld => ?_)
  · exact hS1
  clear hK K
  try simp only [Act.put, List.setIfInBounds_toArray, List.set_cons_zero, List.set_cons_succ]
  refine wpAnyH_take (i := 5) (oi := ({ dst := some 8, op := Op.build 28 #[(0, Operand.tmp 4), (1, Operand.tmp 7)], type := 28, pos := "tensor.go:27", after := #[{ on := 1, ground := Ground.data }, { on := 4, ground := Ground.data }], guard := none } : Oper)) (v := ?_) rfl (by kernel_rfl) (by kernel_rfl) (by kernel_rfl) (fun _ _ _ h => h) (Or.inl ⟨by rfl, ?_⟩) (by assumption) ?_
  rotate_left
  · intro wS hSw
    first
      | (go_simp; done)
      | (go_simp; with_reducible rfl)
  try simp only [Act.put, List.setIfInBounds_toArray, List.set_cons_zero, List.set_cons_succ]
  refine wpAnyH_ready (rs := [6]) (by kernel_rfl) (by simp) ?_
  refine AllReadyH.cons (o := ({ dst := none, op := Op.store 28 (Operand.tmp 2) (Operand.tmp 8), type := 0, pos := "tensor.go:27", after := #[{ on := 5, ground := Ground.data }, { on := 4, ground := Ground.chain }, { on := 0, ground := Ground.phase }, { on := 1, ground := Ground.phase }, { on := 2, ground := Ground.phase }, { on := 3, ground := Ground.phase }, { on := 4, ground := Ground.phase }, { on := 5, ground := Ground.phase }], guard := none } : Oper)) rfl (fun K hK => ?_) (AllReadyH.nil)
  go_simp
  refine hK.out _ _ ?_ (fun hHeld => ?_)
  · exact hHeld.stores (by omega) _ _ _ _
  clear hK K
  try simp only [Act.put, List.setIfInBounds_toArray, List.set_cons_zero, List.set_cons_succ]
  refine wpAnyH_done (by kernel_rfl) ?_ _
  go_wp2_with fail
  refine bodyPost_ret (Kit.results_c rfl _ _ (w.heap.size + 1) 0 [.int .i64 H, .int .i64 W, .int .i64 C, .slice A1 n c1] _ rfl (range_4 (by go_cell) (by go_cell) (by go_cell) (by go_cell)) Try.underlying28 rfl (by kernel_rfl)) rfl ?_
  have hz : w.heap.size + 2 ≤ w1.heap.size := by have := HB1.out.size; simp at this; omega
  refine ⟨_, rfl, Kit.own_base (own_set (own_set (own_set (own_set HO.out _ _ ?_) _ _ ?_) _ _ ?_) _ _ ?_) ?_, ?_⟩
  any_goals (first | (simp; done) | (simp; omega))
  exact (((((((Below.refl w.heap.size w).alloc (Nat.le_refl _) _).alloc (by simp) _).drew).trans (HB1.out.mono (by simp; omega))).setCell (p := ⟨w.heap.size + 1, 0, none⟩) (by simp) _).setCell (p := ⟨w.heap.size + 1, 1, none⟩) (by simp) _ |>.setCell (p := ⟨w.heap.size + 1, 2, none⟩) (by simp) _).setCell (p := ⟨w.heap.size + 1, 3, none⟩) (by simp) _
end Go.Proofs.Ytkmcmaickopobaa.CTensor
