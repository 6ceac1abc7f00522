/- Contracts of package tensor (layer 5): tensors of one number. -/
import Derived.Test.YtpokeklphmfcnaaTensorFlat
namespace Go.Proofs.Ytpokeklphmfcnaa.CTensor
open Go Go.ChangeShapes Go.WideShapes Go.ChangeAt Go.RowKit
open Plain CSat CShape
set_option linter.unusedVariables false

/-- the box of a shape, in whatever world. -/
def ShapeAt (B : Nat) (H W C : Int) (wd : World) : Prop :=
  wd.cell? ⟨B, 0, none⟩ = some (.int .i64 H) ∧ wd.cell? ⟨B, 1, none⟩ = some (.int .i64 W) ∧ wd.cell? ⟨B, 2, none⟩ = some (.int .i64 C)
theorem ShapeAt.below {B B' : Nat} {H W C : Int} {w w' : World} (h : ShapeAt B H W C w) (hB : B < B') (hb : Below B' w w') : ShapeAt B H W C w' :=
  ⟨(hb.cell (p := ⟨B, 0, none⟩) hB).trans h.1, (hb.cell (p := ⟨B, 1, none⟩) hB).trans h.2.1, (hb.cell (p := ⟨B, 2, none⟩) hB).trans h.2.2⟩
theorem ShapeAt.new (H W C : Int) (T : TypeId) (w : World) : ShapeAt w.heap.size H W C (w.alloc (.cells #[.int .i64 H, .int .i64 W, .int .i64 C] T)) :=
  ⟨Kit.new_cell _ _ _ _, Kit.new_cell _ _ _ _, Kit.new_cell _ _ _ _⟩
theorem ShapeAt.stores {B B2 : Nat} {H W C : Int} {w : World} (h : ShapeAt B H W C w) (hne : B ≠ B2) (a b d e : Value) :
    ShapeAt B H W C ((((w.setCell ⟨B2, 0, none⟩ a).setCell ⟨B2, 1, none⟩ b).setCell ⟨B2, 2, none⟩ d).setCell ⟨B2, 3, none⟩ e) := by
  have k : ∀ i j (v : Value) (wd : World), (wd.setCell ⟨B2, j, none⟩ v).cell? ⟨B, i, none⟩ = wd.cell? ⟨B, i, none⟩ := fun i j v wd => World.cell?_setCell_other _ _ _ _ (fun e => hne (congrArg Addr.block e).symm)
  unfold ShapeAt
  simp only [k]
  exact h
theorem fill_no (H W C x : Int) (hs : shapeB H W C = false) (w : World) :
    Calls Try.prog 36 #[.agg #[.int .i64 H, .int .i64 W, .int .i64 C], .int .i8 x] w fun e w' => e = .returned (.tuple #[.agg #[.int .i64 0, .int .i64 0, .int .i64 0, .slice none 0 0], .int .i64 5]) ∧ Below w.heap.size w w' := by
  have HS := Lib.hid hs
  clear hs
  go_enter Try.func36, Try.ntmps36
  go_wp2_with (go_at_call 29; ((with_reducible refine (CShape.right_to H W C false HS.out _).mono ?_); (rintro e w1 ⟨rfl, hb⟩; obtain ⟨hc, hf⟩ := Kit.bcell hb; have hz : w.heap.size + 2 ≤ w1.heap.size := (by have := hb.size; simp at this; omega); have HB : Hid (Below w.heap.size w w1) := Lib.hid (Below.trans (((Below.refl _ _).alloc (Nat.le_refl _) _).alloc (by simp) _) (hb.mono (by simp; omega))))))
  refine bodyPost_ret (Kit.results_ct rfl _ _ (w.heap.size + 1) 0 [.int .i64 0, .int .i64 0, .int .i64 0, .slice none 0 0] _ rfl (range_4 (by go_cell) (by go_cell) (by go_cell) (by go_cell)) Try.underlying26 rfl (by kernel_rfl)) rfl ?_
  exact ⟨rfl, ((((HB.out.setCell (p := ⟨w.heap.size + 1, 0, none⟩) (by simp) _).setCell (p := ⟨w.heap.size + 1, 1, none⟩) (by simp) _).setCell (p := ⟨w.heap.size + 1, 2, none⟩) (by simp) _).setCell (p := ⟨w.heap.size + 1, 3, none⟩) (by simp) _)⟩
theorem fill_yes (H W C x : Int) (n : Nat) (hs : shapeB H W C = true) (hn : H * W * C = (n : Int)) (w : World) :
    Calls Try.prog 36 #[.agg #[.int .i64 H, .int .i64 W, .int .i64 C], .int .i8 x] w (Made w H W C n (List.replicate n x) (.int .i64 0)) := by
  have hm : elemsZ H W C = (n : Int) := by rw [elemsZ_yes hs]; exact hn
  have hs2 := hs
  simp only [shapeB, decide_eq_true_eq] at hs2
  obtain ⟨g1, g2, g3, g4, g5, g6, g7⟩ := hs2
  have hpr := prod_bd g1 g2 g3 g4 g5 g6
  have h1 : 1 ≤ n := by omega
  have hl : n ≤ 1000000 := by omega
  have HS := Lib.hid hs
  have HM := Lib.hid hm
  clear hs hn hm hpr g1 g2 g3 g4 g5 g6 g7
  go_enter Try.func36, Try.ntmps36
  go_wp2_with (go_at_call 29; ((with_reducible refine (CShape.right_to H W C true HS.out _).mono ?_); (rintro e w1 ⟨rfl, hb⟩)))
  have HB : Hid (Below w.heap.size w w1) := Lib.hid (Below.trans (((Below.refl _ _).alloc (Nat.le_refl _) _).alloc (by simp) _) (hb.mono (by simp; omega)))
  have hz : w.heap.size + 2 ≤ w1.heap.size := by have := hb.size; simp at this; omega
  have hbox : ShapeAt w.heap.size H W C w1.drew :=
    ((ShapeAt.new H W C 23 w).below (Nat.lt_succ_self _) ((Below.refl _ _).alloc (by simp) (.cells #[.int .i64 0, .int .i64 0, .int .i64 0, .slice none 0 0] 26))).below (by simp; omega) hb.drew
  have HFR : Hid (FreshT (w.heap.size + 1) w1.drew) := Lib.hid ((FreshT.new 26 (w.alloc (.cells #[.int .i64 H, .int .i64 W, .int .i64 C] 23)) (w.heap.size + 1) (by simp)).below (by simp) hb.drew)
  replace HB := Lib.hid HB.out.drew
  have hz : w.heap.size + 2 ≤ w1.drew.heap.size := hz
  clear hb
  refine wp_region_held_drew (S := ShapeAt w.heap.size H W C) (by kernel_rfl) hbox (fun hHeld => ?_)
  clear hbox
  generalize w1.drew = W1 at HFR HB hz hHeld ⊢
  refine wpAnyH_take (i := 0) (oi := ({ dst := some 10, op := Op.load 23 (Operand.tmp 2), type := 23, pos := "tensor.go:35", after := #[], guard := none } : Oper)) (v := ?_) rfl (by kernel_rfl) (by kernel_rfl) (by kernel_rfl) (fun _ _ _ h => h) (Or.inl ⟨by rfl, ?_⟩) (by assumption) ?_
  rotate_left
  · intro wS hSw
    obtain ⟨s1, s2, s3⟩ := hSw
    first
      | (go_simp; done)
      | (go_simp; with_reducible rfl)
  try simp only [Act.put, List.setIfInBounds_toArray, List.set_cons_zero, List.set_cons_succ]
  refine wpAnyH_take (i := 1) (oi := ({ dst := some 11, op := Op.move (Operand.tmp 1), type := 27, pos := "tensor.go:35", after := #[], guard := none } : Oper)) (v := ?_) rfl (by kernel_rfl) (by kernel_rfl) (by kernel_rfl) (fun _ _ _ h => h) (Or.inl ⟨by rfl, ?_⟩) (by assumption) ?_
  rotate_left
  · intro wS hSw
    obtain ⟨s1, s2, s3⟩ := hSw
    first
      | (go_simp; done)
      | (go_simp; with_reducible rfl)
  try simp only [Act.put, List.setIfInBounds_toArray, List.set_cons_zero, List.set_cons_succ]
  refine wpAnyH_take (i := 3) (oi := ({ dst := some 13, op := Op.load 23 (Operand.tmp 2), type := 23, pos := "tensor.go:35", after := #[], guard := none } : Oper)) (v := ?_) rfl (by kernel_rfl) (by kernel_rfl) (by kernel_rfl) (fun _ _ _ h => h) (Or.inl ⟨by rfl, ?_⟩) (by assumption) ?_
  rotate_left
  · intro wS hSw
    obtain ⟨s1, s2, s3⟩ := hSw
    first
      | (go_simp; done)
      | (go_simp; with_reducible rfl)
  try simp only [Act.put, List.setIfInBounds_toArray, List.set_cons_zero, List.set_cons_succ]
  refine wpAnyH_ready (rs := [2, 4]) (by kernel_rfl) (by simp) ?_
  refine AllReadyH.cons (o := ({ dst := some 12, op := Op.buildSlice 24 1 #[(0, Operand.tmp 11)], type := 24, pos := "tensor.go:35", after := #[{ on := 1, ground := Ground.data }], guard := none } : Oper)) rfl (fun K hK => ?_) ?_
  · go_simp
    refine hK.out _ _ ?_ (fun hHeld => ?_)
    · exact (hHeld.below (by omega) ((Below.refl _ _).alloc (Nat.le_refl _) _))
    clear hK K
    try simp only [Act.put, List.setIfInBounds_toArray, List.set_cons_zero, List.set_cons_succ]
    replace HFR := Lib.hid (HFR.out.below (B' := W1.heap.size) (by omega) ((Below.refl _ _).alloc (Nat.le_refl _) (.cells #[.int .i8 x] 27)))
    replace HB := Lib.hid (HB.out.alloc HB.out.size (.cells #[.int .i8 x] 27))
    have HX := Lib.hid (Kit.Rd.new W1 [.int .i8 x] 27 (Nat.lt_succ_self _))
    have hzx : w.heap.size + 2 ≤ W1.heap.size := hz
    replace hz : W1.heap.size + 1 ≤ (W1.alloc (.cells #[.int .i8 x] 27)).heap.size := by simp
    generalize W1.alloc (.cells #[.int .i8 x] 27) = W2 at *
    refine wpAnyH_ready (rs := [4]) (by kernel_rfl) (by simp) ?_
    refine AllReadyH.cons (o := ({ dst := some 14, op := Op.call { callee := Callee.value (Operand.func 30), args := #[Operand.tmp 13], argTypes := #[23] }, type := 3, pos := "tensor.go:35", after := #[{ on := 3, ground := Ground.data }], guard := none } : Oper)) rfl (fun K hK => ?_) (AllReadyH.nil)
    go_simp
    go_at_call 30
    refine (elems_to H W C n HM.out _).mono ?_
    rintro e W3 ⟨rfl, hb⟩
    replace HX := Lib.hid (HX.out.below (hb.mono (by omega)))
    have hS1 := hHeld.below (B' := _) (by omega) hb
    replace HFR := Lib.hid (HFR.out.below (B' := _) (by omega) hb)
    replace HB := Lib.hid (HB.out.trans (hb.mono (by omega)))
    replace hz := Nat.le_trans hz hb.size
    clear hHeld
    clear hb
    dsimp only
    refine hK.out _ _ ?_ (fun hHeld => ?_)
    · exact hS1
    clear hK K
    try simp only [Act.put, List.setIfInBounds_toArray, List.set_cons_zero, List.set_cons_succ]
    refine wpAnyH_ready (rs := [5]) (by kernel_rfl) (by simp) ?_
    refine AllReadyH.cons (o := ({ dst := some 15, op := Op.call { callee := Callee.value (Operand.func 40), args := #[Operand.tmp 12, Operand.tmp 14], argTypes := #[24, 3] }, type := 24, pos := "tensor.go:35", after := #[{ on := 2, ground := Ground.data }, { on := 4, ground := Ground.data }, { on := 4, ground := Ground.chain }], guard := none } : Oper)) rfl (fun K hK => ?_) (AllReadyH.nil)
    go_simp
    go_at_call 40
    refine (repeat_to _ x 1 n h1 hl W3 (B := (W1.heap.size + 1)) (by omega) HX.out).mono ?_
    rintro e w5 ⟨v5, rfl, ho5, hb⟩
    obtain ⟨A2, c2, rfl, _, _, _⟩ := Kit.own_rd ho5
    have HO := Lib.hid (Kit.own_base ho5 (show w.heap.size + 2 ≤ W3.heap.size by omega))
    have hS1 := hHeld.below (B' := _) (by omega) hb
    replace HFR := Lib.hid (HFR.out.below (B' := _) (by omega) hb)
    replace HB := Lib.hid (HB.out.trans (hb.mono (by omega)))
    replace hz := Nat.le_trans hz hb.size
    clear hHeld
    clear hb ho5
    obtain ⟨⟨z0, z1, z2, z3⟩, z4, z5, z6, z7⟩ := HFR.out
    dsimp only
    refine hK.out _ _ ?_ (fun hHeld => ?_)
    · exact hS1
    clear hK K
    try simp only [Act.put, List.setIfInBounds_toArray, List.set_cons_zero, List.set_cons_succ]
    refine wpAnyH_take (i := 6) (oi := ({ dst := some 16, op := Op.build 26 #[(0, Operand.tmp 10), (1, Operand.tmp 15)], type := 26, pos := "tensor.go:35", after := #[{ on := 0, ground := Ground.data }, { on := 5, ground := Ground.data }], guard := none } : Oper)) (v := ?_) rfl (by kernel_rfl) (by kernel_rfl) (by kernel_rfl) (fun _ _ _ h => h) (Or.inl ⟨by rfl, ?_⟩) (by assumption) ?_
    rotate_left
    · intro wS hSw
      first
        | (go_simp; done)
        | (go_simp; with_reducible rfl)
    try simp only [Act.put, List.setIfInBounds_toArray, List.set_cons_zero, List.set_cons_succ]
    refine wpAnyH_ready (rs := [7]) (by kernel_rfl) (by simp) ?_
    refine AllReadyH.cons (o := ({ dst := none, op := Op.store 26 (Operand.tmp 4) (Operand.tmp 16), type := 0, pos := "tensor.go:35", after := #[{ on := 6, ground := Ground.data }, { on := 5, ground := Ground.chain }, { on := 0, ground := Ground.phase }, { on := 1, ground := Ground.phase }, { on := 2, ground := Ground.phase }, { on := 3, ground := Ground.phase }, { on := 4, ground := Ground.phase }, { on := 5, ground := Ground.phase }, { on := 6, ground := Ground.phase }], guard := none } : Oper)) rfl (fun K hK => ?_) (AllReadyH.nil)
    go_simp
    refine hK.out _ _ ?_ (fun hHeld => ?_)
    · exact hHeld.stores (by omega) _ _ _ _
    clear hK K
    try simp only [Act.put, List.setIfInBounds_toArray, List.set_cons_zero, List.set_cons_succ]
    refine wpAnyH_take (i := 8) (oi := ({ dst := some 5, op := Op.assign (Operand.const (Value.int IntKind.i64 0)), type := 34, pos := "tensor.go:35", after := #[{ on := 7, ground := Ground.chain }, { on := 0, ground := Ground.phase }, { on := 1, ground := Ground.phase }, { on := 2, ground := Ground.phase }, { on := 3, ground := Ground.phase }, { on := 4, ground := Ground.phase }, { on := 5, ground := Ground.phase }, { on := 6, ground := Ground.phase }, { on := 7, ground := Ground.phase }], guard := none } : Oper)) (v := ?_) rfl (by kernel_rfl) (by kernel_rfl) (by kernel_rfl) (fun _ _ _ h => h) (Or.inl ⟨by rfl, ?_⟩) (by assumption) ?_
    rotate_left
    · intro wS hSw
      first
        | (go_simp; done)
        | (go_simp; with_reducible rfl)
    try simp only [Act.put, List.setIfInBounds_toArray, List.set_cons_zero, List.set_cons_succ]
    refine wpAnyH_done (by kernel_rfl) ?_ _
    go_wp2_with fail
    refine bodyPost_ret (Kit.results_ct rfl _ _ (w.heap.size + 1) 0 [.int .i64 H, .int .i64 W, .int .i64 C, .slice A2 n c2] _ rfl (range_4 (by go_cell) (by go_cell) (by go_cell) (by go_cell)) Try.underlying26 rfl (by kernel_rfl)) rfl ?_
    refine ⟨_, rfl, Kit.own_base (own_set (own_set (own_set (own_set HO.out _ _ ?_) _ _ ?_) _ _ ?_) _ _ ?_) ?_, ?_⟩
    any_goals (first | omega | (simp; done) | (simp; omega))
    exact ((((HB.out.setCell (p := ⟨w.heap.size + 1, 0, none⟩) (by simp) _).setCell (p := ⟨w.heap.size + 1, 1, none⟩) (by simp) _).setCell (p := ⟨w.heap.size + 1, 2, none⟩) (by simp) _).setCell (p := ⟨w.heap.size + 1, 3, none⟩) (by simp) _)
  refine AllReadyH.cons (o := ({ dst := some 14, op := Op.call { callee := Callee.value (Operand.func 30), args := #[Operand.tmp 13], argTypes := #[23] }, type := 3, pos := "tensor.go:35", after := #[{ on := 3, ground := Ground.data }], guard := none } : Oper)) rfl (fun K hK => ?_) ?_
  · go_simp
    go_at_call 30
    refine (elems_to H W C n HM.out _).mono ?_
    rintro e W2 ⟨rfl, hb⟩
    have hS1 := hHeld.below (B' := _) (by omega) hb
    replace HFR := Lib.hid (HFR.out.below (B' := _) (by omega) hb)
    replace HB := Lib.hid (HB.out.trans (hb.mono (by omega)))
    replace hz := Nat.le_trans hz hb.size
    clear hHeld
    clear hb
    dsimp only
    refine hK.out _ _ ?_ (fun hHeld => ?_)
    · exact hS1
    clear hK K
    try simp only [Act.put, List.setIfInBounds_toArray, List.set_cons_zero, List.set_cons_succ]
    refine wpAnyH_ready (rs := [2]) (by kernel_rfl) (by simp) ?_
    refine AllReadyH.cons (o := ({ dst := some 12, op := Op.buildSlice 24 1 #[(0, Operand.tmp 11)], type := 24, pos := "tensor.go:35", after := #[{ on := 1, ground := Ground.data }], guard := none } : Oper)) rfl (fun K hK => ?_) (AllReadyH.nil)
    go_simp
    refine hK.out _ _ ?_ (fun hHeld => ?_)
    · exact (hHeld.below (by omega) ((Below.refl _ _).alloc (Nat.le_refl _) _))
    clear hK K
    try simp only [Act.put, List.setIfInBounds_toArray, List.set_cons_zero, List.set_cons_succ]
    replace HFR := Lib.hid (HFR.out.below (B' := W2.heap.size) (by omega) ((Below.refl _ _).alloc (Nat.le_refl _) (.cells #[.int .i8 x] 27)))
    replace HB := Lib.hid (HB.out.alloc HB.out.size (.cells #[.int .i8 x] 27))
    have HX := Lib.hid (Kit.Rd.new W2 [.int .i8 x] 27 (Nat.lt_succ_self _))
    have hzx : w.heap.size + 2 ≤ W2.heap.size := hz
    replace hz : W2.heap.size + 1 ≤ (W2.alloc (.cells #[.int .i8 x] 27)).heap.size := by simp
    generalize W2.alloc (.cells #[.int .i8 x] 27) = W3 at *
    refine wpAnyH_ready (rs := [5]) (by kernel_rfl) (by simp) ?_
    refine AllReadyH.cons (o := ({ dst := some 15, op := Op.call { callee := Callee.value (Operand.func 40), args := #[Operand.tmp 12, Operand.tmp 14], argTypes := #[24, 3] }, type := 24, pos := "tensor.go:35", after := #[{ on := 2, ground := Ground.data }, { on := 4, ground := Ground.data }, { on := 4, ground := Ground.chain }], guard := none } : Oper)) rfl (fun K hK => ?_) (AllReadyH.nil)
    go_simp
    go_at_call 40
    refine (repeat_to _ x 1 n h1 hl W3 (B := (W2.heap.size + 1)) (by omega) HX.out).mono ?_
    rintro e w5 ⟨v5, rfl, ho5, hb⟩
    obtain ⟨A2, c2, rfl, _, _, _⟩ := Kit.own_rd ho5
    have HO := Lib.hid (Kit.own_base ho5 (show w.heap.size + 2 ≤ W3.heap.size by omega))
    have hS1 := hHeld.below (B' := _) (by omega) hb
    replace HFR := Lib.hid (HFR.out.below (B' := _) (by omega) hb)
    replace HB := Lib.hid (HB.out.trans (hb.mono (by omega)))
    replace hz := Nat.le_trans hz hb.size
    clear hHeld
    clear hb ho5
    obtain ⟨⟨z0, z1, z2, z3⟩, z4, z5, z6, z7⟩ := HFR.out
    dsimp only
    refine hK.out _ _ ?_ (fun hHeld => ?_)
    · exact hS1
    clear hK K
    try simp only [Act.put, List.setIfInBounds_toArray, List.set_cons_zero, List.set_cons_succ]
    refine wpAnyH_take (i := 6) (oi := ({ dst := some 16, op := Op.build 26 #[(0, Operand.tmp 10), (1, Operand.tmp 15)], type := 26, pos := "tensor.go:35", after := #[{ on := 0, ground := Ground.data }, { on := 5, ground := Ground.data }], guard := none } : Oper)) (v := ?_) rfl (by kernel_rfl) (by kernel_rfl) (by kernel_rfl) (fun _ _ _ h => h) (Or.inl ⟨by rfl, ?_⟩) (by assumption) ?_
    rotate_left
    · intro wS hSw
      first
        | (go_simp; done)
        | (go_simp; with_reducible rfl)
    try simp only [Act.put, List.setIfInBounds_toArray, List.set_cons_zero, List.set_cons_succ]
    refine wpAnyH_ready (rs := [7]) (by kernel_rfl) (by simp) ?_
    refine AllReadyH.cons (o := ({ dst := none, op := Op.store 26 (Operand.tmp 4) (Operand.tmp 16), type := 0, pos := "tensor.go:35", after := #[{ on := 6, ground := Ground.data }, { on := 5, ground := Ground.chain }, { on := 0, ground := Ground.phase }, { on := 1, ground := Ground.phase }, { on := 2, ground := Ground.phase }, { on := 3, ground := Ground.phase }, { on := 4, ground := Ground.phase }, { on := 5, ground := Ground.phase }, { on := 6, ground := Ground.phase }], guard := none } : Oper)) rfl (fun K hK => ?_) (AllReadyH.nil)
    go_simp
    refine hK.out _ _ ?_ (fun hHeld => ?_)
    · exact hHeld.stores (by omega) _ _ _ _
    clear hK K
    try simp only [Act.put, List.setIfInBounds_toArray, List.set_cons_zero, List.set_cons_succ]
    refine wpAnyH_take (i := 8) (oi := ({ dst := some 5, op := Op.assign (Operand.const (Value.int IntKind.i64 0)), type := 34, pos := "tensor.go:35", after := #[{ on := 7, ground := Ground.chain }, { on := 0, ground := Ground.phase }, { on := 1, ground := Ground.phase }, { on := 2, ground := Ground.phase }, { on := 3, ground := Ground.phase }, { on := 4, ground := Ground.phase }, { on := 5, ground := Ground.phase }, { on := 6, ground := Ground.phase }, { on := 7, ground := Ground.phase }], guard := none } : Oper)) (v := ?_) rfl (by kernel_rfl) (by kernel_rfl) (by kernel_rfl) (fun _ _ _ h => h) (Or.inl ⟨by rfl, ?_⟩) (by assumption) ?_
    rotate_left
    · intro wS hSw
      first
        | (go_simp; done)
        | (go_simp; with_reducible rfl)
    try simp only [Act.put, List.setIfInBounds_toArray, List.set_cons_zero, List.set_cons_succ]
    refine wpAnyH_done (by kernel_rfl) ?_ _
    go_wp2_with fail
    refine bodyPost_ret (Kit.results_ct rfl _ _ (w.heap.size + 1) 0 [.int .i64 H, .int .i64 W, .int .i64 C, .slice A2 n c2] _ rfl (range_4 (by go_cell) (by go_cell) (by go_cell) (by go_cell)) Try.underlying26 rfl (by kernel_rfl)) rfl ?_
    refine ⟨_, rfl, Kit.own_base (own_set (own_set (own_set (own_set HO.out _ _ ?_) _ _ ?_) _ _ ?_) _ _ ?_) ?_, ?_⟩
    any_goals (first | omega | (simp; done) | (simp; omega))
    exact ((((HB.out.setCell (p := ⟨w.heap.size + 1, 0, none⟩) (by simp) _).setCell (p := ⟨w.heap.size + 1, 1, none⟩) (by simp) _).setCell (p := ⟨w.heap.size + 1, 2, none⟩) (by simp) _).setCell (p := ⟨w.heap.size + 1, 3, none⟩) (by simp) _)
  exact AllReadyH.nil
end Go.Proofs.Ytpokeklphmfcnaa.CTensor
