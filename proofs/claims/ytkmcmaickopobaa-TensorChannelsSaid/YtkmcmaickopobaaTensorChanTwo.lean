/- Contracts of layer 5: tensor.Channel. -/
import Derived.Test.YtkmcmaickopobaaTensorChan
import Derived.Maps.AppendAt
namespace Go.Proofs.Ytkmcmaickopobaa.CTensor
open Go Go.ChangeShapes Go.WideShapes Go.ChangeAt Go.RowKit Go.Shelf Round
open Plain CSat CShape CSeq
set_option linter.unusedVariables false
attribute [local go_sem] Oper.semAt_some

section
variable {F : Fence} {P : Program}
theorem still_fieldAddr (d : Option Tmp) (T : TypeId) (x : Operand) (i : Nat) (t : TypeId) (p : String) (e : Array Edge) (g : Option (Nat × Bool)) : Still F P { dst := d, op := .fieldAddr T x i, type := t, pos := p, after := e, guard := g } :=
  ⟨(fun c h => by cases h), fun ρ w => ⟨fun f h => by simp [Oper.about] at h, calm_value _ w⟩⟩
theorem still_binOp (d : Option Tmp) (b : BinOp) (T U : TypeId) (x y : Operand) (t : TypeId) (p : String) (e : Array Edge) (g : Option (Nat × Bool)) : Still F P { dst := d, op := .binOp b T x y U, type := t, pos := p, after := e, guard := g } :=
  ⟨(fun c h => by cases h), fun ρ w => ⟨fun f h => by simp [Oper.about] at h, calm_value _ w⟩⟩
end
theorem chan_out (H W C c : Int) (A : Option Addr) (n cap : Nat) (ht : tensB H W C n = false) (w : World) :
    Calls Try.prog 23 #[.agg #[.int .i64 H, .int .i64 W, .int .i64 C, .slice A n cap], .int .i64 c] w fun e w' => e = .returned (.slice none 0 0) ∧ Below w.heap.size w w' := by
  have HT := Lib.hid ht
  clear ht
  go_enter Try.func23, Try.ntmps23
  go_wp2_with (go_at_call 11; with_reducible refine (CTensor.right_to H W C A n cap false HT.out _).mono ?_; rintro e w1 ⟨rfl, hb1⟩; (have HB := Lib.hid ((((Below.refl _ _).alloc (Nat.le_refl _) _).alloc (by simp) _).trans (hb1.mono (by simp; omega)))); clear hb1)
  go_ret
  exact ⟨rfl, HB.out⟩
set_option maxRecDepth 100000 in
set_option maxHeartbeats 4000000 in
theorem chan_in (H W C c : Int) (A : Option Addr) (zs : List Int) (cap : Nat) (hl : zs.length ≤ 1000000) (ht : tensB H W C zs.length = true) (w : World) (hr : Kit.Rd w w.heap.size A (zs.map (.int .i8))) :
    Calls Try.prog 23 #[.agg #[.int .i64 H, .int .i64 W, .int .i64 C, .slice A zs.length cap], .int .i64 c] w (Owned w (chan C c (pairs zs zs.length)).length (I8s (chan C c (pairs zs zs.length)))) := by
  have hC : 1 ≤ C := by
    simp only [tensB, Bool.and_eq_true] at ht
    have := ht.1
    simp only [shapeB, decide_eq_true_eq] at this
    omega
  have hC0 : ¬ C = 0 := by omega
  have HT := Lib.hid ht
  clear ht
  obtain ⟨i0, hi0, hi1, hi2, hi3⟩ := info_parts info_i8
  have hwide : ∀ f, Fence.wide.fn f := fun _ => trivial
  refine (callsIn_wide (n := 5)).1 ?_
  refine callsIn_of_wp_marks Try.func23 rfl trivial ?_ rfl
  simp only [Try.ntmps23, List.size_toArray, List.length_cons, List.length_nil, Nat.reduceAdd, Nat.reduceSub, Array.replicate_succ, Array.replicate_zero, List.push_toArray, List.append_toArray, List.nil_append, List.cons_append]
  have hbt : BoxAt w.heap.size H W C A zs.length cap ((w.alloc (.cells #[.int .i64 H, .int .i64 W, .int .i64 C, .slice A zs.length cap] 28)).alloc (.cells #[.int .i64 c] 3)) := BoxAt.below (w := w.alloc (.cells #[.int .i64 H, .int .i64 W, .int .i64 C, .slice A zs.length cap] 28)) (BoxAt.new H W C A zs.length cap 28 w) (Nat.lt_succ_self _) ((Below.refl _ _).alloc (by simp) _)
  have hbc := Kit.new_cell (w.alloc (.cells #[.int .i64 H, .int .i64 W, .int .i64 C, .slice A zs.length cap] 28)) #[.int .i64 c] 3 0
  rw [World.size_alloc] at hbc
  have hB0 : Below w.heap.size w ((w.alloc (.cells #[.int .i64 H, .int .i64 W, .int .i64 C, .slice A zs.length cap] 28)).alloc (.cells #[.int .i64 c] 3)) := ((Below.refl _ _).alloc (Nat.le_refl _) _).alloc (by simp) _
  have HBT := Lib.hid hbt
  have HBC := Lib.hid hbc
  have HB0 := Lib.hid hB0
  clear hbt hbc hB0
  gi_wp2_with (first
    | (gi_at_call 11
       refine (callsIn_wide.2 (CTensor.right_to H W C A zs.length cap true HT.out _)).mono ?_
       rintro e w1 ⟨rfl, hb1⟩
       have hbt1 := HBT.out.below (by simp; omega) hb1
       have hbc1 := (hb1.cell (p := ⟨w.heap.size + 1, 0, none⟩) (by simp)).trans HBC.out
       have HB1 := Lib.hid (HB0.out.trans (hb1.mono (by simp; omega)))
       have hz1 : w.heap.size + 2 ≤ w1.heap.size := (by have := hb1.size; simp at this; omega)
       have HBT1 := Lib.hid hbt1
       have HBC1 := Lib.hid hbc1
       clear hbc1 hb1
       obtain ⟨s1, s2, s3, s4⟩ := hbt1
       have hg1 : w.heap.size < w1.heap.size := (by omega)
       have hg2 : w.heap.size + 1 < w1.heap.size := (by omega))
    | (gi_at_call 32; refine (numbers_in Fence.wide (5 - 1) trivial rfl _ _ _ _).mono ?_; rintro e w' ⟨rfl, rfl⟩))
  have bO := Boxed.new w1 24 (.slice none 0 0)
  have bN := Boxed.new (w1.alloc (.cells #[.slice none 0 0] 24)) 24 (.slice A zs.length cap)
  rw [World.size_alloc] at bN
  have hBr : Below w1.heap.size w1 ((w1.alloc (.cells #[.slice none 0 0] 24)).alloc (.cells #[.slice A zs.length cap] 24)) := ((Below.refl _ _).alloc (Nat.le_refl _) _).alloc (by simp) _
  refine wpIn_rangeFunc_ownG (F := Fence.wide) (n := 5) rfl (by omega) (gf := 38) (lb := #[.pointer (some ⟨w1.heap.size + 1, 0, none⟩)]) rfl trivial (enters_of Try.func38 (by kernel_rfl) rfl)
    (each_stops Fence.wide (5 - 1) trivial rfl (by omega) (w1.heap.size + 1) w1.heap.size A cap zs (by omega) _ (by simp) (by simp; omega) bN.cell (((hr.below HB1.out).more (by omega)).below hBr)) belowK_t (belowK_b (by simp; omega)) (Below.refl _ _) (fun _ => rfl)
    (fun pre W => (∃ v, Boxed W w1.heap.size 24 v ∧ W.ownsRow w1.heap.size 25 1 v (chan C c pre).length (I8s (chan C c pre)) ∧ True) ∧ Below w1.heap.size w1 W)
    (fun _ _ _ => False)
    (OwnFrom.and (Own.from (holdsRow_own w1.heap.size w1.heap.size 24 25 1 (fun pre => (chan C c pre).length) (fun pre => I8s (chan C c pre)) (fun _ _ => True)) _) (ownFrom_below (Nat.le_refl _) (by simp; omega)))
    (fun _ _ _ _ _ hs _ _ => hs)
    ⟨⟨_, bO.alloc _, World.ownsRow_nil _ _ _ _, trivial⟩, hBr⟩
    (fun x => { tmps := #[.agg #[.int .i64 H, .int .i64 W, .int .i64 C, .slice A zs.length cap], .int .i64 c, .pointer (some ⟨w.heap.size, 0, none⟩), .pointer (some ⟨w.heap.size + 1, 0, none⟩), .slice none 0 0, .pointer (some ⟨w1.heap.size, 0, none⟩), .int .i64 (x.1 : Int), .int .i8 x.2, .agg #[.int .i64 H, .int .i64 W, .int .i64 C, .slice A zs.length cap], .bool true, .bool false, .pointer (some ⟨w.heap.size, 3, none⟩), .slice A zs.length cap, .func (.func 38) #[] #[.pointer (some ⟨w1.heap.size + 1, 0, none⟩)], .int .i64 (x.1 : Int), .int .i8 x.2, undef, undef, undef, undef, undef, undef, undef, undef, undef, undef, undef, undef], defers := [] }) ?assign ?body ?done ?stop
  case assign =>
    intro l x W K hK
    gi_wp2
    exact hK
  case body =>
    rintro l pre x W ⟨⟨v, hv, hrow, -⟩, hB⟩ hlt
    have hpl : (chan C c pre).length ≤ 1000000 := by have := chan_len C c pre; omega
    obtain ⟨t1, t2, t3, t4⟩ := HBT1.out.below hg1 hB
    have t5 : W.cell? ⟨w.heap.size + 1, 0, none⟩ = some (.int .i64 c) := (hB.cell (p := ⟨w.heap.size + 1, 0, none⟩) hg2).trans HBC1.out
    have hx0 : (0 : Int) ≤ (x.1 : Int) := by omega
    obtain ⟨r, hrm⟩ : ∃ r, (x.1 : Int) % C = r := ⟨_, rfl⟩
    have htm : (x.1 : Int).tmod C = r := by rw [Int.tmod_eq_emod_of_nonneg hx0]; exact hrm
    have HRM := Lib.hid hrm
    clear hrm s1 s2 s3 s4 hBr bO bN hr hl
    by_cases he : r = c
    · have hee : (r == c) = true := by simpa using he
      have HNX := Lib.hid (chan_hit (C := C) (c := c) (l := pre) (k := x.1) (z := x.2) (by rw [HRM.out, he]))
      clear he
      gi_wp2
      refine region_round (by kernel_rfl) (still_of_list (by simp only [List.forall_mem_cons]; exact ⟨still_move .., still_fieldAddr .., still_fieldAddr .., still_load .., still_binOp .., still_load .., still_binOp .., fun _ h => by cases h⟩)) ?_
      refine wpAny_take (i := 0) (oi := ({ dst := some 16, op := Op.move (Operand.tmp 6), type := 3, pos := "tensor.go:100", after := #[], guard := none } : Oper)) (v := ?_) rfl (by kernel_rfl) (by kernel_rfl) (by kernel_rfl) (fun _ _ _ h => h) (Or.inl ⟨by rfl, ?_⟩) ?_
      rotate_left
      · intro wS
        first
          | (go_simp; done)
          | (go_simp; with_reducible rfl)
      try simp only [Act.put, List.setIfInBounds_toArray, List.set_cons_zero, List.set_cons_succ]
      refine wpAny_take (i := 1) (oi := ({ dst := some 17, op := Op.fieldAddr 28 (Operand.tmp 2) 0, type := 0, pos := "tensor.go:100", after := #[], guard := none } : Oper)) (v := ?_) rfl (by kernel_rfl) (by kernel_rfl) (by kernel_rfl) (fun _ _ _ h => h) (Or.inl ⟨by rfl, ?_⟩) ?_
      rotate_left
      · intro wS
        first
          | (go_simp; done)
          | (go_simp; with_reducible rfl)
      try simp only [Act.put, List.setIfInBounds_toArray, List.set_cons_zero, List.set_cons_succ]
      refine wpAny_take (i := 2) (oi := ({ dst := some 18, op := Op.fieldAddr 23 (Operand.tmp 17) 2, type := 0, pos := "tensor.go:100", after := #[{ on := 1, ground := Ground.data }], guard := none } : Oper)) (v := ?_) rfl (by kernel_rfl) (by kernel_rfl) (by kernel_rfl) (fun _ _ _ h => h) (Or.inl ⟨by rfl, ?_⟩) ?_
      rotate_left
      · intro wS
        first
          | (go_simp; done)
          | (go_simp; with_reducible rfl)
      try simp only [Act.put, List.setIfInBounds_toArray, List.set_cons_zero, List.set_cons_succ]
      refine wpAny_ready (rs := [3, 5]) (by kernel_rfl) (by simp) ?_
      refine AllReady.cons (o := ({ dst := some 19, op := Op.load 3 (Operand.tmp 18), type := 3, pos := "tensor.go:100", after := #[{ on := 2, ground := Ground.data }], guard := none } : Oper)) rfl (fun K hK => ?_) ?_
      · go_simp
        refine hK _ _ ?_
        clear hK K
        try simp only [Act.put, List.setIfInBounds_toArray, List.set_cons_zero, List.set_cons_succ]
        refine wpAny_take (i := 4) (oi := ({ dst := some 20, op := Op.binOp BinOp.rem 3 (Operand.tmp 16) (Operand.tmp 19) 3, type := 3, pos := "tensor.go:100", after := #[{ on := 0, ground := Ground.data }, { on := 3, ground := Ground.data }], guard := none } : Oper)) (v := ?_) rfl (by kernel_rfl) (by kernel_rfl) (by kernel_rfl) (fun _ _ _ h => h) (Or.inl ⟨by rfl, ?_⟩) ?_
        rotate_left
        · intro wS
          first
            | (go_simp; done)
            | (go_simp; with_reducible rfl)
        try simp only [Act.put, List.setIfInBounds_toArray, List.set_cons_zero, List.set_cons_succ]
        refine wpAny_ready (rs := [5]) (by kernel_rfl) (by simp) ?_
        refine AllReady.cons (o := ({ dst := some 21, op := Op.load 3 (Operand.tmp 3), type := 3, pos := "tensor.go:100", after := #[], guard := none } : Oper)) rfl (fun K hK => ?_) (fun j hj => by cases hj)
        go_simp
        refine hK _ _ ?_
        clear hK K
        try simp only [Act.put, List.setIfInBounds_toArray, List.set_cons_zero, List.set_cons_succ]
        refine wpAny_take (i := 6) (oi := ({ dst := some 22, op := Op.binOp BinOp.eql 3 (Operand.tmp 20) (Operand.tmp 21) 3, type := 4, pos := "tensor.go:100", after := #[{ on := 4, ground := Ground.data }, { on := 5, ground := Ground.data }], guard := none } : Oper)) (v := ?_) rfl (by kernel_rfl) (by kernel_rfl) (by kernel_rfl) (fun _ _ _ h => h) (Or.inl ⟨by rfl, ?_⟩) ?_
        rotate_left
        · intro wS
          first
            | (go_simp; done)
            | (go_simp; with_reducible rfl)
        try simp only [Act.put, List.setIfInBounds_toArray, List.set_cons_zero, List.set_cons_succ]
        refine wpAny_done (by kernel_rfl) ?_ _
        simp only [Norm]
        have hvd : Boxed W.drew w1.heap.size 24 v := hv
        have hrd : W.drew.ownsRow w1.heap.size 25 1 v (chan C c pre).length (I8s (chan C c pre)) := hrow
        have hBd := hB.drew
        have hKd := KeepsOthers.drew W
        have hbb := (Below.refl w1.heap.size W).drew
        clear hv hrow hB t1 t2 t3 t4 t5
        generalize W.drew = W2 at hvd hrd hBd hKd hbb ⊢
        have hcv := hvd.cell
        gi_wp2_with (gi_at_builtin; refine wpListIn_append_own _ rfl _ _ 24 rfl w1.heap.size 25 i0 (.int .i8 0) 1 1 Try.underlying24 hi0 hi1 hi2 hi3 rfl (by decide) _ _ _ rfl (hrd.alloc _) ⟨W2.heap.size, 0, none⟩ 1 1 [.int .i8 x.2] rfl rfl (cell_one_new _ _ _) (by simp [Value.oneCell']) (by unfold maxLen; omega) (by omega) (by have := hBd.size; simp; omega) ?_; intro v' w3 hown' hgrow _; obtain ⟨g', cap', rfl⟩ := ownsRow_succ hown'; obtain ⟨hv1, hv2, hr2, hk2, hb2⟩ := hvd.appended (by decide) hrd hBd.size (Nat.le_refl _) hown' hgrow; have hc1 := hv1.cell; have hf1 := hv1.frozen)
        exact ⟨(hKd.trans hk2).from _, hbb.trans hb2, ⟨_, hv2, by rw [HNX.out]; simpa [I8s] using hr2, trivial⟩, hBd.trans hb2⟩
      refine AllReady.cons (o := ({ dst := some 21, op := Op.load 3 (Operand.tmp 3), type := 3, pos := "tensor.go:100", after := #[], guard := none } : Oper)) rfl (fun K hK => ?_) ?_
      · go_simp
        refine hK _ _ ?_
        clear hK K
        try simp only [Act.put, List.setIfInBounds_toArray, List.set_cons_zero, List.set_cons_succ]
        refine wpAny_ready (rs := [3]) (by kernel_rfl) (by simp) ?_
        refine AllReady.cons (o := ({ dst := some 19, op := Op.load 3 (Operand.tmp 18), type := 3, pos := "tensor.go:100", after := #[{ on := 2, ground := Ground.data }], guard := none } : Oper)) rfl (fun K hK => ?_) (fun j hj => by cases hj)
        go_simp
        refine hK _ _ ?_
        clear hK K
        try simp only [Act.put, List.setIfInBounds_toArray, List.set_cons_zero, List.set_cons_succ]
        refine wpAny_take (i := 4) (oi := ({ dst := some 20, op := Op.binOp BinOp.rem 3 (Operand.tmp 16) (Operand.tmp 19) 3, type := 3, pos := "tensor.go:100", after := #[{ on := 0, ground := Ground.data }, { on := 3, ground := Ground.data }], guard := none } : Oper)) (v := ?_) rfl (by kernel_rfl) (by kernel_rfl) (by kernel_rfl) (fun _ _ _ h => h) (Or.inl ⟨by rfl, ?_⟩) ?_
        rotate_left
        · intro wS
          first
            | (go_simp; done)
            | (go_simp; with_reducible rfl)
        try simp only [Act.put, List.setIfInBounds_toArray, List.set_cons_zero, List.set_cons_succ]
        refine wpAny_take (i := 6) (oi := ({ dst := some 22, op := Op.binOp BinOp.eql 3 (Operand.tmp 20) (Operand.tmp 21) 3, type := 4, pos := "tensor.go:100", after := #[{ on := 4, ground := Ground.data }, { on := 5, ground := Ground.data }], guard := none } : Oper)) (v := ?_) rfl (by kernel_rfl) (by kernel_rfl) (by kernel_rfl) (fun _ _ _ h => h) (Or.inl ⟨by rfl, ?_⟩) ?_
        rotate_left
        · intro wS
          first
            | (go_simp; done)
            | (go_simp; with_reducible rfl)
        try simp only [Act.put, List.setIfInBounds_toArray, List.set_cons_zero, List.set_cons_succ]
        refine wpAny_done (by kernel_rfl) ?_ _
        simp only [Norm]
        have hvd : Boxed W.drew w1.heap.size 24 v := hv
        have hrd : W.drew.ownsRow w1.heap.size 25 1 v (chan C c pre).length (I8s (chan C c pre)) := hrow
        have hBd := hB.drew
        have hKd := KeepsOthers.drew W
        have hbb := (Below.refl w1.heap.size W).drew
        clear hv hrow hB t1 t2 t3 t4 t5
        generalize W.drew = W2 at hvd hrd hBd hKd hbb ⊢
        have hcv := hvd.cell
        gi_wp2_with (gi_at_builtin; refine wpListIn_append_own _ rfl _ _ 24 rfl w1.heap.size 25 i0 (.int .i8 0) 1 1 Try.underlying24 hi0 hi1 hi2 hi3 rfl (by decide) _ _ _ rfl (hrd.alloc _) ⟨W2.heap.size, 0, none⟩ 1 1 [.int .i8 x.2] rfl rfl (cell_one_new _ _ _) (by simp [Value.oneCell']) (by unfold maxLen; omega) (by omega) (by have := hBd.size; simp; omega) ?_; intro v' w3 hown' hgrow _; obtain ⟨g', cap', rfl⟩ := ownsRow_succ hown'; obtain ⟨hv1, hv2, hr2, hk2, hb2⟩ := hvd.appended (by decide) hrd hBd.size (Nat.le_refl _) hown' hgrow; have hc1 := hv1.cell; have hf1 := hv1.frozen)
        exact ⟨(hKd.trans hk2).from _, hbb.trans hb2, ⟨_, hv2, by rw [HNX.out]; simpa [I8s] using hr2, trivial⟩, hBd.trans hb2⟩
      exact fun j hj => by cases hj
    · have hee : (r == c) = false := by simpa using he
      have HNX := Lib.hid (chan_miss (C := C) (c := c) (l := pre) (k := x.1) (z := x.2) (by rw [HRM.out]; exact he))
      clear he
      gi_wp2
      refine region_round (by kernel_rfl) (still_of_list (by simp only [List.forall_mem_cons]; exact ⟨still_move .., still_fieldAddr .., still_fieldAddr .., still_load .., still_binOp .., still_load .., still_binOp .., fun _ h => by cases h⟩)) ?_
      refine wpAny_take (i := 0) (oi := ({ dst := some 16, op := Op.move (Operand.tmp 6), type := 3, pos := "tensor.go:100", after := #[], guard := none } : Oper)) (v := ?_) rfl (by kernel_rfl) (by kernel_rfl) (by kernel_rfl) (fun _ _ _ h => h) (Or.inl ⟨by rfl, ?_⟩) ?_
      rotate_left
      · intro wS
        first
          | (go_simp; done)
          | (go_simp; with_reducible rfl)
      try simp only [Act.put, List.setIfInBounds_toArray, List.set_cons_zero, List.set_cons_succ]
      refine wpAny_take (i := 1) (oi := ({ dst := some 17, op := Op.fieldAddr 28 (Operand.tmp 2) 0, type := 0, pos := "tensor.go:100", after := #[], guard := none } : Oper)) (v := ?_) rfl (by kernel_rfl) (by kernel_rfl) (by kernel_rfl) (fun _ _ _ h => h) (Or.inl ⟨by rfl, ?_⟩) ?_
      rotate_left
      · intro wS
        first
          | (go_simp; done)
          | (go_simp; with_reducible rfl)
      try simp only [Act.put, List.setIfInBounds_toArray, List.set_cons_zero, List.set_cons_succ]
      refine wpAny_take (i := 2) (oi := ({ dst := some 18, op := Op.fieldAddr 23 (Operand.tmp 17) 2, type := 0, pos := "tensor.go:100", after := #[{ on := 1, ground := Ground.data }], guard := none } : Oper)) (v := ?_) rfl (by kernel_rfl) (by kernel_rfl) (by kernel_rfl) (fun _ _ _ h => h) (Or.inl ⟨by rfl, ?_⟩) ?_
      rotate_left
      · intro wS
        first
          | (go_simp; done)
          | (go_simp; with_reducible rfl)
      try simp only [Act.put, List.setIfInBounds_toArray, List.set_cons_zero, List.set_cons_succ]
      refine wpAny_ready (rs := [3, 5]) (by kernel_rfl) (by simp) ?_
      refine AllReady.cons (o := ({ dst := some 19, op := Op.load 3 (Operand.tmp 18), type := 3, pos := "tensor.go:100", after := #[{ on := 2, ground := Ground.data }], guard := none } : Oper)) rfl (fun K hK => ?_) ?_
      · go_simp
        refine hK _ _ ?_
        clear hK K
        try simp only [Act.put, List.setIfInBounds_toArray, List.set_cons_zero, List.set_cons_succ]
        refine wpAny_take (i := 4) (oi := ({ dst := some 20, op := Op.binOp BinOp.rem 3 (Operand.tmp 16) (Operand.tmp 19) 3, type := 3, pos := "tensor.go:100", after := #[{ on := 0, ground := Ground.data }, { on := 3, ground := Ground.data }], guard := none } : Oper)) (v := ?_) rfl (by kernel_rfl) (by kernel_rfl) (by kernel_rfl) (fun _ _ _ h => h) (Or.inl ⟨by rfl, ?_⟩) ?_
        rotate_left
        · intro wS
          first
            | (go_simp; done)
            | (go_simp; with_reducible rfl)
        try simp only [Act.put, List.setIfInBounds_toArray, List.set_cons_zero, List.set_cons_succ]
        refine wpAny_ready (rs := [5]) (by kernel_rfl) (by simp) ?_
        refine AllReady.cons (o := ({ dst := some 21, op := Op.load 3 (Operand.tmp 3), type := 3, pos := "tensor.go:100", after := #[], guard := none } : Oper)) rfl (fun K hK => ?_) (fun j hj => by cases hj)
        go_simp
        refine hK _ _ ?_
        clear hK K
        try simp only [Act.put, List.setIfInBounds_toArray, List.set_cons_zero, List.set_cons_succ]
        refine wpAny_take (i := 6) (oi := ({ dst := some 22, op := Op.binOp BinOp.eql 3 (Operand.tmp 20) (Operand.tmp 21) 3, type := 4, pos := "tensor.go:100", after := #[{ on := 4, ground := Ground.data }, { on := 5, ground := Ground.data }], guard := none } : Oper)) (v := ?_) rfl (by kernel_rfl) (by kernel_rfl) (by kernel_rfl) (fun _ _ _ h => h) (Or.inl ⟨by rfl, ?_⟩) ?_
        rotate_left
        · intro wS
          first
            | (go_simp; done)
            | (go_simp; with_reducible rfl)
        try simp only [Act.put, List.setIfInBounds_toArray, List.set_cons_zero, List.set_cons_succ]
        refine wpAny_done (by kernel_rfl) ?_ _
        simp only [Norm]
        gi_wp2
        exact ⟨(KeepsOthers.drew W).from _, (Below.refl _ W).drew, ⟨v, hv, by rw [HNX.out]; exact hrow, trivial⟩, hB.drew⟩
      refine AllReady.cons (o := ({ dst := some 21, op := Op.load 3 (Operand.tmp 3), type := 3, pos := "tensor.go:100", after := #[], guard := none } : Oper)) rfl (fun K hK => ?_) ?_
      · go_simp
        refine hK _ _ ?_
        clear hK K
        try simp only [Act.put, List.setIfInBounds_toArray, List.set_cons_zero, List.set_cons_succ]
        refine wpAny_ready (rs := [3]) (by kernel_rfl) (by simp) ?_
        refine AllReady.cons (o := ({ dst := some 19, op := Op.load 3 (Operand.tmp 18), type := 3, pos := "tensor.go:100", after := #[{ on := 2, ground := Ground.data }], guard := none } : Oper)) rfl (fun K hK => ?_) (fun j hj => by cases hj)
        go_simp
        refine hK _ _ ?_
        clear hK K
        try simp only [Act.put, List.setIfInBounds_toArray, List.set_cons_zero, List.set_cons_succ]
        refine wpAny_take (i := 4) (oi := ({ dst := some 20, op := Op.binOp BinOp.rem 3 (Operand.tmp 16) (Operand.tmp 19) 3, type := 3, pos := "tensor.go:100", after := #[{ on := 0, ground := Ground.data }, { on := 3, ground := Ground.data }], guard := none } : Oper)) (v := ?_) rfl (by kernel_rfl) (by kernel_rfl) (by kernel_rfl) (fun _ _ _ h => h) (Or.inl ⟨by rfl, ?_⟩) ?_
        rotate_left
        · intro wS
          first
            | (go_simp; done)
            | (go_simp; with_reducible rfl)
        try simp only [Act.put, List.setIfInBounds_toArray, List.set_cons_zero, List.set_cons_succ]
        refine wpAny_take (i := 6) (oi := ({ dst := some 22, op := Op.binOp BinOp.eql 3 (Operand.tmp 20) (Operand.tmp 21) 3, type := 4, pos := "tensor.go:100", after := #[{ on := 4, ground := Ground.data }, { on := 5, ground := Ground.data }], guard := none } : Oper)) (v := ?_) rfl (by kernel_rfl) (by kernel_rfl) (by kernel_rfl) (fun _ _ _ h => h) (Or.inl ⟨by rfl, ?_⟩) ?_
        rotate_left
        · intro wS
          first
            | (go_simp; done)
            | (go_simp; with_reducible rfl)
        try simp only [Act.put, List.setIfInBounds_toArray, List.set_cons_zero, List.set_cons_succ]
        refine wpAny_done (by kernel_rfl) ?_ _
        simp only [Norm]
        gi_wp2
        exact ⟨(KeepsOthers.drew W).from _, (Below.refl _ W).drew, ⟨v, hv, by rw [HNX.out]; exact hrow, trivial⟩, hB.drew⟩
      exact fun j hj => by cases hj
  case done =>
    rintro D ys W hD rfl ⟨⟨v, hv, hrow, -⟩, hB⟩ hK
    have hc := hv.cell
    obtain ⟨A2, c2, rfl, -, -, -⟩ := Kit.own_rd hrow
    gi_wp2
    refine ⟨by simp, .inl ⟨_, _, rfl, run_takeDeferred hK, ?_⟩⟩
    exact ⟨_, results_tmp rfl _ _ _, _, rfl, Kit.own_base (ownsRow_putObj hrow _ hK rfl) (by omega), HB1.out.trans ((hB.trans (belowK_b (w := w1) (Nat.le_refl _) W D _ _ (by simp at hD; omega) hK rfl rfl)).mono (by omega))⟩
  case stop =>
    rintro D c pre W _ _ h _
    exact h.elim
end Go.Proofs.Ytkmcmaickopobaa.CTensor
