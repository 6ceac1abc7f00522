/- Layer 24 (span), the code: what a scale makes of a range. -/
import Derived.Test.YtaoadgolplnedaaSpanRefTwo
import Derived.Test.YtaoadgolplnedaaSpanWide
import Derived.Test.YtaoadgolplnedaaFix
import Derived.Deep.CutRange
namespace Go.Proofs.Ytaoadgolplnedaa.CSpan
open Go Go.ChangeShapes Go.WideShapes Go.ChangeAt Go.RowKit Go.Deep
open Plain CSat CFix CShape CTensor CConv
set_option linter.unusedVariables false

set_option maxRecDepth 100000 in
set_option maxHeartbeats 2000000 in
theorem chld_to (a m s z lo hi t : Int) (hm1 : -2147483648 ≤ m) (hm2 : m ≤ 2147483647) (hz1 : -128 ≤ z) (hz2 : z ≤ 127) (hl1 : -128 ≤ lo) (hl2 : lo ≤ 127) (hh1 : -128 ≤ hi) (hh2 : hi ≤ 127) (ht : heldZ (c32 a) m s z lo hi = t) (w : World) :
    Calls Try.prog 19 #[.int .i64 a, .agg #[.int .i32 m, .int .i64 s, .int .i8 z], .int .i8 lo, .int .i8 hi] w fun e w' => e = .returned (.int .i8 t) ∧ Below w.heap.size w w' := by
  obtain ⟨a1, a2⟩ := c32_bd a
  obtain ⟨ma, hma⟩ : ∃ x, (if a < -2147483648 then -2147483648 else a) = x := ⟨_, rfl⟩
  have hca : (if 2147483647 < ma then 2147483647 else ma) = c32 a := by rw [← hma, max_ite, min_ite]; rfl
  generalize c32 a = ca at *
  have e1 : IntKind.i32.wrap ca = ca := IntWalk.i32_in _ (by omega)
  have c1 := fun (w : World) => held ca m s z lo hi a1 a2 hm1 hm2 hz1 hz2 hl1 hl2 hh1 hh2 w
  rw [ht] at c1
  have C1 := Lib.hid c1
  have hal : Below w.heap.size w (w.alloc (.cells #[.int .i32 m, .int .i64 s, .int .i8 z] 26)) := (Below.refl _ _).alloc (Nat.le_refl _) _
  have HAL := Lib.hid hal
  clear ht c1 hal
  go_enter Try.func19, Try.ntmps19
  go_wp2_with (go_at_call 29; (refine (C1.out _).mono ?_); rintro e w1 ⟨rfl, hb⟩)
  go_ret
  exact ⟨rfl, HAL.out.trans (hb.mono HAL.out.size)⟩
/-- the boxes of a range and of a scale. -/
def AftAt (g : Nat) (a b m s z : Int) (w : World) : Prop :=
  (w.cell? ⟨g, 0, none⟩ = some (.int .i64 a) ∧ w.cell? ⟨g, 1, none⟩ = some (.int .i64 b)) ∧ (w.cell? ⟨g + 1, 0, none⟩ = some (.int .i32 m) ∧ w.cell? ⟨g + 1, 1, none⟩ = some (.int .i64 s) ∧ w.cell? ⟨g + 1, 2, none⟩ = some (.int .i8 z))
theorem AftAt.below {g : Nat} {a b m s z : Int} {w w' : World} (h : AftAt g a b m s z w) {B : Nat} (hB : g + 1 < B) (hb : Below B w w') : AftAt g a b m s z w' := by
  obtain ⟨⟨h1, h2⟩, h3, h4, h5⟩ := h
  exact ⟨⟨(hb.cell (p := ⟨g, 0, none⟩) (by show g < B; omega)).trans h1, (hb.cell (p := ⟨g, 1, none⟩) (by show g < B; omega)).trans h2⟩, (hb.cell (p := ⟨g + 1, 0, none⟩) hB).trans h3, (hb.cell (p := ⟨g + 1, 1, none⟩) hB).trans h4, (hb.cell (p := ⟨g + 1, 2, none⟩) hB).trans h5⟩
theorem AftAt.new (a b m s z : Int) (w : World) : AftAt w.heap.size a b m s z ((w.alloc (.cells #[.int .i64 a, .int .i64 b] 35)).alloc (.cells #[.int .i32 m, .int .i64 s, .int .i8 z] 26)) := by
  have k0 : ∀ j, (w.alloc (.cells #[.int .i64 a, .int .i64 b] 35)).cell? ⟨w.heap.size, j, none⟩ = (#[.int .i64 a, .int .i64 b] : Array Value)[j]? := fun j => Kit.new_cell _ _ _ _
  have s1 : (w.alloc (.cells #[.int .i64 a, .int .i64 b] 35)).heap.size = w.heap.size + 1 := by simp
  have k1 : ∀ j, ((w.alloc (.cells #[.int .i64 a, .int .i64 b] 35)).alloc (.cells #[.int .i32 m, .int .i64 s, .int .i8 z] 26)).cell? ⟨w.heap.size + 1, j, none⟩ = (#[.int .i32 m, .int .i64 s, .int .i8 z] : Array Value)[j]? := fun j => by
    rw [← s1]; exact Kit.new_cell _ _ _ _
  exact ⟨⟨(World.cell?_alloc_lt _ _ _ (by simp)).trans (k0 0), (World.cell?_alloc_lt _ _ _ (by simp)).trans (k0 1)⟩, k1 0, k1 1, k1 2⟩
set_option maxRecDepth 100000 in
set_option maxHeartbeats 4000000 in
theorem cafter_to (a b m s z lo hi : Int) (ha1 : -9223372036854775808 ≤ a) (ha2 : a ≤ 9223372036854775807) (hb1 : -9223372036854775808 ≤ b) (hb2 : b ≤ 9223372036854775807) (hm1 : -2147483648 ≤ m) (hm2 : m ≤ 2147483647) (hz1 : -128 ≤ z) (hz2 : z ≤ 127) (hl1 : -128 ≤ lo) (hl2 : lo ≤ 127) (hh1 : -128 ≤ hi) (hh2 : hi ≤ 127) (w : World) :
    Calls Try.prog 9 #[.agg #[.int .i64 a, .int .i64 b], .agg #[.int .i32 m, .int .i64 s, .int .i8 z], .int .i8 lo, .int .i8 hi] w fun e w' =>
      e = .returned (.tuple #[.int .i8 (min (heldZ (c32 a) m s z lo hi) (heldZ (c32 b) m s z lo hi)), .int .i8 (max (heldZ (c32 a) m s z lo hi) (heldZ (c32 b) m s z lo hi))]) ∧ Below w.heap.size w w' := by
  obtain ⟨x, hx⟩ : ∃ x, heldZ (c32 a) m s z lo hi = x := ⟨_, rfl⟩
  obtain ⟨y, hy⟩ : ∃ y, heldZ (c32 b) m s z lo hi = y := ⟨_, rfl⟩
  have k1 := min_ite x y
  have k2 := max_ite x y
  have C1 := Lib.hid (fun (w : World) => chld_to a m s z lo hi x hm1 hm2 hz1 hz2 hl1 hl2 hh1 hh2 hx w)
  have C2 := Lib.hid (fun (w : World) => chld_to b m s z lo hi y hm1 hm2 hz1 hz2 hl1 hl2 hh1 hh2 hy w)
  rw [hx, hy]
  generalize min x y = mn at *
  generalize max x y = mx at *
  have TN := Lib.hid (AftAt.new a b m s z w)
  have HBW := Lib.hid (((Below.refl w.heap.size w).alloc (Nat.le_refl _) (.cells #[.int .i64 a, .int .i64 b] 35)).alloc (by simp) (.cells #[.int .i32 m, .int .i64 s, .int .i8 z] 26))
  have yTN : w.heap.size + 1 < ((w.alloc (.cells #[.int .i64 a, .int .i64 b] 35)).alloc (.cells #[.int .i32 m, .int .i64 s, .int .i8 z] 26)).heap.size := by simp
  have HY := Lib.hid yTN
  clear hx hy yTN
  go_enter Try.func9, Try.ntmps9
  go_upto_region 1 with fail
  generalize (w.alloc (.cells #[.int .i64 a, .int .i64 b] 35)).alloc (.cells #[.int .i32 m, .int .i64 s, .int .i8 z] 26) = W0 at TN HBW HY ⊢
  refine wp_region_held_drew (S := AftAt w.heap.size a b m s z) (by kernel_rfl) TN.out (fun hHeld => ?_)
  replace HBW := Lib.hid HBW.out.drew
  replace HY : Hid (w.heap.size + 1 < W0.drew.heap.size) := Lib.hid HY.out
  clear TN
  generalize W0.drew = W1 at HBW HY hHeld ⊢
  refine wpAnyH_take (i := 0) (oi := ({ dst := some 12, op := Op.fieldAddr 35 (Operand.tmp 4) 0, type := 0, pos := "span.go:85", after := #[], guard := none } : Oper)) (v := ?_) rfl (by kernel_rfl) (by kernel_rfl) (by kernel_rfl) (fun _ _ _ h => h) (Or.inl ⟨by rfl, ?_⟩) (by assumption) ?_
  rotate_left
  · intro wS hSw
    first
      | (go_simp; done)
      | (go_simp; with_reducible rfl)
  try simp only [Act.put, List.setIfInBounds_toArray, List.set_cons_zero, List.set_cons_succ]
  refine wpAnyH_take (i := 1) (oi := ({ dst := some 13, op := Op.load 3 (Operand.tmp 12), type := 3, pos := "span.go:85", after := #[{ on := 0, ground := Ground.data }], guard := none } : Oper)) (v := ?_) rfl (by kernel_rfl) (by kernel_rfl) (by kernel_rfl) (fun _ _ _ h => h) (Or.inl ⟨by rfl, ?_⟩) (by assumption) ?_
  rotate_left
  · intro wS hSw
    obtain ⟨⟨q1, q2⟩, q3, q4, q5⟩ := hSw
    first
      | (go_simp; done)
      | (go_simp; with_reducible rfl)
  try simp only [Act.put, List.setIfInBounds_toArray, List.set_cons_zero, List.set_cons_succ]
  refine wpAnyH_take (i := 2) (oi := ({ dst := some 14, op := Op.load 26 (Operand.tmp 5), type := 26, pos := "span.go:85", after := #[], guard := none } : Oper)) (v := ?_) rfl (by kernel_rfl) (by kernel_rfl) (by kernel_rfl) (fun _ _ _ h => h) (Or.inl ⟨by rfl, ?_⟩) (by assumption) ?_
  rotate_left
  · intro wS hSw
    obtain ⟨⟨q1, q2⟩, q3, q4, q5⟩ := hSw
    first
      | (go_simp; done)
      | (go_simp; with_reducible rfl)
  try simp only [Act.put, List.setIfInBounds_toArray, List.set_cons_zero, List.set_cons_succ]
  refine wpAnyH_take (i := 3) (oi := ({ dst := some 15, op := Op.move (Operand.tmp 2), type := 22, pos := "span.go:85", after := #[], guard := none } : Oper)) (v := ?_) rfl (by kernel_rfl) (by kernel_rfl) (by kernel_rfl) (fun _ _ _ h => h) (Or.inl ⟨by rfl, ?_⟩) (by assumption) ?_
  rotate_left
  · intro wS hSw
    first
      | (go_simp; done)
      | (go_simp; with_reducible rfl)
  try simp only [Act.put, List.setIfInBounds_toArray, List.set_cons_zero, List.set_cons_succ]
  refine wpAnyH_take (i := 4) (oi := ({ dst := some 16, op := Op.move (Operand.tmp 3), type := 22, pos := "span.go:85", after := #[], guard := none } : Oper)) (v := ?_) rfl (by kernel_rfl) (by kernel_rfl) (by kernel_rfl) (fun _ _ _ h => h) (Or.inl ⟨by rfl, ?_⟩) (by assumption) ?_
  rotate_left
  · intro wS hSw
    first
      | (go_simp; done)
      | (go_simp; with_reducible rfl)
  try simp only [Act.put, List.setIfInBounds_toArray, List.set_cons_zero, List.set_cons_succ]
  refine wpAnyH_take (i := 6) (oi := ({ dst := some 18, op := Op.fieldAddr 35 (Operand.tmp 4) 1, type := 0, pos := "span.go:85", after := #[], guard := none } : Oper)) (v := ?_) rfl (by kernel_rfl) (by kernel_rfl) (by kernel_rfl) (fun _ _ _ h => h) (Or.inl ⟨by rfl, ?_⟩) (by assumption) ?_
  rotate_left
  · intro wS hSw
    first
      | (go_simp; done)
      | (go_simp; with_reducible rfl)
  try simp only [Act.put, List.setIfInBounds_toArray, List.set_cons_zero, List.set_cons_succ]
  refine wpAnyH_take (i := 7) (oi := ({ dst := some 19, op := Op.load 3 (Operand.tmp 18), type := 3, pos := "span.go:85", after := #[{ on := 6, ground := Ground.data }], guard := none } : Oper)) (v := ?_) rfl (by kernel_rfl) (by kernel_rfl) (by kernel_rfl) (fun _ _ _ h => h) (Or.inl ⟨by rfl, ?_⟩) (by assumption) ?_
  rotate_left
  · intro wS hSw
    obtain ⟨⟨q1, q2⟩, q3, q4, q5⟩ := hSw
    first
      | (go_simp; done)
      | (go_simp; with_reducible rfl)
  try simp only [Act.put, List.setIfInBounds_toArray, List.set_cons_zero, List.set_cons_succ]
  refine wpAnyH_take (i := 8) (oi := ({ dst := some 20, op := Op.load 26 (Operand.tmp 5), type := 26, pos := "span.go:85", after := #[], guard := none } : Oper)) (v := ?_) rfl (by kernel_rfl) (by kernel_rfl) (by kernel_rfl) (fun _ _ _ h => h) (Or.inl ⟨by rfl, ?_⟩) (by assumption) ?_
  rotate_left
  · intro wS hSw
    obtain ⟨⟨q1, q2⟩, q3, q4, q5⟩ := hSw
    first
      | (go_simp; done)
      | (go_simp; with_reducible rfl)
  try simp only [Act.put, List.setIfInBounds_toArray, List.set_cons_zero, List.set_cons_succ]
  refine wpAnyH_take (i := 9) (oi := ({ dst := some 21, op := Op.move (Operand.tmp 2), type := 22, pos := "span.go:85", after := #[], guard := none } : Oper)) (v := ?_) rfl (by kernel_rfl) (by kernel_rfl) (by kernel_rfl) (fun _ _ _ h => h) (Or.inl ⟨by rfl, ?_⟩) (by assumption) ?_
  rotate_left
  · intro wS hSw
    first
      | (go_simp; done)
      | (go_simp; with_reducible rfl)
  try simp only [Act.put, List.setIfInBounds_toArray, List.set_cons_zero, List.set_cons_succ]
  refine wpAnyH_take (i := 10) (oi := ({ dst := some 22, op := Op.move (Operand.tmp 3), type := 22, pos := "span.go:85", after := #[], guard := none } : Oper)) (v := ?_) rfl (by kernel_rfl) (by kernel_rfl) (by kernel_rfl) (fun _ _ _ h => h) (Or.inl ⟨by rfl, ?_⟩) (by assumption) ?_
  rotate_left
  · intro wS hSw
    first
      | (go_simp; done)
      | (go_simp; with_reducible rfl)
  try simp only [Act.put, List.setIfInBounds_toArray, List.set_cons_zero, List.set_cons_succ]
  refine wpAnyH_ready (rs := [5]) (by kernel_rfl) (by simp) ?_
  refine AllReadyH.cons (o := ({ dst := some 17, op := Op.call { callee := Callee.value (Operand.func 19), args := #[Operand.tmp 13, Operand.tmp 14, Operand.tmp 15, Operand.tmp 16], argTypes := #[3, 26, 22, 22] }, type := 22, pos := "span.go:85", after := #[{ on := 1, ground := Ground.data }, { on := 2, ground := Ground.data }, { on := 3, ground := Ground.data }, { on := 4, ground := Ground.data }], guard := none } : Oper)) rfl (fun Kq hK => ?_) (AllReadyH.nil)
  go_simp
  go_at_call 19
  refine (C1.out _).mono ?_
  rintro e W2 ⟨rfl, hb1⟩
  have hS1 : AftAt w.heap.size a b m s z W2 := hHeld.below HY.out hb1
  replace HBW := Lib.hid (HBW.out.trans (hb1.mono HBW.out.size))
  replace HY := Lib.hid (Nat.lt_of_lt_of_le HY.out hb1.size)
  clear hHeld hb1
  dsimp only
  refine hK.out _ _ ?_ (fun hHeld => ?_)
  · exact hS1
  clear hK Kq
  try simp only [Act.put, List.setIfInBounds_toArray, List.set_cons_zero, List.set_cons_succ]
  refine wpAnyH_ready (rs := [11]) (by kernel_rfl) (by simp) ?_
  refine AllReadyH.cons (o := ({ dst := some 23, op := Op.call { callee := Callee.value (Operand.func 19), args := #[Operand.tmp 19, Operand.tmp 20, Operand.tmp 21, Operand.tmp 22], argTypes := #[3, 26, 22, 22] }, type := 22, pos := "span.go:85", after := #[{ on := 7, ground := Ground.data }, { on := 8, ground := Ground.data }, { on := 9, ground := Ground.data }, { on := 10, ground := Ground.data }, { on := 5, ground := Ground.chain }], guard := none } : Oper)) rfl (fun Kq hK => ?_) (AllReadyH.nil)
  go_simp
  go_at_call 19
  refine (C2.out _).mono ?_
  rintro e W3 ⟨rfl, hb1⟩
  have hS1 : AftAt w.heap.size a b m s z W3 := hHeld.below HY.out hb1
  replace HBW := Lib.hid (HBW.out.trans (hb1.mono HBW.out.size))
  replace HY := Lib.hid (Nat.lt_of_lt_of_le HY.out hb1.size)
  clear hHeld hb1
  dsimp only
  refine hK.out _ _ ?_ (fun hHeld => ?_)
  · exact hS1
  clear hK Kq
  try simp only [Act.put, List.setIfInBounds_toArray, List.set_cons_zero, List.set_cons_succ]
  refine wpAnyH_take (i := 12) (oi := ({ dst := some 10, op := Op.assign (Operand.tmp 17), type := 22, pos := "span.go:85", after := #[{ on := 5, ground := Ground.data }, { on := 11, ground := Ground.chain }, { on := 0, ground := Ground.phase }, { on := 1, ground := Ground.phase }, { on := 2, ground := Ground.phase }, { on := 3, ground := Ground.phase }, { on := 4, ground := Ground.phase }, { on := 5, ground := Ground.phase }, { on := 6, ground := Ground.textOnly Departure.lateStores }, { on := 7, ground := Ground.textOnly Departure.lateStores }, { on := 8, ground := Ground.textOnly Departure.lateStores }, { on := 9, ground := Ground.textOnly Departure.lateStores }, { on := 10, ground := Ground.textOnly Departure.lateStores }, { on := 11, ground := Ground.textOnly Departure.lateStoresUnsure }], guard := none } : Oper)) (v := ?_) rfl (by kernel_rfl) (by kernel_rfl) (by kernel_rfl) (fun _ _ _ h => h) (Or.inl ⟨by rfl, ?_⟩) (by assumption) ?_
  rotate_left
  · intro wS hSw
    first
      | (go_simp; done)
      | (go_simp; with_reducible rfl)
  try simp only [Act.put, List.setIfInBounds_toArray, List.set_cons_zero, List.set_cons_succ]
  refine wpAnyH_take (i := 13) (oi := ({ dst := some 11, op := Op.assign (Operand.tmp 23), type := 22, pos := "span.go:85", after := #[{ on := 11, ground := Ground.data }, { on := 12, ground := Ground.chain }, { on := 0, ground := Ground.phase }, { on := 1, ground := Ground.phase }, { on := 2, ground := Ground.phase }, { on := 3, ground := Ground.phase }, { on := 4, ground := Ground.phase }, { on := 5, ground := Ground.phase }, { on := 6, ground := Ground.phase }, { on := 7, ground := Ground.phase }, { on := 8, ground := Ground.phase }, { on := 9, ground := Ground.phase }, { on := 10, ground := Ground.phase }, { on := 11, ground := Ground.phase }, { on := 12, ground := Ground.phase }], guard := none } : Oper)) (v := ?_) rfl (by kernel_rfl) (by kernel_rfl) (by kernel_rfl) (fun _ _ _ h => h) (Or.inl ⟨by rfl, ?_⟩) (by assumption) ?_
  rotate_left
  · intro wS hSw
    first
      | (go_simp; done)
      | (go_simp; with_reducible rfl)
  try simp only [Act.put, List.setIfInBounds_toArray, List.set_cons_zero, List.set_cons_succ]
  refine wpAnyH_done (by kernel_rfl) ?_ _
  go_wp2_with fail
  refine bodyPost_ret (res_2 rfl _ _ _) rfl ?_
  exact ⟨rfl, HBW.out⟩
end Go.Proofs.Ytaoadgolplnedaa.CSpan
