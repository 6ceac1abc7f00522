/- Layer 23 (turn), the code: By, Over. -/
import Derived.Test.YtmjcjdgdpecpjaaTurnAll
import Derived.Deep.CutRange
namespace Go.Proofs.Ytmjcjdgdpecpjaa.CTurn
open Go Go.ChangeShapes Go.WideShapes Go.ChangeAt Go.RowKit Go.Deep
open Plain CSat CShape CTensor CPad FloatNum
set_option linter.unusedVariables false

/-- a tensor of the call's own, with a second result. -/
def MadeE (w : World) (H W C : Int) (n : Nat) (zs : List Int) (x : Value) (e : Ending) (w' : World) : Prop :=
  ∃ v, e = .returned (.tuple #[.agg #[.int .i64 H, .int .i64 W, .int .i64 C, v], x]) ∧ w'.ownsRow w.heap.size 37 1 v n (I8s zs) ∧ Below w.heap.size w w'
set_option maxRecDepth 100000 in
set_option maxHeartbeats 4000000 in
theorem cby_bad (H W C : Int) (A : Option Addr) (n c : Nat) (N : Value) (ht : tensB H W C n = false) (w : World) :
    Calls Try.prog 7 #[.agg #[.int .i64 H, .int .i64 W, .int .i64 C, .slice A n c], N] w fun e w' => e = .returned (.tuple #[.agg #[.int .i64 0, .int .i64 0, .int .i64 0, .slice none 0 0], .int .i64 5]) ∧ Below w.heap.size w w' := by
  have HT := Lib.hid ht
  have hal2 : Below w.heap.size w ((w.alloc (.cells #[.int .i64 H, .int .i64 W, .int .i64 C, .slice A n c] 26)).alloc (.cells #[.int .i64 0, .int .i64 0, .int .i64 0, .slice none 0 0] 26)) := ((Below.refl _ _).alloc (Nat.le_refl _) _).alloc (by simp) _
  have hbx : BoxAt w.heap.size H W C A n c (w.alloc (.cells #[.int .i64 H, .int .i64 W, .int .i64 C, .slice A n c] 26)) := ⟨Kit.new_cell _ _ _ _, Kit.new_cell _ _ _ _, Kit.new_cell _ _ _ _, Kit.new_cell _ _ _ _⟩
  have HX := Lib.hid (hbx.below (Nat.lt_succ_self _) ((Below.refl _ _).alloc (by simp) (.cells #[.int .i64 0, .int .i64 0, .int .i64 0, .slice none 0 0] 26)))
  have HF := Lib.hid (FreshT.new 26 (w.alloc (.cells #[.int .i64 H, .int .i64 W, .int .i64 C, .slice A n c] 26)) (w.heap.size + 1) (by simp))
  have HB := Lib.hid hal2
  have HZ : Hid (w.heap.size + 2 ≤ ((w.alloc (.cells #[.int .i64 H, .int .i64 W, .int .i64 C, .slice A n c] 26)).alloc (.cells #[.int .i64 0, .int .i64 0, .int .i64 0, .slice none 0 0] 26)).heap.size) := Lib.hid (by simp)
  clear hal2 hbx
  clear ht
  go_enter Try.func7, Try.ntmps7
  go_upto_region 1 with fail
  generalize ((w.alloc (.cells #[.int .i64 H, .int .i64 W, .int .i64 C, .slice A n c] 26)).alloc (.cells #[.int .i64 0, .int .i64 0, .int .i64 0, .slice none 0 0] 26)) = W0 at HX HF HB HZ ⊢
  obtain ⟨b0, b1, b2, b3⟩ := HX.out
  obtain ⟨⟨z0, z1, z2, z3⟩, z4, z5, z6, z7⟩ := HF.out
  go_wp2_with (go_at_call 15; (refine (right_to H W C A n c false HT.out _).mono ?_); rintro e w1 ⟨rfl, hb⟩; (have hz := HZ.out); (have HX1 := Lib.hid (HX.out.below (by omega) hb)); (have HF1 := Lib.hid (HF.out.below (by omega) hb)); (have HB1 := Lib.hid (HB.out.trans (hb.mono HB.out.size))); (have HZ1 := Lib.hid (Nat.le_trans HZ.out hb.size)); clear z0 z1 z2 z3 z4 z5 z6 z7 hb hz b0 b1 b2 b3 HX HF HB HZ; (obtain ⟨b0, b1, b2, b3⟩ := HX1.out); (obtain ⟨⟨z0, z1, z2, z3⟩, z4, z5, z6, z7⟩ := HF1.out))
  refine bodyPost_ret (Kit.results_ct rfl _ _ (w.heap.size + 1) 0 [.int .i64 0, .int .i64 0, .int .i64 0, .slice none 0 0] _ rfl (range_4t (by go_cell) (by go_cell) (by go_cell) (by go_cell)) Try.underlying26 rfl (by kernel_rfl)) rfl ?_
  exact ⟨rfl, by first | exact HB1.out | exact (((HB1.out.setCell (p := ⟨w.heap.size + 1, 0, none⟩) (by simp) _).setCell (p := ⟨w.heap.size + 1, 1, none⟩) (by simp) _).setCell (p := ⟨w.heap.size + 1, 2, none⟩) (by simp) _).setCell (p := ⟨w.heap.size + 1, 3, none⟩) (by simp) _⟩
set_option maxRecDepth 100000 in
set_option maxHeartbeats 4000000 in
theorem cover_bad (H W C : Int) (A : Option Addr) (n c : Nat) (ht : tensB H W C n = false) (w : World) :
    Calls Try.prog 8 #[.agg #[.int .i64 H, .int .i64 W, .int .i64 C, .slice A n c]] w fun e w' => e = .returned (.tuple #[.agg #[.int .i64 0, .int .i64 0, .int .i64 0, .slice none 0 0], .int .i64 5]) ∧ Below w.heap.size w w' := by
  have HT := Lib.hid ht
  have hal2 : Below w.heap.size w ((w.alloc (.cells #[.int .i64 H, .int .i64 W, .int .i64 C, .slice A n c] 26)).alloc (.cells #[.int .i64 0, .int .i64 0, .int .i64 0, .slice none 0 0] 26)) := ((Below.refl _ _).alloc (Nat.le_refl _) _).alloc (by simp) _
  have hbx : BoxAt w.heap.size H W C A n c (w.alloc (.cells #[.int .i64 H, .int .i64 W, .int .i64 C, .slice A n c] 26)) := ⟨Kit.new_cell _ _ _ _, Kit.new_cell _ _ _ _, Kit.new_cell _ _ _ _, Kit.new_cell _ _ _ _⟩
  have HX := Lib.hid (hbx.below (Nat.lt_succ_self _) ((Below.refl _ _).alloc (by simp) (.cells #[.int .i64 0, .int .i64 0, .int .i64 0, .slice none 0 0] 26)))
  have HF := Lib.hid (FreshT.new 26 (w.alloc (.cells #[.int .i64 H, .int .i64 W, .int .i64 C, .slice A n c] 26)) (w.heap.size + 1) (by simp))
  have HB := Lib.hid hal2
  have HZ : Hid (w.heap.size + 2 ≤ ((w.alloc (.cells #[.int .i64 H, .int .i64 W, .int .i64 C, .slice A n c] 26)).alloc (.cells #[.int .i64 0, .int .i64 0, .int .i64 0, .slice none 0 0] 26)).heap.size) := Lib.hid (by simp)
  clear hal2 hbx
  clear ht
  go_enter Try.func8, Try.ntmps8
  go_upto_region 1 with fail
  generalize ((w.alloc (.cells #[.int .i64 H, .int .i64 W, .int .i64 C, .slice A n c] 26)).alloc (.cells #[.int .i64 0, .int .i64 0, .int .i64 0, .slice none 0 0] 26)) = W0 at HX HF HB HZ ⊢
  obtain ⟨b0, b1, b2, b3⟩ := HX.out
  obtain ⟨⟨z0, z1, z2, z3⟩, z4, z5, z6, z7⟩ := HF.out
  go_wp2_with (go_at_call 15; (refine (right_to H W C A n c false HT.out _).mono ?_); rintro e w1 ⟨rfl, hb⟩; (have hz := HZ.out); (have HX1 := Lib.hid (HX.out.below (by omega) hb)); (have HF1 := Lib.hid (HF.out.below (by omega) hb)); (have HB1 := Lib.hid (HB.out.trans (hb.mono HB.out.size))); (have HZ1 := Lib.hid (Nat.le_trans HZ.out hb.size)); clear z0 z1 z2 z3 z4 z5 z6 z7 hb hz b0 b1 b2 b3 HX HF HB HZ; (obtain ⟨b0, b1, b2, b3⟩ := HX1.out); (obtain ⟨⟨z0, z1, z2, z3⟩, z4, z5, z6, z7⟩ := HF1.out))
  refine bodyPost_ret (Kit.results_ct rfl _ _ (w.heap.size + 1) 0 [.int .i64 0, .int .i64 0, .int .i64 0, .slice none 0 0] _ rfl (range_4t (by go_cell) (by go_cell) (by go_cell) (by go_cell)) Try.underlying26 rfl (by kernel_rfl)) rfl ?_
  exact ⟨rfl, by first | exact HB1.out | exact (((HB1.out.setCell (p := ⟨w.heap.size + 1, 0, none⟩) (by simp) _).setCell (p := ⟨w.heap.size + 1, 1, none⟩) (by simp) _).setCell (p := ⟨w.heap.size + 1, 2, none⟩) (by simp) _).setCell (p := ⟨w.heap.size + 1, 3, none⟩) (by simp) _⟩
set_option maxRecDepth 100000 in
set_option maxHeartbeats 4000000 in
theorem cby_to {a b d n : Nat} (A : Option Addr) (zs : List Int) (c : Nat) (hn : zs.length = n) (hnc : n ≤ c) (ht : tensB (a : Int) (b : Int) (d : Int) n = true) (N : Int) (N1 : -9223372036854775808 ≤ N) (N2 : N ≤ 9223372036854775807) (P Q : Int) (ys : List Int)
    (hP : ((itT d (turnsN N) (a, b, zs)).1 : Int) = P) (hQ : ((itT d (turnsN N) (a, b, zs)).2.1 : Int) = Q) (hy : (itT d (turnsN N) (a, b, zs)).2.2 = ys) (w : World) (hr : Kit.Rd w w.heap.size A (I8s zs)) :
    Calls Try.prog 7 #[.agg #[.int .i64 (a : Int), .int .i64 (b : Int), .int .i64 (d : Int), .slice A n c], .int .i64 N] w (MadeE w P Q (d : Int) n ys (.int .i64 0)) := by
  have htu := fun (wd : World) (h : Kit.Rd wd wd.heap.size A (I8s zs)) => cturned_to A zs c hn hnc ht (turnsN N) (turnsN_go N).2.2.2 P Q ys hP hQ hy wd h
  have HTU := Lib.hid htu
  have HT := Lib.hid ht
  have HR := Lib.hid hr
  have hal2 : Below w.heap.size w ((w.alloc (.cells #[.int .i64 (a : Int), .int .i64 (b : Int), .int .i64 (d : Int), .slice A n c] 26)).alloc (.cells #[.int .i64 0, .int .i64 0, .int .i64 0, .slice none 0 0] 26)) := ((Below.refl _ _).alloc (Nat.le_refl _) _).alloc (by simp) _
  have hbx : BoxAt w.heap.size (a : Int) b d A n c (w.alloc (.cells #[.int .i64 (a : Int), .int .i64 (b : Int), .int .i64 (d : Int), .slice A n c] 26)) := ⟨Kit.new_cell _ _ _ _, Kit.new_cell _ _ _ _, Kit.new_cell _ _ _ _, Kit.new_cell _ _ _ _⟩
  have HX := Lib.hid (hbx.below (Nat.lt_succ_self _) ((Below.refl _ _).alloc (by simp) (.cells #[.int .i64 0, .int .i64 0, .int .i64 0, .slice none 0 0] 26)))
  have HF := Lib.hid (FreshT.new 26 (w.alloc (.cells #[.int .i64 (a : Int), .int .i64 (b : Int), .int .i64 (d : Int), .slice A n c] 26)) (w.heap.size + 1) (by simp))
  have HB := Lib.hid hal2
  have HZ : Hid (w.heap.size + 2 ≤ ((w.alloc (.cells #[.int .i64 (a : Int), .int .i64 (b : Int), .int .i64 (d : Int), .slice A n c] 26)).alloc (.cells #[.int .i64 0, .int .i64 0, .int .i64 0, .slice none 0 0] 26)).heap.size) := Lib.hid (by simp)
  clear hal2 hbx
  clear ht htu hr hP hQ hy hn
  go_enter Try.func7, Try.ntmps7
  go_upto_region 1 with fail
  generalize ((w.alloc (.cells #[.int .i64 (a : Int), .int .i64 (b : Int), .int .i64 (d : Int), .slice A n c] 26)).alloc (.cells #[.int .i64 0, .int .i64 0, .int .i64 0, .slice none 0 0] 26)) = W0 at HX HF HB HZ ⊢
  obtain ⟨b0, b1, b2, b3⟩ := HX.out
  go_upto_region 3 with (go_at_call 15; (refine (right_to a b d A n c true HT.out _).mono ?_); rintro e w1 ⟨rfl, hb⟩; (have hz := HZ.out); (have HX1 := Lib.hid (HX.out.below (by omega) hb)); (have HF1 := Lib.hid (HF.out.below (by omega) hb)); (have HB1 := Lib.hid (HB.out.trans (hb.mono HB.out.size))); (have HZ1 := Lib.hid (Nat.le_trans HZ.out hb.size)); clear hb hz b0 b1 b2 b3 HX HF HB HZ; (obtain ⟨b0, b1, b2, b3⟩ := HX1.out); (obtain ⟨⟨z0, z1, z2, z3⟩, z4, z5, z6, z7⟩ := HF1.out))
  clear b0 b1 b2 b3 z0 z1 z2 z3 z4 z5 z6 z7
  refine wp_region_held_drew (S := BoxAt w.heap.size (a : Int) b d A n c) (by kernel_rfl) HX1.out (fun hHeld => ?_)
  have HF2 := Lib.hid (HF1.out.below (by have := HZ1.out; omega) (Below.refl w1.heap.size w1).drew)
  have HB2 := Lib.hid HB1.out.drew
  have HZ2 : Hid (w.heap.size + 2 ≤ w1.drew.heap.size) := Lib.hid HZ1.out
  clear HX1 HF1 HB1 HZ1
  generalize w1.drew = W1 at HF2 HB2 HZ2 hHeld ⊢
  refine wpAnyH_take (i := 0) (oi := ({ dst := some 10, op := Op.load 26 (Operand.tmp 2), type := 26, pos := "turn.go:18", after := #[], guard := none } : Oper)) (v := ?_) rfl (by kernel_rfl) (by kernel_rfl) (by kernel_rfl) (fun _ _ _ h => h) (Or.inl ⟨by rfl, ?_⟩) (by assumption) ?_
  rotate_left
  · intro wS hSw
    obtain ⟨q0, q1, q2, q3⟩ := hSw
    first
      | (go_simp; done)
      | (go_simp; with_reducible rfl)
  try simp only [Act.put, List.setIfInBounds_toArray, List.set_cons_zero, List.set_cons_succ]
  refine wpAnyH_take (i := 1) (oi := ({ dst := some 11, op := Op.move (Operand.tmp 1), type := 3, pos := "turn.go:18", after := #[], guard := none } : Oper)) (v := ?_) rfl (by kernel_rfl) (by kernel_rfl) (by kernel_rfl) (fun _ _ _ h => h) (Or.inl ⟨by rfl, ?_⟩) (by assumption) ?_
  rotate_left
  · intro wS hSw
    first
      | (go_simp; done)
      | (go_simp; with_reducible rfl)
  try simp only [Act.put, List.setIfInBounds_toArray, List.set_cons_zero, List.set_cons_succ]
  refine wpAnyH_ready (rs := [2]) (by kernel_rfl) (by simp) ?_
  refine AllReadyH.cons (o := ({ dst := some 12, op := Op.call { callee := Callee.value (Operand.func 17), args := #[Operand.tmp 11], argTypes := #[3] }, type := 3, pos := "turn.go:18", after := #[{ on := 1, ground := Ground.data }], guard := none } : Oper)) rfl (fun Kq hK => ?_) (AllReadyH.nil)
  go_simp
  go_at_call 17
  refine (cquarters_to N N1 N2 _).mono ?_
  rintro e W2 ⟨rfl, rfl⟩
  dsimp only
  refine hK.out _ _ ?_ (fun hHeld => ?_)
  · exact hHeld
  clear hK Kq
  try simp only [Act.put, List.setIfInBounds_toArray, List.set_cons_zero, List.set_cons_succ]
  refine wpAnyH_ready (rs := [3]) (by kernel_rfl) (by simp) ?_
  refine AllReadyH.cons (o := ({ dst := some 13, op := Op.call { callee := Callee.value (Operand.func 16), args := #[Operand.tmp 10, Operand.tmp 12], argTypes := #[26, 3] }, type := 26, pos := "turn.go:18", after := #[{ on := 0, ground := Ground.data }, { on := 2, ground := Ground.data }, { on := 2, ground := Ground.chain }], guard := none } : Oper)) rfl (fun Kq hK => ?_) (AllReadyH.nil)
  go_simp
  go_at_call 16
  refine (HTU.out _ ((HR.out.below HB2.out).more HB2.out.size)).mono ?_
  rintro e W3 ⟨v1, rfl, ho1, hb⟩
  obtain ⟨A1, c1', rfl, -, -, -⟩ := Kit.own_rd ho1
  have hz := HZ2.out
  have hS1 : BoxAt w.heap.size (a : Int) b d A n c W3 := hHeld.below (by omega) hb
  have HO3 := Lib.hid (Kit.own_base ho1 HZ2.out)
  have HF3 := Lib.hid (HF2.out.below (by omega) hb)
  have HB3 := Lib.hid (HB2.out.trans (hb.mono HB2.out.size))
  clear hHeld ho1 hb hz HF2 HB2
  obtain ⟨⟨z0, z1, z2, z3⟩, z4, z5, z6, z7⟩ := HF3.out
  dsimp only
  refine hK.out _ _ ?_ (fun hHeld => ?_)
  · exact hS1
  clear hK Kq
  try simp only [Act.put, List.setIfInBounds_toArray, List.set_cons_zero, List.set_cons_succ]
  refine wpAnyH_ready (rs := [4]) (by kernel_rfl) (by simp) ?_
  refine AllReadyH.cons (o := ({ dst := none, op := Op.store 26 (Operand.tmp 4) (Operand.tmp 13), type := 0, pos := "turn.go:18", after := #[{ on := 3, ground := Ground.data }, { on := 3, ground := Ground.chain }, { on := 0, ground := Ground.phase }, { on := 1, ground := Ground.phase }, { on := 2, ground := Ground.phase }, { on := 3, ground := Ground.phase }], guard := none } : Oper)) rfl (fun Kq hK => ?_) (AllReadyH.nil)
  go_simp
  refine hK.out _ _ ?_ (fun hHeld => ?_)
  · exact hHeld.stores (by omega) _ _ _ _
  clear hK Kq
  try simp only [Act.put, List.setIfInBounds_toArray, List.set_cons_zero, List.set_cons_succ]
  refine wpAnyH_take (i := 5) (oi := ({ dst := some 5, op := Op.assign (Operand.const (Value.int IntKind.i64 0)), type := 28, pos := "turn.go:18", after := #[{ on := 4, ground := Ground.chain }, { on := 0, ground := Ground.phase }, { on := 1, ground := Ground.phase }, { on := 2, ground := Ground.phase }, { on := 3, ground := Ground.phase }, { on := 4, ground := Ground.phase }], guard := none } : Oper)) (v := ?_) rfl (by kernel_rfl) (by kernel_rfl) (by kernel_rfl) (fun _ _ _ h => h) (Or.inl ⟨by rfl, ?_⟩) (by assumption) ?_
  rotate_left
  · intro wS hSw
    first
      | (go_simp; done)
      | (go_simp; with_reducible rfl)
  try simp only [Act.put, List.setIfInBounds_toArray, List.set_cons_zero, List.set_cons_succ]
  refine wpAnyH_done (by kernel_rfl) ?_ _
  clear hHeld
  go_wp2_with fail
  refine bodyPost_ret (Kit.results_ct rfl _ _ (w.heap.size + 1) 0 [.int .i64 P, .int .i64 Q, .int .i64 (d : Int), .slice A1 n c1'] _ rfl (range_4t (by go_cell) (by go_cell) (by go_cell) (by go_cell)) Try.underlying26 rfl (by kernel_rfl)) rfl ?_
  exact ⟨_, rfl, Kit.own_base (own_set4t HO3.out (Nat.lt_succ_self _)) (by omega), (((HB3.out.setCell (p := ⟨w.heap.size + 1, 0, none⟩) (by simp) _).setCell (p := ⟨w.heap.size + 1, 1, none⟩) (by simp) _).setCell (p := ⟨w.heap.size + 1, 2, none⟩) (by simp) _).setCell (p := ⟨w.heap.size + 1, 3, none⟩) (by simp) _⟩
set_option maxRecDepth 100000 in
set_option maxHeartbeats 4000000 in
theorem cover_to {a b d n : Nat} (A : Option Addr) (zs : List Int) (c : Nat) (hn : zs.length = n) (hnc : n ≤ c) (ht : tensB (a : Int) (b : Int) (d : Int) n = true) (ys : List Int) (hy : overL zs a b d = ys) (w : World) (hr : Kit.Rd w w.heap.size A (I8s zs)) :
    Calls Try.prog 8 #[.agg #[.int .i64 (a : Int), .int .i64 (b : Int), .int .i64 (d : Int), .slice A n c]] w (MadeE w (a : Int) (b : Int) (d : Int) n ys (.int .i64 0)) := by
  have htu := fun (wd : World) (h : Kit.Rd wd wd.heap.size A (I8s zs)) => cmirrored_to A zs c hn hnc ht wd h
  rw [hy] at htu
  have HTU := Lib.hid htu
  have HT := Lib.hid ht
  have HR := Lib.hid hr
  have hal2 : Below w.heap.size w ((w.alloc (.cells #[.int .i64 (a : Int), .int .i64 (b : Int), .int .i64 (d : Int), .slice A n c] 26)).alloc (.cells #[.int .i64 0, .int .i64 0, .int .i64 0, .slice none 0 0] 26)) := ((Below.refl _ _).alloc (Nat.le_refl _) _).alloc (by simp) _
  have hbx : BoxAt w.heap.size (a : Int) b d A n c (w.alloc (.cells #[.int .i64 (a : Int), .int .i64 (b : Int), .int .i64 (d : Int), .slice A n c] 26)) := ⟨Kit.new_cell _ _ _ _, Kit.new_cell _ _ _ _, Kit.new_cell _ _ _ _, Kit.new_cell _ _ _ _⟩
  have HX := Lib.hid (hbx.below (Nat.lt_succ_self _) ((Below.refl _ _).alloc (by simp) (.cells #[.int .i64 0, .int .i64 0, .int .i64 0, .slice none 0 0] 26)))
  have HF := Lib.hid (FreshT.new 26 (w.alloc (.cells #[.int .i64 (a : Int), .int .i64 (b : Int), .int .i64 (d : Int), .slice A n c] 26)) (w.heap.size + 1) (by simp))
  have HB := Lib.hid hal2
  have HZ : Hid (w.heap.size + 2 ≤ ((w.alloc (.cells #[.int .i64 (a : Int), .int .i64 (b : Int), .int .i64 (d : Int), .slice A n c] 26)).alloc (.cells #[.int .i64 0, .int .i64 0, .int .i64 0, .slice none 0 0] 26)).heap.size) := Lib.hid (by simp)
  clear hal2 hbx
  clear ht htu hr hy hn
  go_enter Try.func8, Try.ntmps8
  go_upto_region 1 with fail
  generalize ((w.alloc (.cells #[.int .i64 (a : Int), .int .i64 (b : Int), .int .i64 (d : Int), .slice A n c] 26)).alloc (.cells #[.int .i64 0, .int .i64 0, .int .i64 0, .slice none 0 0] 26)) = W0 at HX HF HB HZ ⊢
  obtain ⟨b0, b1, b2, b3⟩ := HX.out
  go_upto_region 3 with (go_at_call 15; (refine (right_to a b d A n c true HT.out _).mono ?_); rintro e w1 ⟨rfl, hb⟩; (have hz := HZ.out); (have HX1 := Lib.hid (HX.out.below (by omega) hb)); (have HF1 := Lib.hid (HF.out.below (by omega) hb)); (have HB1 := Lib.hid (HB.out.trans (hb.mono HB.out.size))); (have HZ1 := Lib.hid (Nat.le_trans HZ.out hb.size)); clear hb hz b0 b1 b2 b3 HX HF HB HZ; (obtain ⟨b0, b1, b2, b3⟩ := HX1.out); (obtain ⟨⟨z0, z1, z2, z3⟩, z4, z5, z6, z7⟩ := HF1.out))
  go_wp2_with (go_at_call 18; (refine (HTU.out _ ((HR.out.below HB1.out).more HB1.out.size)).mono ?_); rintro e w3 ⟨v1, rfl, ho1, hb⟩; (obtain ⟨A1, c1', rfl, -, -, -⟩ := Kit.own_rd ho1); (have HO3 := Lib.hid (Kit.own_base ho1 HZ1.out)); (have HF3 := Lib.hid (HF1.out.below (by have := HZ1.out; omega) hb)); (have HB3 := Lib.hid (HB1.out.trans (hb.mono HB1.out.size))); clear ho1 hb b0 b1 b2 b3 z0 z1 z2 z3 z4 z5 z6 z7; (obtain ⟨⟨z0, z1, z2, z3⟩, z4, z5, z6, z7⟩ := HF3.out))
  refine bodyPost_ret (Kit.results_ct rfl _ _ (w.heap.size + 1) 0 [.int .i64 (a : Int), .int .i64 (b : Int), .int .i64 (d : Int), .slice A1 n c1'] _ rfl (range_4t (by go_cell) (by go_cell) (by go_cell) (by go_cell)) Try.underlying26 rfl (by kernel_rfl)) rfl ?_
  exact ⟨_, rfl, Kit.own_base (own_set4t HO3.out (Nat.lt_succ_self _)) (by omega), (((HB3.out.setCell (p := ⟨w.heap.size + 1, 0, none⟩) (by simp) _).setCell (p := ⟨w.heap.size + 1, 1, none⟩) (by simp) _).setCell (p := ⟨w.heap.size + 1, 2, none⟩) (by simp) _).setCell (p := ⟨w.heap.size + 1, 3, none⟩) (by simp) _⟩
end Go.Proofs.Ytmjcjdgdpecpjaa.CTurn
