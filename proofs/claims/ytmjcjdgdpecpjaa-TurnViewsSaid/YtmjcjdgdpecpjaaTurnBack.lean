/- Layer 23 (turn), the code: Back. -/
import Derived.Test.YtmjcjdgdpecpjaaTurnCalls
import Derived.Deep.CutRange
namespace Go.Proofs.Ytmjcjdgdpecpjaa.CTurn
open Go Go.ChangeShapes Go.WideShapes Go.ChangeAt Go.RowKit Go.Deep
open Plain CSat CShape CTensor CPad FloatNum
set_option linter.unusedVariables false

theorem own_apart {w : World} {base : Nat} {e : TypeId} {size n : Nat} {v : Value} {xs : List Value} (h : w.ownsRow base e size v n xs) {p : Nat} (hp : v.ownBlock ≠ some p) (x y z u : Value) : ((((w.setCell ⟨p, 0, none⟩ x).setCell ⟨p, 1, none⟩ y).setCell ⟨p, 2, none⟩ z).setCell ⟨p, 3, none⟩ u).ownsRow base e size v n xs :=
  ownsRow_setCell_other (ownsRow_setCell_other (ownsRow_setCell_other (ownsRow_setCell_other h hp _) hp _) hp _) hp _
theorem own_block_lt {w : World} {base : Nat} {e : TypeId} {size n : Nat} {v : Value} {xs : List Value} (h : w.ownsRow base e size v n xs) : ∀ k, v.ownBlock = some k → k < w.heap.size := by
  intro k hk
  rcases h.2 with ⟨rfl, _⟩ | ⟨g, cap, cur, rfl, _, hg, _⟩
  · cases hk
  · cases hk; exact (Array.getElem?_eq_some_iff.1 hg).1
theorem FreshT.apart {g p : Nat} {w : World} (h : FreshT g w) (hp : g ≠ p) (x y z u : Value) : FreshT g ((((w.setCell ⟨p, 0, none⟩ x).setCell ⟨p, 1, none⟩ y).setCell ⟨p, 2, none⟩ z).setCell ⟨p, 3, none⟩ u) := by
  have k : ∀ (w : World) (i j : Nat) (u : Value), (w.setCell ⟨p, j, none⟩ u).cell? ⟨g, i, none⟩ = w.cell? ⟨g, i, none⟩ := fun w i j u => World.cell?_setCell_other _ _ _ _ (fun e => hp (by injection e with e1; exact e1.symm))
  have f : ∀ (w : World) (i j : Nat) (u : Value), (w.setCell ⟨p, j, none⟩ u).frozen? ⟨g, i, none⟩ = w.frozen? ⟨g, i, none⟩ := fun w i j u => World.frozen?_setCell _ _ _ _
  obtain ⟨⟨z0, z1, z2, z3⟩, z4, z5, z6, z7⟩ := h
  refine ⟨⟨?_, ?_, ?_, ?_⟩, ?_, ?_, ?_, ?_⟩
  all_goals first | (rw [k, k, k, k]; assumption) | (rw [f, f, f, f]; assumption)
theorem FreshT.box {p : Nat} {w : World} (h : FreshT p w) (H W C : Int) (A : Option Addr) (n c : Nat) : BoxAt p H W C A n c ((((w.setCell ⟨p, 0, none⟩ (.int .i64 H)).setCell ⟨p, 1, none⟩ (.int .i64 W)).setCell ⟨p, 2, none⟩ (.int .i64 C)).setCell ⟨p, 3, none⟩ (.slice A n c)) := by
  obtain ⟨⟨h0, h1, h2, h3⟩, -⟩ := h
  have k : ∀ (w : World) (i j : Nat) (u : Value), i ≠ j → (w.setCell ⟨p, j, none⟩ u).cell? ⟨p, i, none⟩ = w.cell? ⟨p, i, none⟩ := fun w i j u hne => World.cell?_setCell_other _ _ _ _ (fun e => by injection e; omega)
  refine ⟨?_, ?_, ?_, ?_⟩
  · rw [k _ _ _ _ (by omega), k _ _ _ _ (by omega), k _ _ _ _ (by omega)]; exact World.cell?_setCell_same _ _ _ h0
  · rw [k _ _ _ _ (by omega), k _ _ _ _ (by omega)]; exact World.cell?_setCell_same _ _ _ ((k _ _ _ _ (by omega)).trans h1)
  · rw [k _ _ _ _ (by omega)]; exact World.cell?_setCell_same _ _ _ ((k _ _ _ _ (by omega)).trans ((k _ _ _ _ (by omega)).trans h2))
  · exact World.cell?_setCell_same _ _ _ ((k _ _ _ _ (by omega)).trans ((k _ _ _ _ (by omega)).trans ((k _ _ _ _ (by omega)).trans h3)))
theorem below_set4 {B g : Nat} {w0 w : World} (h : Below B w0 w) (hg : B ≤ g) (x y z u : Value) : Below B w0 ((((w.setCell ⟨g, 0, none⟩ x).setCell ⟨g, 1, none⟩ y).setCell ⟨g, 2, none⟩ z).setCell ⟨g, 3, none⟩ u) :=
  (((h.setCell (p := ⟨g, 0, none⟩) hg _).setCell (p := ⟨g, 1, none⟩) hg _).setCell (p := ⟨g, 2, none⟩) hg _).setCell (p := ⟨g, 3, none⟩) hg _
set_option maxRecDepth 100000 in
set_option maxHeartbeats 4000000 in
theorem cback_bad (H W C : Int) (A : Option Addr) (n c : Nat) (N : Value) (ht : tensB H W C n = false) (w : World) :
    Calls Try.prog 14 #[.agg #[.int .i64 H, .int .i64 W, .int .i64 C, .slice A n c], N] w fun e w' => e = .returned (.tuple #[.agg #[.int .i64 0, .int .i64 0, .int .i64 0, .slice none 0 0], .int .i64 5]) ∧ Below w.heap.size w w' := by
  have HT := Lib.hid ht
  have hal2 : Below w.heap.size w ((w.alloc (.cells #[.int .i64 H, .int .i64 W, .int .i64 C, .slice A n c] 26)).alloc (.cells #[.int .i64 0, .int .i64 0, .int .i64 0, .slice none 0 0] 26)) := ((Below.refl _ _).alloc (Nat.le_refl _) _).alloc (by simp) _
  have hbx : BoxAt w.heap.size H W C A n c (w.alloc (.cells #[.int .i64 H, .int .i64 W, .int .i64 C, .slice A n c] 26)) := ⟨Kit.new_cell _ _ _ _, Kit.new_cell _ _ _ _, Kit.new_cell _ _ _ _, Kit.new_cell _ _ _ _⟩
  have HX := Lib.hid (hbx.below (Nat.lt_succ_self _) ((Below.refl _ _).alloc (by simp) (.cells #[.int .i64 0, .int .i64 0, .int .i64 0, .slice none 0 0] 26)))
  have HF := Lib.hid (FreshT.new 26 (w.alloc (.cells #[.int .i64 H, .int .i64 W, .int .i64 C, .slice A n c] 26)) (w.heap.size + 1) (by simp))
  have HB := Lib.hid hal2
  have HZ : Hid (w.heap.size + 2 ≤ ((w.alloc (.cells #[.int .i64 H, .int .i64 W, .int .i64 C, .slice A n c] 26)).alloc (.cells #[.int .i64 0, .int .i64 0, .int .i64 0, .slice none 0 0] 26)).heap.size) := Lib.hid (by simp)
  clear hal2 hbx
  clear ht
  go_enter Try.func14, Try.ntmps14
  go_upto_region 1 with fail
  generalize ((w.alloc (.cells #[.int .i64 H, .int .i64 W, .int .i64 C, .slice A n c] 26)).alloc (.cells #[.int .i64 0, .int .i64 0, .int .i64 0, .slice none 0 0] 26)) = W0 at HX HF HB HZ ⊢
  obtain ⟨b0, b1, b2, b3⟩ := HX.out
  obtain ⟨⟨z0, z1, z2, z3⟩, z4, z5, z6, z7⟩ := HF.out
  go_wp2_with (go_at_call 15; (refine (right_to H W C A n c false HT.out _).mono ?_); rintro e w1 ⟨rfl, hb⟩; (have hz := HZ.out); (have HX1 := Lib.hid (HX.out.below (by omega) hb)); (have HF1 := Lib.hid (HF.out.below (by omega) hb)); (have HB1 := Lib.hid (HB.out.trans (hb.mono HB.out.size))); (have HZ1 := Lib.hid (Nat.le_trans HZ.out hb.size)); clear z0 z1 z2 z3 z4 z5 z6 z7 hb hz b0 b1 b2 b3 HX HF HB HZ; (obtain ⟨b0, b1, b2, b3⟩ := HX1.out); (obtain ⟨⟨z0, z1, z2, z3⟩, z4, z5, z6, z7⟩ := HF1.out))
  refine bodyPost_ret (Kit.results_ct rfl _ _ (w.heap.size + 1) 0 [.int .i64 0, .int .i64 0, .int .i64 0, .slice none 0 0] _ rfl (range_4t (by go_cell) (by go_cell) (by go_cell) (by go_cell)) Try.underlying26 rfl (by kernel_rfl)) rfl ?_
  exact ⟨rfl, by first | exact HB1.out | exact (((HB1.out.setCell (p := ⟨w.heap.size + 1, 0, none⟩) (by simp) _).setCell (p := ⟨w.heap.size + 1, 1, none⟩) (by simp) _).setCell (p := ⟨w.heap.size + 1, 2, none⟩) (by simp) _).setCell (p := ⟨w.heap.size + 1, 3, none⟩) (by simp) _⟩
set_option maxRecDepth 100000 in
set_option maxHeartbeats 4000000 in
theorem cback_no (H W C : Int) (A : Option Addr) (n c : Nat) (ht : tensB H W C n = true) (V : Int) (hV : V < 0 ∨ 8 ≤ V) (w : World) :
    Calls Try.prog 14 #[.agg #[.int .i64 H, .int .i64 W, .int .i64 C, .slice A n c], .int .i64 V] w fun e w' => e = .returned (.tuple #[.agg #[.int .i64 0, .int .i64 0, .int .i64 0, .slice none 0 0], .int .i64 2]) ∧ Below w.heap.size w w' := by
  have HT := Lib.hid ht
  have hal2 : Below w.heap.size w ((w.alloc (.cells #[.int .i64 H, .int .i64 W, .int .i64 C, .slice A n c] 26)).alloc (.cells #[.int .i64 0, .int .i64 0, .int .i64 0, .slice none 0 0] 26)) := ((Below.refl _ _).alloc (Nat.le_refl _) _).alloc (by simp) _
  have hbx : BoxAt w.heap.size H W C A n c (w.alloc (.cells #[.int .i64 H, .int .i64 W, .int .i64 C, .slice A n c] 26)) := ⟨Kit.new_cell _ _ _ _, Kit.new_cell _ _ _ _, Kit.new_cell _ _ _ _, Kit.new_cell _ _ _ _⟩
  have HX := Lib.hid (hbx.below (Nat.lt_succ_self _) ((Below.refl _ _).alloc (by simp) (.cells #[.int .i64 0, .int .i64 0, .int .i64 0, .slice none 0 0] 26)))
  have HF := Lib.hid (FreshT.new 26 (w.alloc (.cells #[.int .i64 H, .int .i64 W, .int .i64 C, .slice A n c] 26)) (w.heap.size + 1) (by simp))
  have HB := Lib.hid hal2
  have HZ : Hid (w.heap.size + 2 ≤ ((w.alloc (.cells #[.int .i64 H, .int .i64 W, .int .i64 C, .slice A n c] 26)).alloc (.cells #[.int .i64 0, .int .i64 0, .int .i64 0, .slice none 0 0] 26)).heap.size) := Lib.hid (by simp)
  clear hal2 hbx
  clear ht
  rcases hV with hV | hV
  all_goals
    go_enter Try.func14, Try.ntmps14
    go_upto_region 1 with fail
    generalize ((w.alloc (.cells #[.int .i64 H, .int .i64 W, .int .i64 C, .slice A n c] 26)).alloc (.cells #[.int .i64 0, .int .i64 0, .int .i64 0, .slice none 0 0] 26)) = W0 at HX HF HB HZ ⊢
    obtain ⟨b0, b1, b2, b3⟩ := HX.out
    have hv1 : ¬ V < 0 ∨ V < 0 := by omega
    go_upto_region 3 with (go_at_call 15; (refine (right_to H W C A n c true HT.out _).mono ?_); rintro e w1 ⟨rfl, hb⟩; (have hz := HZ.out); (have HX1 := Lib.hid (HX.out.below (by omega) hb)); (have HF1 := Lib.hid (HF.out.below (by omega) hb)); (have HB1 := Lib.hid (HB.out.trans (hb.mono HB.out.size))); (have HZ1 := Lib.hid (Nat.le_trans HZ.out hb.size)); clear hb hz b0 b1 b2 b3 HX HF HB HZ; (obtain ⟨b0, b1, b2, b3⟩ := HX1.out); (obtain ⟨⟨z0, z1, z2, z3⟩, z4, z5, z6, z7⟩ := HF1.out))
    go_wp2_with fail
    refine bodyPost_ret (Kit.results_ct rfl _ _ (w.heap.size + 1) 0 [.int .i64 0, .int .i64 0, .int .i64 0, .slice none 0 0] _ rfl (range_4t (by go_cell) (by go_cell) (by go_cell) (by go_cell)) Try.underlying26 rfl (by kernel_rfl)) rfl ?_
    exact ⟨rfl, by first | exact HB1.out | exact below_set4 HB1.out (by omega) _ _ _ _⟩
set_option maxRecDepth 100000 in
set_option maxHeartbeats 8000000 in
theorem cback_to {a b d n : Nat} (A : Option Addr) (zs : List Int) (c : Nat) (hn : zs.length = n) (hnc : n ≤ c) (ht : tensB (a : Int) (b : Int) (d : Int) n = true) (V : Int) (V1 : 0 ≤ V) (V2 : V < 8) (P Q : Int) (ys xs : List Int)
    (hP : ((itT d (turnsN (-V)) (a, b, zs)).1 : Int) = P) (hQ : ((itT d (turnsN (-V)) (a, b, zs)).2.1 : Int) = Q) (hy : (itT d (turnsN (-V)) (a, b, zs)).2.2 = ys) (hx : (if V < 4 then ys else overL ys (itT d (turnsN (-V)) (a, b, zs)).1 (itT d (turnsN (-V)) (a, b, zs)).2.1 d) = xs) (w : World) (hr : Kit.Rd w w.heap.size A (I8s zs)) :
    Calls Try.prog 14 #[.agg #[.int .i64 (a : Int), .int .i64 (b : Int), .int .i64 (d : Int), .slice A n c], .int .i64 V] w (MadeE w P Q (d : Int) n xs (.int .i64 0)) := by
  have htu := fun (wd : World) (h : Kit.Rd wd wd.heap.size A (I8s zs)) => cturned_to A zs c hn hnc ht (turnsN (-V)) (turnsN_go (-V)).2.2.2 P Q ys hP hQ hy wd h
  have hfit := itT_fits (r := turnsN (-V)) (show Fits d n (a, b, zs) from ⟨(tens_nat ht).1, hn⟩)
  have hmi := fun (A1 : Option Addr) (c1 : Nat) (h1 : n ≤ c1) (wd : World) (h : Kit.Rd wd wd.heap.size A1 (I8s ys)) => cmirrored_to (a := (itT d (turnsN (-V)) (a, b, zs)).1) (b := (itT d (turnsN (-V)) (a, b, zs)).2.1) (d := d) A1 ys c1 (by rw [← hy]; exact hfit.2) h1 (tens_turn ht) wd h
  rw [hP, hQ] at hmi
  have HMI := Lib.hid hmi
  have HTU := Lib.hid htu
  have HT := Lib.hid ht
  have HR := Lib.hid hr
  have HY4 : Hid (V < 4 → ys = xs) := Lib.hid fun h => by rw [if_pos h] at hx; exact hx
  have HY8 : Hid (¬ V < 4 → overL ys (itT d (turnsN (-V)) (a, b, zs)).1 (itT d (turnsN (-V)) (a, b, zs)).2.1 d = xs) := Lib.hid fun h => by rw [if_neg h] at hx; exact hx
  have en : IntKind.i64.wrap (-V) = -V := IntWalk.i64_in _ (by omega)
  have en2 : IntKind.i64.wrap (0 - V) = -V := by rw [show 0 - V = -V by omega]; exact en
  have hal2 : Below w.heap.size w ((w.alloc (.cells #[.int .i64 (a : Int), .int .i64 (b : Int), .int .i64 (d : Int), .slice A n c] 26)).alloc (.cells #[.int .i64 0, .int .i64 0, .int .i64 0, .slice none 0 0] 26)) := ((Below.refl _ _).alloc (Nat.le_refl _) _).alloc (by simp) _
  have hbx : BoxAt w.heap.size (a : Int) b d A n c (w.alloc (.cells #[.int .i64 (a : Int), .int .i64 (b : Int), .int .i64 (d : Int), .slice A n c] 26)) := ⟨Kit.new_cell _ _ _ _, Kit.new_cell _ _ _ _, Kit.new_cell _ _ _ _, Kit.new_cell _ _ _ _⟩
  have HX := Lib.hid (hbx.below (Nat.lt_succ_self _) ((Below.refl _ _).alloc (by simp) (.cells #[.int .i64 0, .int .i64 0, .int .i64 0, .slice none 0 0] 26)))
  have HF := Lib.hid (FreshT.new 26 (w.alloc (.cells #[.int .i64 (a : Int), .int .i64 (b : Int), .int .i64 (d : Int), .slice A n c] 26)) (w.heap.size + 1) (by simp))
  have HB := Lib.hid hal2
  have HZ : Hid (w.heap.size + 2 ≤ ((w.alloc (.cells #[.int .i64 (a : Int), .int .i64 (b : Int), .int .i64 (d : Int), .slice A n c] 26)).alloc (.cells #[.int .i64 0, .int .i64 0, .int .i64 0, .slice none 0 0] 26)).heap.size) := Lib.hid (by simp)
  clear hal2 hbx
  clear ht htu hmi hfit hr hP hQ hy hn hx
  go_enter Try.func14, Try.ntmps14
  go_upto_region 1 with fail
  generalize ((w.alloc (.cells #[.int .i64 (a : Int), .int .i64 (b : Int), .int .i64 (d : Int), .slice A n c] 26)).alloc (.cells #[.int .i64 0, .int .i64 0, .int .i64 0, .slice none 0 0] 26)) = W0 at HX HF HB HZ ⊢
  obtain ⟨b0, b1, b2, b3⟩ := HX.out
  go_upto_region 5 with (go_at_call 15; (refine (right_to a b d A n c true HT.out _).mono ?_); rintro e w1 ⟨rfl, hb⟩; (have hz := HZ.out); (have HX1 := Lib.hid (HX.out.below (by omega) hb)); (have HF1 := Lib.hid (HF.out.below (by omega) hb)); (have HB1 := Lib.hid (HB.out.trans (hb.mono HB.out.size))); (have HZ1 := Lib.hid (Nat.le_trans HZ.out hb.size)); clear hb hz b0 b1 b2 b3 HX HF HB HZ; (obtain ⟨b0, b1, b2, b3⟩ := HX1.out); (obtain ⟨⟨z0, z1, z2, z3⟩, z4, z5, z6, z7⟩ := HF1.out))
  clear b0 b1 b2 b3 z0 z1 z2 z3 z4 z5 z6 z7
  refine wp_region_held_drew (S := BoxAt w.heap.size (a : Int) b d A n c) (by kernel_rfl) HX1.out (fun hHeld => ?_)
  replace HF1 := Lib.hid (HF1.out.below (by have := HZ1.out; omega) (Below.refl w1.heap.size w1).drew)
  replace HB1 := Lib.hid HB1.out.drew
  replace HZ1 : Hid (w.heap.size + 2 ≤ w1.drew.heap.size) := Lib.hid HZ1.out
  clear HX1
  generalize w1.drew = W1 at HF1 HB1 HZ1 hHeld ⊢
  refine wpAnyH_take (i := 0) (oi := ({ dst := some 18, op := Op.load 26 (Operand.tmp 2), type := 26, pos := "turn.go:94", after := #[], guard := none } : Oper)) (v := ?_) rfl (by kernel_rfl) (by kernel_rfl) (by kernel_rfl) (fun _ _ _ h => h) (Or.inl ⟨by rfl, ?_⟩) (by assumption) ?_
  rotate_left
  · intro wS hSw
    obtain ⟨q0, q1, q2, q3⟩ := hSw
    first
      | (go_simp; done)
      | (go_simp; with_reducible rfl)
  try simp only [Act.put, List.setIfInBounds_toArray, List.set_cons_zero, List.set_cons_succ]
  refine wpAnyH_take (i := 1) (oi := ({ dst := some 19, op := Op.move (Operand.tmp 1), type := 3, pos := "turn.go:94", after := #[], guard := none } : Oper)) (v := ?_) rfl (by kernel_rfl) (by kernel_rfl) (by kernel_rfl) (fun _ _ _ h => h) (Or.inl ⟨by rfl, ?_⟩) (by assumption) ?_
  rotate_left
  · intro wS hSw
    first
      | (go_simp; done)
      | (go_simp; with_reducible rfl)
  try simp only [Act.put, List.setIfInBounds_toArray, List.set_cons_zero, List.set_cons_succ]
  refine wpAnyH_take (i := 2) (oi := ({ dst := some 20, op := Op.unOp UnOp.neg 3 (Operand.tmp 19), type := 3, pos := "turn.go:94", after := #[{ on := 1, ground := Ground.data }], guard := none } : Oper)) (v := ?_) rfl (by kernel_rfl) (by kernel_rfl) (by kernel_rfl) (fun _ _ _ h => h) (Or.inl ⟨by rfl, ?_⟩) (by assumption) ?_
  rotate_left
  · intro wS hSw
    first
      | (go_simp; done)
      | (go_simp; with_reducible rfl)
  try simp only [Act.put, List.setIfInBounds_toArray, List.set_cons_zero, List.set_cons_succ]
  refine wpAnyH_ready (rs := [3, 5]) (by kernel_rfl) (by simp) ?_
  refine AllReadyH.cons (o := ({ dst := some 21, op := Op.call { callee := Callee.value (Operand.func 17), args := #[Operand.tmp 20], argTypes := #[3] }, type := 3, pos := "turn.go:94", after := #[{ on := 2, ground := Ground.data }], guard := none } : Oper)) rfl (fun Kq hK => ?_) ?_
  · go_simp
    go_at_call 17
    refine (cquarters_to (-V) (by omega) (by omega) _).mono ?_
    rintro e W2 ⟨rfl, rfl⟩
    dsimp only
    refine hK.out _ _ ?_ (fun hHeld => ?_)
    · exact hHeld
    clear hK Kq
    try simp only [Act.put, List.setIfInBounds_toArray, List.set_cons_zero, List.set_cons_succ]
    refine wpAnyH_ready (rs := [4, 5]) (by kernel_rfl) (by simp) ?_
    refine AllReadyH.cons (o := ({ dst := some 22, op := Op.call { callee := Callee.value (Operand.func 16), args := #[Operand.tmp 18, Operand.tmp 21], argTypes := #[26, 3] }, type := 26, pos := "turn.go:94", after := #[{ on := 0, ground := Ground.data }, { on := 3, ground := Ground.data }, { on := 3, ground := Ground.chain }], guard := none } : Oper)) rfl (fun Kq hK => ?_) ?_
    · go_simp
      go_at_call 16
      refine (HTU.out _ ((HR.out.below HB1.out).more HB1.out.size)).mono ?_
      rintro e W2 ⟨v1, rfl, ho1, hb⟩
      have hz := HZ1.out
      have hS1 : BoxAt w.heap.size (a : Int) b d A n c W2 := hHeld.below (by omega) hb
      have HO2 := Lib.hid (Kit.own_base ho1 HZ1.out)
      have HF2 := Lib.hid (HF1.out.below (by omega) hb)
      have HB2 := Lib.hid (HB1.out.trans (hb.mono HB1.out.size))
      have HZ2 := Lib.hid (Nat.le_trans HZ1.out hb.size)
      clear hHeld ho1 hb hz HF1 HB1 HZ1
      dsimp only
      refine hK.out _ _ ?_ (fun hHeld => ?_)
      · exact hS1
      clear hK Kq
      try simp only [Act.put, List.setIfInBounds_toArray, List.set_cons_zero, List.set_cons_succ]
      refine wpAnyH_ready (rs := [5]) (by kernel_rfl) (by simp) ?_
      refine AllReadyH.cons (o := ({ dst := some 6, op := Op.alloc 26, type := 0, pos := "turn.go:94", after := #[], guard := none } : Oper)) rfl (fun Kq hK => ?_) (AllReadyH.nil)
      go_simp
      have hb : Below W2.heap.size W2 (W2.alloc (.cells #[.int .i64 0, .int .i64 0, .int .i64 0, .slice none 0 0] 26)) := (Below.refl _ _).alloc (Nat.le_refl _) _
      have hz := HZ2.out
      have hS1 : BoxAt w.heap.size (a : Int) b d A n c (W2.alloc (.cells #[.int .i64 0, .int .i64 0, .int .i64 0, .slice none 0 0] 26)) := hHeld.below (by omega) hb
      have HF3 := Lib.hid (HF2.out.below (by omega) hb)
      have HB3 := Lib.hid (HB2.out.trans (hb.mono HB2.out.size))
      have HZ3 := Lib.hid (Nat.le_trans HZ2.out hb.size)
      have HP3 := Lib.hid (FreshT.new 26 W2 W2.heap.size rfl)
      have HPL3 : Hid (W2.heap.size < (W2.alloc (.cells #[.int .i64 0, .int .i64 0, .int .i64 0, .slice none 0 0] 26)).heap.size) := Lib.hid (by simp)
      have HPG : Hid (w.heap.size + 2 ≤ W2.heap.size) := HZ2
      have HO3 := Lib.hid (Kit.own_below HO2.out hb)
      have HNE := Lib.hid (show v1.ownBlock ≠ some W2.heap.size from fun e => absurd (own_block_lt HO2.out _ e) (Nat.lt_irrefl _))
      clear hHeld hb hz HF2 HB2 HZ2 HO2
      generalize W2.alloc (.cells #[.int .i64 0, .int .i64 0, .int .i64 0, .slice none 0 0] 26) = W3 at *
      obtain ⟨p, hp⟩ : ∃ p, W2.heap.size = p := ⟨_, rfl⟩
      simp only [hp] at *
      clear hp
      try dsimp only
      refine hK.out _ _ ?_ (fun hHeld => ?_)
      · exact hS1
      clear hK Kq
      try simp only [Act.put, List.setIfInBounds_toArray, List.set_cons_zero, List.set_cons_succ]
      obtain ⟨A1, c1', rfl, hc1, -, -⟩ := Kit.own_rd HO3.out
      have hfp := HP3.out
      have hpg := HPG.out
      obtain ⟨⟨z0, z1, z2, z3⟩, z4, z5, z6, z7⟩ := hfp
      refine wpAnyH_ready (rs := [6]) (by kernel_rfl) (by simp) ?_
      refine AllReadyH.cons (o := ({ dst := none, op := Op.store 26 (Operand.tmp 6) (Operand.tmp 22), type := 0, pos := "turn.go:94", after := #[{ on := 5, ground := Ground.data }, { on := 4, ground := Ground.data }, { on := 4, ground := Ground.chain }, { on := 0, ground := Ground.phase }, { on := 1, ground := Ground.phase }, { on := 2, ground := Ground.phase }, { on := 3, ground := Ground.phase }, { on := 4, ground := Ground.phase }, { on := 5, ground := Ground.phase }], guard := none } : Oper)) rfl (fun Kq hK => ?_) (AllReadyH.nil)
      go_simp
      refine hK.out _ _ ?_ (fun hHeld => ?_)
      · exact hHeld.stores (by omega) _ _ _ _
      clear hK Kq
      try simp only [Act.put, List.setIfInBounds_toArray, List.set_cons_zero, List.set_cons_succ]
      have HF4 := Lib.hid (FreshT.apart HF3.out (p := p) (by omega) (.int .i64 P) (.int .i64 Q) (.int .i64 (d : Int)) (.slice A1 n c1'))
      have HB4 := Lib.hid (below_set4 HB3.out (g := p) (by omega) (.int .i64 P) (.int .i64 Q) (.int .i64 (d : Int)) (.slice A1 n c1'))
      have HO4 := Lib.hid (own_apart HO3.out HNE.out (.int .i64 P) (.int .i64 Q) (.int .i64 (d : Int)) (.slice A1 n c1'))
      have HZ4 : Hid (w.heap.size + 2 ≤ ((((W3.setCell ⟨p, 0, none⟩ (.int .i64 P)).setCell ⟨p, 1, none⟩ (.int .i64 Q)).setCell ⟨p, 2, none⟩ (.int .i64 (d : Int))).setCell ⟨p, 3, none⟩ (.slice A1 n c1')).heap.size) := Lib.hid (by have := HZ3.out; simpa using this)
      have HX4 := Lib.hid (FreshT.box HP3.out P Q (d : Int) A1 n c1')
      have HQL : Hid (p < ((((W3.setCell ⟨p, 0, none⟩ (.int .i64 P)).setCell ⟨p, 1, none⟩ (.int .i64 Q)).setCell ⟨p, 2, none⟩ (.int .i64 (d : Int))).setCell ⟨p, 3, none⟩ (.slice A1 n c1')).heap.size) := Lib.hid (by have := HPL3.out; simpa using this)
      clear z0 z1 z2 z3 z4 z5 z6 z7 HF3 HB3 HO3 HZ3 HP3 HPL3 HNE
      generalize ((((W3.setCell ⟨p, 0, none⟩ (.int .i64 P)).setCell ⟨p, 1, none⟩ (.int .i64 Q)).setCell ⟨p, 2, none⟩ (.int .i64 (d : Int))).setCell ⟨p, 3, none⟩ (.slice A1 n c1')) = W4 at HF4 HB4 HO4 HZ4 HX4 HQL hHeld ⊢
      refine wpAnyH_done (by kernel_rfl) ?_ _
      clear hHeld
      obtain ⟨b0, b1, b2, b3⟩ := HX4.out
      obtain ⟨⟨z0, z1, z2, z3⟩, z4, z5, z6, z7⟩ := HF4.out
      by_cases hv4 : V < 4
      · have hys := HY4.out hv4
        go_wp2_with fail
        refine bodyPost_ret (Kit.results_ct rfl _ _ (w.heap.size + 1) 0 [.int .i64 P, .int .i64 Q, .int .i64 (d : Int), .slice A1 n c1'] _ rfl (range_4t (by go_cell) (by go_cell) (by go_cell) (by go_cell)) Try.underlying26 rfl (by kernel_rfl)) rfl ?_
        rw [hys] at HO4
        exact ⟨_, rfl, Kit.own_base (own_set4t HO4.out (Nat.lt_succ_self _)) (by omega), below_set4 HB4.out (by omega) _ _ _ _⟩
      · have HYY := HY8.out (by omega)
        obtain ⟨A1', c2', e2, hc2, -, hrd⟩ := Kit.own_rd HO4.out
        cases e2
        have HRD := Lib.hid hrd
        have hbp := HX4
        clear hrd
        go_wp2_with (go_at_call 18; (refine (HMI.out A1 c1' hc1 _ HRD.out).mono ?_); rintro e W9 ⟨v9, rfl, ho9, hb⟩; (obtain ⟨A9, c9', rfl, -, -, -⟩ := Kit.own_rd ho9); (have hz := HZ4.out); (have HO9 := Lib.hid (Kit.own_base ho9 HZ4.out)); (have HF9 := Lib.hid (HF4.out.below (by omega) hb)); (have HB9 := Lib.hid (HB4.out.trans (hb.mono HB4.out.size))); clear ho9 hb hz b0 b1 b2 b3 z0 z1 z2 z3 z4 z5 z6 z7; (obtain ⟨⟨z0, z1, z2, z3⟩, z4, z5, z6, z7⟩ := HF9.out))
        refine bodyPost_ret (Kit.results_ct rfl _ _ (w.heap.size + 1) 0 [.int .i64 P, .int .i64 Q, .int .i64 (d : Int), .slice A9 n c9'] _ rfl (range_4t (by go_cell) (by go_cell) (by go_cell) (by go_cell)) Try.underlying26 rfl (by kernel_rfl)) rfl ?_
        rw [HYY] at HO9
        exact ⟨_, rfl, Kit.own_base (own_set4t HO9.out (Nat.lt_succ_self _)) (by omega), below_set4 HB9.out (by omega) _ _ _ _⟩
    refine AllReadyH.cons (o := ({ dst := some 6, op := Op.alloc 26, type := 0, pos := "turn.go:94", after := #[], guard := none } : Oper)) rfl (fun Kq hK => ?_) ?_
    · go_simp
      have hb : Below W1.heap.size W1 (W1.alloc (.cells #[.int .i64 0, .int .i64 0, .int .i64 0, .slice none 0 0] 26)) := (Below.refl _ _).alloc (Nat.le_refl _) _
      have hz := HZ1.out
      have hS1 : BoxAt w.heap.size (a : Int) b d A n c (W1.alloc (.cells #[.int .i64 0, .int .i64 0, .int .i64 0, .slice none 0 0] 26)) := hHeld.below (by omega) hb
      have HF2 := Lib.hid (HF1.out.below (by omega) hb)
      have HB2 := Lib.hid (HB1.out.trans (hb.mono HB1.out.size))
      have HZ2 := Lib.hid (Nat.le_trans HZ1.out hb.size)
      have HP2 := Lib.hid (FreshT.new 26 W1 W1.heap.size rfl)
      have HPL2 : Hid (W1.heap.size < (W1.alloc (.cells #[.int .i64 0, .int .i64 0, .int .i64 0, .slice none 0 0] 26)).heap.size) := Lib.hid (by simp)
      have HPG : Hid (w.heap.size + 2 ≤ W1.heap.size) := HZ1
      clear hHeld hb hz HF1 HB1 HZ1
      generalize W1.alloc (.cells #[.int .i64 0, .int .i64 0, .int .i64 0, .slice none 0 0] 26) = W2 at *
      obtain ⟨p, hp⟩ : ∃ p, W1.heap.size = p := ⟨_, rfl⟩
      simp only [hp] at *
      clear hp
      try dsimp only
      refine hK.out _ _ ?_ (fun hHeld => ?_)
      · exact hS1
      clear hK Kq
      try simp only [Act.put, List.setIfInBounds_toArray, List.set_cons_zero, List.set_cons_succ]
      refine wpAnyH_ready (rs := [4]) (by kernel_rfl) (by simp) ?_
      refine AllReadyH.cons (o := ({ dst := some 22, op := Op.call { callee := Callee.value (Operand.func 16), args := #[Operand.tmp 18, Operand.tmp 21], argTypes := #[26, 3] }, type := 26, pos := "turn.go:94", after := #[{ on := 0, ground := Ground.data }, { on := 3, ground := Ground.data }, { on := 3, ground := Ground.chain }], guard := none } : Oper)) rfl (fun Kq hK => ?_) (AllReadyH.nil)
      go_simp
      go_at_call 16
      refine (HTU.out _ ((HR.out.below HB2.out).more HB2.out.size)).mono ?_
      rintro e W3 ⟨v1, rfl, ho1, hb⟩
      have hz := HZ2.out
      have hS1 : BoxAt w.heap.size (a : Int) b d A n c W3 := hHeld.below (by omega) hb
      have HO3 := Lib.hid (Kit.own_base ho1 HZ2.out)
      have HF3 := Lib.hid (HF2.out.below (by omega) hb)
      have HB3 := Lib.hid (HB2.out.trans (hb.mono HB2.out.size))
      have HZ3 := Lib.hid (Nat.le_trans HZ2.out hb.size)
      have HP3 := Lib.hid (HP2.out.below HPL2.out hb)
      have HPL3 := Lib.hid (Nat.lt_of_lt_of_le HPL2.out hb.size)
      have HNE := Lib.hid (show v1.ownBlock ≠ some p from fun e => absurd (Kit.own_block_ge ho1 p e) (by have := HPL2.out; omega))
      clear hHeld ho1 hb hz HF2 HB2 HZ2 HP2 HPL2
      dsimp only
      refine hK.out _ _ ?_ (fun hHeld => ?_)
      · exact hS1
      clear hK Kq
      try simp only [Act.put, List.setIfInBounds_toArray, List.set_cons_zero, List.set_cons_succ]
      obtain ⟨A1, c1', rfl, hc1, -, -⟩ := Kit.own_rd HO3.out
      have hfp := HP3.out
      have hpg := HPG.out
      obtain ⟨⟨z0, z1, z2, z3⟩, z4, z5, z6, z7⟩ := hfp
      refine wpAnyH_ready (rs := [6]) (by kernel_rfl) (by simp) ?_
      refine AllReadyH.cons (o := ({ dst := none, op := Op.store 26 (Operand.tmp 6) (Operand.tmp 22), type := 0, pos := "turn.go:94", after := #[{ on := 5, ground := Ground.data }, { on := 4, ground := Ground.data }, { on := 4, ground := Ground.chain }, { on := 0, ground := Ground.phase }, { on := 1, ground := Ground.phase }, { on := 2, ground := Ground.phase }, { on := 3, ground := Ground.phase }, { on := 4, ground := Ground.phase }, { on := 5, ground := Ground.phase }], guard := none } : Oper)) rfl (fun Kq hK => ?_) (AllReadyH.nil)
      go_simp
      refine hK.out _ _ ?_ (fun hHeld => ?_)
      · exact hHeld.stores (by omega) _ _ _ _
      clear hK Kq
      try simp only [Act.put, List.setIfInBounds_toArray, List.set_cons_zero, List.set_cons_succ]
      have HF4 := Lib.hid (FreshT.apart HF3.out (p := p) (by omega) (.int .i64 P) (.int .i64 Q) (.int .i64 (d : Int)) (.slice A1 n c1'))
      have HB4 := Lib.hid (below_set4 HB3.out (g := p) (by omega) (.int .i64 P) (.int .i64 Q) (.int .i64 (d : Int)) (.slice A1 n c1'))
      have HO4 := Lib.hid (own_apart HO3.out HNE.out (.int .i64 P) (.int .i64 Q) (.int .i64 (d : Int)) (.slice A1 n c1'))
      have HZ4 : Hid (w.heap.size + 2 ≤ ((((W3.setCell ⟨p, 0, none⟩ (.int .i64 P)).setCell ⟨p, 1, none⟩ (.int .i64 Q)).setCell ⟨p, 2, none⟩ (.int .i64 (d : Int))).setCell ⟨p, 3, none⟩ (.slice A1 n c1')).heap.size) := Lib.hid (by have := HZ3.out; simpa using this)
      have HX4 := Lib.hid (FreshT.box HP3.out P Q (d : Int) A1 n c1')
      have HQL : Hid (p < ((((W3.setCell ⟨p, 0, none⟩ (.int .i64 P)).setCell ⟨p, 1, none⟩ (.int .i64 Q)).setCell ⟨p, 2, none⟩ (.int .i64 (d : Int))).setCell ⟨p, 3, none⟩ (.slice A1 n c1')).heap.size) := Lib.hid (by have := HPL3.out; simpa using this)
      clear z0 z1 z2 z3 z4 z5 z6 z7 HF3 HB3 HO3 HZ3 HP3 HPL3 HNE
      generalize ((((W3.setCell ⟨p, 0, none⟩ (.int .i64 P)).setCell ⟨p, 1, none⟩ (.int .i64 Q)).setCell ⟨p, 2, none⟩ (.int .i64 (d : Int))).setCell ⟨p, 3, none⟩ (.slice A1 n c1')) = W4 at HF4 HB4 HO4 HZ4 HX4 HQL hHeld ⊢
      refine wpAnyH_done (by kernel_rfl) ?_ _
      clear hHeld
      obtain ⟨b0, b1, b2, b3⟩ := HX4.out
      obtain ⟨⟨z0, z1, z2, z3⟩, z4, z5, z6, z7⟩ := HF4.out
      by_cases hv4 : V < 4
      · have hys := HY4.out hv4
        go_wp2_with fail
        refine bodyPost_ret (Kit.results_ct rfl _ _ (w.heap.size + 1) 0 [.int .i64 P, .int .i64 Q, .int .i64 (d : Int), .slice A1 n c1'] _ rfl (range_4t (by go_cell) (by go_cell) (by go_cell) (by go_cell)) Try.underlying26 rfl (by kernel_rfl)) rfl ?_
        rw [hys] at HO4
        exact ⟨_, rfl, Kit.own_base (own_set4t HO4.out (Nat.lt_succ_self _)) (by omega), below_set4 HB4.out (by omega) _ _ _ _⟩
      · have HYY := HY8.out (by omega)
        obtain ⟨A1', c2', e2, hc2, -, hrd⟩ := Kit.own_rd HO4.out
        cases e2
        have HRD := Lib.hid hrd
        have hbp := HX4
        clear hrd
        go_wp2_with (go_at_call 18; (refine (HMI.out A1 c1' hc1 _ HRD.out).mono ?_); rintro e W9 ⟨v9, rfl, ho9, hb⟩; (obtain ⟨A9, c9', rfl, -, -, -⟩ := Kit.own_rd ho9); (have hz := HZ4.out); (have HO9 := Lib.hid (Kit.own_base ho9 HZ4.out)); (have HF9 := Lib.hid (HF4.out.below (by omega) hb)); (have HB9 := Lib.hid (HB4.out.trans (hb.mono HB4.out.size))); clear ho9 hb hz b0 b1 b2 b3 z0 z1 z2 z3 z4 z5 z6 z7; (obtain ⟨⟨z0, z1, z2, z3⟩, z4, z5, z6, z7⟩ := HF9.out))
        refine bodyPost_ret (Kit.results_ct rfl _ _ (w.heap.size + 1) 0 [.int .i64 P, .int .i64 Q, .int .i64 (d : Int), .slice A9 n c9'] _ rfl (range_4t (by go_cell) (by go_cell) (by go_cell) (by go_cell)) Try.underlying26 rfl (by kernel_rfl)) rfl ?_
        rw [HYY] at HO9
        exact ⟨_, rfl, Kit.own_base (own_set4t HO9.out (Nat.lt_succ_self _)) (by omega), below_set4 HB9.out (by omega) _ _ _ _⟩
    exact AllReadyH.nil
  refine AllReadyH.cons (o := ({ dst := some 6, op := Op.alloc 26, type := 0, pos := "turn.go:94", after := #[], guard := none } : Oper)) rfl (fun Kq hK => ?_) ?_
  · go_simp
    have hb : Below W1.heap.size W1 (W1.alloc (.cells #[.int .i64 0, .int .i64 0, .int .i64 0, .slice none 0 0] 26)) := (Below.refl _ _).alloc (Nat.le_refl _) _
    have hz := HZ1.out
    have hS1 : BoxAt w.heap.size (a : Int) b d A n c (W1.alloc (.cells #[.int .i64 0, .int .i64 0, .int .i64 0, .slice none 0 0] 26)) := hHeld.below (by omega) hb
    have HF2 := Lib.hid (HF1.out.below (by omega) hb)
    have HB2 := Lib.hid (HB1.out.trans (hb.mono HB1.out.size))
    have HZ2 := Lib.hid (Nat.le_trans HZ1.out hb.size)
    have HP2 := Lib.hid (FreshT.new 26 W1 W1.heap.size rfl)
    have HPL2 : Hid (W1.heap.size < (W1.alloc (.cells #[.int .i64 0, .int .i64 0, .int .i64 0, .slice none 0 0] 26)).heap.size) := Lib.hid (by simp)
    have HPG : Hid (w.heap.size + 2 ≤ W1.heap.size) := HZ1
    clear hHeld hb hz HF1 HB1 HZ1
    generalize W1.alloc (.cells #[.int .i64 0, .int .i64 0, .int .i64 0, .slice none 0 0] 26) = W2 at *
    obtain ⟨p, hp⟩ : ∃ p, W1.heap.size = p := ⟨_, rfl⟩
    simp only [hp] at *
    clear hp
    try dsimp only
    refine hK.out _ _ ?_ (fun hHeld => ?_)
    · exact hS1
    clear hK Kq
    try simp only [Act.put, List.setIfInBounds_toArray, List.set_cons_zero, List.set_cons_succ]
    refine wpAnyH_ready (rs := [3]) (by kernel_rfl) (by simp) ?_
    refine AllReadyH.cons (o := ({ dst := some 21, op := Op.call { callee := Callee.value (Operand.func 17), args := #[Operand.tmp 20], argTypes := #[3] }, type := 3, pos := "turn.go:94", after := #[{ on := 2, ground := Ground.data }], guard := none } : Oper)) rfl (fun Kq hK => ?_) (AllReadyH.nil)
    go_simp
    go_at_call 17
    refine (cquarters_to (-V) (by omega) (by omega) _).mono ?_
    rintro e W2 ⟨rfl, rfl⟩
    dsimp only
    refine hK.out _ _ ?_ (fun hHeld => ?_)
    · exact hHeld
    clear hK Kq
    try simp only [Act.put, List.setIfInBounds_toArray, List.set_cons_zero, List.set_cons_succ]
    refine wpAnyH_ready (rs := [4]) (by kernel_rfl) (by simp) ?_
    refine AllReadyH.cons (o := ({ dst := some 22, op := Op.call { callee := Callee.value (Operand.func 16), args := #[Operand.tmp 18, Operand.tmp 21], argTypes := #[26, 3] }, type := 26, pos := "turn.go:94", after := #[{ on := 0, ground := Ground.data }, { on := 3, ground := Ground.data }, { on := 3, ground := Ground.chain }], guard := none } : Oper)) rfl (fun Kq hK => ?_) (AllReadyH.nil)
    go_simp
    go_at_call 16
    refine (HTU.out _ ((HR.out.below HB2.out).more HB2.out.size)).mono ?_
    rintro e W3 ⟨v1, rfl, ho1, hb⟩
    have hz := HZ2.out
    have hS1 : BoxAt w.heap.size (a : Int) b d A n c W3 := hHeld.below (by omega) hb
    have HO3 := Lib.hid (Kit.own_base ho1 HZ2.out)
    have HF3 := Lib.hid (HF2.out.below (by omega) hb)
    have HB3 := Lib.hid (HB2.out.trans (hb.mono HB2.out.size))
    have HZ3 := Lib.hid (Nat.le_trans HZ2.out hb.size)
    have HP3 := Lib.hid (HP2.out.below HPL2.out hb)
    have HPL3 := Lib.hid (Nat.lt_of_lt_of_le HPL2.out hb.size)
    have HNE := Lib.hid (show v1.ownBlock ≠ some p from fun e => absurd (Kit.own_block_ge ho1 p e) (by have := HPL2.out; omega))
    clear hHeld ho1 hb hz HF2 HB2 HZ2 HP2 HPL2
    dsimp only
    refine hK.out _ _ ?_ (fun hHeld => ?_)
    · exact hS1
    clear hK Kq
    try simp only [Act.put, List.setIfInBounds_toArray, List.set_cons_zero, List.set_cons_succ]
    obtain ⟨A1, c1', rfl, hc1, -, -⟩ := Kit.own_rd HO3.out
    have hfp := HP3.out
    have hpg := HPG.out
    obtain ⟨⟨z0, z1, z2, z3⟩, z4, z5, z6, z7⟩ := hfp
    refine wpAnyH_ready (rs := [6]) (by kernel_rfl) (by simp) ?_
    refine AllReadyH.cons (o := ({ dst := none, op := Op.store 26 (Operand.tmp 6) (Operand.tmp 22), type := 0, pos := "turn.go:94", after := #[{ on := 5, ground := Ground.data }, { on := 4, ground := Ground.data }, { on := 4, ground := Ground.chain }, { on := 0, ground := Ground.phase }, { on := 1, ground := Ground.phase }, { on := 2, ground := Ground.phase }, { on := 3, ground := Ground.phase }, { on := 4, ground := Ground.phase }, { on := 5, ground := Ground.phase }], guard := none } : Oper)) rfl (fun Kq hK => ?_) (AllReadyH.nil)
    go_simp
    refine hK.out _ _ ?_ (fun hHeld => ?_)
    · exact hHeld.stores (by omega) _ _ _ _
    clear hK Kq
    try simp only [Act.put, List.setIfInBounds_toArray, List.set_cons_zero, List.set_cons_succ]
    have HF4 := Lib.hid (FreshT.apart HF3.out (p := p) (by omega) (.int .i64 P) (.int .i64 Q) (.int .i64 (d : Int)) (.slice A1 n c1'))
    have HB4 := Lib.hid (below_set4 HB3.out (g := p) (by omega) (.int .i64 P) (.int .i64 Q) (.int .i64 (d : Int)) (.slice A1 n c1'))
    have HO4 := Lib.hid (own_apart HO3.out HNE.out (.int .i64 P) (.int .i64 Q) (.int .i64 (d : Int)) (.slice A1 n c1'))
    have HZ4 : Hid (w.heap.size + 2 ≤ ((((W3.setCell ⟨p, 0, none⟩ (.int .i64 P)).setCell ⟨p, 1, none⟩ (.int .i64 Q)).setCell ⟨p, 2, none⟩ (.int .i64 (d : Int))).setCell ⟨p, 3, none⟩ (.slice A1 n c1')).heap.size) := Lib.hid (by have := HZ3.out; simpa using this)
    have HX4 := Lib.hid (FreshT.box HP3.out P Q (d : Int) A1 n c1')
    have HQL : Hid (p < ((((W3.setCell ⟨p, 0, none⟩ (.int .i64 P)).setCell ⟨p, 1, none⟩ (.int .i64 Q)).setCell ⟨p, 2, none⟩ (.int .i64 (d : Int))).setCell ⟨p, 3, none⟩ (.slice A1 n c1')).heap.size) := Lib.hid (by have := HPL3.out; simpa using this)
    clear z0 z1 z2 z3 z4 z5 z6 z7 HF3 HB3 HO3 HZ3 HP3 HPL3 HNE
    generalize ((((W3.setCell ⟨p, 0, none⟩ (.int .i64 P)).setCell ⟨p, 1, none⟩ (.int .i64 Q)).setCell ⟨p, 2, none⟩ (.int .i64 (d : Int))).setCell ⟨p, 3, none⟩ (.slice A1 n c1')) = W4 at HF4 HB4 HO4 HZ4 HX4 HQL hHeld ⊢
    refine wpAnyH_done (by kernel_rfl) ?_ _
    clear hHeld
    obtain ⟨b0, b1, b2, b3⟩ := HX4.out
    obtain ⟨⟨z0, z1, z2, z3⟩, z4, z5, z6, z7⟩ := HF4.out
    by_cases hv4 : V < 4
    · have hys := HY4.out hv4
      go_wp2_with fail
      refine bodyPost_ret (Kit.results_ct rfl _ _ (w.heap.size + 1) 0 [.int .i64 P, .int .i64 Q, .int .i64 (d : Int), .slice A1 n c1'] _ rfl (range_4t (by go_cell) (by go_cell) (by go_cell) (by go_cell)) Try.underlying26 rfl (by kernel_rfl)) rfl ?_
      rw [hys] at HO4
      exact ⟨_, rfl, Kit.own_base (own_set4t HO4.out (Nat.lt_succ_self _)) (by omega), below_set4 HB4.out (by omega) _ _ _ _⟩
    · have HYY := HY8.out (by omega)
      obtain ⟨A1', c2', e2, hc2, -, hrd⟩ := Kit.own_rd HO4.out
      cases e2
      have HRD := Lib.hid hrd
      have hbp := HX4
      clear hrd
      go_wp2_with (go_at_call 18; (refine (HMI.out A1 c1' hc1 _ HRD.out).mono ?_); rintro e W9 ⟨v9, rfl, ho9, hb⟩; (obtain ⟨A9, c9', rfl, -, -, -⟩ := Kit.own_rd ho9); (have hz := HZ4.out); (have HO9 := Lib.hid (Kit.own_base ho9 HZ4.out)); (have HF9 := Lib.hid (HF4.out.below (by omega) hb)); (have HB9 := Lib.hid (HB4.out.trans (hb.mono HB4.out.size))); clear ho9 hb hz b0 b1 b2 b3 z0 z1 z2 z3 z4 z5 z6 z7; (obtain ⟨⟨z0, z1, z2, z3⟩, z4, z5, z6, z7⟩ := HF9.out))
      refine bodyPost_ret (Kit.results_ct rfl _ _ (w.heap.size + 1) 0 [.int .i64 P, .int .i64 Q, .int .i64 (d : Int), .slice A9 n c9'] _ rfl (range_4t (by go_cell) (by go_cell) (by go_cell) (by go_cell)) Try.underlying26 rfl (by kernel_rfl)) rfl ?_
      rw [HYY] at HO9
      exact ⟨_, rfl, Kit.own_base (own_set4t HO9.out (Nat.lt_succ_self _)) (by omega), below_set4 HB9.out (by omega) _ _ _ _⟩
  exact AllReadyH.nil
end Go.Proofs.Ytmjcjdgdpecpjaa.CTurn
