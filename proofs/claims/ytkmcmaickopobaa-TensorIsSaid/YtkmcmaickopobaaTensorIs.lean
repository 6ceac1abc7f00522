/- TensorIs: any numbers in any shape are a tensor, or not, as the document says; so is one of a single number, and a flat one; the call returns true and leaves its arguments as they were. No condition. -/
import Derived.Test.YtkmcmaickopobaaTensorLawFill
import Derived.Test.YtkmcmaickopobaaTensorSameTwo
import Derived.Test.YtkmcmaickopobaaTensorKnown
import Derived.Test.YtkmcmaickopobaaOpenTensor
namespace Go.Proofs.Ytkmcmaickopobaa.lawTensorIs
open Go Go.ChangeShapes Go.WideShapes Go.ChangeAt Go.RowKit
open Plain CSat CShape CTensor
set_option linter.unusedVariables false

theorem _root_.Go.Proofs.Ytkmcmaickopobaa.CTensor.BoxAt.newp (H W C : Int) (A : Option Addr) (n c : Nat) (T : TypeId) (w : World) : BoxAt w.heap.size H W C A n c (w.alloc (.cells #[.int .i64 H, .int .i64 W, .int .i64 C, .slice A n c] T)) := BoxAt.new H W C A n c T w
theorem _root_.Go.Proofs.Ytkmcmaickopobaa.CTensor.BoxAt.drewp {B : Nat} {H W C : Int} {A : Option Addr} {n c : Nat} {w : World} (h : BoxAt B H W C A n c w) : BoxAt B H W C A n c w.drew := h
theorem _root_.Go.Proofs.Ytkmcmaickopobaa.CTensor.ShapeAt.drewp {B : Nat} {H W C : Int} {w : World} (h : ShapeAt B H W C w) : ShapeAt B H W C w.drew := h
theorem walk_long {w : World} (H W C : Int) (A : Option Addr) (n k : Nat) (hl : 2000 < n) (x : Int) :
    Calls Try.prog 3 #[.agg #[.int .i64 H, .int .i64 W, .int .i64 C], .slice A n k, .int .i8 x] w fun e w' => e = .returned (.bool true) ∧ Below w.heap.size w w' := by
  have hlI : (2000 : Int) < (n : Int) := by omega
  go_enter Try.func3, Try.ntmps3
  go_wp2_with (go_at_call 6; (refine (known05 _).mono ?_); rintro e w1 ⟨rfl, hb1⟩; (have HB := Lib.hid ((((Below.refl w.heap.size w).alloc (Nat.le_refl _) _)).trans (hb1.mono (by simp)))); clear hb1)
  go_ret
  exact ⟨rfl, HB.out⟩
set_option maxRecDepth 100000 in
set_option maxHeartbeats 4000000 in
theorem walk_yes {w : World} (H W C : Int) (A : Option Addr) (zs : List Int) (n k : Nat) (hn : zs.length = n) (hk : n ≤ k) (hl : n ≤ 2000) (hr : Kit.Rd w w.heap.size A (zs.map (.int .i8))) (x : Int) (ht : tensB H W C n = true) :
    Calls Try.prog 3 #[.agg #[.int .i64 H, .int .i64 W, .int .i64 C], .slice A n k, .int .i8 x] w fun e w' => e = .returned (.bool true) ∧ Below w.heap.size w w' := by
  have hs : shapeB H W C = true := by
    simp only [tensB, Bool.and_eq_true] at ht; exact ht.1
  have hm : H * W * C = (n : Int) := by
    simp only [tensB, Bool.and_eq_true, decide_eq_true_eq] at ht; exact ht.2.symm
  have hn1 : (1 : Nat) ≤ n := by
    have hs2 := hs
    simp only [shapeB, decide_eq_true_eq] at hs2
    obtain ⟨g1, g2, g3, g4, g5, g6, g7⟩ := hs2
    have := prod_bd g1 g2 g3 g4 g5 g6
    omega
  have hel : elemsZ H W C = (n : Int) := by rw [elemsZ_yes hs]; exact hm
  have Hn := Lib.hid hm
  have HEL := Lib.hid hel
  clear hm hel
  have hml : n ≤ 1000000 := by omega
  have hm1 := hn1
  have hpos : decide ((0 : Int) < (n : Int)) = true := by simp; omega
  have hpos2 : decide (0 < n) = true := by simp; omega
  have hpos3 : 0 < n := by omega
  have hpos4 : (0 : Int) < (n : Int) := by omega
  have HSH := Lib.hid hs
  have HT := Lib.hid ht
  have HN := Lib.hid hn
  have HR := Lib.hid hr
  have hlI : (n : Int) ≤ 2000 := by omega
  have hl6 : n ≤ 1000000 := by omega
  clear hs ht hn hr
  go_enter Try.func3, Try.ntmps3
  go_wp2_with (first
        | (go_at_call 7
           with_reducible refine (refRight_to H W C A n k true HT.out _).mono ?_
           rintro e w1 ⟨rfl, hb⟩
           have hB7 := (BoxAt.newp H W C A n k 28 (w.alloc (.cells #[.int .i64 H, .int .i64 W, .int .i64 C] 23)))
           rw [World.size_alloc] at hB7
           have HB7 := Lib.hid (hB7.below (by simp) hb)
           have HS := Lib.hid (((ShapeAt.new H W C 23 w).below (Nat.lt_succ_self _) ((Below.refl _ _).alloc (by simp) (.cells #[.int .i64 H, .int .i64 W, .int .i64 C, .slice A n k] 28))).below (by simp; omega) hb)
           have HBW : Hid (Below w.heap.size w w1) := Lib.hid ((((Below.refl _ _).alloc (Nat.le_refl _) _).alloc (by simp) _).trans (hb.mono (by simp; omega)))
           have y1 : w.heap.size + 1 < w1.heap.size := by have := hb.size; simp at this; omega
           have z1 : w.heap.size < w1.heap.size := by omega
           obtain ⟨s1, s2, s3⟩ := HS.out
           clear hb hB7)
        | (go_at_call 8
           refine (of_yes H W C A zs n k HN.out hl6 HT.out (B := w.heap.size) _ (by omega) (HR.out.below HBW.out)).mono ?_
           rintro e w2 ⟨v2, rfl, ho2, hb⟩
           obtain ⟨A2, c2, rfl, -, -, hrd2⟩ := Kit.own_rd ho2
           have RD2 := Lib.hid hrd2
           clear ho2 hrd2
           replace HB7 := Lib.hid (HB7.out.below y1 hb)
           replace HS := Lib.hid (HS.out.below z1 hb)
           replace HBW := Lib.hid (HBW.out.trans (hb.mono (by omega)))
           have y2 : w.heap.size + 1 < w2.heap.size := by have := hb.size; omega
           have z2 : w.heap.size < w2.heap.size := by omega
           clear s1 s2 s3
           obtain ⟨r1, r2, r3, r4⟩ := HB7.out
           clear hb)
        | (go_at_call 9
           refine (flat_yes H W C A zs n k HN.out hl6 HT.out (B := w.heap.size) _ (by simp; omega) ((HR.out.below HBW.out).alloc (by omega) _)).mono ?_
           rintro e w3 ⟨v3, rfl, ho3, hb⟩
           obtain ⟨A3, c3, rfl, -, -, hrd3⟩ := Kit.own_rd ho3
           have RD3 := Lib.hid hrd3
           replace RD2 := Lib.hid ((RD2.out.alloc (Nat.le_refl _) (.cells #[.int .i64 H, .int .i64 W, .int .i64 C, .slice A2 n c2] 28)).below (hb.mono (by simp)))
           clear ho3 hrd3
           have HB9 := Lib.hid ((BoxAt.newp H W C A2 n c2 28 w2).below (by simp) hb)
           replace HB7 := Lib.hid ((HB7.out.below y2 ((Below.refl _ _).alloc (Nat.le_refl _) (.cells #[.int .i64 H, .int .i64 W, .int .i64 C, .slice A2 n c2] 28))).below (by simp; omega) hb)
           replace HS := Lib.hid ((HS.out.below z2 ((Below.refl _ _).alloc (Nat.le_refl _) (.cells #[.int .i64 H, .int .i64 W, .int .i64 C, .slice A2 n c2] 28))).below (by simp; omega) hb)
           replace HBW := Lib.hid ((HBW.out.alloc (by omega) (.cells #[.int .i64 H, .int .i64 W, .int .i64 C, .slice A2 n c2] 28)).trans (hb.mono (by simp; omega)))
           have x3 : w2.heap.size < w3.heap.size := by have := hb.size; simp at this; omega
           have y3 : w.heap.size + 1 < w3.heap.size := by omega
           have z3 : w.heap.size < w3.heap.size := by omega
           clear r1 r2 r3 r4
           obtain ⟨s1, s2, s3⟩ := HS.out
           clear hb)
        | (go_at_call 10
           refine (fill_yes H W C x n HSH.out Hn.out _).mono ?_
           rintro e w4 ⟨v4, rfl, ho4, hb⟩
           obtain ⟨A4, c4, rfl, -, -, hrd4⟩ := Kit.own_rd ho4
           have RD4 := Lib.hid hrd4
           clear ho4 hrd4
           replace RD2 := Lib.hid ((RD2.out.alloc (by omega) (.cells #[.int .i64 1, .int .i64 1, .int .i64 n, .slice A3 n c3] 28)).below (hb.mono (by simp; omega)))
           replace RD3 := Lib.hid ((RD3.out.alloc (Nat.le_refl _) (.cells #[.int .i64 1, .int .i64 1, .int .i64 n, .slice A3 n c3] 28)).below (hb.mono (by simp)))
           have HB11 := Lib.hid ((BoxAt.newp 1 1 n A3 n c3 28 w3).below (by simp) hb)
           replace HB9 := Lib.hid ((HB9.out.below x3 ((Below.refl _ _).alloc (Nat.le_refl _) (.cells #[.int .i64 1, .int .i64 1, .int .i64 n, .slice A3 n c3] 28))).below (by simp; omega) hb)
           replace HB7 := Lib.hid ((HB7.out.below y3 ((Below.refl _ _).alloc (Nat.le_refl _) (.cells #[.int .i64 1, .int .i64 1, .int .i64 n, .slice A3 n c3] 28))).below (by simp; omega) hb)
           replace HS := Lib.hid ((HS.out.below z3 ((Below.refl _ _).alloc (Nat.le_refl _) (.cells #[.int .i64 1, .int .i64 1, .int .i64 n, .slice A3 n c3] 28))).below (by simp; omega) hb)
           replace HBW := Lib.hid ((HBW.out.alloc (by omega) (.cells #[.int .i64 1, .int .i64 1, .int .i64 n, .slice A3 n c3] 28)).trans (hb.mono (by simp; omega)))
           have v4x : w3.heap.size < w4.heap.size := by have := hb.size; simp at this; omega
           have x4 : w2.heap.size < w4.heap.size := by omega
           have y4 : w.heap.size + 1 < w4.heap.size := by omega
           have z4 : w.heap.size < w4.heap.size := by omega
           clear s1 s2 s3
           clear hb))
  replace RD4 := Lib.hid (RD4.out.alloc (Nat.le_refl _) (.cells #[.int .i64 H, .int .i64 W, .int .i64 C, .slice A4 n c4] 28)).drew
  replace RD2 := Lib.hid (RD2.out.alloc (by omega) (.cells #[.int .i64 H, .int .i64 W, .int .i64 C, .slice A4 n c4] 28)).drew
  replace RD3 := Lib.hid (RD3.out.alloc (by omega) (.cells #[.int .i64 H, .int .i64 W, .int .i64 C, .slice A4 n c4] 28)).drew
  have HB13 := Lib.hid (BoxAt.new H W C A4 n c4 28 w4)
  replace HB11 := Lib.hid ((HB11.out.below v4x ((Below.refl _ _).alloc (Nat.le_refl _) (.cells #[.int .i64 H, .int .i64 W, .int .i64 C, .slice A4 n c4] 28))).drewp)
  replace HB9 := Lib.hid ((HB9.out.below x4 ((Below.refl _ _).alloc (Nat.le_refl _) (.cells #[.int .i64 H, .int .i64 W, .int .i64 C, .slice A4 n c4] 28))).drewp)
  replace HB7 := Lib.hid ((HB7.out.below y4 ((Below.refl _ _).alloc (Nat.le_refl _) (.cells #[.int .i64 H, .int .i64 W, .int .i64 C, .slice A4 n c4] 28))).drewp)
  replace HS := Lib.hid ((HS.out.below z4 ((Below.refl _ _).alloc (Nat.le_refl _) (.cells #[.int .i64 H, .int .i64 W, .int .i64 C, .slice A4 n c4] 28))).drewp)
  replace HBW := Lib.hid (HBW.out.alloc (by omega) (.cells #[.int .i64 H, .int .i64 W, .int .i64 C, .slice A4 n c4] 28)).drew
  have u5 : w4.heap.size < (w4.alloc (.cells #[.int .i64 H, .int .i64 W, .int .i64 C, .slice A4 n c4] 28)).drew.heap.size := by simp
  refine wp_region_held_drew (S := fun w' => ShapeAt w.heap.size H W C w' ∧ BoxAt (w.heap.size + 1) H W C A n k w' ∧ BoxAt w4.heap.size H W C A4 n c4 w') (by kernel_rfl) ⟨HS.out, HB7.out, HB13.out⟩ (fun hHeld => ?_)
  try dsimp only at hHeld
  generalize (w4.alloc (.cells #[.int .i64 H, .int .i64 W, .int .i64 C, .slice A4 n c4] 28)).drew = W5 at RD4 RD2 RD3 HB13 HB11 HB9 HB7 HS HBW u5 hHeld ⊢
  have HH := Lib.hid (Below.refl W5.heap.size W5)
  refine wpAnyH_take (i := 0) (oi := ({ dst := some 41, op := Op.load 28 (Operand.tmp 7), type := 28, pos := "law.go:29", after := #[], guard := none } : Oper)) (v := ?_) rfl (by kernel_rfl) (by kernel_rfl) (by kernel_rfl) (fun _ _ _ h => h) (Or.inl ⟨by rfl, ?_⟩) (by assumption) ?_
  rotate_left
  · intro wS hSw
    obtain ⟨⟨s1, s2, s3⟩, ⟨r1, r2, r3, r4⟩, ⟨u1, u2, u3, u4⟩⟩ := hSw
    first
      | (go_simp; done)
      | (go_simp; with_reducible rfl)
  try simp only [Act.put, List.setIfInBounds_toArray, List.set_cons_zero, List.set_cons_succ]
  refine wpAnyH_take (i := 2) (oi := ({ dst := some 43, op := Op.move (Operand.tmp 8), type := 4, pos := "law.go:29", after := #[], guard := none } : Oper)) (v := ?_) rfl (by kernel_rfl) (by kernel_rfl) (by kernel_rfl) (fun _ _ _ h => h) (Or.inl ⟨by rfl, ?_⟩) (by assumption) ?_
  rotate_left
  · intro wS hSw
    obtain ⟨⟨s1, s2, s3⟩, ⟨r1, r2, r3, r4⟩, ⟨u1, u2, u3, u4⟩⟩ := hSw
    first
      | (go_simp; done)
      | (go_simp; with_reducible rfl)
  try simp only [Act.put, List.setIfInBounds_toArray, List.set_cons_zero, List.set_cons_succ]
  refine wpAnyH_ready (rs := [1]) (by kernel_rfl) (by simp) ?_
  refine AllReadyH.cons (o := ({ dst := some 42, op := Op.call { callee := Callee.value (Operand.func 11), args := #[Operand.tmp 41], argTypes := #[28] }, type := 4, pos := "law.go:29", after := #[{ on := 0, ground := Ground.data }], guard := none } : Oper)) rfl (fun K hK => ?_) (AllReadyH.nil)
  go_simp
  go_at_call 11
  refine (CTensor.right_to H W C A n k true HT.out _).mono ?_
  rintro e w6 ⟨rfl, hb⟩
  have hS : ShapeAt w.heap.size H W C w6 ∧ BoxAt (w.heap.size + 1) H W C A n k w6 ∧ BoxAt w4.heap.size H W C A4 n c4 w6 := ⟨hHeld.1.below (by have := HH.out.size; omega) hb, hHeld.2.1.below (by have := HH.out.size; omega) hb, hHeld.2.2.below (by have := HH.out.size; omega) hb⟩
  replace HH := Lib.hid (HH.out.trans (hb.mono HH.out.size))
  clear hb hHeld
  dsimp only
  refine hK.out _ _ ?_ (fun hHeld => ?_)
  · exact hS
  clear hK K
  try simp only [Act.put, List.setIfInBounds_toArray, List.set_cons_zero, List.set_cons_succ]
  refine wpAnyH_take (i := 3) (oi := ({ dst := some 44, op := Op.binOp BinOp.neq 4 (Operand.tmp 42) (Operand.tmp 43) 4, type := 4, pos := "law.go:29", after := #[{ on := 1, ground := Ground.data }, { on := 2, ground := Ground.data }], guard := none } : Oper)) (v := ?_) rfl (by kernel_rfl) (by kernel_rfl) (by kernel_rfl) (fun _ _ _ h => h) (Or.inl ⟨by rfl, ?_⟩) (by assumption) ?_
  rotate_left
  · intro wS hSw
    obtain ⟨⟨s1, s2, s3⟩, ⟨r1, r2, r3, r4⟩, ⟨u1, u2, u3, u4⟩⟩ := hSw
    first
      | (go_simp; done)
      | (go_simp; with_reducible rfl)
  try simp only [Act.put, List.setIfInBounds_toArray, List.set_cons_zero, List.set_cons_succ]
  refine wpAnyH_take (i := 4) (oi := ({ dst := some 45, op := Op.move (Operand.tmp 44), type := 4, pos := "law.go:29", after := #[{ on := 3, ground := Ground.data }, { on := 1, ground := Ground.chain }], guard := none } : Oper)) (v := ?_) rfl (by kernel_rfl) (by kernel_rfl) (by kernel_rfl) (fun _ _ _ h => h) (Or.inl ⟨by rfl, ?_⟩) (by assumption) ?_
  rotate_left
  · intro wS hSw
    obtain ⟨⟨s1, s2, s3⟩, ⟨r1, r2, r3, r4⟩, ⟨u1, u2, u3, u4⟩⟩ := hSw
    first
      | (go_simp; done)
      | (go_simp; with_reducible rfl)
  try simp only [Act.put, List.setIfInBounds_toArray, List.set_cons_zero, List.set_cons_succ]
  refine wpAnyH_take (i := 5) (oi := ({ dst := some 46, op := Op.move (Operand.tmp 14), type := 30, pos := "law.go:29", after := #[{ on := 4, ground := Ground.guard }], guard := some (4, false) } : Oper)) (v := ?_) rfl (by kernel_rfl) (by kernel_rfl) (by kernel_rfl) (fun _ _ _ h => h) (Or.inl ⟨by rfl, ?_⟩) (by assumption) ?_
  rotate_left
  · intro wS hSw
    obtain ⟨⟨s1, s2, s3⟩, ⟨r1, r2, r3, r4⟩, ⟨u1, u2, u3, u4⟩⟩ := hSw
    first
      | (go_simp; done)
      | (go_simp; with_reducible rfl)
  try simp only [Act.put, List.setIfInBounds_toArray, List.set_cons_zero, List.set_cons_succ]
  refine wpAnyH_take (i := 6) (oi := ({ dst := some 47, op := Op.binOp BinOp.eql 30 (Operand.tmp 46) (Operand.const (Value.int IntKind.i64 0)) 30, type := 4, pos := "law.go:29", after := #[{ on := 5, ground := Ground.data }, { on := 4, ground := Ground.guard }], guard := some (4, false) } : Oper)) (v := ?_) rfl (by kernel_rfl) (by kernel_rfl) (by kernel_rfl) (fun _ _ _ h => h) (Or.inl ⟨by rfl, ?_⟩) (by assumption) ?_
  rotate_left
  · intro wS hSw
    obtain ⟨⟨s1, s2, s3⟩, ⟨r1, r2, r3, r4⟩, ⟨u1, u2, u3, u4⟩⟩ := hSw
    first
      | (go_simp; done)
      | (go_simp; with_reducible rfl)
  try simp only [Act.put, List.setIfInBounds_toArray, List.set_cons_zero, List.set_cons_succ]
  refine wpAnyH_take (i := 7) (oi := ({ dst := some 48, op := Op.load 23 (Operand.tmp 3), type := 23, pos := "law.go:29", after := #[{ on := 4, ground := Ground.guard }], guard := some (4, false) } : Oper)) (v := ?_) rfl (by kernel_rfl) (by kernel_rfl) (by kernel_rfl) (fun _ _ _ h => h) (Or.inl ⟨by rfl, ?_⟩) (by assumption) ?_
  rotate_left
  · intro wS hSw
    obtain ⟨⟨s1, s2, s3⟩, ⟨r1, r2, r3, r4⟩, ⟨u1, u2, u3, u4⟩⟩ := hSw
    first
      | (go_simp; done)
      | (go_simp; with_reducible rfl)
  try simp only [Act.put, List.setIfInBounds_toArray, List.set_cons_zero, List.set_cons_succ]
  refine wpAnyH_ready (rs := [8]) (by kernel_rfl) (by simp) ?_
  refine AllReadyH.cons (o := ({ dst := some 49, op := Op.call { callee := Callee.value (Operand.func 12), args := #[Operand.tmp 48], argTypes := #[23] }, type := 3, pos := "law.go:29", after := #[{ on := 7, ground := Ground.data }, { on := 4, ground := Ground.chain }, { on := 4, ground := Ground.guard }], guard := some (4, false) } : Oper)) rfl (fun K hK => ?_) (AllReadyH.nil)
  go_simp
  go_at_call 12
  refine (refElems_to H W C n HEL.out _).mono ?_
  rintro e w7 ⟨rfl, hb⟩
  have hS : ShapeAt w.heap.size H W C w7 ∧ BoxAt (w.heap.size + 1) H W C A n k w7 ∧ BoxAt w4.heap.size H W C A4 n c4 w7 := ⟨hHeld.1.below (by have := HH.out.size; omega) hb, hHeld.2.1.below (by have := HH.out.size; omega) hb, hHeld.2.2.below (by have := HH.out.size; omega) hb⟩
  replace HH := Lib.hid (HH.out.trans (hb.mono HH.out.size))
  clear hb hHeld
  dsimp only
  refine hK.out _ _ ?_ (fun hHeld => ?_)
  · exact hS
  clear hK K
  try simp only [Act.put, List.setIfInBounds_toArray, List.set_cons_zero, List.set_cons_succ]
  refine wpAnyH_take (i := 9) (oi := ({ dst := some 50, op := Op.binOp BinOp.gtr 3 (Operand.tmp 49) (Operand.const (Value.int IntKind.i64 0)) 3, type := 4, pos := "law.go:29", after := #[{ on := 8, ground := Ground.data }, { on := 4, ground := Ground.guard }], guard := some (4, false) } : Oper)) (v := ?_) rfl (by kernel_rfl) (by kernel_rfl) (by kernel_rfl) (fun _ _ _ h => h) (Or.inl ⟨by rfl, ?_⟩) (by assumption) ?_
  rotate_left
  · intro wS hSw
    obtain ⟨⟨s1, s2, s3⟩, ⟨r1, r2, r3, r4⟩, ⟨u1, u2, u3, u4⟩⟩ := hSw
    first
      | (go_simp; done)
      | (go_simp; with_reducible rfl)
  try simp only [Act.put, List.setIfInBounds_toArray, List.set_cons_zero, List.set_cons_succ]
  refine wpAnyH_take (i := 10) (oi := ({ dst := some 51, op := Op.binOp BinOp.neq 4 (Operand.tmp 47) (Operand.tmp 50) 4, type := 4, pos := "law.go:29", after := #[{ on := 6, ground := Ground.data }, { on := 9, ground := Ground.data }, { on := 4, ground := Ground.guard }], guard := some (4, false) } : Oper)) (v := ?_) rfl (by kernel_rfl) (by kernel_rfl) (by kernel_rfl) (fun _ _ _ h => h) (Or.inl ⟨by rfl, ?_⟩) (by assumption) ?_
  rotate_left
  · intro wS hSw
    obtain ⟨⟨s1, s2, s3⟩, ⟨r1, r2, r3, r4⟩, ⟨u1, u2, u3, u4⟩⟩ := hSw
    first
      | (go_simp; done)
      | (go_simp; with_reducible rfl)
  try simp only [Act.put, List.setIfInBounds_toArray, List.set_cons_zero, List.set_cons_succ]
  refine wpAnyH_take (i := 11) (oi := ({ dst := some 52, op := Op.pick (Operand.tmp 45) (Operand.const (Value.bool true)) (Operand.tmp 51), type := 4, pos := "law.go:29", after := #[{ on := 4, ground := Ground.data }, { on := 10, ground := Ground.data }], guard := none } : Oper)) (v := ?_) rfl (by kernel_rfl) (by kernel_rfl) (by kernel_rfl) (fun _ _ _ h => h) (Or.inl ⟨by rfl, ?_⟩) (by assumption) ?_
  rotate_left
  · intro wS hSw
    obtain ⟨⟨s1, s2, s3⟩, ⟨r1, r2, r3, r4⟩, ⟨u1, u2, u3, u4⟩⟩ := hSw
    first
      | (go_simp; done)
      | (go_simp; with_reducible rfl)
  try simp only [Act.put, List.setIfInBounds_toArray, List.set_cons_zero, List.set_cons_succ]
  refine wpAnyH_take (i := 12) (oi := ({ dst := some 53, op := Op.move (Operand.tmp 52), type := 4, pos := "law.go:29", after := #[{ on := 11, ground := Ground.data }, { on := 8, ground := Ground.chain }], guard := none } : Oper)) (v := ?_) rfl (by kernel_rfl) (by kernel_rfl) (by kernel_rfl) (fun _ _ _ h => h) (Or.inl ⟨by rfl, ?_⟩) (by assumption) ?_
  rotate_left
  · intro wS hSw
    obtain ⟨⟨s1, s2, s3⟩, ⟨r1, r2, r3, r4⟩, ⟨u1, u2, u3, u4⟩⟩ := hSw
    first
      | (go_simp; done)
      | (go_simp; with_reducible rfl)
  try simp only [Act.put, List.setIfInBounds_toArray, List.set_cons_zero, List.set_cons_succ]
  refine wpAnyH_take (i := 13) (oi := ({ dst := some 54, op := Op.move (Operand.tmp 14), type := 30, pos := "law.go:29", after := #[{ on := 12, ground := Ground.guard }], guard := some (12, false) } : Oper)) (v := ?_) rfl (by kernel_rfl) (by kernel_rfl) (by kernel_rfl) (fun _ _ _ h => h) (Or.inl ⟨by rfl, ?_⟩) (by assumption) ?_
  rotate_left
  · intro wS hSw
    obtain ⟨⟨s1, s2, s3⟩, ⟨r1, r2, r3, r4⟩, ⟨u1, u2, u3, u4⟩⟩ := hSw
    first
      | (go_simp; done)
      | (go_simp; with_reducible rfl)
  try simp only [Act.put, List.setIfInBounds_toArray, List.set_cons_zero, List.set_cons_succ]
  refine wpAnyH_take (i := 14) (oi := ({ dst := some 55, op := Op.binOp BinOp.neq 30 (Operand.tmp 54) (Operand.const (Value.int IntKind.i64 0)) 30, type := 4, pos := "law.go:29", after := #[{ on := 13, ground := Ground.data }, { on := 12, ground := Ground.guard }], guard := some (12, false) } : Oper)) (v := ?_) rfl (by kernel_rfl) (by kernel_rfl) (by kernel_rfl) (fun _ _ _ h => h) (Or.inl ⟨by rfl, ?_⟩) (by assumption) ?_
  rotate_left
  · intro wS hSw
    obtain ⟨⟨s1, s2, s3⟩, ⟨r1, r2, r3, r4⟩, ⟨u1, u2, u3, u4⟩⟩ := hSw
    first
      | (go_simp; done)
      | (go_simp; with_reducible rfl)
  try simp only [Act.put, List.setIfInBounds_toArray, List.set_cons_zero, List.set_cons_succ]
  refine wpAnyH_take (i := 15) (oi := ({ dst := some 56, op := Op.move (Operand.tmp 55), type := 4, pos := "law.go:29", after := #[{ on := 14, ground := Ground.data }, { on := 12, ground := Ground.chain }, { on := 12, ground := Ground.guard }], guard := some (12, false) } : Oper)) (v := ?_) rfl (by kernel_rfl) (by kernel_rfl) (by kernel_rfl) (fun _ _ _ h => h) (Or.inl ⟨by rfl, ?_⟩) (by assumption) ?_
  rotate_left
  · intro wS hSw
    obtain ⟨⟨s1, s2, s3⟩, ⟨r1, r2, r3, r4⟩, ⟨u1, u2, u3, u4⟩⟩ := hSw
    first
      | (go_simp; done)
      | (go_simp; with_reducible rfl)
  try simp only [Act.put, List.setIfInBounds_toArray, List.set_cons_zero, List.set_cons_succ]
  refine wpAnyH_take (i := 16) (oi := ({ dst := some 57, op := Op.move (Operand.tmp 14), type := 30, pos := "law.go:29", after := #[{ on := 15, ground := Ground.guard }], guard := some (15, true) } : Oper)) (v := undef) rfl (by kernel_rfl) (by kernel_rfl) (by kernel_rfl) (fun _ _ _ h => h) (Or.inr ⟨by rfl, rfl⟩) (by assumption) ?_
  try simp only [Act.put, List.setIfInBounds_toArray, List.set_cons_zero, List.set_cons_succ]
  refine wpAnyH_take (i := 17) (oi := ({ dst := some 58, op := Op.binOp BinOp.neq 30 (Operand.tmp 57) (Operand.const (Value.int IntKind.i64 5)) 30, type := 4, pos := "law.go:29", after := #[{ on := 16, ground := Ground.data }, { on := 15, ground := Ground.guard }], guard := some (15, true) } : Oper)) (v := undef) rfl (by kernel_rfl) (by kernel_rfl) (by kernel_rfl) (fun _ _ _ h => h) (Or.inr ⟨by rfl, rfl⟩) (by assumption) ?_
  try simp only [Act.put, List.setIfInBounds_toArray, List.set_cons_zero, List.set_cons_succ]
  refine wpAnyH_take (i := 18) (oi := ({ dst := some 59, op := Op.pick (Operand.tmp 56) (Operand.tmp 58) (Operand.const (Value.bool false)), type := 4, pos := "law.go:29", after := #[{ on := 15, ground := Ground.data }, { on := 17, ground := Ground.data }, { on := 12, ground := Ground.guard }], guard := some (12, false) } : Oper)) (v := ?_) rfl (by kernel_rfl) (by kernel_rfl) (by kernel_rfl) (fun _ _ _ h => h) (Or.inl ⟨by rfl, ?_⟩) (by assumption) ?_
  rotate_left
  · intro wS hSw
    obtain ⟨⟨s1, s2, s3⟩, ⟨r1, r2, r3, r4⟩, ⟨u1, u2, u3, u4⟩⟩ := hSw
    first
      | (go_simp; done)
      | (go_simp; with_reducible rfl)
  try simp only [Act.put, List.setIfInBounds_toArray, List.set_cons_zero, List.set_cons_succ]
  refine wpAnyH_take (i := 19) (oi := ({ dst := some 60, op := Op.pick (Operand.tmp 53) (Operand.const (Value.bool true)) (Operand.tmp 59), type := 4, pos := "law.go:29", after := #[{ on := 12, ground := Ground.data }, { on := 18, ground := Ground.data }], guard := none } : Oper)) (v := ?_) rfl (by kernel_rfl) (by kernel_rfl) (by kernel_rfl) (fun _ _ _ h => h) (Or.inl ⟨by rfl, ?_⟩) (by assumption) ?_
  rotate_left
  · intro wS hSw
    obtain ⟨⟨s1, s2, s3⟩, ⟨r1, r2, r3, r4⟩, ⟨u1, u2, u3, u4⟩⟩ := hSw
    first
      | (go_simp; done)
      | (go_simp; with_reducible rfl)
  try simp only [Act.put, List.setIfInBounds_toArray, List.set_cons_zero, List.set_cons_succ]
  refine wpAnyH_take (i := 20) (oi := ({ dst := some 61, op := Op.move (Operand.tmp 60), type := 4, pos := "law.go:29", after := #[{ on := 19, ground := Ground.data }, { on := 15, ground := Ground.chain }], guard := none } : Oper)) (v := ?_) rfl (by kernel_rfl) (by kernel_rfl) (by kernel_rfl) (fun _ _ _ h => h) (Or.inl ⟨by rfl, ?_⟩) (by assumption) ?_
  rotate_left
  · intro wS hSw
    obtain ⟨⟨s1, s2, s3⟩, ⟨r1, r2, r3, r4⟩, ⟨u1, u2, u3, u4⟩⟩ := hSw
    first
      | (go_simp; done)
      | (go_simp; with_reducible rfl)
  try simp only [Act.put, List.setIfInBounds_toArray, List.set_cons_zero, List.set_cons_succ]
  refine wpAnyH_take (i := 21) (oi := ({ dst := some 62, op := Op.load 28 (Operand.tmp 13), type := 28, pos := "law.go:29", after := #[{ on := 20, ground := Ground.guard }], guard := some (20, false) } : Oper)) (v := ?_) rfl (by kernel_rfl) (by kernel_rfl) (by kernel_rfl) (fun _ _ _ h => h) (Or.inl ⟨by rfl, ?_⟩) (by assumption) ?_
  rotate_left
  · intro wS hSw
    obtain ⟨⟨s1, s2, s3⟩, ⟨r1, r2, r3, r4⟩, ⟨u1, u2, u3, u4⟩⟩ := hSw
    first
      | (go_simp; done)
      | (go_simp; with_reducible rfl)
  try simp only [Act.put, List.setIfInBounds_toArray, List.set_cons_zero, List.set_cons_succ]
  refine wpAnyH_take (i := 22) (oi := ({ dst := some 63, op := Op.load 23 (Operand.tmp 3), type := 23, pos := "law.go:29", after := #[{ on := 20, ground := Ground.guard }], guard := some (20, false) } : Oper)) (v := ?_) rfl (by kernel_rfl) (by kernel_rfl) (by kernel_rfl) (fun _ _ _ h => h) (Or.inl ⟨by rfl, ?_⟩) (by assumption) ?_
  rotate_left
  · intro wS hSw
    obtain ⟨⟨s1, s2, s3⟩, ⟨r1, r2, r3, r4⟩, ⟨u1, u2, u3, u4⟩⟩ := hSw
    first
      | (go_simp; done)
      | (go_simp; with_reducible rfl)
  try simp only [Act.put, List.setIfInBounds_toArray, List.set_cons_zero, List.set_cons_succ]
  refine wpAnyH_take (i := 23) (oi := ({ dst := some 64, op := Op.move (Operand.tmp 2), type := 25, pos := "law.go:29", after := #[{ on := 20, ground := Ground.guard }], guard := some (20, false) } : Oper)) (v := ?_) rfl (by kernel_rfl) (by kernel_rfl) (by kernel_rfl) (fun _ _ _ h => h) (Or.inl ⟨by rfl, ?_⟩) (by assumption) ?_
  rotate_left
  · intro wS hSw
    obtain ⟨⟨s1, s2, s3⟩, ⟨r1, r2, r3, r4⟩, ⟨u1, u2, u3, u4⟩⟩ := hSw
    first
      | (go_simp; done)
      | (go_simp; with_reducible rfl)
  try simp only [Act.put, List.setIfInBounds_toArray, List.set_cons_zero, List.set_cons_succ]
  refine wpAnyH_ready (rs := [24]) (by kernel_rfl) (by simp) ?_
  refine AllReadyH.cons (o := ({ dst := some 65, op := Op.call { callee := Callee.value (Operand.func 14), args := #[Operand.tmp 63, Operand.tmp 64], argTypes := #[23, 25] }, type := 28, pos := "law.go:29", after := #[{ on := 22, ground := Ground.data }, { on := 23, ground := Ground.data }, { on := 20, ground := Ground.chain }, { on := 20, ground := Ground.guard }], guard := some (20, false) } : Oper)) rfl (fun K hK => ?_) (AllReadyH.nil)
  go_simp
  go_at_call 14
  refine (lawfill_yes H W C x n HEL.out hm1 hml _).mono ?_
  rintro e w8 ⟨v8, rfl, ho8, hb⟩
  have hS : ShapeAt w.heap.size H W C w8 ∧ BoxAt (w.heap.size + 1) H W C A n k w8 ∧ BoxAt w4.heap.size H W C A4 n c4 w8 := ⟨hHeld.1.below (by have := HH.out.size; omega) hb, hHeld.2.1.below (by have := HH.out.size; omega) hb, hHeld.2.2.below (by have := HH.out.size; omega) hb⟩
  obtain ⟨A8, c8, rfl, -, -, hrd8⟩ := Kit.own_rd ho8
  have RD8 := Lib.hid hrd8
  replace RD4 := Lib.hid (RD4.out.below ((HH.out.trans (hb.mono HH.out.size)).mono (by omega)))
  clear ho8 hrd8
  replace HH := Lib.hid (HH.out.trans (hb.mono HH.out.size))
  clear hb hHeld
  dsimp only
  refine hK.out _ _ ?_ (fun hHeld => ?_)
  · exact hS
  clear hK K
  try simp only [Act.put, List.setIfInBounds_toArray, List.set_cons_zero, List.set_cons_succ]
  refine wpAnyH_ready (rs := [25]) (by kernel_rfl) (by simp) ?_
  refine AllReadyH.cons (o := ({ dst := some 66, op := Op.call { callee := Callee.value (Operand.func 13), args := #[Operand.tmp 62, Operand.tmp 65], argTypes := #[28, 28] }, type := 4, pos := "law.go:29", after := #[{ on := 21, ground := Ground.data }, { on := 24, ground := Ground.data }, { on := 24, ground := Ground.chain }, { on := 20, ground := Ground.guard }], guard := some (20, false) } : Oper)) rfl (fun K hK => ?_) (AllReadyH.nil)
  go_simp
  go_at_call 13
  refine (refSame_to H W C A4 A8 (List.replicate n x) (List.replicate n x) n c4 c8 (by simp) (by simp) hml true (by simp) _ (B1 := w4.heap.size) (B2 := w8.heap.size) (by have := HH.out.size; omega) (Nat.le_refl _) RD4.out RD8.out).mono ?_
  rintro e w9 ⟨rfl, hb⟩
  have hS : ShapeAt w.heap.size H W C w9 ∧ BoxAt (w.heap.size + 1) H W C A n k w9 ∧ BoxAt w4.heap.size H W C A4 n c4 w9 := ⟨hHeld.1.below (by have := HH.out.size; omega) hb, hHeld.2.1.below (by have := HH.out.size; omega) hb, hHeld.2.2.below (by have := HH.out.size; omega) hb⟩
  replace HH := Lib.hid (HH.out.trans (hb.mono HH.out.size))
  clear hb hHeld
  dsimp only
  refine hK.out _ _ ?_ (fun hHeld => ?_)
  · exact hS
  clear hK K
  try simp only [Act.put, List.setIfInBounds_toArray, List.set_cons_zero, List.set_cons_succ]
  refine wpAnyH_take (i := 26) (oi := ({ dst := some 67, op := Op.unOp UnOp.not 4 (Operand.tmp 66), type := 4, pos := "law.go:29", after := #[{ on := 25, ground := Ground.data }, { on := 20, ground := Ground.guard }], guard := some (20, false) } : Oper)) (v := ?_) rfl (by kernel_rfl) (by kernel_rfl) (by kernel_rfl) (fun _ _ _ h => h) (Or.inl ⟨by rfl, ?_⟩) (by assumption) ?_
  rotate_left
  · intro wS hSw
    obtain ⟨⟨s1, s2, s3⟩, ⟨r1, r2, r3, r4⟩, ⟨u1, u2, u3, u4⟩⟩ := hSw
    first
      | (go_simp; done)
      | (go_simp; with_reducible rfl)
  try simp only [Act.put, List.setIfInBounds_toArray, List.set_cons_zero, List.set_cons_succ]
  refine wpAnyH_take (i := 27) (oi := ({ dst := some 68, op := Op.pick (Operand.tmp 61) (Operand.const (Value.bool true)) (Operand.tmp 67), type := 4, pos := "law.go:29", after := #[{ on := 20, ground := Ground.data }, { on := 26, ground := Ground.data }], guard := none } : Oper)) (v := ?_) rfl (by kernel_rfl) (by kernel_rfl) (by kernel_rfl) (fun _ _ _ h => h) (Or.inl ⟨by rfl, ?_⟩) (by assumption) ?_
  rotate_left
  · intro wS hSw
    obtain ⟨⟨s1, s2, s3⟩, ⟨r1, r2, r3, r4⟩, ⟨u1, u2, u3, u4⟩⟩ := hSw
    first
      | (go_simp; done)
      | (go_simp; with_reducible rfl)
  try simp only [Act.put, List.setIfInBounds_toArray, List.set_cons_zero, List.set_cons_succ]
  refine wpAnyH_done (by kernel_rfl) ?_ _
  obtain ⟨r1, r2, r3, r4⟩ := hHeld.2.1
  have HB9b := Lib.hid (HB9.out.below (by omega) HH.out)
  have HB11b := Lib.hid (HB11.out.below (by omega) HH.out)
  have HBWb := Lib.hid (HBW.out.trans (HH.out.mono (by omega)))
  have h59 := HH.out.size
  have x9 : w2.heap.size < w9.heap.size := by omega
  have y9 : w.heap.size + 1 < w9.heap.size := by omega
  have v9 : w3.heap.size < w9.heap.size := by omega
  have HRb := Lib.hid (HR.out.below HBWb.out)
  have RD2b := Lib.hid (RD2.out.below (HH.out.mono (by omega)))
  have RD3b := Lib.hid (RD3.out.below (HH.out.mono (by omega)))
  obtain ⟨e1, e2, e3, e4⟩ := HB9b.out
  clear hHeld HB9 HB11 HB7 HS HBW HB13 HH h59
  go_wp2_with (first
        | (go_at_call 13
           clear e1 e2 e3 e4 r1 r2 r3 r4
           refine (refSame_to H W C A2 A zs zs n c2 k HN.out HN.out hl6 true (by simp) _ (B1 := w2.heap.size) (B2 := w.heap.size) (by omega) (by omega) RD2b.out HRb.out).mono ?_
           rintro e wa ⟨rfl, hb⟩
           obtain ⟨e1, e2, e3, e4⟩ := HB11b.out.below v9 hb
           have HBWc := Lib.hid (HBWb.out.trans (hb.mono (by omega)))
           have za : w9.heap.size ≤ wa.heap.size := hb.size
           replace RD3b := Lib.hid (RD3b.out.below (hb.mono (by omega)))
           replace HRb := Lib.hid (HRb.out.below (hb.mono (by omega)))
           clear hb)
        | (go_at_call 13
           clear e1 e2 e3 e4
           refine (refSame_to 1 1 n A3 A zs zs n c3 k HN.out HN.out hl6 true (by simp) _ (B1 := w3.heap.size) (B2 := w.heap.size) (by omega) (by omega) RD3b.out HRb.out).mono ?_
           rintro e wb ⟨rfl, hb⟩
           have HBWd := Lib.hid (HBWc.out.trans (hb.mono (by omega)))
           clear hb)
        | (go_at_call 6
           refine (known05 _).mono ?_
           rintro e wc ⟨rfl, hb⟩
           have HBWe := Lib.hid (HBWd.out.trans (hb.mono HBWd.out.size))
           clear hb))
  go_ret
  exact ⟨rfl, HBWe.out⟩
set_option maxRecDepth 100000 in
set_option maxHeartbeats 4000000 in
theorem walk_shp {w : World} (H W C : Int) (A : Option Addr) (zs : List Int) (n k m : Nat) (hn : zs.length = n) (hk : n ≤ k) (hl : n ≤ 2000) (hr : Kit.Rd w w.heap.size A (zs.map (.int .i8))) (x : Int) (ht : tensB H W C n = false) (hs : shapeB H W C = true) (hm : H * W * C = (m : Int)) :
    Calls Try.prog 3 #[.agg #[.int .i64 H, .int .i64 W, .int .i64 C], .slice A n k, .int .i8 x] w fun e w' => e = .returned (.bool true) ∧ Below w.heap.size w w' := by
  have hm2 := hs
  simp only [shapeB, decide_eq_true_eq] at hm2
  obtain ⟨g1, g2, g3, g4, g5, g6, g7⟩ := hm2
  have hpr := prod_bd g1 g2 g3 g4 g5 g6
  have hm1 : (1 : Nat) ≤ m := by omega
  have hml : m ≤ 1000000 := by omega
  clear g1 g2 g3 g4 g5 g6 g7 hpr
  have hel : elemsZ H W C = (m : Int) := by rw [elemsZ_yes hs]; exact hm
  have Hm := Lib.hid hm
  have HEL := Lib.hid hel
  clear hm hel
  have hpos : decide ((0 : Int) < (m : Int)) = true := by simp; omega
  have hpos2 : decide (0 < m) = true := by simp; omega
  have hpos3 : 0 < m := by omega
  have hpos4 : (0 : Int) < (m : Int) := by omega
  have HSH := Lib.hid hs
  have HT := Lib.hid ht
  have HN := Lib.hid hn
  have HR := Lib.hid hr
  have hlI : (n : Int) ≤ 2000 := by omega
  have hl6 : n ≤ 1000000 := by omega
  clear hs ht hn hr
  go_enter Try.func3, Try.ntmps3
  go_wp2_with (first
        | (go_at_call 7
           with_reducible refine (refRight_to H W C A n k false HT.out _).mono ?_
           rintro e w1 ⟨rfl, hb⟩
           have hB7 := (BoxAt.newp H W C A n k 28 (w.alloc (.cells #[.int .i64 H, .int .i64 W, .int .i64 C] 23)))
           rw [World.size_alloc] at hB7
           have HB7 := Lib.hid (hB7.below (by simp) hb)
           have HS := Lib.hid (((ShapeAt.new H W C 23 w).below (Nat.lt_succ_self _) ((Below.refl _ _).alloc (by simp) (.cells #[.int .i64 H, .int .i64 W, .int .i64 C, .slice A n k] 28))).below (by simp; omega) hb)
           have HBW : Hid (Below w.heap.size w w1) := Lib.hid ((((Below.refl _ _).alloc (Nat.le_refl _) _).alloc (by simp) _).trans (hb.mono (by simp; omega)))
           have y1 : w.heap.size + 1 < w1.heap.size := by have := hb.size; simp at this; omega
           have z1 : w.heap.size < w1.heap.size := by omega
           obtain ⟨s1, s2, s3⟩ := HS.out
           clear hb hB7)
        | (go_at_call 8
           with_reducible refine (of_no H W C A n k HT.out _).mono ?_
           rintro e w2 ⟨rfl, hb⟩
           replace HB7 := Lib.hid (HB7.out.below y1 hb)
           replace HS := Lib.hid (HS.out.below z1 hb)
           replace HBW := Lib.hid (HBW.out.trans (hb.mono (by omega)))
           have y2 : w.heap.size + 1 < w2.heap.size := by have := hb.size; omega
           have z2 : w.heap.size < w2.heap.size := by omega
           clear s1 s2 s3
           obtain ⟨r1, r2, r3, r4⟩ := HB7.out
           clear hb)
        | (go_at_call 9
           with_reducible refine (flat_no H W C A n k HT.out _).mono ?_
           rintro e w3 ⟨rfl, hb⟩
           have HB9 := Lib.hid ((BoxAt.newp 0 0 0 none 0 0 28 w2).below (by simp) hb)
           replace HB7 := Lib.hid ((HB7.out.below y2 ((Below.refl _ _).alloc (Nat.le_refl _) (.cells #[.int .i64 0, .int .i64 0, .int .i64 0, .slice none 0 0] 28))).below (by simp; omega) hb)
           replace HS := Lib.hid ((HS.out.below z2 ((Below.refl _ _).alloc (Nat.le_refl _) (.cells #[.int .i64 0, .int .i64 0, .int .i64 0, .slice none 0 0] 28))).below (by simp; omega) hb)
           replace HBW := Lib.hid ((HBW.out.alloc (by omega) (.cells #[.int .i64 0, .int .i64 0, .int .i64 0, .slice none 0 0] 28)).trans (hb.mono (by simp; omega)))
           have x3 : w2.heap.size < w3.heap.size := by have := hb.size; simp at this; omega
           have y3 : w.heap.size + 1 < w3.heap.size := by omega
           have z3 : w.heap.size < w3.heap.size := by omega
           clear r1 r2 r3 r4
           obtain ⟨s1, s2, s3⟩ := HS.out
           clear hb)
        | (go_at_call 10
           refine (fill_yes H W C x m HSH.out Hm.out _).mono ?_
           rintro e w4 ⟨v4, rfl, ho4, hb⟩
           obtain ⟨A4, c4, rfl, -, -, hrd4⟩ := Kit.own_rd ho4
           have RD4 := Lib.hid hrd4
           clear ho4 hrd4
           have HB11 := Lib.hid ((BoxAt.newp 0 0 0 none 0 0 28 w3).below (by simp) hb)
           replace HB9 := Lib.hid ((HB9.out.below x3 ((Below.refl _ _).alloc (Nat.le_refl _) (.cells #[.int .i64 0, .int .i64 0, .int .i64 0, .slice none 0 0] 28))).below (by simp; omega) hb)
           replace HB7 := Lib.hid ((HB7.out.below y3 ((Below.refl _ _).alloc (Nat.le_refl _) (.cells #[.int .i64 0, .int .i64 0, .int .i64 0, .slice none 0 0] 28))).below (by simp; omega) hb)
           replace HS := Lib.hid ((HS.out.below z3 ((Below.refl _ _).alloc (Nat.le_refl _) (.cells #[.int .i64 0, .int .i64 0, .int .i64 0, .slice none 0 0] 28))).below (by simp; omega) hb)
           replace HBW := Lib.hid ((HBW.out.alloc (by omega) (.cells #[.int .i64 0, .int .i64 0, .int .i64 0, .slice none 0 0] 28)).trans (hb.mono (by simp; omega)))
           have v4x : w3.heap.size < w4.heap.size := by have := hb.size; simp at this; omega
           have x4 : w2.heap.size < w4.heap.size := by omega
           have y4 : w.heap.size + 1 < w4.heap.size := by omega
           have z4 : w.heap.size < w4.heap.size := by omega
           clear s1 s2 s3
           clear hb))
  replace RD4 := Lib.hid (RD4.out.alloc (Nat.le_refl _) (.cells #[.int .i64 H, .int .i64 W, .int .i64 C, .slice A4 m c4] 28)).drew
  have HB13 := Lib.hid (BoxAt.new H W C A4 m c4 28 w4)
  replace HB11 := Lib.hid ((HB11.out.below v4x ((Below.refl _ _).alloc (Nat.le_refl _) (.cells #[.int .i64 H, .int .i64 W, .int .i64 C, .slice A4 m c4] 28))).drewp)
  replace HB9 := Lib.hid ((HB9.out.below x4 ((Below.refl _ _).alloc (Nat.le_refl _) (.cells #[.int .i64 H, .int .i64 W, .int .i64 C, .slice A4 m c4] 28))).drewp)
  replace HB7 := Lib.hid ((HB7.out.below y4 ((Below.refl _ _).alloc (Nat.le_refl _) (.cells #[.int .i64 H, .int .i64 W, .int .i64 C, .slice A4 m c4] 28))).drewp)
  replace HS := Lib.hid ((HS.out.below z4 ((Below.refl _ _).alloc (Nat.le_refl _) (.cells #[.int .i64 H, .int .i64 W, .int .i64 C, .slice A4 m c4] 28))).drewp)
  replace HBW := Lib.hid (HBW.out.alloc (by omega) (.cells #[.int .i64 H, .int .i64 W, .int .i64 C, .slice A4 m c4] 28)).drew
  have u5 : w4.heap.size < (w4.alloc (.cells #[.int .i64 H, .int .i64 W, .int .i64 C, .slice A4 m c4] 28)).drew.heap.size := by simp
  refine wp_region_held_drew (S := fun w' => ShapeAt w.heap.size H W C w' ∧ BoxAt (w.heap.size + 1) H W C A n k w' ∧ BoxAt w4.heap.size H W C A4 m c4 w') (by kernel_rfl) ⟨HS.out, HB7.out, HB13.out⟩ (fun hHeld => ?_)
  try dsimp only at hHeld
  generalize (w4.alloc (.cells #[.int .i64 H, .int .i64 W, .int .i64 C, .slice A4 m c4] 28)).drew = W5 at RD4 HB13 HB11 HB9 HB7 HS HBW u5 hHeld ⊢
  have HH := Lib.hid (Below.refl W5.heap.size W5)
  refine wpAnyH_take (i := 0) (oi := ({ dst := some 41, op := Op.load 28 (Operand.tmp 7), type := 28, pos := "law.go:29", after := #[], guard := none } : Oper)) (v := ?_) rfl (by kernel_rfl) (by kernel_rfl) (by kernel_rfl) (fun _ _ _ h => h) (Or.inl ⟨by rfl, ?_⟩) (by assumption) ?_
  rotate_left
  · intro wS hSw
    obtain ⟨⟨s1, s2, s3⟩, ⟨r1, r2, r3, r4⟩, ⟨u1, u2, u3, u4⟩⟩ := hSw
    first
      | (go_simp; done)
      | (go_simp; with_reducible rfl)
  try simp only [Act.put, List.setIfInBounds_toArray, List.set_cons_zero, List.set_cons_succ]
  refine wpAnyH_take (i := 2) (oi := ({ dst := some 43, op := Op.move (Operand.tmp 8), type := 4, pos := "law.go:29", after := #[], guard := none } : Oper)) (v := ?_) rfl (by kernel_rfl) (by kernel_rfl) (by kernel_rfl) (fun _ _ _ h => h) (Or.inl ⟨by rfl, ?_⟩) (by assumption) ?_
  rotate_left
  · intro wS hSw
    obtain ⟨⟨s1, s2, s3⟩, ⟨r1, r2, r3, r4⟩, ⟨u1, u2, u3, u4⟩⟩ := hSw
    first
      | (go_simp; done)
      | (go_simp; with_reducible rfl)
  try simp only [Act.put, List.setIfInBounds_toArray, List.set_cons_zero, List.set_cons_succ]
  refine wpAnyH_ready (rs := [1]) (by kernel_rfl) (by simp) ?_
  refine AllReadyH.cons (o := ({ dst := some 42, op := Op.call { callee := Callee.value (Operand.func 11), args := #[Operand.tmp 41], argTypes := #[28] }, type := 4, pos := "law.go:29", after := #[{ on := 0, ground := Ground.data }], guard := none } : Oper)) rfl (fun K hK => ?_) (AllReadyH.nil)
  go_simp
  go_at_call 11
  refine (CTensor.right_to H W C A n k false HT.out _).mono ?_
  rintro e w6 ⟨rfl, hb⟩
  have hS : ShapeAt w.heap.size H W C w6 ∧ BoxAt (w.heap.size + 1) H W C A n k w6 ∧ BoxAt w4.heap.size H W C A4 m c4 w6 := ⟨hHeld.1.below (by have := HH.out.size; omega) hb, hHeld.2.1.below (by have := HH.out.size; omega) hb, hHeld.2.2.below (by have := HH.out.size; omega) hb⟩
  replace HH := Lib.hid (HH.out.trans (hb.mono HH.out.size))
  clear hb hHeld
  dsimp only
  refine hK.out _ _ ?_ (fun hHeld => ?_)
  · exact hS
  clear hK K
  try simp only [Act.put, List.setIfInBounds_toArray, List.set_cons_zero, List.set_cons_succ]
  refine wpAnyH_take (i := 3) (oi := ({ dst := some 44, op := Op.binOp BinOp.neq 4 (Operand.tmp 42) (Operand.tmp 43) 4, type := 4, pos := "law.go:29", after := #[{ on := 1, ground := Ground.data }, { on := 2, ground := Ground.data }], guard := none } : Oper)) (v := ?_) rfl (by kernel_rfl) (by kernel_rfl) (by kernel_rfl) (fun _ _ _ h => h) (Or.inl ⟨by rfl, ?_⟩) (by assumption) ?_
  rotate_left
  · intro wS hSw
    obtain ⟨⟨s1, s2, s3⟩, ⟨r1, r2, r3, r4⟩, ⟨u1, u2, u3, u4⟩⟩ := hSw
    first
      | (go_simp; done)
      | (go_simp; with_reducible rfl)
  try simp only [Act.put, List.setIfInBounds_toArray, List.set_cons_zero, List.set_cons_succ]
  refine wpAnyH_take (i := 4) (oi := ({ dst := some 45, op := Op.move (Operand.tmp 44), type := 4, pos := "law.go:29", after := #[{ on := 3, ground := Ground.data }, { on := 1, ground := Ground.chain }], guard := none } : Oper)) (v := ?_) rfl (by kernel_rfl) (by kernel_rfl) (by kernel_rfl) (fun _ _ _ h => h) (Or.inl ⟨by rfl, ?_⟩) (by assumption) ?_
  rotate_left
  · intro wS hSw
    obtain ⟨⟨s1, s2, s3⟩, ⟨r1, r2, r3, r4⟩, ⟨u1, u2, u3, u4⟩⟩ := hSw
    first
      | (go_simp; done)
      | (go_simp; with_reducible rfl)
  try simp only [Act.put, List.setIfInBounds_toArray, List.set_cons_zero, List.set_cons_succ]
  refine wpAnyH_take (i := 5) (oi := ({ dst := some 46, op := Op.move (Operand.tmp 14), type := 30, pos := "law.go:29", after := #[{ on := 4, ground := Ground.guard }], guard := some (4, false) } : Oper)) (v := ?_) rfl (by kernel_rfl) (by kernel_rfl) (by kernel_rfl) (fun _ _ _ h => h) (Or.inl ⟨by rfl, ?_⟩) (by assumption) ?_
  rotate_left
  · intro wS hSw
    obtain ⟨⟨s1, s2, s3⟩, ⟨r1, r2, r3, r4⟩, ⟨u1, u2, u3, u4⟩⟩ := hSw
    first
      | (go_simp; done)
      | (go_simp; with_reducible rfl)
  try simp only [Act.put, List.setIfInBounds_toArray, List.set_cons_zero, List.set_cons_succ]
  refine wpAnyH_take (i := 6) (oi := ({ dst := some 47, op := Op.binOp BinOp.eql 30 (Operand.tmp 46) (Operand.const (Value.int IntKind.i64 0)) 30, type := 4, pos := "law.go:29", after := #[{ on := 5, ground := Ground.data }, { on := 4, ground := Ground.guard }], guard := some (4, false) } : Oper)) (v := ?_) rfl (by kernel_rfl) (by kernel_rfl) (by kernel_rfl) (fun _ _ _ h => h) (Or.inl ⟨by rfl, ?_⟩) (by assumption) ?_
  rotate_left
  · intro wS hSw
    obtain ⟨⟨s1, s2, s3⟩, ⟨r1, r2, r3, r4⟩, ⟨u1, u2, u3, u4⟩⟩ := hSw
    first
      | (go_simp; done)
      | (go_simp; with_reducible rfl)
  try simp only [Act.put, List.setIfInBounds_toArray, List.set_cons_zero, List.set_cons_succ]
  refine wpAnyH_take (i := 7) (oi := ({ dst := some 48, op := Op.load 23 (Operand.tmp 3), type := 23, pos := "law.go:29", after := #[{ on := 4, ground := Ground.guard }], guard := some (4, false) } : Oper)) (v := ?_) rfl (by kernel_rfl) (by kernel_rfl) (by kernel_rfl) (fun _ _ _ h => h) (Or.inl ⟨by rfl, ?_⟩) (by assumption) ?_
  rotate_left
  · intro wS hSw
    obtain ⟨⟨s1, s2, s3⟩, ⟨r1, r2, r3, r4⟩, ⟨u1, u2, u3, u4⟩⟩ := hSw
    first
      | (go_simp; done)
      | (go_simp; with_reducible rfl)
  try simp only [Act.put, List.setIfInBounds_toArray, List.set_cons_zero, List.set_cons_succ]
  refine wpAnyH_ready (rs := [8]) (by kernel_rfl) (by simp) ?_
  refine AllReadyH.cons (o := ({ dst := some 49, op := Op.call { callee := Callee.value (Operand.func 12), args := #[Operand.tmp 48], argTypes := #[23] }, type := 3, pos := "law.go:29", after := #[{ on := 7, ground := Ground.data }, { on := 4, ground := Ground.chain }, { on := 4, ground := Ground.guard }], guard := some (4, false) } : Oper)) rfl (fun K hK => ?_) (AllReadyH.nil)
  go_simp
  go_at_call 12
  refine (refElems_to H W C m HEL.out _).mono ?_
  rintro e w7 ⟨rfl, hb⟩
  have hS : ShapeAt w.heap.size H W C w7 ∧ BoxAt (w.heap.size + 1) H W C A n k w7 ∧ BoxAt w4.heap.size H W C A4 m c4 w7 := ⟨hHeld.1.below (by have := HH.out.size; omega) hb, hHeld.2.1.below (by have := HH.out.size; omega) hb, hHeld.2.2.below (by have := HH.out.size; omega) hb⟩
  replace HH := Lib.hid (HH.out.trans (hb.mono HH.out.size))
  clear hb hHeld
  dsimp only
  refine hK.out _ _ ?_ (fun hHeld => ?_)
  · exact hS
  clear hK K
  try simp only [Act.put, List.setIfInBounds_toArray, List.set_cons_zero, List.set_cons_succ]
  refine wpAnyH_take (i := 9) (oi := ({ dst := some 50, op := Op.binOp BinOp.gtr 3 (Operand.tmp 49) (Operand.const (Value.int IntKind.i64 0)) 3, type := 4, pos := "law.go:29", after := #[{ on := 8, ground := Ground.data }, { on := 4, ground := Ground.guard }], guard := some (4, false) } : Oper)) (v := ?_) rfl (by kernel_rfl) (by kernel_rfl) (by kernel_rfl) (fun _ _ _ h => h) (Or.inl ⟨by rfl, ?_⟩) (by assumption) ?_
  rotate_left
  · intro wS hSw
    obtain ⟨⟨s1, s2, s3⟩, ⟨r1, r2, r3, r4⟩, ⟨u1, u2, u3, u4⟩⟩ := hSw
    first
      | (go_simp; done)
      | (go_simp; with_reducible rfl)
  try simp only [Act.put, List.setIfInBounds_toArray, List.set_cons_zero, List.set_cons_succ]
  refine wpAnyH_take (i := 10) (oi := ({ dst := some 51, op := Op.binOp BinOp.neq 4 (Operand.tmp 47) (Operand.tmp 50) 4, type := 4, pos := "law.go:29", after := #[{ on := 6, ground := Ground.data }, { on := 9, ground := Ground.data }, { on := 4, ground := Ground.guard }], guard := some (4, false) } : Oper)) (v := ?_) rfl (by kernel_rfl) (by kernel_rfl) (by kernel_rfl) (fun _ _ _ h => h) (Or.inl ⟨by rfl, ?_⟩) (by assumption) ?_
  rotate_left
  · intro wS hSw
    obtain ⟨⟨s1, s2, s3⟩, ⟨r1, r2, r3, r4⟩, ⟨u1, u2, u3, u4⟩⟩ := hSw
    first
      | (go_simp; done)
      | (go_simp; with_reducible rfl)
  try simp only [Act.put, List.setIfInBounds_toArray, List.set_cons_zero, List.set_cons_succ]
  refine wpAnyH_take (i := 11) (oi := ({ dst := some 52, op := Op.pick (Operand.tmp 45) (Operand.const (Value.bool true)) (Operand.tmp 51), type := 4, pos := "law.go:29", after := #[{ on := 4, ground := Ground.data }, { on := 10, ground := Ground.data }], guard := none } : Oper)) (v := ?_) rfl (by kernel_rfl) (by kernel_rfl) (by kernel_rfl) (fun _ _ _ h => h) (Or.inl ⟨by rfl, ?_⟩) (by assumption) ?_
  rotate_left
  · intro wS hSw
    obtain ⟨⟨s1, s2, s3⟩, ⟨r1, r2, r3, r4⟩, ⟨u1, u2, u3, u4⟩⟩ := hSw
    first
      | (go_simp; done)
      | (go_simp; with_reducible rfl)
  try simp only [Act.put, List.setIfInBounds_toArray, List.set_cons_zero, List.set_cons_succ]
  refine wpAnyH_take (i := 12) (oi := ({ dst := some 53, op := Op.move (Operand.tmp 52), type := 4, pos := "law.go:29", after := #[{ on := 11, ground := Ground.data }, { on := 8, ground := Ground.chain }], guard := none } : Oper)) (v := ?_) rfl (by kernel_rfl) (by kernel_rfl) (by kernel_rfl) (fun _ _ _ h => h) (Or.inl ⟨by rfl, ?_⟩) (by assumption) ?_
  rotate_left
  · intro wS hSw
    obtain ⟨⟨s1, s2, s3⟩, ⟨r1, r2, r3, r4⟩, ⟨u1, u2, u3, u4⟩⟩ := hSw
    first
      | (go_simp; done)
      | (go_simp; with_reducible rfl)
  try simp only [Act.put, List.setIfInBounds_toArray, List.set_cons_zero, List.set_cons_succ]
  refine wpAnyH_take (i := 13) (oi := ({ dst := some 54, op := Op.move (Operand.tmp 14), type := 30, pos := "law.go:29", after := #[{ on := 12, ground := Ground.guard }], guard := some (12, false) } : Oper)) (v := ?_) rfl (by kernel_rfl) (by kernel_rfl) (by kernel_rfl) (fun _ _ _ h => h) (Or.inl ⟨by rfl, ?_⟩) (by assumption) ?_
  rotate_left
  · intro wS hSw
    obtain ⟨⟨s1, s2, s3⟩, ⟨r1, r2, r3, r4⟩, ⟨u1, u2, u3, u4⟩⟩ := hSw
    first
      | (go_simp; done)
      | (go_simp; with_reducible rfl)
  try simp only [Act.put, List.setIfInBounds_toArray, List.set_cons_zero, List.set_cons_succ]
  refine wpAnyH_take (i := 14) (oi := ({ dst := some 55, op := Op.binOp BinOp.neq 30 (Operand.tmp 54) (Operand.const (Value.int IntKind.i64 0)) 30, type := 4, pos := "law.go:29", after := #[{ on := 13, ground := Ground.data }, { on := 12, ground := Ground.guard }], guard := some (12, false) } : Oper)) (v := ?_) rfl (by kernel_rfl) (by kernel_rfl) (by kernel_rfl) (fun _ _ _ h => h) (Or.inl ⟨by rfl, ?_⟩) (by assumption) ?_
  rotate_left
  · intro wS hSw
    obtain ⟨⟨s1, s2, s3⟩, ⟨r1, r2, r3, r4⟩, ⟨u1, u2, u3, u4⟩⟩ := hSw
    first
      | (go_simp; done)
      | (go_simp; with_reducible rfl)
  try simp only [Act.put, List.setIfInBounds_toArray, List.set_cons_zero, List.set_cons_succ]
  refine wpAnyH_take (i := 15) (oi := ({ dst := some 56, op := Op.move (Operand.tmp 55), type := 4, pos := "law.go:29", after := #[{ on := 14, ground := Ground.data }, { on := 12, ground := Ground.chain }, { on := 12, ground := Ground.guard }], guard := some (12, false) } : Oper)) (v := ?_) rfl (by kernel_rfl) (by kernel_rfl) (by kernel_rfl) (fun _ _ _ h => h) (Or.inl ⟨by rfl, ?_⟩) (by assumption) ?_
  rotate_left
  · intro wS hSw
    obtain ⟨⟨s1, s2, s3⟩, ⟨r1, r2, r3, r4⟩, ⟨u1, u2, u3, u4⟩⟩ := hSw
    first
      | (go_simp; done)
      | (go_simp; with_reducible rfl)
  try simp only [Act.put, List.setIfInBounds_toArray, List.set_cons_zero, List.set_cons_succ]
  refine wpAnyH_take (i := 16) (oi := ({ dst := some 57, op := Op.move (Operand.tmp 14), type := 30, pos := "law.go:29", after := #[{ on := 15, ground := Ground.guard }], guard := some (15, true) } : Oper)) (v := undef) rfl (by kernel_rfl) (by kernel_rfl) (by kernel_rfl) (fun _ _ _ h => h) (Or.inr ⟨by rfl, rfl⟩) (by assumption) ?_
  try simp only [Act.put, List.setIfInBounds_toArray, List.set_cons_zero, List.set_cons_succ]
  refine wpAnyH_take (i := 17) (oi := ({ dst := some 58, op := Op.binOp BinOp.neq 30 (Operand.tmp 57) (Operand.const (Value.int IntKind.i64 5)) 30, type := 4, pos := "law.go:29", after := #[{ on := 16, ground := Ground.data }, { on := 15, ground := Ground.guard }], guard := some (15, true) } : Oper)) (v := undef) rfl (by kernel_rfl) (by kernel_rfl) (by kernel_rfl) (fun _ _ _ h => h) (Or.inr ⟨by rfl, rfl⟩) (by assumption) ?_
  try simp only [Act.put, List.setIfInBounds_toArray, List.set_cons_zero, List.set_cons_succ]
  refine wpAnyH_take (i := 18) (oi := ({ dst := some 59, op := Op.pick (Operand.tmp 56) (Operand.tmp 58) (Operand.const (Value.bool false)), type := 4, pos := "law.go:29", after := #[{ on := 15, ground := Ground.data }, { on := 17, ground := Ground.data }, { on := 12, ground := Ground.guard }], guard := some (12, false) } : Oper)) (v := ?_) rfl (by kernel_rfl) (by kernel_rfl) (by kernel_rfl) (fun _ _ _ h => h) (Or.inl ⟨by rfl, ?_⟩) (by assumption) ?_
  rotate_left
  · intro wS hSw
    obtain ⟨⟨s1, s2, s3⟩, ⟨r1, r2, r3, r4⟩, ⟨u1, u2, u3, u4⟩⟩ := hSw
    first
      | (go_simp; done)
      | (go_simp; with_reducible rfl)
  try simp only [Act.put, List.setIfInBounds_toArray, List.set_cons_zero, List.set_cons_succ]
  refine wpAnyH_take (i := 19) (oi := ({ dst := some 60, op := Op.pick (Operand.tmp 53) (Operand.const (Value.bool true)) (Operand.tmp 59), type := 4, pos := "law.go:29", after := #[{ on := 12, ground := Ground.data }, { on := 18, ground := Ground.data }], guard := none } : Oper)) (v := ?_) rfl (by kernel_rfl) (by kernel_rfl) (by kernel_rfl) (fun _ _ _ h => h) (Or.inl ⟨by rfl, ?_⟩) (by assumption) ?_
  rotate_left
  · intro wS hSw
    obtain ⟨⟨s1, s2, s3⟩, ⟨r1, r2, r3, r4⟩, ⟨u1, u2, u3, u4⟩⟩ := hSw
    first
      | (go_simp; done)
      | (go_simp; with_reducible rfl)
  try simp only [Act.put, List.setIfInBounds_toArray, List.set_cons_zero, List.set_cons_succ]
  refine wpAnyH_take (i := 20) (oi := ({ dst := some 61, op := Op.move (Operand.tmp 60), type := 4, pos := "law.go:29", after := #[{ on := 19, ground := Ground.data }, { on := 15, ground := Ground.chain }], guard := none } : Oper)) (v := ?_) rfl (by kernel_rfl) (by kernel_rfl) (by kernel_rfl) (fun _ _ _ h => h) (Or.inl ⟨by rfl, ?_⟩) (by assumption) ?_
  rotate_left
  · intro wS hSw
    obtain ⟨⟨s1, s2, s3⟩, ⟨r1, r2, r3, r4⟩, ⟨u1, u2, u3, u4⟩⟩ := hSw
    first
      | (go_simp; done)
      | (go_simp; with_reducible rfl)
  try simp only [Act.put, List.setIfInBounds_toArray, List.set_cons_zero, List.set_cons_succ]
  refine wpAnyH_take (i := 21) (oi := ({ dst := some 62, op := Op.load 28 (Operand.tmp 13), type := 28, pos := "law.go:29", after := #[{ on := 20, ground := Ground.guard }], guard := some (20, false) } : Oper)) (v := ?_) rfl (by kernel_rfl) (by kernel_rfl) (by kernel_rfl) (fun _ _ _ h => h) (Or.inl ⟨by rfl, ?_⟩) (by assumption) ?_
  rotate_left
  · intro wS hSw
    obtain ⟨⟨s1, s2, s3⟩, ⟨r1, r2, r3, r4⟩, ⟨u1, u2, u3, u4⟩⟩ := hSw
    first
      | (go_simp; done)
      | (go_simp; with_reducible rfl)
  try simp only [Act.put, List.setIfInBounds_toArray, List.set_cons_zero, List.set_cons_succ]
  refine wpAnyH_take (i := 22) (oi := ({ dst := some 63, op := Op.load 23 (Operand.tmp 3), type := 23, pos := "law.go:29", after := #[{ on := 20, ground := Ground.guard }], guard := some (20, false) } : Oper)) (v := ?_) rfl (by kernel_rfl) (by kernel_rfl) (by kernel_rfl) (fun _ _ _ h => h) (Or.inl ⟨by rfl, ?_⟩) (by assumption) ?_
  rotate_left
  · intro wS hSw
    obtain ⟨⟨s1, s2, s3⟩, ⟨r1, r2, r3, r4⟩, ⟨u1, u2, u3, u4⟩⟩ := hSw
    first
      | (go_simp; done)
      | (go_simp; with_reducible rfl)
  try simp only [Act.put, List.setIfInBounds_toArray, List.set_cons_zero, List.set_cons_succ]
  refine wpAnyH_take (i := 23) (oi := ({ dst := some 64, op := Op.move (Operand.tmp 2), type := 25, pos := "law.go:29", after := #[{ on := 20, ground := Ground.guard }], guard := some (20, false) } : Oper)) (v := ?_) rfl (by kernel_rfl) (by kernel_rfl) (by kernel_rfl) (fun _ _ _ h => h) (Or.inl ⟨by rfl, ?_⟩) (by assumption) ?_
  rotate_left
  · intro wS hSw
    obtain ⟨⟨s1, s2, s3⟩, ⟨r1, r2, r3, r4⟩, ⟨u1, u2, u3, u4⟩⟩ := hSw
    first
      | (go_simp; done)
      | (go_simp; with_reducible rfl)
  try simp only [Act.put, List.setIfInBounds_toArray, List.set_cons_zero, List.set_cons_succ]
  refine wpAnyH_ready (rs := [24]) (by kernel_rfl) (by simp) ?_
  refine AllReadyH.cons (o := ({ dst := some 65, op := Op.call { callee := Callee.value (Operand.func 14), args := #[Operand.tmp 63, Operand.tmp 64], argTypes := #[23, 25] }, type := 28, pos := "law.go:29", after := #[{ on := 22, ground := Ground.data }, { on := 23, ground := Ground.data }, { on := 20, ground := Ground.chain }, { on := 20, ground := Ground.guard }], guard := some (20, false) } : Oper)) rfl (fun K hK => ?_) (AllReadyH.nil)
  go_simp
  go_at_call 14
  refine (lawfill_yes H W C x m HEL.out hm1 hml _).mono ?_
  rintro e w8 ⟨v8, rfl, ho8, hb⟩
  have hS : ShapeAt w.heap.size H W C w8 ∧ BoxAt (w.heap.size + 1) H W C A n k w8 ∧ BoxAt w4.heap.size H W C A4 m c4 w8 := ⟨hHeld.1.below (by have := HH.out.size; omega) hb, hHeld.2.1.below (by have := HH.out.size; omega) hb, hHeld.2.2.below (by have := HH.out.size; omega) hb⟩
  obtain ⟨A8, c8, rfl, -, -, hrd8⟩ := Kit.own_rd ho8
  have RD8 := Lib.hid hrd8
  replace RD4 := Lib.hid (RD4.out.below ((HH.out.trans (hb.mono HH.out.size)).mono (by omega)))
  clear ho8 hrd8
  replace HH := Lib.hid (HH.out.trans (hb.mono HH.out.size))
  clear hb hHeld
  dsimp only
  refine hK.out _ _ ?_ (fun hHeld => ?_)
  · exact hS
  clear hK K
  try simp only [Act.put, List.setIfInBounds_toArray, List.set_cons_zero, List.set_cons_succ]
  refine wpAnyH_ready (rs := [25]) (by kernel_rfl) (by simp) ?_
  refine AllReadyH.cons (o := ({ dst := some 66, op := Op.call { callee := Callee.value (Operand.func 13), args := #[Operand.tmp 62, Operand.tmp 65], argTypes := #[28, 28] }, type := 4, pos := "law.go:29", after := #[{ on := 21, ground := Ground.data }, { on := 24, ground := Ground.data }, { on := 24, ground := Ground.chain }, { on := 20, ground := Ground.guard }], guard := some (20, false) } : Oper)) rfl (fun K hK => ?_) (AllReadyH.nil)
  go_simp
  go_at_call 13
  refine (refSame_to H W C A4 A8 (List.replicate m x) (List.replicate m x) m c4 c8 (by simp) (by simp) hml true (by simp) _ (B1 := w4.heap.size) (B2 := w8.heap.size) (by have := HH.out.size; omega) (Nat.le_refl _) RD4.out RD8.out).mono ?_
  rintro e w9 ⟨rfl, hb⟩
  have hS : ShapeAt w.heap.size H W C w9 ∧ BoxAt (w.heap.size + 1) H W C A n k w9 ∧ BoxAt w4.heap.size H W C A4 m c4 w9 := ⟨hHeld.1.below (by have := HH.out.size; omega) hb, hHeld.2.1.below (by have := HH.out.size; omega) hb, hHeld.2.2.below (by have := HH.out.size; omega) hb⟩
  replace HH := Lib.hid (HH.out.trans (hb.mono HH.out.size))
  clear hb hHeld
  dsimp only
  refine hK.out _ _ ?_ (fun hHeld => ?_)
  · exact hS
  clear hK K
  try simp only [Act.put, List.setIfInBounds_toArray, List.set_cons_zero, List.set_cons_succ]
  refine wpAnyH_take (i := 26) (oi := ({ dst := some 67, op := Op.unOp UnOp.not 4 (Operand.tmp 66), type := 4, pos := "law.go:29", after := #[{ on := 25, ground := Ground.data }, { on := 20, ground := Ground.guard }], guard := some (20, false) } : Oper)) (v := ?_) rfl (by kernel_rfl) (by kernel_rfl) (by kernel_rfl) (fun _ _ _ h => h) (Or.inl ⟨by rfl, ?_⟩) (by assumption) ?_
  rotate_left
  · intro wS hSw
    obtain ⟨⟨s1, s2, s3⟩, ⟨r1, r2, r3, r4⟩, ⟨u1, u2, u3, u4⟩⟩ := hSw
    first
      | (go_simp; done)
      | (go_simp; with_reducible rfl)
  try simp only [Act.put, List.setIfInBounds_toArray, List.set_cons_zero, List.set_cons_succ]
  refine wpAnyH_take (i := 27) (oi := ({ dst := some 68, op := Op.pick (Operand.tmp 61) (Operand.const (Value.bool true)) (Operand.tmp 67), type := 4, pos := "law.go:29", after := #[{ on := 20, ground := Ground.data }, { on := 26, ground := Ground.data }], guard := none } : Oper)) (v := ?_) rfl (by kernel_rfl) (by kernel_rfl) (by kernel_rfl) (fun _ _ _ h => h) (Or.inl ⟨by rfl, ?_⟩) (by assumption) ?_
  rotate_left
  · intro wS hSw
    obtain ⟨⟨s1, s2, s3⟩, ⟨r1, r2, r3, r4⟩, ⟨u1, u2, u3, u4⟩⟩ := hSw
    first
      | (go_simp; done)
      | (go_simp; with_reducible rfl)
  try simp only [Act.put, List.setIfInBounds_toArray, List.set_cons_zero, List.set_cons_succ]
  refine wpAnyH_done (by kernel_rfl) ?_ _
  obtain ⟨r1, r2, r3, r4⟩ := hHeld.2.1
  have HB9b := Lib.hid (HB9.out.below (by omega) HH.out)
  have HB11b := Lib.hid (HB11.out.below (by omega) HH.out)
  have HBWb := Lib.hid (HBW.out.trans (HH.out.mono (by omega)))
  have h59 := HH.out.size
  have x9 : w2.heap.size < w9.heap.size := by omega
  have y9 : w.heap.size + 1 < w9.heap.size := by omega
  have v9 : w3.heap.size < w9.heap.size := by omega
  have HRb := Lib.hid (HR.out.below HBWb.out)
  obtain ⟨e1, e2, e3, e4⟩ := HB9b.out
  clear hHeld HB9 HB11 HB7 HS HBW HB13 HH h59
  go_wp2_with (first
        | (go_at_call 13
           clear e1 e2 e3 e4 r1 r2 r3 r4
           with_reducible refine (refSame_0 0 0 _).mono ?_
           rintro e wa ⟨rfl, hb⟩
           obtain ⟨e1, e2, e3, e4⟩ := HB11b.out.below v9 hb
           have HBWc := Lib.hid (HBWb.out.trans (hb.mono (by omega)))
           have za : w9.heap.size ≤ wa.heap.size := hb.size
           clear hb)
        | (go_at_call 13
           clear e1 e2 e3 e4
           with_reducible refine (refSame_0 0 0 _).mono ?_
           rintro e wb ⟨rfl, hb⟩
           have HBWd := Lib.hid (HBWc.out.trans (hb.mono (by omega)))
           clear hb)
        | (go_at_call 6
           refine (known05 _).mono ?_
           rintro e wc ⟨rfl, hb⟩
           have HBWe := Lib.hid (HBWd.out.trans (hb.mono HBWd.out.size))
           clear hb))
  go_ret
  exact ⟨rfl, HBWe.out⟩
set_option maxRecDepth 100000 in
set_option maxHeartbeats 4000000 in
theorem walk_no {w : World} (H W C : Int) (A : Option Addr) (zs : List Int) (n k m : Nat) (hn : zs.length = n) (hk : n ≤ k) (hl : n ≤ 2000) (hr : Kit.Rd w w.heap.size A (zs.map (.int .i8))) (x : Int) (ht : tensB H W C n = false) (hs : shapeB H W C = false) :
    Calls Try.prog 3 #[.agg #[.int .i64 H, .int .i64 W, .int .i64 C], .slice A n k, .int .i8 x] w fun e w' => e = .returned (.bool true) ∧ Below w.heap.size w w' := by
  have HEL := Lib.hid (elemsZ_no hs)
  have HSH := Lib.hid hs
  have HT := Lib.hid ht
  have HN := Lib.hid hn
  have HR := Lib.hid hr
  have hlI : (n : Int) ≤ 2000 := by omega
  have hl6 : n ≤ 1000000 := by omega
  clear hs ht hn hr
  go_enter Try.func3, Try.ntmps3
  go_wp2_with (first
        | (go_at_call 7
           with_reducible refine (refRight_to H W C A n k false HT.out _).mono ?_
           rintro e w1 ⟨rfl, hb⟩
           have hB7 := (BoxAt.newp H W C A n k 28 (w.alloc (.cells #[.int .i64 H, .int .i64 W, .int .i64 C] 23)))
           rw [World.size_alloc] at hB7
           have HB7 := Lib.hid (hB7.below (by simp) hb)
           have HS := Lib.hid (((ShapeAt.new H W C 23 w).below (Nat.lt_succ_self _) ((Below.refl _ _).alloc (by simp) (.cells #[.int .i64 H, .int .i64 W, .int .i64 C, .slice A n k] 28))).below (by simp; omega) hb)
           have HBW : Hid (Below w.heap.size w w1) := Lib.hid ((((Below.refl _ _).alloc (Nat.le_refl _) _).alloc (by simp) _).trans (hb.mono (by simp; omega)))
           have y1 : w.heap.size + 1 < w1.heap.size := by have := hb.size; simp at this; omega
           have z1 : w.heap.size < w1.heap.size := by omega
           obtain ⟨s1, s2, s3⟩ := HS.out
           clear hb hB7)
        | (go_at_call 8
           with_reducible refine (of_no H W C A n k HT.out _).mono ?_
           rintro e w2 ⟨rfl, hb⟩
           replace HB7 := Lib.hid (HB7.out.below y1 hb)
           replace HS := Lib.hid (HS.out.below z1 hb)
           replace HBW := Lib.hid (HBW.out.trans (hb.mono (by omega)))
           have y2 : w.heap.size + 1 < w2.heap.size := by have := hb.size; omega
           have z2 : w.heap.size < w2.heap.size := by omega
           clear s1 s2 s3
           obtain ⟨r1, r2, r3, r4⟩ := HB7.out
           clear hb)
        | (go_at_call 9
           with_reducible refine (flat_no H W C A n k HT.out _).mono ?_
           rintro e w3 ⟨rfl, hb⟩
           have HB9 := Lib.hid ((BoxAt.newp 0 0 0 none 0 0 28 w2).below (by simp) hb)
           replace HB7 := Lib.hid ((HB7.out.below y2 ((Below.refl _ _).alloc (Nat.le_refl _) (.cells #[.int .i64 0, .int .i64 0, .int .i64 0, .slice none 0 0] 28))).below (by simp; omega) hb)
           replace HS := Lib.hid ((HS.out.below z2 ((Below.refl _ _).alloc (Nat.le_refl _) (.cells #[.int .i64 0, .int .i64 0, .int .i64 0, .slice none 0 0] 28))).below (by simp; omega) hb)
           replace HBW := Lib.hid ((HBW.out.alloc (by omega) (.cells #[.int .i64 0, .int .i64 0, .int .i64 0, .slice none 0 0] 28)).trans (hb.mono (by simp; omega)))
           have x3 : w2.heap.size < w3.heap.size := by have := hb.size; simp at this; omega
           have y3 : w.heap.size + 1 < w3.heap.size := by omega
           have z3 : w.heap.size < w3.heap.size := by omega
           clear r1 r2 r3 r4
           obtain ⟨s1, s2, s3⟩ := HS.out
           clear hb)
        | (go_at_call 10
           with_reducible refine (fill_no H W C x HSH.out _).mono ?_
           rintro e w4 ⟨rfl, hb⟩
           have HB11 := Lib.hid ((BoxAt.newp 0 0 0 none 0 0 28 w3).below (by simp) hb)
           replace HB9 := Lib.hid ((HB9.out.below x3 ((Below.refl _ _).alloc (Nat.le_refl _) (.cells #[.int .i64 0, .int .i64 0, .int .i64 0, .slice none 0 0] 28))).below (by simp; omega) hb)
           replace HB7 := Lib.hid ((HB7.out.below y3 ((Below.refl _ _).alloc (Nat.le_refl _) (.cells #[.int .i64 0, .int .i64 0, .int .i64 0, .slice none 0 0] 28))).below (by simp; omega) hb)
           replace HS := Lib.hid ((HS.out.below z3 ((Below.refl _ _).alloc (Nat.le_refl _) (.cells #[.int .i64 0, .int .i64 0, .int .i64 0, .slice none 0 0] 28))).below (by simp; omega) hb)
           replace HBW := Lib.hid ((HBW.out.alloc (by omega) (.cells #[.int .i64 0, .int .i64 0, .int .i64 0, .slice none 0 0] 28)).trans (hb.mono (by simp; omega)))
           have v4x : w3.heap.size < w4.heap.size := by have := hb.size; simp at this; omega
           have x4 : w2.heap.size < w4.heap.size := by omega
           have y4 : w.heap.size + 1 < w4.heap.size := by omega
           have z4 : w.heap.size < w4.heap.size := by omega
           clear s1 s2 s3
           clear hb))
  have HB13 := Lib.hid (BoxAt.new 0 0 0 none 0 0 28 w4)
  replace HB11 := Lib.hid ((HB11.out.below v4x ((Below.refl _ _).alloc (Nat.le_refl _) (.cells #[.int .i64 0, .int .i64 0, .int .i64 0, .slice none 0 0] 28))).drewp)
  replace HB9 := Lib.hid ((HB9.out.below x4 ((Below.refl _ _).alloc (Nat.le_refl _) (.cells #[.int .i64 0, .int .i64 0, .int .i64 0, .slice none 0 0] 28))).drewp)
  replace HB7 := Lib.hid ((HB7.out.below y4 ((Below.refl _ _).alloc (Nat.le_refl _) (.cells #[.int .i64 0, .int .i64 0, .int .i64 0, .slice none 0 0] 28))).drewp)
  replace HS := Lib.hid ((HS.out.below z4 ((Below.refl _ _).alloc (Nat.le_refl _) (.cells #[.int .i64 0, .int .i64 0, .int .i64 0, .slice none 0 0] 28))).drewp)
  replace HBW := Lib.hid (HBW.out.alloc (by omega) (.cells #[.int .i64 0, .int .i64 0, .int .i64 0, .slice none 0 0] 28)).drew
  have u5 : w4.heap.size < (w4.alloc (.cells #[.int .i64 0, .int .i64 0, .int .i64 0, .slice none 0 0] 28)).drew.heap.size := by simp
  refine wp_region_held_drew (S := fun w' => ShapeAt w.heap.size H W C w' ∧ BoxAt (w.heap.size + 1) H W C A n k w' ∧ BoxAt w4.heap.size 0 0 0 none 0 0 w') (by kernel_rfl) ⟨HS.out, HB7.out, HB13.out⟩ (fun hHeld => ?_)
  try dsimp only at hHeld
  generalize (w4.alloc (.cells #[.int .i64 0, .int .i64 0, .int .i64 0, .slice none 0 0] 28)).drew = W5 at HB13 HB11 HB9 HB7 HS HBW u5 hHeld ⊢
  have HH := Lib.hid (Below.refl W5.heap.size W5)
  refine wpAnyH_take (i := 0) (oi := ({ dst := some 41, op := Op.load 28 (Operand.tmp 7), type := 28, pos := "law.go:29", after := #[], guard := none } : Oper)) (v := ?_) rfl (by kernel_rfl) (by kernel_rfl) (by kernel_rfl) (fun _ _ _ h => h) (Or.inl ⟨by rfl, ?_⟩) (by assumption) ?_
  rotate_left
  · intro wS hSw
    obtain ⟨⟨s1, s2, s3⟩, ⟨r1, r2, r3, r4⟩, ⟨u1, u2, u3, u4⟩⟩ := hSw
    first
      | (go_simp; done)
      | (go_simp; with_reducible rfl)
  try simp only [Act.put, List.setIfInBounds_toArray, List.set_cons_zero, List.set_cons_succ]
  refine wpAnyH_take (i := 2) (oi := ({ dst := some 43, op := Op.move (Operand.tmp 8), type := 4, pos := "law.go:29", after := #[], guard := none } : Oper)) (v := ?_) rfl (by kernel_rfl) (by kernel_rfl) (by kernel_rfl) (fun _ _ _ h => h) (Or.inl ⟨by rfl, ?_⟩) (by assumption) ?_
  rotate_left
  · intro wS hSw
    obtain ⟨⟨s1, s2, s3⟩, ⟨r1, r2, r3, r4⟩, ⟨u1, u2, u3, u4⟩⟩ := hSw
    first
      | (go_simp; done)
      | (go_simp; with_reducible rfl)
  try simp only [Act.put, List.setIfInBounds_toArray, List.set_cons_zero, List.set_cons_succ]
  refine wpAnyH_ready (rs := [1]) (by kernel_rfl) (by simp) ?_
  refine AllReadyH.cons (o := ({ dst := some 42, op := Op.call { callee := Callee.value (Operand.func 11), args := #[Operand.tmp 41], argTypes := #[28] }, type := 4, pos := "law.go:29", after := #[{ on := 0, ground := Ground.data }], guard := none } : Oper)) rfl (fun K hK => ?_) (AllReadyH.nil)
  go_simp
  go_at_call 11
  refine (CTensor.right_to H W C A n k false HT.out _).mono ?_
  rintro e w6 ⟨rfl, hb⟩
  have hS : ShapeAt w.heap.size H W C w6 ∧ BoxAt (w.heap.size + 1) H W C A n k w6 ∧ BoxAt w4.heap.size 0 0 0 none 0 0 w6 := ⟨hHeld.1.below (by have := HH.out.size; omega) hb, hHeld.2.1.below (by have := HH.out.size; omega) hb, hHeld.2.2.below (by have := HH.out.size; omega) hb⟩
  replace HH := Lib.hid (HH.out.trans (hb.mono HH.out.size))
  clear hb hHeld
  dsimp only
  refine hK.out _ _ ?_ (fun hHeld => ?_)
  · exact hS
  clear hK K
  try simp only [Act.put, List.setIfInBounds_toArray, List.set_cons_zero, List.set_cons_succ]
  refine wpAnyH_take (i := 3) (oi := ({ dst := some 44, op := Op.binOp BinOp.neq 4 (Operand.tmp 42) (Operand.tmp 43) 4, type := 4, pos := "law.go:29", after := #[{ on := 1, ground := Ground.data }, { on := 2, ground := Ground.data }], guard := none } : Oper)) (v := ?_) rfl (by kernel_rfl) (by kernel_rfl) (by kernel_rfl) (fun _ _ _ h => h) (Or.inl ⟨by rfl, ?_⟩) (by assumption) ?_
  rotate_left
  · intro wS hSw
    obtain ⟨⟨s1, s2, s3⟩, ⟨r1, r2, r3, r4⟩, ⟨u1, u2, u3, u4⟩⟩ := hSw
    first
      | (go_simp; done)
      | (go_simp; with_reducible rfl)
  try simp only [Act.put, List.setIfInBounds_toArray, List.set_cons_zero, List.set_cons_succ]
  refine wpAnyH_take (i := 4) (oi := ({ dst := some 45, op := Op.move (Operand.tmp 44), type := 4, pos := "law.go:29", after := #[{ on := 3, ground := Ground.data }, { on := 1, ground := Ground.chain }], guard := none } : Oper)) (v := ?_) rfl (by kernel_rfl) (by kernel_rfl) (by kernel_rfl) (fun _ _ _ h => h) (Or.inl ⟨by rfl, ?_⟩) (by assumption) ?_
  rotate_left
  · intro wS hSw
    obtain ⟨⟨s1, s2, s3⟩, ⟨r1, r2, r3, r4⟩, ⟨u1, u2, u3, u4⟩⟩ := hSw
    first
      | (go_simp; done)
      | (go_simp; with_reducible rfl)
  try simp only [Act.put, List.setIfInBounds_toArray, List.set_cons_zero, List.set_cons_succ]
  refine wpAnyH_take (i := 5) (oi := ({ dst := some 46, op := Op.move (Operand.tmp 14), type := 30, pos := "law.go:29", after := #[{ on := 4, ground := Ground.guard }], guard := some (4, false) } : Oper)) (v := ?_) rfl (by kernel_rfl) (by kernel_rfl) (by kernel_rfl) (fun _ _ _ h => h) (Or.inl ⟨by rfl, ?_⟩) (by assumption) ?_
  rotate_left
  · intro wS hSw
    obtain ⟨⟨s1, s2, s3⟩, ⟨r1, r2, r3, r4⟩, ⟨u1, u2, u3, u4⟩⟩ := hSw
    first
      | (go_simp; done)
      | (go_simp; with_reducible rfl)
  try simp only [Act.put, List.setIfInBounds_toArray, List.set_cons_zero, List.set_cons_succ]
  refine wpAnyH_take (i := 6) (oi := ({ dst := some 47, op := Op.binOp BinOp.eql 30 (Operand.tmp 46) (Operand.const (Value.int IntKind.i64 0)) 30, type := 4, pos := "law.go:29", after := #[{ on := 5, ground := Ground.data }, { on := 4, ground := Ground.guard }], guard := some (4, false) } : Oper)) (v := ?_) rfl (by kernel_rfl) (by kernel_rfl) (by kernel_rfl) (fun _ _ _ h => h) (Or.inl ⟨by rfl, ?_⟩) (by assumption) ?_
  rotate_left
  · intro wS hSw
    obtain ⟨⟨s1, s2, s3⟩, ⟨r1, r2, r3, r4⟩, ⟨u1, u2, u3, u4⟩⟩ := hSw
    first
      | (go_simp; done)
      | (go_simp; with_reducible rfl)
  try simp only [Act.put, List.setIfInBounds_toArray, List.set_cons_zero, List.set_cons_succ]
  refine wpAnyH_take (i := 7) (oi := ({ dst := some 48, op := Op.load 23 (Operand.tmp 3), type := 23, pos := "law.go:29", after := #[{ on := 4, ground := Ground.guard }], guard := some (4, false) } : Oper)) (v := ?_) rfl (by kernel_rfl) (by kernel_rfl) (by kernel_rfl) (fun _ _ _ h => h) (Or.inl ⟨by rfl, ?_⟩) (by assumption) ?_
  rotate_left
  · intro wS hSw
    obtain ⟨⟨s1, s2, s3⟩, ⟨r1, r2, r3, r4⟩, ⟨u1, u2, u3, u4⟩⟩ := hSw
    first
      | (go_simp; done)
      | (go_simp; with_reducible rfl)
  try simp only [Act.put, List.setIfInBounds_toArray, List.set_cons_zero, List.set_cons_succ]
  refine wpAnyH_ready (rs := [8]) (by kernel_rfl) (by simp) ?_
  refine AllReadyH.cons (o := ({ dst := some 49, op := Op.call { callee := Callee.value (Operand.func 12), args := #[Operand.tmp 48], argTypes := #[23] }, type := 3, pos := "law.go:29", after := #[{ on := 7, ground := Ground.data }, { on := 4, ground := Ground.chain }, { on := 4, ground := Ground.guard }], guard := some (4, false) } : Oper)) rfl (fun K hK => ?_) (AllReadyH.nil)
  go_simp
  go_at_call 12
  refine (refElems_to H W C 0 HEL.out _).mono ?_
  rintro e w7 ⟨rfl, hb⟩
  have hS : ShapeAt w.heap.size H W C w7 ∧ BoxAt (w.heap.size + 1) H W C A n k w7 ∧ BoxAt w4.heap.size 0 0 0 none 0 0 w7 := ⟨hHeld.1.below (by have := HH.out.size; omega) hb, hHeld.2.1.below (by have := HH.out.size; omega) hb, hHeld.2.2.below (by have := HH.out.size; omega) hb⟩
  replace HH := Lib.hid (HH.out.trans (hb.mono HH.out.size))
  clear hb hHeld
  dsimp only
  refine hK.out _ _ ?_ (fun hHeld => ?_)
  · exact hS
  clear hK K
  try simp only [Act.put, List.setIfInBounds_toArray, List.set_cons_zero, List.set_cons_succ]
  refine wpAnyH_take (i := 9) (oi := ({ dst := some 50, op := Op.binOp BinOp.gtr 3 (Operand.tmp 49) (Operand.const (Value.int IntKind.i64 0)) 3, type := 4, pos := "law.go:29", after := #[{ on := 8, ground := Ground.data }, { on := 4, ground := Ground.guard }], guard := some (4, false) } : Oper)) (v := ?_) rfl (by kernel_rfl) (by kernel_rfl) (by kernel_rfl) (fun _ _ _ h => h) (Or.inl ⟨by rfl, ?_⟩) (by assumption) ?_
  rotate_left
  · intro wS hSw
    obtain ⟨⟨s1, s2, s3⟩, ⟨r1, r2, r3, r4⟩, ⟨u1, u2, u3, u4⟩⟩ := hSw
    first
      | (go_simp; done)
      | (go_simp; with_reducible rfl)
  try simp only [Act.put, List.setIfInBounds_toArray, List.set_cons_zero, List.set_cons_succ]
  refine wpAnyH_take (i := 10) (oi := ({ dst := some 51, op := Op.binOp BinOp.neq 4 (Operand.tmp 47) (Operand.tmp 50) 4, type := 4, pos := "law.go:29", after := #[{ on := 6, ground := Ground.data }, { on := 9, ground := Ground.data }, { on := 4, ground := Ground.guard }], guard := some (4, false) } : Oper)) (v := ?_) rfl (by kernel_rfl) (by kernel_rfl) (by kernel_rfl) (fun _ _ _ h => h) (Or.inl ⟨by rfl, ?_⟩) (by assumption) ?_
  rotate_left
  · intro wS hSw
    obtain ⟨⟨s1, s2, s3⟩, ⟨r1, r2, r3, r4⟩, ⟨u1, u2, u3, u4⟩⟩ := hSw
    first
      | (go_simp; done)
      | (go_simp; with_reducible rfl)
  try simp only [Act.put, List.setIfInBounds_toArray, List.set_cons_zero, List.set_cons_succ]
  refine wpAnyH_take (i := 11) (oi := ({ dst := some 52, op := Op.pick (Operand.tmp 45) (Operand.const (Value.bool true)) (Operand.tmp 51), type := 4, pos := "law.go:29", after := #[{ on := 4, ground := Ground.data }, { on := 10, ground := Ground.data }], guard := none } : Oper)) (v := ?_) rfl (by kernel_rfl) (by kernel_rfl) (by kernel_rfl) (fun _ _ _ h => h) (Or.inl ⟨by rfl, ?_⟩) (by assumption) ?_
  rotate_left
  · intro wS hSw
    obtain ⟨⟨s1, s2, s3⟩, ⟨r1, r2, r3, r4⟩, ⟨u1, u2, u3, u4⟩⟩ := hSw
    first
      | (go_simp; done)
      | (go_simp; with_reducible rfl)
  try simp only [Act.put, List.setIfInBounds_toArray, List.set_cons_zero, List.set_cons_succ]
  refine wpAnyH_take (i := 12) (oi := ({ dst := some 53, op := Op.move (Operand.tmp 52), type := 4, pos := "law.go:29", after := #[{ on := 11, ground := Ground.data }, { on := 8, ground := Ground.chain }], guard := none } : Oper)) (v := ?_) rfl (by kernel_rfl) (by kernel_rfl) (by kernel_rfl) (fun _ _ _ h => h) (Or.inl ⟨by rfl, ?_⟩) (by assumption) ?_
  rotate_left
  · intro wS hSw
    obtain ⟨⟨s1, s2, s3⟩, ⟨r1, r2, r3, r4⟩, ⟨u1, u2, u3, u4⟩⟩ := hSw
    first
      | (go_simp; done)
      | (go_simp; with_reducible rfl)
  try simp only [Act.put, List.setIfInBounds_toArray, List.set_cons_zero, List.set_cons_succ]
  refine wpAnyH_take (i := 13) (oi := ({ dst := some 54, op := Op.move (Operand.tmp 14), type := 30, pos := "law.go:29", after := #[{ on := 12, ground := Ground.guard }], guard := some (12, false) } : Oper)) (v := ?_) rfl (by kernel_rfl) (by kernel_rfl) (by kernel_rfl) (fun _ _ _ h => h) (Or.inl ⟨by rfl, ?_⟩) (by assumption) ?_
  rotate_left
  · intro wS hSw
    obtain ⟨⟨s1, s2, s3⟩, ⟨r1, r2, r3, r4⟩, ⟨u1, u2, u3, u4⟩⟩ := hSw
    first
      | (go_simp; done)
      | (go_simp; with_reducible rfl)
  try simp only [Act.put, List.setIfInBounds_toArray, List.set_cons_zero, List.set_cons_succ]
  refine wpAnyH_take (i := 14) (oi := ({ dst := some 55, op := Op.binOp BinOp.neq 30 (Operand.tmp 54) (Operand.const (Value.int IntKind.i64 0)) 30, type := 4, pos := "law.go:29", after := #[{ on := 13, ground := Ground.data }, { on := 12, ground := Ground.guard }], guard := some (12, false) } : Oper)) (v := ?_) rfl (by kernel_rfl) (by kernel_rfl) (by kernel_rfl) (fun _ _ _ h => h) (Or.inl ⟨by rfl, ?_⟩) (by assumption) ?_
  rotate_left
  · intro wS hSw
    obtain ⟨⟨s1, s2, s3⟩, ⟨r1, r2, r3, r4⟩, ⟨u1, u2, u3, u4⟩⟩ := hSw
    first
      | (go_simp; done)
      | (go_simp; with_reducible rfl)
  try simp only [Act.put, List.setIfInBounds_toArray, List.set_cons_zero, List.set_cons_succ]
  refine wpAnyH_take (i := 15) (oi := ({ dst := some 56, op := Op.move (Operand.tmp 55), type := 4, pos := "law.go:29", after := #[{ on := 14, ground := Ground.data }, { on := 12, ground := Ground.chain }, { on := 12, ground := Ground.guard }], guard := some (12, false) } : Oper)) (v := ?_) rfl (by kernel_rfl) (by kernel_rfl) (by kernel_rfl) (fun _ _ _ h => h) (Or.inl ⟨by rfl, ?_⟩) (by assumption) ?_
  rotate_left
  · intro wS hSw
    obtain ⟨⟨s1, s2, s3⟩, ⟨r1, r2, r3, r4⟩, ⟨u1, u2, u3, u4⟩⟩ := hSw
    first
      | (go_simp; done)
      | (go_simp; with_reducible rfl)
  try simp only [Act.put, List.setIfInBounds_toArray, List.set_cons_zero, List.set_cons_succ]
  refine wpAnyH_take (i := 16) (oi := ({ dst := some 57, op := Op.move (Operand.tmp 14), type := 30, pos := "law.go:29", after := #[{ on := 15, ground := Ground.guard }], guard := some (15, true) } : Oper)) (v := ?_) rfl (by kernel_rfl) (by kernel_rfl) (by kernel_rfl) (fun _ _ _ h => h) (Or.inl ⟨by rfl, ?_⟩) (by assumption) ?_
  rotate_left
  · intro wS hSw
    obtain ⟨⟨s1, s2, s3⟩, ⟨r1, r2, r3, r4⟩, ⟨u1, u2, u3, u4⟩⟩ := hSw
    first
      | (go_simp; done)
      | (go_simp; with_reducible rfl)
  try simp only [Act.put, List.setIfInBounds_toArray, List.set_cons_zero, List.set_cons_succ]
  refine wpAnyH_take (i := 17) (oi := ({ dst := some 58, op := Op.binOp BinOp.neq 30 (Operand.tmp 57) (Operand.const (Value.int IntKind.i64 5)) 30, type := 4, pos := "law.go:29", after := #[{ on := 16, ground := Ground.data }, { on := 15, ground := Ground.guard }], guard := some (15, true) } : Oper)) (v := ?_) rfl (by kernel_rfl) (by kernel_rfl) (by kernel_rfl) (fun _ _ _ h => h) (Or.inl ⟨by rfl, ?_⟩) (by assumption) ?_
  rotate_left
  · intro wS hSw
    obtain ⟨⟨s1, s2, s3⟩, ⟨r1, r2, r3, r4⟩, ⟨u1, u2, u3, u4⟩⟩ := hSw
    first
      | (go_simp; done)
      | (go_simp; with_reducible rfl)
  try simp only [Act.put, List.setIfInBounds_toArray, List.set_cons_zero, List.set_cons_succ]
  refine wpAnyH_take (i := 18) (oi := ({ dst := some 59, op := Op.pick (Operand.tmp 56) (Operand.tmp 58) (Operand.const (Value.bool false)), type := 4, pos := "law.go:29", after := #[{ on := 15, ground := Ground.data }, { on := 17, ground := Ground.data }, { on := 12, ground := Ground.guard }], guard := some (12, false) } : Oper)) (v := ?_) rfl (by kernel_rfl) (by kernel_rfl) (by kernel_rfl) (fun _ _ _ h => h) (Or.inl ⟨by rfl, ?_⟩) (by assumption) ?_
  rotate_left
  · intro wS hSw
    obtain ⟨⟨s1, s2, s3⟩, ⟨r1, r2, r3, r4⟩, ⟨u1, u2, u3, u4⟩⟩ := hSw
    first
      | (go_simp; done)
      | (go_simp; with_reducible rfl)
  try simp only [Act.put, List.setIfInBounds_toArray, List.set_cons_zero, List.set_cons_succ]
  refine wpAnyH_take (i := 19) (oi := ({ dst := some 60, op := Op.pick (Operand.tmp 53) (Operand.const (Value.bool true)) (Operand.tmp 59), type := 4, pos := "law.go:29", after := #[{ on := 12, ground := Ground.data }, { on := 18, ground := Ground.data }], guard := none } : Oper)) (v := ?_) rfl (by kernel_rfl) (by kernel_rfl) (by kernel_rfl) (fun _ _ _ h => h) (Or.inl ⟨by rfl, ?_⟩) (by assumption) ?_
  rotate_left
  · intro wS hSw
    obtain ⟨⟨s1, s2, s3⟩, ⟨r1, r2, r3, r4⟩, ⟨u1, u2, u3, u4⟩⟩ := hSw
    first
      | (go_simp; done)
      | (go_simp; with_reducible rfl)
  try simp only [Act.put, List.setIfInBounds_toArray, List.set_cons_zero, List.set_cons_succ]
  refine wpAnyH_take (i := 20) (oi := ({ dst := some 61, op := Op.move (Operand.tmp 60), type := 4, pos := "law.go:29", after := #[{ on := 19, ground := Ground.data }, { on := 15, ground := Ground.chain }], guard := none } : Oper)) (v := ?_) rfl (by kernel_rfl) (by kernel_rfl) (by kernel_rfl) (fun _ _ _ h => h) (Or.inl ⟨by rfl, ?_⟩) (by assumption) ?_
  rotate_left
  · intro wS hSw
    obtain ⟨⟨s1, s2, s3⟩, ⟨r1, r2, r3, r4⟩, ⟨u1, u2, u3, u4⟩⟩ := hSw
    first
      | (go_simp; done)
      | (go_simp; with_reducible rfl)
  try simp only [Act.put, List.setIfInBounds_toArray, List.set_cons_zero, List.set_cons_succ]
  refine wpAnyH_take (i := 21) (oi := ({ dst := some 62, op := Op.load 28 (Operand.tmp 13), type := 28, pos := "law.go:29", after := #[{ on := 20, ground := Ground.guard }], guard := some (20, false) } : Oper)) (v := ?_) rfl (by kernel_rfl) (by kernel_rfl) (by kernel_rfl) (fun _ _ _ h => h) (Or.inl ⟨by rfl, ?_⟩) (by assumption) ?_
  rotate_left
  · intro wS hSw
    obtain ⟨⟨s1, s2, s3⟩, ⟨r1, r2, r3, r4⟩, ⟨u1, u2, u3, u4⟩⟩ := hSw
    first
      | (go_simp; done)
      | (go_simp; with_reducible rfl)
  try simp only [Act.put, List.setIfInBounds_toArray, List.set_cons_zero, List.set_cons_succ]
  refine wpAnyH_take (i := 22) (oi := ({ dst := some 63, op := Op.load 23 (Operand.tmp 3), type := 23, pos := "law.go:29", after := #[{ on := 20, ground := Ground.guard }], guard := some (20, false) } : Oper)) (v := ?_) rfl (by kernel_rfl) (by kernel_rfl) (by kernel_rfl) (fun _ _ _ h => h) (Or.inl ⟨by rfl, ?_⟩) (by assumption) ?_
  rotate_left
  · intro wS hSw
    obtain ⟨⟨s1, s2, s3⟩, ⟨r1, r2, r3, r4⟩, ⟨u1, u2, u3, u4⟩⟩ := hSw
    first
      | (go_simp; done)
      | (go_simp; with_reducible rfl)
  try simp only [Act.put, List.setIfInBounds_toArray, List.set_cons_zero, List.set_cons_succ]
  refine wpAnyH_take (i := 23) (oi := ({ dst := some 64, op := Op.move (Operand.tmp 2), type := 25, pos := "law.go:29", after := #[{ on := 20, ground := Ground.guard }], guard := some (20, false) } : Oper)) (v := ?_) rfl (by kernel_rfl) (by kernel_rfl) (by kernel_rfl) (fun _ _ _ h => h) (Or.inl ⟨by rfl, ?_⟩) (by assumption) ?_
  rotate_left
  · intro wS hSw
    obtain ⟨⟨s1, s2, s3⟩, ⟨r1, r2, r3, r4⟩, ⟨u1, u2, u3, u4⟩⟩ := hSw
    first
      | (go_simp; done)
      | (go_simp; with_reducible rfl)
  try simp only [Act.put, List.setIfInBounds_toArray, List.set_cons_zero, List.set_cons_succ]
  refine wpAnyH_ready (rs := [24]) (by kernel_rfl) (by simp) ?_
  refine AllReadyH.cons (o := ({ dst := some 65, op := Op.call { callee := Callee.value (Operand.func 14), args := #[Operand.tmp 63, Operand.tmp 64], argTypes := #[23, 25] }, type := 28, pos := "law.go:29", after := #[{ on := 22, ground := Ground.data }, { on := 23, ground := Ground.data }, { on := 20, ground := Ground.chain }, { on := 20, ground := Ground.guard }], guard := some (20, false) } : Oper)) rfl (fun K hK => ?_) (AllReadyH.nil)
  go_simp
  go_at_call 14
  refine (lawfill_no H W C x HEL.out _).mono ?_
  rintro e w8 ⟨rfl, hb⟩
  have hS : ShapeAt w.heap.size H W C w8 ∧ BoxAt (w.heap.size + 1) H W C A n k w8 ∧ BoxAt w4.heap.size 0 0 0 none 0 0 w8 := ⟨hHeld.1.below (by have := HH.out.size; omega) hb, hHeld.2.1.below (by have := HH.out.size; omega) hb, hHeld.2.2.below (by have := HH.out.size; omega) hb⟩
  replace HH := Lib.hid (HH.out.trans (hb.mono HH.out.size))
  clear hb hHeld
  dsimp only
  refine hK.out _ _ ?_ (fun hHeld => ?_)
  · exact hS
  clear hK K
  try simp only [Act.put, List.setIfInBounds_toArray, List.set_cons_zero, List.set_cons_succ]
  refine wpAnyH_ready (rs := [25]) (by kernel_rfl) (by simp) ?_
  refine AllReadyH.cons (o := ({ dst := some 66, op := Op.call { callee := Callee.value (Operand.func 13), args := #[Operand.tmp 62, Operand.tmp 65], argTypes := #[28, 28] }, type := 4, pos := "law.go:29", after := #[{ on := 21, ground := Ground.data }, { on := 24, ground := Ground.data }, { on := 24, ground := Ground.chain }, { on := 20, ground := Ground.guard }], guard := some (20, false) } : Oper)) rfl (fun K hK => ?_) (AllReadyH.nil)
  go_simp
  go_at_call 13
  refine (refSame_0 0 0 _).mono ?_
  rintro e w9 ⟨rfl, hb⟩
  have hS : ShapeAt w.heap.size H W C w9 ∧ BoxAt (w.heap.size + 1) H W C A n k w9 ∧ BoxAt w4.heap.size 0 0 0 none 0 0 w9 := ⟨hHeld.1.below (by have := HH.out.size; omega) hb, hHeld.2.1.below (by have := HH.out.size; omega) hb, hHeld.2.2.below (by have := HH.out.size; omega) hb⟩
  replace HH := Lib.hid (HH.out.trans (hb.mono HH.out.size))
  clear hb hHeld
  dsimp only
  refine hK.out _ _ ?_ (fun hHeld => ?_)
  · exact hS
  clear hK K
  try simp only [Act.put, List.setIfInBounds_toArray, List.set_cons_zero, List.set_cons_succ]
  refine wpAnyH_take (i := 26) (oi := ({ dst := some 67, op := Op.unOp UnOp.not 4 (Operand.tmp 66), type := 4, pos := "law.go:29", after := #[{ on := 25, ground := Ground.data }, { on := 20, ground := Ground.guard }], guard := some (20, false) } : Oper)) (v := ?_) rfl (by kernel_rfl) (by kernel_rfl) (by kernel_rfl) (fun _ _ _ h => h) (Or.inl ⟨by rfl, ?_⟩) (by assumption) ?_
  rotate_left
  · intro wS hSw
    obtain ⟨⟨s1, s2, s3⟩, ⟨r1, r2, r3, r4⟩, ⟨u1, u2, u3, u4⟩⟩ := hSw
    first
      | (go_simp; done)
      | (go_simp; with_reducible rfl)
  try simp only [Act.put, List.setIfInBounds_toArray, List.set_cons_zero, List.set_cons_succ]
  refine wpAnyH_take (i := 27) (oi := ({ dst := some 68, op := Op.pick (Operand.tmp 61) (Operand.const (Value.bool true)) (Operand.tmp 67), type := 4, pos := "law.go:29", after := #[{ on := 20, ground := Ground.data }, { on := 26, ground := Ground.data }], guard := none } : Oper)) (v := ?_) rfl (by kernel_rfl) (by kernel_rfl) (by kernel_rfl) (fun _ _ _ h => h) (Or.inl ⟨by rfl, ?_⟩) (by assumption) ?_
  rotate_left
  · intro wS hSw
    obtain ⟨⟨s1, s2, s3⟩, ⟨r1, r2, r3, r4⟩, ⟨u1, u2, u3, u4⟩⟩ := hSw
    first
      | (go_simp; done)
      | (go_simp; with_reducible rfl)
  try simp only [Act.put, List.setIfInBounds_toArray, List.set_cons_zero, List.set_cons_succ]
  refine wpAnyH_done (by kernel_rfl) ?_ _
  obtain ⟨r1, r2, r3, r4⟩ := hHeld.2.1
  have HB9b := Lib.hid (HB9.out.below (by omega) HH.out)
  have HB11b := Lib.hid (HB11.out.below (by omega) HH.out)
  have HBWb := Lib.hid (HBW.out.trans (HH.out.mono (by omega)))
  have h59 := HH.out.size
  have x9 : w2.heap.size < w9.heap.size := by omega
  have y9 : w.heap.size + 1 < w9.heap.size := by omega
  have v9 : w3.heap.size < w9.heap.size := by omega
  have HRb := Lib.hid (HR.out.below HBWb.out)
  obtain ⟨e1, e2, e3, e4⟩ := HB9b.out
  clear hHeld HB9 HB11 HB7 HS HBW HB13 HH h59
  go_wp2_with (first
        | (go_at_call 13
           clear e1 e2 e3 e4 r1 r2 r3 r4
           with_reducible refine (refSame_0 0 0 _).mono ?_
           rintro e wa ⟨rfl, hb⟩
           obtain ⟨e1, e2, e3, e4⟩ := HB11b.out.below v9 hb
           have HBWc := Lib.hid (HBWb.out.trans (hb.mono (by omega)))
           have za : w9.heap.size ≤ wa.heap.size := hb.size
           clear hb)
        | (go_at_call 13
           clear e1 e2 e3 e4
           with_reducible refine (refSame_0 0 0 _).mono ?_
           rintro e wb ⟨rfl, hb⟩
           have HBWd := Lib.hid (HBWc.out.trans (hb.mono (by omega)))
           clear hb)
        | (go_at_call 6
           refine (known05 _).mono ?_
           rintro e wc ⟨rfl, hb⟩
           have HBWe := Lib.hid (HBWd.out.trans (hb.mono HBWd.out.size))
           clear hb))
  go_ret
  exact ⟨rfl, HBWe.out⟩
theorem walk {w : World} (H : Int) (wH : (Lit.int .i64 H).wf = true) (W : Int) (wW : (Lit.int .i64 W).wf = true) (C : Int) (wC : (Lit.int .i64 C).wf = true)
    (A : Option Addr) (zs : List Int) (k : Nat) (hk : zs.length ≤ k) (hm : k ≤ maxLen) (hw : ∀ n ∈ zs, (Lit.int .i8 n).wf = true) (hr : Kit.Rd w w.heap.size A (zs.map (.int .i8)))
    (x : Int) (wx : (Lit.int .i8 x).wf = true) :
    Calls Try.prog 3 #[.agg #[.int .i64 H, .int .i64 W, .int .i64 C], .slice A zs.length k, .int .i8 x] w fun e w' => e = .returned (.bool true) ∧ Below w.heap.size w w' := by
  by_cases hl : 2000 < zs.length
  · exact walk_long H W C A _ k hl x
  · cases hs : shapeB H W C
    · exact walk_no H W C A zs _ k 0 rfl hk (by omega) hr x (by simp [tensB, hs]) hs
    · obtain ⟨m, hm⟩ : ∃ m : Nat, H * W * C = (m : Int) := by
        have hs2 := hs
        simp only [shapeB, decide_eq_true_eq] at hs2
        obtain ⟨g1, g2, g3, g4, g5, g6, g7⟩ := hs2
        have := prod_bd g1 g2 g3 g4 g5 g6
        exact ⟨(H * W * C).toNat, by omega⟩
      cases ht : tensB H W C zs.length
      · exact walk_shp H W C A zs _ k m rfl hk (by omega) hr x ht hs hm
      · exact walk_yes H W C A zs _ k rfl hk (by omega) hr x ht
/-! ### the frame: written by program -/
theorem own : ownKnob Try.prog.godebug = none := by kernel_rfl
theorem laid : laidOutB Try.prog = true := by kernel_rfl
theorem contract {H : Type} {enc : TypeId × Value → H} {W : World} {base : Nat} {args : Array Value} {ds gs : List (DataW H)} {before : List MemPlace}
    (hval0 : ∀ (j : Nat) t v, Try.f3.params[j]? = some t → args[j]? = some v → Value.okWide Try.prog W .any base t v)
    (hW : DataW.Whole enc Try.prog Try.f3.params.toList Rows.tensorIsSpec.vars false W args.toList ds gs before) :
    Calls Try.prog 3 args W fun e W' => e = .returned (.bool true) ∧ Below W.heap.size W W' := by
  have hval : ∀ (j : Nat) t v, Try.f3.params[j]? = some t → args[j]? = some v → Value.okWide Try.prog W .any base t v := hval0
  obtain ⟨p, q, hA0, hV, rfl, hfz, hnd⟩ := hW
  have hA : DataW.TrodAll enc Try.prog W 0 (fun _ => true) true Try.f3.params.toList args.toList ds p := hA0
  rw [Try.params3] at hA hval
  obtain ⟨v0, vs0, d0, ds0, p0, q0, hargs, rfl, rfl, h0, r0⟩ := trodAll_cons hA
  obtain ⟨v1, vs1, d1, ds1, p1, q1, rfl, rfl, rfl, h1, r1⟩ := trodAll_cons r0
  obtain ⟨v2, vs2, d2, ds2, p2, q2, rfl, rfl, rfl, h2, r2⟩ := trodAll_cons r1
  obtain ⟨rfl, rfl, rfl⟩ := trodAll_nil r2
  obtain rfl : args = #[v0, v1, v2] := by cases args; simp_all
  clear hA0 hval0
  obtain ⟨cs0, rfl, hs0, hf0⟩ := Kit.open_flat Try.underlying23 (by kernel_rfl) (by kernel_rfl) (hval 0 23 v0 rfl rfl) h0
  obtain ⟨u0_0, u0_1, u0_2, rfl⟩ := Kit.size_3 hs0
  obtain ⟨a0_0, rfl, w0_0⟩ := Kit.flat_int Try.underlying3 (v := u0_0) rfl (hf0 0 _ rfl)
  obtain ⟨a0_1, rfl, w0_1⟩ := Kit.flat_int Try.underlying3 (v := u0_1) rfl (hf0 1 _ rfl)
  obtain ⟨a0_2, rfl, w0_2⟩ := Kit.flat_int Try.underlying3 (v := u0_2) rfl (hf0 2 _ rfl)
  obtain ⟨A1, z1, c1, rfl, hc1, hm1, hw1, hr1⟩ := Kit.open_islice Try.underlying24 Try.underlying25 (by kernel_rfl) (hval 1 24 v1 rfl rfl) h1
  obtain ⟨a2, rfl, rfl, rfl, w2⟩ := open_int Try.underlying25 (hval 2 25 v2 rfl rfl) h2
  exact walk (w := W) a0_0 w0_0 a0_1 w0_1 a0_2 w0_2 A1 z1 c1 hc1 hm1 hw1 hr1 a2 w2
theorem fnIs {H : Type} : ∀ ds : List (DataW H), ds.length = Try.f3.params.toList.length → Rows.tensorIsSpec.fn H ds = { results := [.lit (.bool true)], args := ds } := by
  intro ds h
  rw [Try.params3] at h
  match ds, h with
  | [d1, d2, d3], _ => rfl
set_option maxRecDepth 100000 in
theorem lifted (os : Os) (started : os.Started) (H : Type) (enc : TypeId × Value → H) :
    ReturnsInHanded {} Try.checked os 3 .any (Rows.tensorIsSpec.pre6 enc Try.prog Try.f3 Rows.tensorIsRow.domain false) (Rows.tensorIsSpec.post enc Try.prog Try.f3 false true false false) := by
  refine returnsInHanded_of_change (C := Try.checked) own started (by kernel_rfl) Try.func3
    (ChangeSpec.witness6 (enc := enc) (C := Try.checked) false ⟨#[], #[.agg #[.int .i64 0, .int .i64 0, .int .i64 0], .slice none 0 0, .int .i8 0], []⟩ 8 (by kernel_rfl) (by kernel_rfl) (by kernel_rfl) (by kernel_rfl)) ?_
  intro W base args ds gs before hval hW _ _
  refine (contract hval hW).mono fun e W' ⟨he, hg⟩ => ?_
  subst he
  exact ⟨_, rfl, Kit.law_post (tb := 4) laid (by kernel_rfl) rfl (by kernel_rfl) Try.underlying4 fnIs hW hg⟩
theorem over : Rows.tensorIsRow.holds Try.pinned (OpenSpec.ofChange Rows.tensorIsSpec) :=
  OpenClaim.holds_of_wide 3 Try.f3 rfl rfl rfl rfl rfl rfl rfl ⟨rfl, rfl, rfl, rfl, rfl⟩ rfl rfl rfl rfl rfl (by kernel_rfl) Try.func3 (by kernel_rfl)
    (of_decide_eq_true (by kernel_rfl)) (by unfold Func.isWrapper; first | (rw [if_pos (by decide +kernel)]; kernel_rfl) | (rw [if_neg (by decide +kernel)]; exact ⟨rfl, rfl⟩))
    (fun os started H enc _ => lifted os started H enc)
/-- the statement. -/
theorem proved : Rows.TensorIsSaid :=
  over
end Go.Proofs.Ytkmcmaickopobaa.lawTensorIs
