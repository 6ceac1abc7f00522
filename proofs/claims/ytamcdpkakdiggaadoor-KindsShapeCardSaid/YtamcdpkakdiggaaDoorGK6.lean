/- Texts of this seat, one behind the other: KindAlike, KindCheck, KindChecks, ConvOf, Dense, ConvRef, TensorSame, ConvBoth. -/
import Derived.Deep.CutRange
import Derived.Deep.RegionHeld
import Derived.Laws.MakeOwn
import Derived.BigQuiet
import Derived.Laws.StructEq
import Derived.Test.YtamcdpkakdiggaaDoorGK1
import Derived.Test.YtamcdpkakdiggaaDoorGK2
import Derived.Test.YtamcdpkakdiggaaDoorGK3
import Derived.Test.YtamcdpkakdiggaaDoorGK5
section
namespace Go.Proofs.YtamcdpkakdiggaaDoor.CKind
open Go Go.ChangeShapes Go.WideShapes Go.ChangeAt Go.RowKit Go.Deep
open Plain CSat CShape CTensor CConv
set_option linter.unusedVariables false
set_option linter.unusedSimpArgs false
/-- a node's load in a region that draws. -/
theorem nd_load_at {ops : Array Oper} {S : World → Prop} {oi : Oper} {a : Act} (x : Operand) (ho : oi.op = .load 28 x) (hw : Region.wanted oi (yielded ops a.tmps) = true) (b : Nat) (u : Nd) (hx : a.eval x = .pointer (some ⟨b, 0, none⟩)) (hS : ∀ w, S w → NdAt b u w) :
    YieldsIf Tryd.prog ops S oi (.agg u.val) a :=
  yieldsIf_load_mid hw 28 x ho b 0 hx u.val.toList _ hS Tryd.underlying28 rfl (by kernel_rfl)
set_option maxRecDepth 100000 in
set_option maxHeartbeats 4000000 in
theorem csame_0 (x y : Nd) (hx : x.Small) (hy : y.Small) (h0 : (x.nW == y.nW) = false) (w : World) :
    Calls Tryd.prog 19 #[.agg x.val, .agg y.val] w fun e w' => e = .returned (.bool false) ∧ Below w.heap.size w w' := by
  have TN := Lib.hid ((NdAt.new x 28 w).below (B := w.heap.size + 1) (by omega) ((Below.refl _ _).alloc (by simp) (.cells y.val 28)))
  have TM : Hid (NdAt (w.heap.size + 1) y ((w.alloc (.cells x.val 28)).alloc (.cells y.val 28))) := Lib.hid (by have := NdAt.new y 28 (w.alloc (.cells x.val 28)); rwa [World.size_alloc] at this)
  have HB := Lib.hid (((Below.refl w.heap.size w).alloc (Nat.le_refl _) (.cells x.val 28)).alloc (by simp) (.cells y.val 28))
  have HL : Hid (w.heap.size + 1 < ((w.alloc (.cells x.val 28)).alloc (.cells y.val 28)).heap.size) := Lib.hid (by simp)
  have hgq := Tryd.eqGuardType26
  have HX := Lib.hid hx
  have HY := Lib.hid hy
  clear hx hy
  have G0 : Hid (((x.nW : Int) == (y.nW : Int)) = false) := Lib.hid (by simp at h0 ⊢; omega)
  clear h0
  go_enter Tryd.func19, Tryd.ntmps19
  go_upto_region 1 with fail
  generalize (w.alloc (.cells x.val 28)).alloc (.cells y.val 28) = W0 at TN TM HB HL ⊢
  refine wp_region_held_drew (S := fun w' => NdAt w.heap.size x w' ∧ NdAt (w.heap.size + 1) y w') (by kernel_rfl) ⟨TN.out.below (Nat.lt_of_succ_lt HL.out) (Below.refl _ _).drew, TM.out.below HL.out (Below.refl _ _).drew⟩ (fun hHeld => ?_)
  replace HB := Lib.hid (HB.out.trans (Below.refl _ W0).drew)
  replace HL : Hid (w.heap.size + 1 < W0.drew.heap.size) := Lib.hid HL.out
  clear TN TM
  generalize W0.drew = W1 at *
  clear W0
  refine Tk.x 0 rfl ?_
  try simp only [Tk.put]
  refine Tk.y 1 (v := .slice x.WA x.nW x.cW) rfl ?_ ?_
  · intro wS hSw
    have q := hSw.1.at 9 (.slice x.WA x.nW x.cW) rfl
    first | (go_simp; done) | (go_simp; with_reducible rfl)
  try simp only [Tk.put]
  refine Tk.x 2 rfl ?_
  try simp only [Tk.put]
  refine Tk.x 3 rfl ?_
  try simp only [Tk.put]
  refine Tk.y 4 (v := .slice y.WA y.nW y.cW) rfl ?_ ?_
  · intro wS hSw
    have q := hSw.2.at 9 (.slice y.WA y.nW y.cW) rfl
    first | (go_simp; done) | (go_simp; with_reducible rfl)
  try simp only [Tk.put]
  refine Tk.x 5 rfl ?_
  try simp only [Tk.put]
  refine Tk.y 6 (v := .bool false) rfl ?_ ?_
  · intro wS hSw
    have g := G0.out
    first | (go_simp; done) | (go_simp; with_reducible rfl) | (simp [g]; done)
  try simp only [Tk.put]
  refine Tk.x 7 rfl ?_
  try simp only [Tk.put]
  refine Tk.t 8 (v := undef) rfl (Or.inr ⟨by rfl, by rfl⟩) (by assumption) ?_
  try simp only [Tk.put]
  refine Tk.t 9 (v := undef) rfl (Or.inr ⟨by rfl, by rfl⟩) (by assumption) ?_
  try simp only [Tk.put]
  refine Tk.t 10 (v := undef) rfl (Or.inr ⟨by rfl, by rfl⟩) (by assumption) ?_
  try simp only [Tk.put]
  refine Tk.t 11 (v := undef) rfl (Or.inr ⟨by rfl, by rfl⟩) (by assumption) ?_
  try simp only [Tk.put]
  refine Tk.t 12 (v := undef) rfl (Or.inr ⟨by rfl, by rfl⟩) (by assumption) ?_
  try simp only [Tk.put]
  refine Tk.t 13 (v := undef) rfl (Or.inr ⟨by rfl, by rfl⟩) (by assumption) ?_
  try simp only [Tk.put]
  refine Tk.t 14 (v := undef) rfl (Or.inr ⟨by rfl, by rfl⟩) (by assumption) ?_
  try simp only [Tk.put]
  refine Tk.x 15 rfl ?_
  try simp only [Tk.put]
  refine Tk.x 16 rfl ?_
  try simp only [Tk.put]
  refine Tk.t 17 (v := undef) rfl (Or.inr ⟨by rfl, by rfl⟩) (by assumption) ?_
  try simp only [Tk.put]
  refine Tk.t 18 (v := undef) rfl (Or.inr ⟨by rfl, by rfl⟩) (by assumption) ?_
  try simp only [Tk.put]
  refine Tk.t 19 (v := undef) rfl (Or.inr ⟨by rfl, by rfl⟩) (by assumption) ?_
  try simp only [Tk.put]
  refine Tk.t 20 (v := undef) rfl (Or.inr ⟨by rfl, by rfl⟩) (by assumption) ?_
  try simp only [Tk.put]
  refine Tk.t 21 (v := undef) rfl (Or.inr ⟨by rfl, by rfl⟩) (by assumption) ?_
  try simp only [Tk.put]
  refine Tk.x 22 rfl ?_
  try simp only [Tk.put]
  refine Tk.x 23 rfl ?_
  try simp only [Tk.put]
  refine Tk.t 24 (v := undef) rfl (Or.inr ⟨by rfl, by rfl⟩) (by assumption) ?_
  try simp only [Tk.put]
  refine Tk.t 25 (v := undef) rfl (Or.inr ⟨by rfl, by rfl⟩) (by assumption) ?_
  try simp only [Tk.put]
  refine Tk.t 26 (v := undef) rfl (Or.inr ⟨by rfl, by rfl⟩) (by assumption) ?_
  try simp only [Tk.put]
  refine Tk.t 27 (v := undef) rfl (Or.inr ⟨by rfl, by rfl⟩) (by assumption) ?_
  try simp only [Tk.put]
  refine Tk.t 28 (v := undef) rfl (Or.inr ⟨by rfl, by rfl⟩) (by assumption) ?_
  try simp only [Tk.put]
  refine Tk.x 29 rfl ?_
  try simp only [Tk.put]
  refine Tk.x 30 rfl ?_
  try simp only [Tk.put]
  refine Tk.t 31 (v := undef) rfl (Or.inr ⟨by rfl, by rfl⟩) (by assumption) ?_
  try simp only [Tk.put]
  refine Tk.t 32 (v := undef) rfl (Or.inr ⟨by rfl, by rfl⟩) (by assumption) ?_
  try simp only [Tk.put]
  refine Tk.t 33 (v := undef) rfl (Or.inr ⟨by rfl, by rfl⟩) (by assumption) ?_
  try simp only [Tk.put]
  refine Tk.t 34 (v := undef) rfl (Or.inr ⟨by rfl, by rfl⟩) (by assumption) ?_
  try simp only [Tk.put]
  refine Tk.t 35 (v := undef) rfl (Or.inr ⟨by rfl, by rfl⟩) (by assumption) ?_
  try simp only [Tk.put]
  refine Tk.x 36 rfl ?_
  try simp only [Tk.put]
  refine Tk.x 37 rfl ?_
  try simp only [Tk.put]
  refine wpAnyH_done (by kernel_rfl) ?_ _
  go_wp2_with fail
  go_ret
  exact ⟨rfl, HB.out⟩
set_option maxRecDepth 100000 in
set_option maxHeartbeats 4000000 in
theorem csame_1 (x y : Nd) (hx : x.Small) (hy : y.Small) (h0 : (x.nW == y.nW) = true) (h1 : (x.nB == y.nB) = false) (w : World) :
    Calls Tryd.prog 19 #[.agg x.val, .agg y.val] w fun e w' => e = .returned (.bool false) ∧ Below w.heap.size w w' := by
  have TN := Lib.hid ((NdAt.new x 28 w).below (B := w.heap.size + 1) (by omega) ((Below.refl _ _).alloc (by simp) (.cells y.val 28)))
  have TM : Hid (NdAt (w.heap.size + 1) y ((w.alloc (.cells x.val 28)).alloc (.cells y.val 28))) := Lib.hid (by have := NdAt.new y 28 (w.alloc (.cells x.val 28)); rwa [World.size_alloc] at this)
  have HB := Lib.hid (((Below.refl w.heap.size w).alloc (Nat.le_refl _) (.cells x.val 28)).alloc (by simp) (.cells y.val 28))
  have HL : Hid (w.heap.size + 1 < ((w.alloc (.cells x.val 28)).alloc (.cells y.val 28)).heap.size) := Lib.hid (by simp)
  have hgq := Tryd.eqGuardType26
  have HX := Lib.hid hx
  have HY := Lib.hid hy
  clear hx hy
  have G0 : Hid (((x.nW : Int) == (y.nW : Int)) = true) := Lib.hid (by simp at h0 ⊢; omega)
  clear h0
  have G1 : Hid (((x.nB : Int) == (y.nB : Int)) = false) := Lib.hid (by simp at h1 ⊢; omega)
  clear h1
  go_enter Tryd.func19, Tryd.ntmps19
  go_upto_region 1 with fail
  generalize (w.alloc (.cells x.val 28)).alloc (.cells y.val 28) = W0 at TN TM HB HL ⊢
  refine wp_region_held_drew (S := fun w' => NdAt w.heap.size x w' ∧ NdAt (w.heap.size + 1) y w') (by kernel_rfl) ⟨TN.out.below (Nat.lt_of_succ_lt HL.out) (Below.refl _ _).drew, TM.out.below HL.out (Below.refl _ _).drew⟩ (fun hHeld => ?_)
  replace HB := Lib.hid (HB.out.trans (Below.refl _ W0).drew)
  replace HL : Hid (w.heap.size + 1 < W0.drew.heap.size) := Lib.hid HL.out
  clear TN TM
  generalize W0.drew = W1 at *
  clear W0
  refine Tk.x 0 rfl ?_
  try simp only [Tk.put]
  refine Tk.y 1 (v := .slice x.WA x.nW x.cW) rfl ?_ ?_
  · intro wS hSw
    have q := hSw.1.at 9 (.slice x.WA x.nW x.cW) rfl
    first | (go_simp; done) | (go_simp; with_reducible rfl)
  try simp only [Tk.put]
  refine Tk.x 2 rfl ?_
  try simp only [Tk.put]
  refine Tk.x 3 rfl ?_
  try simp only [Tk.put]
  refine Tk.y 4 (v := .slice y.WA y.nW y.cW) rfl ?_ ?_
  · intro wS hSw
    have q := hSw.2.at 9 (.slice y.WA y.nW y.cW) rfl
    first | (go_simp; done) | (go_simp; with_reducible rfl)
  try simp only [Tk.put]
  refine Tk.x 5 rfl ?_
  try simp only [Tk.put]
  refine Tk.y 6 (v := .bool true) rfl ?_ ?_
  · intro wS hSw
    have g := G0.out
    first | (go_simp; done) | (go_simp; with_reducible rfl) | (simp [g]; done)
  try simp only [Tk.put]
  refine Tk.x 7 rfl ?_
  try simp only [Tk.put]
  refine Tk.x 8 rfl ?_
  try simp only [Tk.put]
  refine Tk.y 9 (v := .slice x.BA x.nB x.cB) rfl ?_ ?_
  · intro wS hSw
    have q := hSw.1.at 10 (.slice x.BA x.nB x.cB) rfl
    first | (go_simp; done) | (go_simp; with_reducible rfl)
  try simp only [Tk.put]
  refine Tk.x 10 rfl ?_
  try simp only [Tk.put]
  refine Tk.x 11 rfl ?_
  try simp only [Tk.put]
  refine Tk.y 12 (v := .slice y.BA y.nB y.cB) rfl ?_ ?_
  · intro wS hSw
    have q := hSw.2.at 10 (.slice y.BA y.nB y.cB) rfl
    first | (go_simp; done) | (go_simp; with_reducible rfl)
  try simp only [Tk.put]
  refine Tk.x 13 rfl ?_
  try simp only [Tk.put]
  refine Tk.y 14 (v := .bool false) rfl ?_ ?_
  · intro wS hSw
    have g := G1.out
    first | (go_simp; done) | (go_simp; with_reducible rfl) | (simp [g]; done)
  try simp only [Tk.put]
  refine Tk.x 15 rfl ?_
  try simp only [Tk.put]
  refine Tk.x 16 rfl ?_
  try simp only [Tk.put]
  refine Tk.t 17 (v := undef) rfl (Or.inr ⟨by rfl, by rfl⟩) (by assumption) ?_
  try simp only [Tk.put]
  refine Tk.t 18 (v := undef) rfl (Or.inr ⟨by rfl, by rfl⟩) (by assumption) ?_
  try simp only [Tk.put]
  refine Tk.t 19 (v := undef) rfl (Or.inr ⟨by rfl, by rfl⟩) (by assumption) ?_
  try simp only [Tk.put]
  refine Tk.t 20 (v := undef) rfl (Or.inr ⟨by rfl, by rfl⟩) (by assumption) ?_
  try simp only [Tk.put]
  refine Tk.t 21 (v := undef) rfl (Or.inr ⟨by rfl, by rfl⟩) (by assumption) ?_
  try simp only [Tk.put]
  refine Tk.x 22 rfl ?_
  try simp only [Tk.put]
  refine Tk.x 23 rfl ?_
  try simp only [Tk.put]
  refine Tk.t 24 (v := undef) rfl (Or.inr ⟨by rfl, by rfl⟩) (by assumption) ?_
  try simp only [Tk.put]
  refine Tk.t 25 (v := undef) rfl (Or.inr ⟨by rfl, by rfl⟩) (by assumption) ?_
  try simp only [Tk.put]
  refine Tk.t 26 (v := undef) rfl (Or.inr ⟨by rfl, by rfl⟩) (by assumption) ?_
  try simp only [Tk.put]
  refine Tk.t 27 (v := undef) rfl (Or.inr ⟨by rfl, by rfl⟩) (by assumption) ?_
  try simp only [Tk.put]
  refine Tk.t 28 (v := undef) rfl (Or.inr ⟨by rfl, by rfl⟩) (by assumption) ?_
  try simp only [Tk.put]
  refine Tk.x 29 rfl ?_
  try simp only [Tk.put]
  refine Tk.x 30 rfl ?_
  try simp only [Tk.put]
  refine Tk.t 31 (v := undef) rfl (Or.inr ⟨by rfl, by rfl⟩) (by assumption) ?_
  try simp only [Tk.put]
  refine Tk.t 32 (v := undef) rfl (Or.inr ⟨by rfl, by rfl⟩) (by assumption) ?_
  try simp only [Tk.put]
  refine Tk.t 33 (v := undef) rfl (Or.inr ⟨by rfl, by rfl⟩) (by assumption) ?_
  try simp only [Tk.put]
  refine Tk.t 34 (v := undef) rfl (Or.inr ⟨by rfl, by rfl⟩) (by assumption) ?_
  try simp only [Tk.put]
  refine Tk.t 35 (v := undef) rfl (Or.inr ⟨by rfl, by rfl⟩) (by assumption) ?_
  try simp only [Tk.put]
  refine Tk.x 36 rfl ?_
  try simp only [Tk.put]
  refine Tk.x 37 rfl ?_
  try simp only [Tk.put]
  refine wpAnyH_done (by kernel_rfl) ?_ _
  go_wp2_with fail
  go_ret
  exact ⟨rfl, HB.out⟩
set_option maxRecDepth 100000 in
set_option maxHeartbeats 4000000 in
theorem csame_2 (x y : Nd) (hx : x.Small) (hy : y.Small) (h0 : (x.nW == y.nW) = true) (h1 : (x.nB == y.nB) = true) (h2 : (x.m1 == y.m1 && (x.s1 == y.s1 && x.z1 == y.z1)) = false) (w : World) :
    Calls Tryd.prog 19 #[.agg x.val, .agg y.val] w fun e w' => e = .returned (.bool false) ∧ Below w.heap.size w w' := by
  have TN := Lib.hid ((NdAt.new x 28 w).below (B := w.heap.size + 1) (by omega) ((Below.refl _ _).alloc (by simp) (.cells y.val 28)))
  have TM : Hid (NdAt (w.heap.size + 1) y ((w.alloc (.cells x.val 28)).alloc (.cells y.val 28))) := Lib.hid (by have := NdAt.new y 28 (w.alloc (.cells x.val 28)); rwa [World.size_alloc] at this)
  have HB := Lib.hid (((Below.refl w.heap.size w).alloc (Nat.le_refl _) (.cells x.val 28)).alloc (by simp) (.cells y.val 28))
  have HL : Hid (w.heap.size + 1 < ((w.alloc (.cells x.val 28)).alloc (.cells y.val 28)).heap.size) := Lib.hid (by simp)
  have hgq := Tryd.eqGuardType26
  have HX := Lib.hid hx
  have HY := Lib.hid hy
  clear hx hy
  have G0 : Hid (((x.nW : Int) == (y.nW : Int)) = true) := Lib.hid (by simp at h0 ⊢; omega)
  clear h0
  have G1 : Hid (((x.nB : Int) == (y.nB : Int)) = true) := Lib.hid (by simp at h1 ⊢; omega)
  clear h1
  have G2 := Lib.hid (eqQuantK x.m1 x.s1 x.z1 y.m1 y.s1 y.z1)
  rw [h2] at G2
  clear h2
  go_enter Tryd.func19, Tryd.ntmps19
  go_upto_region 1 with fail
  generalize (w.alloc (.cells x.val 28)).alloc (.cells y.val 28) = W0 at TN TM HB HL ⊢
  refine wp_region_held_drew (S := fun w' => NdAt w.heap.size x w' ∧ NdAt (w.heap.size + 1) y w') (by kernel_rfl) ⟨TN.out.below (Nat.lt_of_succ_lt HL.out) (Below.refl _ _).drew, TM.out.below HL.out (Below.refl _ _).drew⟩ (fun hHeld => ?_)
  replace HB := Lib.hid (HB.out.trans (Below.refl _ W0).drew)
  replace HL : Hid (w.heap.size + 1 < W0.drew.heap.size) := Lib.hid HL.out
  clear TN TM
  generalize W0.drew = W1 at *
  clear W0
  refine Tk.x 0 rfl ?_
  try simp only [Tk.put]
  refine Tk.y 1 (v := .slice x.WA x.nW x.cW) rfl ?_ ?_
  · intro wS hSw
    have q := hSw.1.at 9 (.slice x.WA x.nW x.cW) rfl
    first | (go_simp; done) | (go_simp; with_reducible rfl)
  try simp only [Tk.put]
  refine Tk.x 2 rfl ?_
  try simp only [Tk.put]
  refine Tk.x 3 rfl ?_
  try simp only [Tk.put]
  refine Tk.y 4 (v := .slice y.WA y.nW y.cW) rfl ?_ ?_
  · intro wS hSw
    have q := hSw.2.at 9 (.slice y.WA y.nW y.cW) rfl
    first | (go_simp; done) | (go_simp; with_reducible rfl)
  try simp only [Tk.put]
  refine Tk.x 5 rfl ?_
  try simp only [Tk.put]
  refine Tk.y 6 (v := .bool true) rfl ?_ ?_
  · intro wS hSw
    have g := G0.out
    first | (go_simp; done) | (go_simp; with_reducible rfl) | (simp [g]; done)
  try simp only [Tk.put]
  refine Tk.x 7 rfl ?_
  try simp only [Tk.put]
  refine Tk.x 8 rfl ?_
  try simp only [Tk.put]
  refine Tk.y 9 (v := .slice x.BA x.nB x.cB) rfl ?_ ?_
  · intro wS hSw
    have q := hSw.1.at 10 (.slice x.BA x.nB x.cB) rfl
    first | (go_simp; done) | (go_simp; with_reducible rfl)
  try simp only [Tk.put]
  refine Tk.x 10 rfl ?_
  try simp only [Tk.put]
  refine Tk.x 11 rfl ?_
  try simp only [Tk.put]
  refine Tk.y 12 (v := .slice y.BA y.nB y.cB) rfl ?_ ?_
  · intro wS hSw
    have q := hSw.2.at 10 (.slice y.BA y.nB y.cB) rfl
    first | (go_simp; done) | (go_simp; with_reducible rfl)
  try simp only [Tk.put]
  refine Tk.x 13 rfl ?_
  try simp only [Tk.put]
  refine Tk.y 14 (v := .bool true) rfl ?_ ?_
  · intro wS hSw
    have g := G1.out
    first | (go_simp; done) | (go_simp; with_reducible rfl) | (simp [g]; done)
  try simp only [Tk.put]
  refine Tk.x 15 rfl ?_
  try simp only [Tk.put]
  refine Tk.x 16 rfl ?_
  try simp only [Tk.put]
  refine Tk.x 17 rfl ?_
  try simp only [Tk.put]
  refine Tk.y 18 (v := .agg #[.int .i32 x.m1, .int .i64 x.s1, .int .i8 x.z1]) rfl ?_ ?_
  · intro wS hSw
    have q11 := hSw.1.at 11 (.int .i32 x.m1) rfl
    have q12 := hSw.1.at 12 (.int .i64 x.s1) rfl
    have q13 := hSw.1.at 13 (.int .i8 x.z1) rfl
    first | (go_simp; done) | (go_simp; with_reducible rfl)
  try simp only [Tk.put]
  refine Tk.x 19 rfl ?_
  try simp only [Tk.put]
  refine Tk.y 20 (v := .agg #[.int .i32 y.m1, .int .i64 y.s1, .int .i8 y.z1]) rfl ?_ ?_
  · intro wS hSw
    have q11 := hSw.2.at 11 (.int .i32 y.m1) rfl
    have q12 := hSw.2.at 12 (.int .i64 y.s1) rfl
    have q13 := hSw.2.at 13 (.int .i8 y.z1) rfl
    first | (go_simp; done) | (go_simp; with_reducible rfl)
  try simp only [Tk.put]
  refine Tk.y 21 (v := .bool false) rfl ?_ ?_
  · intro wS hSw
    have g := G2.out
    first | (go_simp; done) | (go_simp; with_reducible rfl) | (simp [g]; done)
  try simp only [Tk.put]
  refine Tk.x 22 rfl ?_
  try simp only [Tk.put]
  refine Tk.x 23 rfl ?_
  try simp only [Tk.put]
  refine Tk.t 24 (v := undef) rfl (Or.inr ⟨by rfl, by rfl⟩) (by assumption) ?_
  try simp only [Tk.put]
  refine Tk.t 25 (v := undef) rfl (Or.inr ⟨by rfl, by rfl⟩) (by assumption) ?_
  try simp only [Tk.put]
  refine Tk.t 26 (v := undef) rfl (Or.inr ⟨by rfl, by rfl⟩) (by assumption) ?_
  try simp only [Tk.put]
  refine Tk.t 27 (v := undef) rfl (Or.inr ⟨by rfl, by rfl⟩) (by assumption) ?_
  try simp only [Tk.put]
  refine Tk.t 28 (v := undef) rfl (Or.inr ⟨by rfl, by rfl⟩) (by assumption) ?_
  try simp only [Tk.put]
  refine Tk.x 29 rfl ?_
  try simp only [Tk.put]
  refine Tk.x 30 rfl ?_
  try simp only [Tk.put]
  refine Tk.t 31 (v := undef) rfl (Or.inr ⟨by rfl, by rfl⟩) (by assumption) ?_
  try simp only [Tk.put]
  refine Tk.t 32 (v := undef) rfl (Or.inr ⟨by rfl, by rfl⟩) (by assumption) ?_
  try simp only [Tk.put]
  refine Tk.t 33 (v := undef) rfl (Or.inr ⟨by rfl, by rfl⟩) (by assumption) ?_
  try simp only [Tk.put]
  refine Tk.t 34 (v := undef) rfl (Or.inr ⟨by rfl, by rfl⟩) (by assumption) ?_
  try simp only [Tk.put]
  refine Tk.t 35 (v := undef) rfl (Or.inr ⟨by rfl, by rfl⟩) (by assumption) ?_
  try simp only [Tk.put]
  refine Tk.x 36 rfl ?_
  try simp only [Tk.put]
  refine Tk.x 37 rfl ?_
  try simp only [Tk.put]
  refine wpAnyH_done (by kernel_rfl) ?_ _
  go_wp2_with fail
  go_ret
  exact ⟨rfl, HB.out⟩
set_option maxRecDepth 100000 in
set_option maxHeartbeats 4000000 in
theorem csame_3 (x y : Nd) (hx : x.Small) (hy : y.Small) (h0 : (x.nW == y.nW) = true) (h1 : (x.nB == y.nB) = true) (h2 : (x.m1 == y.m1 && (x.s1 == y.s1 && x.z1 == y.z1)) = true) (h3 : (x.m2 == y.m2 && (x.s2 == y.s2 && x.z2 == y.z2)) = false) (w : World) :
    Calls Tryd.prog 19 #[.agg x.val, .agg y.val] w fun e w' => e = .returned (.bool false) ∧ Below w.heap.size w w' := by
  have TN := Lib.hid ((NdAt.new x 28 w).below (B := w.heap.size + 1) (by omega) ((Below.refl _ _).alloc (by simp) (.cells y.val 28)))
  have TM : Hid (NdAt (w.heap.size + 1) y ((w.alloc (.cells x.val 28)).alloc (.cells y.val 28))) := Lib.hid (by have := NdAt.new y 28 (w.alloc (.cells x.val 28)); rwa [World.size_alloc] at this)
  have HB := Lib.hid (((Below.refl w.heap.size w).alloc (Nat.le_refl _) (.cells x.val 28)).alloc (by simp) (.cells y.val 28))
  have HL : Hid (w.heap.size + 1 < ((w.alloc (.cells x.val 28)).alloc (.cells y.val 28)).heap.size) := Lib.hid (by simp)
  have hgq := Tryd.eqGuardType26
  have HX := Lib.hid hx
  have HY := Lib.hid hy
  clear hx hy
  have G0 : Hid (((x.nW : Int) == (y.nW : Int)) = true) := Lib.hid (by simp at h0 ⊢; omega)
  clear h0
  have G1 : Hid (((x.nB : Int) == (y.nB : Int)) = true) := Lib.hid (by simp at h1 ⊢; omega)
  clear h1
  have G2 := Lib.hid (eqQuantK x.m1 x.s1 x.z1 y.m1 y.s1 y.z1)
  rw [h2] at G2
  clear h2
  have G3 := Lib.hid (eqQuantK x.m2 x.s2 x.z2 y.m2 y.s2 y.z2)
  rw [h3] at G3
  clear h3
  go_enter Tryd.func19, Tryd.ntmps19
  go_upto_region 1 with fail
  generalize (w.alloc (.cells x.val 28)).alloc (.cells y.val 28) = W0 at TN TM HB HL ⊢
  refine wp_region_held_drew (S := fun w' => NdAt w.heap.size x w' ∧ NdAt (w.heap.size + 1) y w') (by kernel_rfl) ⟨TN.out.below (Nat.lt_of_succ_lt HL.out) (Below.refl _ _).drew, TM.out.below HL.out (Below.refl _ _).drew⟩ (fun hHeld => ?_)
  replace HB := Lib.hid (HB.out.trans (Below.refl _ W0).drew)
  replace HL : Hid (w.heap.size + 1 < W0.drew.heap.size) := Lib.hid HL.out
  clear TN TM
  generalize W0.drew = W1 at *
  clear W0
  refine Tk.x 0 rfl ?_
  try simp only [Tk.put]
  refine Tk.y 1 (v := .slice x.WA x.nW x.cW) rfl ?_ ?_
  · intro wS hSw
    have q := hSw.1.at 9 (.slice x.WA x.nW x.cW) rfl
    first | (go_simp; done) | (go_simp; with_reducible rfl)
  try simp only [Tk.put]
  refine Tk.x 2 rfl ?_
  try simp only [Tk.put]
  refine Tk.x 3 rfl ?_
  try simp only [Tk.put]
  refine Tk.y 4 (v := .slice y.WA y.nW y.cW) rfl ?_ ?_
  · intro wS hSw
    have q := hSw.2.at 9 (.slice y.WA y.nW y.cW) rfl
    first | (go_simp; done) | (go_simp; with_reducible rfl)
  try simp only [Tk.put]
  refine Tk.x 5 rfl ?_
  try simp only [Tk.put]
  refine Tk.y 6 (v := .bool true) rfl ?_ ?_
  · intro wS hSw
    have g := G0.out
    first | (go_simp; done) | (go_simp; with_reducible rfl) | (simp [g]; done)
  try simp only [Tk.put]
  refine Tk.x 7 rfl ?_
  try simp only [Tk.put]
  refine Tk.x 8 rfl ?_
  try simp only [Tk.put]
  refine Tk.y 9 (v := .slice x.BA x.nB x.cB) rfl ?_ ?_
  · intro wS hSw
    have q := hSw.1.at 10 (.slice x.BA x.nB x.cB) rfl
    first | (go_simp; done) | (go_simp; with_reducible rfl)
  try simp only [Tk.put]
  refine Tk.x 10 rfl ?_
  try simp only [Tk.put]
  refine Tk.x 11 rfl ?_
  try simp only [Tk.put]
  refine Tk.y 12 (v := .slice y.BA y.nB y.cB) rfl ?_ ?_
  · intro wS hSw
    have q := hSw.2.at 10 (.slice y.BA y.nB y.cB) rfl
    first | (go_simp; done) | (go_simp; with_reducible rfl)
  try simp only [Tk.put]
  refine Tk.x 13 rfl ?_
  try simp only [Tk.put]
  refine Tk.y 14 (v := .bool true) rfl ?_ ?_
  · intro wS hSw
    have g := G1.out
    first | (go_simp; done) | (go_simp; with_reducible rfl) | (simp [g]; done)
  try simp only [Tk.put]
  refine Tk.x 15 rfl ?_
  try simp only [Tk.put]
  refine Tk.x 16 rfl ?_
  try simp only [Tk.put]
  refine Tk.x 17 rfl ?_
  try simp only [Tk.put]
  refine Tk.y 18 (v := .agg #[.int .i32 x.m1, .int .i64 x.s1, .int .i8 x.z1]) rfl ?_ ?_
  · intro wS hSw
    have q11 := hSw.1.at 11 (.int .i32 x.m1) rfl
    have q12 := hSw.1.at 12 (.int .i64 x.s1) rfl
    have q13 := hSw.1.at 13 (.int .i8 x.z1) rfl
    first | (go_simp; done) | (go_simp; with_reducible rfl)
  try simp only [Tk.put]
  refine Tk.x 19 rfl ?_
  try simp only [Tk.put]
  refine Tk.y 20 (v := .agg #[.int .i32 y.m1, .int .i64 y.s1, .int .i8 y.z1]) rfl ?_ ?_
  · intro wS hSw
    have q11 := hSw.2.at 11 (.int .i32 y.m1) rfl
    have q12 := hSw.2.at 12 (.int .i64 y.s1) rfl
    have q13 := hSw.2.at 13 (.int .i8 y.z1) rfl
    first | (go_simp; done) | (go_simp; with_reducible rfl)
  try simp only [Tk.put]
  refine Tk.y 21 (v := .bool true) rfl ?_ ?_
  · intro wS hSw
    have g := G2.out
    first | (go_simp; done) | (go_simp; with_reducible rfl) | (simp [g]; done)
  try simp only [Tk.put]
  refine Tk.x 22 rfl ?_
  try simp only [Tk.put]
  refine Tk.x 23 rfl ?_
  try simp only [Tk.put]
  refine Tk.x 24 rfl ?_
  try simp only [Tk.put]
  refine Tk.y 25 (v := .agg #[.int .i32 x.m2, .int .i64 x.s2, .int .i8 x.z2]) rfl ?_ ?_
  · intro wS hSw
    have q14 := hSw.1.at 14 (.int .i32 x.m2) rfl
    have q15 := hSw.1.at 15 (.int .i64 x.s2) rfl
    have q16 := hSw.1.at 16 (.int .i8 x.z2) rfl
    first | (go_simp; done) | (go_simp; with_reducible rfl)
  try simp only [Tk.put]
  refine Tk.x 26 rfl ?_
  try simp only [Tk.put]
  refine Tk.y 27 (v := .agg #[.int .i32 y.m2, .int .i64 y.s2, .int .i8 y.z2]) rfl ?_ ?_
  · intro wS hSw
    have q14 := hSw.2.at 14 (.int .i32 y.m2) rfl
    have q15 := hSw.2.at 15 (.int .i64 y.s2) rfl
    have q16 := hSw.2.at 16 (.int .i8 y.z2) rfl
    first | (go_simp; done) | (go_simp; with_reducible rfl)
  try simp only [Tk.put]
  refine Tk.y 28 (v := .bool false) rfl ?_ ?_
  · intro wS hSw
    have g := G3.out
    first | (go_simp; done) | (go_simp; with_reducible rfl) | (simp [g]; done)
  try simp only [Tk.put]
  refine Tk.x 29 rfl ?_
  try simp only [Tk.put]
  refine Tk.x 30 rfl ?_
  try simp only [Tk.put]
  refine Tk.t 31 (v := undef) rfl (Or.inr ⟨by rfl, by rfl⟩) (by assumption) ?_
  try simp only [Tk.put]
  refine Tk.t 32 (v := undef) rfl (Or.inr ⟨by rfl, by rfl⟩) (by assumption) ?_
  try simp only [Tk.put]
  refine Tk.t 33 (v := undef) rfl (Or.inr ⟨by rfl, by rfl⟩) (by assumption) ?_
  try simp only [Tk.put]
  refine Tk.t 34 (v := undef) rfl (Or.inr ⟨by rfl, by rfl⟩) (by assumption) ?_
  try simp only [Tk.put]
  refine Tk.t 35 (v := undef) rfl (Or.inr ⟨by rfl, by rfl⟩) (by assumption) ?_
  try simp only [Tk.put]
  refine Tk.x 36 rfl ?_
  try simp only [Tk.put]
  refine Tk.x 37 rfl ?_
  try simp only [Tk.put]
  refine wpAnyH_done (by kernel_rfl) ?_ _
  go_wp2_with fail
  go_ret
  exact ⟨rfl, HB.out⟩
set_option maxRecDepth 100000 in
set_option maxHeartbeats 4000000 in
theorem csame_4 (x y : Nd) (hx : x.Small) (hy : y.Small) (h0 : (x.nW == y.nW) = true) (h1 : (x.nB == y.nB) = true) (h2 : (x.m1 == y.m1 && (x.s1 == y.s1 && x.z1 == y.z1)) = true) (h3 : (x.m2 == y.m2 && (x.s2 == y.s2 && x.z2 == y.z2)) = true) (h4 : nineB x y = false) (w : World) :
    Calls Tryd.prog 19 #[.agg x.val, .agg y.val] w fun e w' => e = .returned (.bool false) ∧ Below w.heap.size w w' := by
  have TN := Lib.hid ((NdAt.new x 28 w).below (B := w.heap.size + 1) (by omega) ((Below.refl _ _).alloc (by simp) (.cells y.val 28)))
  have TM : Hid (NdAt (w.heap.size + 1) y ((w.alloc (.cells x.val 28)).alloc (.cells y.val 28))) := Lib.hid (by have := NdAt.new y 28 (w.alloc (.cells x.val 28)); rwa [World.size_alloc] at this)
  have HB := Lib.hid (((Below.refl w.heap.size w).alloc (Nat.le_refl _) (.cells x.val 28)).alloc (by simp) (.cells y.val 28))
  have HL : Hid (w.heap.size + 1 < ((w.alloc (.cells x.val 28)).alloc (.cells y.val 28)).heap.size) := Lib.hid (by simp)
  have hgq := Tryd.eqGuardType26
  have HX := Lib.hid hx
  have HY := Lib.hid hy
  clear hx hy
  have G0 : Hid (((x.nW : Int) == (y.nW : Int)) = true) := Lib.hid (by simp at h0 ⊢; omega)
  clear h0
  have G1 : Hid (((x.nB : Int) == (y.nB : Int)) = true) := Lib.hid (by simp at h1 ⊢; omega)
  clear h1
  have G2 := Lib.hid (eqQuantK x.m1 x.s1 x.z1 y.m1 y.s1 y.z1)
  rw [h2] at G2
  clear h2
  have G3 := Lib.hid (eqQuantK x.m2 x.s2 x.z2 y.m2 y.s2 y.z2)
  rw [h3] at G3
  clear h3
  have G4 := Lib.hid (eqNine x y _ h4)
  clear h4
  go_enter Tryd.func19, Tryd.ntmps19
  go_upto_region 1 with fail
  generalize (w.alloc (.cells x.val 28)).alloc (.cells y.val 28) = W0 at TN TM HB HL ⊢
  refine wp_region_held_drew (S := fun w' => NdAt w.heap.size x w' ∧ NdAt (w.heap.size + 1) y w') (by kernel_rfl) ⟨TN.out.below (Nat.lt_of_succ_lt HL.out) (Below.refl _ _).drew, TM.out.below HL.out (Below.refl _ _).drew⟩ (fun hHeld => ?_)
  replace HB := Lib.hid (HB.out.trans (Below.refl _ W0).drew)
  replace HL : Hid (w.heap.size + 1 < W0.drew.heap.size) := Lib.hid HL.out
  clear TN TM
  generalize W0.drew = W1 at *
  clear W0
  refine Tk.x 0 rfl ?_
  try simp only [Tk.put]
  refine Tk.y 1 (v := .slice x.WA x.nW x.cW) rfl ?_ ?_
  · intro wS hSw
    have q := hSw.1.at 9 (.slice x.WA x.nW x.cW) rfl
    first | (go_simp; done) | (go_simp; with_reducible rfl)
  try simp only [Tk.put]
  refine Tk.x 2 rfl ?_
  try simp only [Tk.put]
  refine Tk.x 3 rfl ?_
  try simp only [Tk.put]
  refine Tk.y 4 (v := .slice y.WA y.nW y.cW) rfl ?_ ?_
  · intro wS hSw
    have q := hSw.2.at 9 (.slice y.WA y.nW y.cW) rfl
    first | (go_simp; done) | (go_simp; with_reducible rfl)
  try simp only [Tk.put]
  refine Tk.x 5 rfl ?_
  try simp only [Tk.put]
  refine Tk.y 6 (v := .bool true) rfl ?_ ?_
  · intro wS hSw
    have g := G0.out
    first | (go_simp; done) | (go_simp; with_reducible rfl) | (simp [g]; done)
  try simp only [Tk.put]
  refine Tk.x 7 rfl ?_
  try simp only [Tk.put]
  refine Tk.x 8 rfl ?_
  try simp only [Tk.put]
  refine Tk.y 9 (v := .slice x.BA x.nB x.cB) rfl ?_ ?_
  · intro wS hSw
    have q := hSw.1.at 10 (.slice x.BA x.nB x.cB) rfl
    first | (go_simp; done) | (go_simp; with_reducible rfl)
  try simp only [Tk.put]
  refine Tk.x 10 rfl ?_
  try simp only [Tk.put]
  refine Tk.x 11 rfl ?_
  try simp only [Tk.put]
  refine Tk.y 12 (v := .slice y.BA y.nB y.cB) rfl ?_ ?_
  · intro wS hSw
    have q := hSw.2.at 10 (.slice y.BA y.nB y.cB) rfl
    first | (go_simp; done) | (go_simp; with_reducible rfl)
  try simp only [Tk.put]
  refine Tk.x 13 rfl ?_
  try simp only [Tk.put]
  refine Tk.y 14 (v := .bool true) rfl ?_ ?_
  · intro wS hSw
    have g := G1.out
    first | (go_simp; done) | (go_simp; with_reducible rfl) | (simp [g]; done)
  try simp only [Tk.put]
  refine Tk.x 15 rfl ?_
  try simp only [Tk.put]
  refine Tk.x 16 rfl ?_
  try simp only [Tk.put]
  refine Tk.x 17 rfl ?_
  try simp only [Tk.put]
  refine Tk.y 18 (v := .agg #[.int .i32 x.m1, .int .i64 x.s1, .int .i8 x.z1]) rfl ?_ ?_
  · intro wS hSw
    have q11 := hSw.1.at 11 (.int .i32 x.m1) rfl
    have q12 := hSw.1.at 12 (.int .i64 x.s1) rfl
    have q13 := hSw.1.at 13 (.int .i8 x.z1) rfl
    first | (go_simp; done) | (go_simp; with_reducible rfl)
  try simp only [Tk.put]
  refine Tk.x 19 rfl ?_
  try simp only [Tk.put]
  refine Tk.y 20 (v := .agg #[.int .i32 y.m1, .int .i64 y.s1, .int .i8 y.z1]) rfl ?_ ?_
  · intro wS hSw
    have q11 := hSw.2.at 11 (.int .i32 y.m1) rfl
    have q12 := hSw.2.at 12 (.int .i64 y.s1) rfl
    have q13 := hSw.2.at 13 (.int .i8 y.z1) rfl
    first | (go_simp; done) | (go_simp; with_reducible rfl)
  try simp only [Tk.put]
  refine Tk.y 21 (v := .bool true) rfl ?_ ?_
  · intro wS hSw
    have g := G2.out
    first | (go_simp; done) | (go_simp; with_reducible rfl) | (simp [g]; done)
  try simp only [Tk.put]
  refine Tk.x 22 rfl ?_
  try simp only [Tk.put]
  refine Tk.x 23 rfl ?_
  try simp only [Tk.put]
  refine Tk.x 24 rfl ?_
  try simp only [Tk.put]
  refine Tk.y 25 (v := .agg #[.int .i32 x.m2, .int .i64 x.s2, .int .i8 x.z2]) rfl ?_ ?_
  · intro wS hSw
    have q14 := hSw.1.at 14 (.int .i32 x.m2) rfl
    have q15 := hSw.1.at 15 (.int .i64 x.s2) rfl
    have q16 := hSw.1.at 16 (.int .i8 x.z2) rfl
    first | (go_simp; done) | (go_simp; with_reducible rfl)
  try simp only [Tk.put]
  refine Tk.x 26 rfl ?_
  try simp only [Tk.put]
  refine Tk.y 27 (v := .agg #[.int .i32 y.m2, .int .i64 y.s2, .int .i8 y.z2]) rfl ?_ ?_
  · intro wS hSw
    have q14 := hSw.2.at 14 (.int .i32 y.m2) rfl
    have q15 := hSw.2.at 15 (.int .i64 y.s2) rfl
    have q16 := hSw.2.at 16 (.int .i8 y.z2) rfl
    first | (go_simp; done) | (go_simp; with_reducible rfl)
  try simp only [Tk.put]
  refine Tk.y 28 (v := .bool true) rfl ?_ ?_
  · intro wS hSw
    have g := G3.out
    first | (go_simp; done) | (go_simp; with_reducible rfl) | (simp [g]; done)
  try simp only [Tk.put]
  refine Tk.x 29 rfl ?_
  try simp only [Tk.put]
  refine Tk.x 30 rfl ?_
  try simp only [Tk.put]
  refine Tk.t 31 (v := .agg x.val) rfl (nd_load_at _ rfl (by rfl) _ x rfl (fun _ h => h.1)) (by assumption) ?_
  try simp only [Tk.put]
  refine Tk.t 33 (v := .agg y.val) rfl (nd_load_at _ rfl (by rfl) _ y rfl (fun _ h => h.2)) (by assumption) ?_
  try simp only [Tk.put]
  refine Tk.s 32 rfl (fun Kq hK => ?_)
  go_simp
  go_at_call 41
  with_reducible refine (numbers_to x HX.out _).mono ?_
  rintro e w1 ⟨rfl, hb⟩
  replace HB := Lib.hid (HB.out.trans (hb.mono HB.out.size))
  have hS2 : NdAt w.heap.size x w1 ∧ NdAt (w.heap.size + 1) y w1 := ⟨hHeld.1.below (Nat.lt_of_succ_lt HL.out) hb, hHeld.2.below HL.out hb⟩
  replace HL : Hid (w.heap.size + 1 < w1.heap.size) := Lib.hid (Nat.lt_of_lt_of_le HL.out hb.size)
  clear hb hHeld
  refine hK.out _ _ hS2 (fun hHeld => ?_)
  clear hK Kq hS2
  try simp only [Tk.put]
  refine Tk.s 34 rfl (fun Kq hK => ?_)
  go_simp
  go_at_call 41
  with_reducible refine (numbers_to y HY.out _).mono ?_
  rintro e w1 ⟨rfl, hb⟩
  replace HB := Lib.hid (HB.out.trans (hb.mono HB.out.size))
  have hS2 : NdAt w.heap.size x w1 ∧ NdAt (w.heap.size + 1) y w1 := ⟨hHeld.1.below (Nat.lt_of_succ_lt HL.out) hb, hHeld.2.below HL.out hb⟩
  replace HL : Hid (w.heap.size + 1 < w1.heap.size) := Lib.hid (Nat.lt_of_lt_of_le HL.out hb.size)
  clear hb hHeld
  refine hK.out _ _ hS2 (fun hHeld => ?_)
  clear hK Kq hS2
  try simp only [Tk.put]
  have hg9 := Tryd.eqGuardType63
  refine Tk.y 35 (v := .bool false) rfl ?_ ?_
  · intro wS hSw
    have g := G4.out
    first | (go_simp; done) | (go_simp; with_reducible rfl) | (simp [g]; done)
  try simp only [Tk.put]
  refine Tk.x 36 rfl ?_
  try simp only [Tk.put]
  refine Tk.x 37 rfl ?_
  try simp only [Tk.put]
  refine wpAnyH_done (by kernel_rfl) ?_ _
  go_wp2_with fail
  go_ret
  exact ⟨rfl, HB.out⟩
set_option maxRecDepth 100000 in
set_option maxHeartbeats 4000000 in
theorem csame_5 (x y : Nd) (hx : x.Small) (hy : y.Small) (h0 : (x.nW == y.nW) = true) (h1 : (x.nB == y.nB) = true) (h2 : (x.m1 == y.m1 && (x.s1 == y.s1 && x.z1 == y.z1)) = true) (h3 : (x.m2 == y.m2 && (x.s2 == y.s2 && x.z2 == y.z2)) = true) (h4 : nineB x y = true) (w : World) :
    Calls Tryd.prog 19 #[.agg x.val, .agg y.val] w fun e w' => e = .returned (.bool true) ∧ Below w.heap.size w w' := by
  have TN := Lib.hid ((NdAt.new x 28 w).below (B := w.heap.size + 1) (by omega) ((Below.refl _ _).alloc (by simp) (.cells y.val 28)))
  have TM : Hid (NdAt (w.heap.size + 1) y ((w.alloc (.cells x.val 28)).alloc (.cells y.val 28))) := Lib.hid (by have := NdAt.new y 28 (w.alloc (.cells x.val 28)); rwa [World.size_alloc] at this)
  have HB := Lib.hid (((Below.refl w.heap.size w).alloc (Nat.le_refl _) (.cells x.val 28)).alloc (by simp) (.cells y.val 28))
  have HL : Hid (w.heap.size + 1 < ((w.alloc (.cells x.val 28)).alloc (.cells y.val 28)).heap.size) := Lib.hid (by simp)
  have hgq := Tryd.eqGuardType26
  have HX := Lib.hid hx
  have HY := Lib.hid hy
  clear hx hy
  have G0 : Hid (((x.nW : Int) == (y.nW : Int)) = true) := Lib.hid (by simp at h0 ⊢; omega)
  clear h0
  have G1 : Hid (((x.nB : Int) == (y.nB : Int)) = true) := Lib.hid (by simp at h1 ⊢; omega)
  clear h1
  have G2 := Lib.hid (eqQuantK x.m1 x.s1 x.z1 y.m1 y.s1 y.z1)
  rw [h2] at G2
  clear h2
  have G3 := Lib.hid (eqQuantK x.m2 x.s2 x.z2 y.m2 y.s2 y.z2)
  rw [h3] at G3
  clear h3
  have G4 := Lib.hid (eqNine x y _ h4)
  clear h4
  go_enter Tryd.func19, Tryd.ntmps19
  go_upto_region 1 with fail
  generalize (w.alloc (.cells x.val 28)).alloc (.cells y.val 28) = W0 at TN TM HB HL ⊢
  refine wp_region_held_drew (S := fun w' => NdAt w.heap.size x w' ∧ NdAt (w.heap.size + 1) y w') (by kernel_rfl) ⟨TN.out.below (Nat.lt_of_succ_lt HL.out) (Below.refl _ _).drew, TM.out.below HL.out (Below.refl _ _).drew⟩ (fun hHeld => ?_)
  replace HB := Lib.hid (HB.out.trans (Below.refl _ W0).drew)
  replace HL : Hid (w.heap.size + 1 < W0.drew.heap.size) := Lib.hid HL.out
  clear TN TM
  generalize W0.drew = W1 at *
  clear W0
  refine Tk.x 0 rfl ?_
  try simp only [Tk.put]
  refine Tk.y 1 (v := .slice x.WA x.nW x.cW) rfl ?_ ?_
  · intro wS hSw
    have q := hSw.1.at 9 (.slice x.WA x.nW x.cW) rfl
    first | (go_simp; done) | (go_simp; with_reducible rfl)
  try simp only [Tk.put]
  refine Tk.x 2 rfl ?_
  try simp only [Tk.put]
  refine Tk.x 3 rfl ?_
  try simp only [Tk.put]
  refine Tk.y 4 (v := .slice y.WA y.nW y.cW) rfl ?_ ?_
  · intro wS hSw
    have q := hSw.2.at 9 (.slice y.WA y.nW y.cW) rfl
    first | (go_simp; done) | (go_simp; with_reducible rfl)
  try simp only [Tk.put]
  refine Tk.x 5 rfl ?_
  try simp only [Tk.put]
  refine Tk.y 6 (v := .bool true) rfl ?_ ?_
  · intro wS hSw
    have g := G0.out
    first | (go_simp; done) | (go_simp; with_reducible rfl) | (simp [g]; done)
  try simp only [Tk.put]
  refine Tk.x 7 rfl ?_
  try simp only [Tk.put]
  refine Tk.x 8 rfl ?_
  try simp only [Tk.put]
  refine Tk.y 9 (v := .slice x.BA x.nB x.cB) rfl ?_ ?_
  · intro wS hSw
    have q := hSw.1.at 10 (.slice x.BA x.nB x.cB) rfl
    first | (go_simp; done) | (go_simp; with_reducible rfl)
  try simp only [Tk.put]
  refine Tk.x 10 rfl ?_
  try simp only [Tk.put]
  refine Tk.x 11 rfl ?_
  try simp only [Tk.put]
  refine Tk.y 12 (v := .slice y.BA y.nB y.cB) rfl ?_ ?_
  · intro wS hSw
    have q := hSw.2.at 10 (.slice y.BA y.nB y.cB) rfl
    first | (go_simp; done) | (go_simp; with_reducible rfl)
  try simp only [Tk.put]
  refine Tk.x 13 rfl ?_
  try simp only [Tk.put]
  refine Tk.y 14 (v := .bool true) rfl ?_ ?_
  · intro wS hSw
    have g := G1.out
    first | (go_simp; done) | (go_simp; with_reducible rfl) | (simp [g]; done)
  try simp only [Tk.put]
  refine Tk.x 15 rfl ?_
  try simp only [Tk.put]
  refine Tk.x 16 rfl ?_
  try simp only [Tk.put]
  refine Tk.x 17 rfl ?_
  try simp only [Tk.put]
  refine Tk.y 18 (v := .agg #[.int .i32 x.m1, .int .i64 x.s1, .int .i8 x.z1]) rfl ?_ ?_
  · intro wS hSw
    have q11 := hSw.1.at 11 (.int .i32 x.m1) rfl
    have q12 := hSw.1.at 12 (.int .i64 x.s1) rfl
    have q13 := hSw.1.at 13 (.int .i8 x.z1) rfl
    first | (go_simp; done) | (go_simp; with_reducible rfl)
  try simp only [Tk.put]
  refine Tk.x 19 rfl ?_
  try simp only [Tk.put]
  refine Tk.y 20 (v := .agg #[.int .i32 y.m1, .int .i64 y.s1, .int .i8 y.z1]) rfl ?_ ?_
  · intro wS hSw
    have q11 := hSw.2.at 11 (.int .i32 y.m1) rfl
    have q12 := hSw.2.at 12 (.int .i64 y.s1) rfl
    have q13 := hSw.2.at 13 (.int .i8 y.z1) rfl
    first | (go_simp; done) | (go_simp; with_reducible rfl)
  try simp only [Tk.put]
  refine Tk.y 21 (v := .bool true) rfl ?_ ?_
  · intro wS hSw
    have g := G2.out
    first | (go_simp; done) | (go_simp; with_reducible rfl) | (simp [g]; done)
  try simp only [Tk.put]
  refine Tk.x 22 rfl ?_
  try simp only [Tk.put]
  refine Tk.x 23 rfl ?_
  try simp only [Tk.put]
  refine Tk.x 24 rfl ?_
  try simp only [Tk.put]
  refine Tk.y 25 (v := .agg #[.int .i32 x.m2, .int .i64 x.s2, .int .i8 x.z2]) rfl ?_ ?_
  · intro wS hSw
    have q14 := hSw.1.at 14 (.int .i32 x.m2) rfl
    have q15 := hSw.1.at 15 (.int .i64 x.s2) rfl
    have q16 := hSw.1.at 16 (.int .i8 x.z2) rfl
    first | (go_simp; done) | (go_simp; with_reducible rfl)
  try simp only [Tk.put]
  refine Tk.x 26 rfl ?_
  try simp only [Tk.put]
  refine Tk.y 27 (v := .agg #[.int .i32 y.m2, .int .i64 y.s2, .int .i8 y.z2]) rfl ?_ ?_
  · intro wS hSw
    have q14 := hSw.2.at 14 (.int .i32 y.m2) rfl
    have q15 := hSw.2.at 15 (.int .i64 y.s2) rfl
    have q16 := hSw.2.at 16 (.int .i8 y.z2) rfl
    first | (go_simp; done) | (go_simp; with_reducible rfl)
  try simp only [Tk.put]
  refine Tk.y 28 (v := .bool true) rfl ?_ ?_
  · intro wS hSw
    have g := G3.out
    first | (go_simp; done) | (go_simp; with_reducible rfl) | (simp [g]; done)
  try simp only [Tk.put]
  refine Tk.x 29 rfl ?_
  try simp only [Tk.put]
  refine Tk.x 30 rfl ?_
  try simp only [Tk.put]
  refine Tk.t 31 (v := .agg x.val) rfl (nd_load_at _ rfl (by rfl) _ x rfl (fun _ h => h.1)) (by assumption) ?_
  try simp only [Tk.put]
  refine Tk.t 33 (v := .agg y.val) rfl (nd_load_at _ rfl (by rfl) _ y rfl (fun _ h => h.2)) (by assumption) ?_
  try simp only [Tk.put]
  refine Tk.s 32 rfl (fun Kq hK => ?_)
  go_simp
  go_at_call 41
  with_reducible refine (numbers_to x HX.out _).mono ?_
  rintro e w1 ⟨rfl, hb⟩
  replace HB := Lib.hid (HB.out.trans (hb.mono HB.out.size))
  have hS2 : NdAt w.heap.size x w1 ∧ NdAt (w.heap.size + 1) y w1 := ⟨hHeld.1.below (Nat.lt_of_succ_lt HL.out) hb, hHeld.2.below HL.out hb⟩
  replace HL : Hid (w.heap.size + 1 < w1.heap.size) := Lib.hid (Nat.lt_of_lt_of_le HL.out hb.size)
  clear hb hHeld
  refine hK.out _ _ hS2 (fun hHeld => ?_)
  clear hK Kq hS2
  try simp only [Tk.put]
  refine Tk.s 34 rfl (fun Kq hK => ?_)
  go_simp
  go_at_call 41
  with_reducible refine (numbers_to y HY.out _).mono ?_
  rintro e w1 ⟨rfl, hb⟩
  replace HB := Lib.hid (HB.out.trans (hb.mono HB.out.size))
  have hS2 : NdAt w.heap.size x w1 ∧ NdAt (w.heap.size + 1) y w1 := ⟨hHeld.1.below (Nat.lt_of_succ_lt HL.out) hb, hHeld.2.below HL.out hb⟩
  replace HL : Hid (w.heap.size + 1 < w1.heap.size) := Lib.hid (Nat.lt_of_lt_of_le HL.out hb.size)
  clear hb hHeld
  refine hK.out _ _ hS2 (fun hHeld => ?_)
  clear hK Kq hS2
  try simp only [Tk.put]
  have hg9 := Tryd.eqGuardType63
  refine Tk.y 35 (v := .bool true) rfl ?_ ?_
  · intro wS hSw
    have g := G4.out
    first | (go_simp; done) | (go_simp; with_reducible rfl) | (simp [g]; done)
  try simp only [Tk.put]
  refine Tk.x 36 rfl ?_
  try simp only [Tk.put]
  refine Tk.x 37 rfl ?_
  try simp only [Tk.put]
  refine wpAnyH_done (by kernel_rfl) ?_ _
  go_wp2_with fail
  go_ret
  exact ⟨rfl, HB.out⟩
/-- are nodes alike but for kind and place? -/
def Nd.alikeB (x y : Nd) : Bool := (x.nW == y.nW) && ((x.nB == y.nB) && ((x.m1 == y.m1 && (x.s1 == y.s1 && x.z1 == y.z1)) && ((x.m2 == y.m2 && (x.s2 == y.s2 && x.z2 == y.z2)) && nineB x y)))
theorem csame_to (x y : Nd) (hx : x.Small) (hy : y.Small) (b : Bool) (hb : x.alikeB y = b) (w : World) :
    Calls Tryd.prog 19 #[.agg x.val, .agg y.val] w fun e w' => e = .returned (.bool b) ∧ Below w.heap.size w w' := by
  subst hb
  unfold Nd.alikeB
  cases h0 : (x.nW == y.nW)
  · exact csame_0 x y hx hy h0 w
  cases h1 : (x.nB == y.nB)
  · exact csame_1 x y hx hy h0 h1 w
  cases h2 : (x.m1 == y.m1 && (x.s1 == y.s1 && x.z1 == y.z1))
  · exact csame_2 x y hx hy h0 h1 h2 w
  cases h3 : (x.m2 == y.m2 && (x.s2 == y.s2 && x.z2 == y.z2))
  · exact csame_3 x y hx hy h0 h1 h2 h3 w
  cases h4 : nineB x y
  · exact csame_4 x y hx hy h0 h1 h2 h3 h4 w
  · exact csame_5 x y hx hy h0 h1 h2 h3 h4 w
end Go.Proofs.YtamcdpkakdiggaaDoor.CKind
end
section
namespace Go.Proofs.YtamcdpkakdiggaaDoor.CKind
open Go Go.ChangeShapes Go.WideShapes Go.ChangeAt Go.RowKit Go.Deep
open Plain CSat CFix CShape CTensor CConv
set_option linter.unusedVariables false
set_option linter.unusedSimpArgs false
/-- what is wrong with a node. -/
def Nd.checkZ (x : Nd) : Int :=
  if x.kd < 1 ∨ 9 < x.kd then 6 else if x.moreB = true then 2 else if ((scaledB x.kd && !rightB x.m1 x.s1) || (x.kd == 6 && !rightB x.m2 x.s2)) = true then 7 else if (scaledB x.kd && decide (x.hi < x.lo)) = true then 2 else 0
theorem refRight_b (m s z : Int) (b : Bool) (h : rightB m s = b) (w : World) : Calls Tryd.prog 24 #[.agg #[.int .i32 m, .int .i64 s, .int .i8 z]] w fun e w' => e = .returned (.bool b) ∧ Below w.heap.size w w' := by
  cases b
  · exact refRight_no m s z h w
  · exact refRight_yes m s z h w
theorem kname_nil (k : Int) : (kname k).toList.isEmpty = decide (k < 1 ∨ 9 < k) := by
  rw [ByteArray.toList_eq]
  by_cases h : k < 1 ∨ 9 < k
  · rw [kname_no h]; simp only [h, decide_true]; decide
  · have : k = 1 ∨ k = 2 ∨ k = 3 ∨ k = 4 ∨ k = 5 ∨ k = 6 ∨ k = 7 ∨ k = 8 ∨ k = 9 := by omega
    rcases this with rfl | rfl | rfl | rfl | rfl | rfl | rfl | rfl | rfl <;> decide
/-- what a call of Check tells. -/
def CheckIs (f : FuncId) (x : Nd) : Prop := ∀ w : World, Calls Tryd.prog f #[.agg x.val] w fun e w' => e = .returned (.int .i64 x.checkZ) ∧ Below w.heap.size w w'
set_option maxRecDepth 100000 in
set_option maxHeartbeats 16000000 in
theorem refCheck_to (x : Nd) : CheckIs 9 x := fun w => by
  have TN := Lib.hid (NdAt.new x 28 w)
  have HB := Lib.hid ((Below.refl w.heap.size w).alloc (Nat.le_refl _) (.cells x.val 28))
  have hsz : w.heap.size < (w.alloc (.cells x.val 28)).heap.size := by simp
  have hnn := kname_nil x.kd
  obtain ⟨nm, hnm⟩ : ∃ nm, kname x.kd = nm := ⟨_, rfl⟩
  obtain ⟨mb, hmb⟩ : ∃ mb, x.moreB = mb := ⟨_, rfl⟩
  obtain ⟨sb, hsb⟩ : ∃ sb, scaledB x.kd = sb := ⟨_, rfl⟩
  obtain ⟨r1, hr1⟩ : ∃ b, rightB x.m1 x.s1 = b := ⟨_, rfl⟩
  obtain ⟨r2, hr2⟩ : ∃ b, rightB x.m2 x.s2 = b := ⟨_, rfl⟩
  rw [hnm] at hnn
  have hna := fun (w : World) => refName_to x.kd w
  have hmo := fun (w : World) => refMore_to x w
  have hsc := fun (w : World) => refScaled_to x.kd w
  rw [hnm] at hna
  rw [hmb] at hmo
  rw [hsb] at hsc
  have HNA := Lib.hid hna
  have HMO := Lib.hid hmo
  have HSC := Lib.hid hsc
  have HRA := Lib.hid (fun (w : World) => refRight_b x.m1 x.s1 x.z1 r1 hr1 w)
  have HRB := Lib.hid (fun (w : World) => refRight_b x.m2 x.s2 x.z2 r2 hr2 w)
  have HNN := Lib.hid hnn
  have hz : x.checkZ = if x.kd < 1 ∨ 9 < x.kd then 6 else if mb = true then 2 else if ((sb && !r1) || (x.kd == 6 && !r2)) = true then 7 else if (sb && decide (x.hi < x.lo)) = true then 2 else 0 := by unfold Nd.checkZ; rw [hmb, hsb, hr1, hr2]
  have HZ := Lib.hid hz
  clear hnn hnm hmb hsb hr1 hr2 hz hna hmo hsc
  unfold Nd.val at *
  go_enter Tryd.func9, Tryd.ntmps9
  go_upto_region 1 with fail
  generalize w.alloc (.cells #[.int .i64 x.kd, .int .i64 x.na, .int .i64 x.nb, .int .i64 x.K, .int .i64 x.S, .int .i64 x.P, .int .i64 x.O, .int .i8 x.Z, .int .i8 x.Y, .slice x.WA x.nW x.cW, .slice x.BA x.nB x.cB, .int .i32 x.m1, .int .i64 x.s1, .int .i8 x.z1, .int .i32 x.m2, .int .i64 x.s2, .int .i8 x.z2, .int .i8 x.lo, .int .i8 x.hi] 28) = W0 at TN HB hsz ⊢
  have HS : Hid (w.heap.size < W0.heap.size) := Lib.hid hsz
  clear hsz
  have n0 := TN.out.at 0 _ rfl; have n11 := TN.out.at 11 _ rfl; have n12 := TN.out.at 12 _ rfl; have n13 := TN.out.at 13 _ rfl; have n14 := TN.out.at 14 _ rfl; have n15 := TN.out.at 15 _ rfl; have n16 := TN.out.at 16 _ rfl; have n17 := TN.out.at 17 _ rfl; have n18 := TN.out.at 18 _ rfl
  by_cases hk : x.kd < 1 ∨ 9 < x.kd
  · have hne : nm.toList.isEmpty = true := by rw [HNN.out]; simp [hk]
    have HK := Lib.hid hk
    clear hk
    go_wp2_with (go_at_call 11; (with_reducible refine (HNA.out _).mono ?_); rintro e w1 ⟨rfl, hb⟩; (replace TN := Lib.hid (TN.out.below HS.out hb)); (replace HB := Lib.hid (HB.out.trans (hb.mono HB.out.size))); (replace HS := Lib.hid (Nat.lt_of_lt_of_le HS.out hb.size)); clear hb n0 n11 n12 n13 n14 n15 n16 n17 n18; (have n0 := TN.out.at 0 _ rfl); (have n11 := TN.out.at 11 _ rfl); (have n12 := TN.out.at 12 _ rfl); (have n13 := TN.out.at 13 _ rfl); (have n14 := TN.out.at 14 _ rfl); (have n15 := TN.out.at 15 _ rfl); (have n16 := TN.out.at 16 _ rfl); (have n17 := TN.out.at 17 _ rfl); (have n18 := TN.out.at 18 _ rfl))
    go_ret
    exact ⟨by rw [HZ.out, if_pos HK.out]; rfl, HB.out⟩
  · have hne : nm.toList.isEmpty = false := by rw [HNN.out]; simp [hk]
    have HK := Lib.hid hk
    clear hk
    go_upto_region 3 with (go_at_call 11; (with_reducible refine (HNA.out _).mono ?_); rintro e w1 ⟨rfl, hb⟩; (replace TN := Lib.hid (TN.out.below HS.out hb)); (replace HB := Lib.hid (HB.out.trans (hb.mono HB.out.size))); (replace HS := Lib.hid (Nat.lt_of_lt_of_le HS.out hb.size)); clear hb n0 n11 n12 n13 n14 n15 n16 n17 n18; (have n0 := TN.out.at 0 _ rfl); (have n11 := TN.out.at 11 _ rfl); (have n12 := TN.out.at 12 _ rfl); (have n13 := TN.out.at 13 _ rfl); (have n14 := TN.out.at 14 _ rfl); (have n15 := TN.out.at 15 _ rfl); (have n16 := TN.out.at 16 _ rfl); (have n17 := TN.out.at 17 _ rfl); (have n18 := TN.out.at 18 _ rfl))
    clear hne
    cases mb with
    | true =>
      go_wp2_with (first
        | (go_at_call 17; (with_reducible refine (HMO.out _).mono ?_); rintro e w1 ⟨rfl, hb⟩; (replace TN := Lib.hid (TN.out.below HS.out hb)); (replace HB := Lib.hid (HB.out.trans (hb.mono HB.out.size))); (replace HS := Lib.hid (Nat.lt_of_lt_of_le HS.out hb.size)); clear hb n0 n11 n12 n13 n14 n15 n16 n17 n18; (have n0 := TN.out.at 0 _ rfl); (have n11 := TN.out.at 11 _ rfl); (have n12 := TN.out.at 12 _ rfl); (have n13 := TN.out.at 13 _ rfl); (have n14 := TN.out.at 14 _ rfl); (have n15 := TN.out.at 15 _ rfl); (have n16 := TN.out.at 16 _ rfl); (have n17 := TN.out.at 17 _ rfl); (have n18 := TN.out.at 18 _ rfl))
        | (refine wpList_load_mid rfl 28 (.tmp 1) rfl w.heap.size 0 rfl [.int .i64 x.kd, .int .i64 x.na, .int .i64 x.nb, .int .i64 x.K, .int .i64 x.S, .int .i64 x.P, .int .i64 x.O, .int .i8 x.Z, .int .i8 x.Y, .slice x.WA x.nW x.cW, .slice x.BA x.nB x.cB, .int .i32 x.m1, .int .i64 x.s1, .int .i8 x.z1, .int .i32 x.m2, .int .i64 x.s2, .int .i8 x.z2, .int .i8 x.lo, .int .i8 x.hi] _ (TN.out) Tryd.underlying28 rfl (by kernel_rfl) ?_))
      go_ret
      have hz3 : x.checkZ = 2 := by rw [HZ.out, if_neg HK.out]; simp
      exact ⟨by rw [hz3]; rfl, HB.out⟩
    | false =>
      go_upto_region 5 with (first
        | (go_at_call 17; (with_reducible refine (HMO.out _).mono ?_); rintro e w1 ⟨rfl, hb⟩; (replace TN := Lib.hid (TN.out.below HS.out hb)); (replace HB := Lib.hid (HB.out.trans (hb.mono HB.out.size))); (replace HS := Lib.hid (Nat.lt_of_lt_of_le HS.out hb.size)); clear hb n0 n11 n12 n13 n14 n15 n16 n17 n18; (have n0 := TN.out.at 0 _ rfl); (have n11 := TN.out.at 11 _ rfl); (have n12 := TN.out.at 12 _ rfl); (have n13 := TN.out.at 13 _ rfl); (have n14 := TN.out.at 14 _ rfl); (have n15 := TN.out.at 15 _ rfl); (have n16 := TN.out.at 16 _ rfl); (have n17 := TN.out.at 17 _ rfl); (have n18 := TN.out.at 18 _ rfl))
        | (refine wpList_load_mid rfl 28 (.tmp 1) rfl w.heap.size 0 rfl [.int .i64 x.kd, .int .i64 x.na, .int .i64 x.nb, .int .i64 x.K, .int .i64 x.S, .int .i64 x.P, .int .i64 x.O, .int .i8 x.Z, .int .i8 x.Y, .slice x.WA x.nW x.cW, .slice x.BA x.nB x.cB, .int .i32 x.m1, .int .i64 x.s1, .int .i8 x.z1, .int .i32 x.m2, .int .i64 x.s2, .int .i8 x.z2, .int .i8 x.lo, .int .i8 x.hi] _ (TN.out) Tryd.underlying28 rfl (by kernel_rfl) ?_))
      have HZ2 : Hid (x.checkZ = if ((sb && !r1) || (x.kd == 6 && !r2)) = true then 7 else if (sb && decide (x.hi < x.lo)) = true then 2 else 0) := Lib.hid (by rw [HZ.out, if_neg HK.out, if_neg (by simp)])
      clear HZ HK
      obtain ⟨k6, hk6⟩ : ∃ b, (x.kd == 6) = b := ⟨_, rfl⟩
      obtain ⟨lb, hlb⟩ : ∃ b, decide (x.hi < x.lo) = b := ⟨_, rfl⟩
      rw [hk6, hlb] at HZ2
      cases sb <;> cases r1 <;> cases k6 <;> cases r2 <;> cases lb
      all_goals
        go_wp2_with (first
          | (go_at_call 23; (with_reducible refine (HSC.out _).mono ?_); rintro e w1 ⟨rfl, rfl⟩)
          | (go_at_call 24; (with_reducible refine (HRA.out _).mono ?_); rintro e w1 ⟨rfl, hb⟩; (replace TN := Lib.hid (TN.out.below HS.out hb)); (replace HB := Lib.hid (HB.out.trans (hb.mono HB.out.size))); (replace HS := Lib.hid (Nat.lt_of_lt_of_le HS.out hb.size)); clear hb n0 n11 n12 n13 n14 n15 n16 n17 n18; (have n0 := TN.out.at 0 _ rfl); (have n11 := TN.out.at 11 _ rfl); (have n12 := TN.out.at 12 _ rfl); (have n13 := TN.out.at 13 _ rfl); (have n14 := TN.out.at 14 _ rfl); (have n15 := TN.out.at 15 _ rfl); (have n16 := TN.out.at 16 _ rfl); (have n17 := TN.out.at 17 _ rfl); (have n18 := TN.out.at 18 _ rfl))
          | (go_at_call 24; (with_reducible refine (HRB.out _).mono ?_); rintro e w1 ⟨rfl, hb⟩; (replace TN := Lib.hid (TN.out.below HS.out hb)); (replace HB := Lib.hid (HB.out.trans (hb.mono HB.out.size))); (replace HS := Lib.hid (Nat.lt_of_lt_of_le HS.out hb.size)); clear hb n0 n11 n12 n13 n14 n15 n16 n17 n18; (have n0 := TN.out.at 0 _ rfl); (have n11 := TN.out.at 11 _ rfl); (have n12 := TN.out.at 12 _ rfl); (have n13 := TN.out.at 13 _ rfl); (have n14 := TN.out.at 14 _ rfl); (have n15 := TN.out.at 15 _ rfl); (have n16 := TN.out.at 16 _ rfl); (have n17 := TN.out.at 17 _ rfl); (have n18 := TN.out.at 18 _ rfl)))
        go_ret
        exact ⟨by rw [HZ2.out]; rfl, HB.out⟩
end Go.Proofs.YtamcdpkakdiggaaDoor.CKind
end
section
namespace Go.Proofs.YtamcdpkakdiggaaDoor.CKind
open Go Go.ChangeShapes Go.WideShapes Go.ChangeAt Go.RowKit Go.Deep
open Plain CSat CFix CShape CTensor CConv
set_option linter.unusedVariables false
set_option linter.unusedSimpArgs false
theorem alike_own (x : Nd) (h : 1 ≤ x.kd ∧ x.kd ≤ 9) : x.alikeB (x.ownK x.kd) = !x.moreB := by
  have hk : x.kd = 1 ∨ x.kd = 2 ∨ x.kd = 3 ∨ x.kd = 4 ∨ x.kd = 5 ∨ x.kd = 6 ∨ x.kd = 7 ∨ x.kd = 8 ∨ x.kd = 9 := by omega
  clear h
  rw [Bool.eq_iff_iff]
  rcases hk with h | h | h | h | h | h | h | h | h
  all_goals
    simp [Nd.alikeB, nineB, Nd.ownK, Nd.moreB, sumsB, slidesB, scaledB, h]
    try omega
theorem own_small (x : Nd) (k : Int) (hx : x.Small) : (x.ownK k).Small := by
  obtain ⟨h1, h2, h3, h4⟩ := hx
  refine ⟨?_, ?_, ?_, ?_⟩
  all_goals
    simp only [Nd.ownK]
    split <;> omega
theorem right_b (m s z : Int) (b : Bool) (h : rightB m s = b) (w : World) : Calls Tryd.prog 22 #[.agg #[.int .i32 m, .int .i64 s, .int .i8 z]] w fun e w' => e = .returned (.bool b) ∧ Below w.heap.size w w' := by
  cases b
  · exact isRight_no m s z h w
  · exact isRight_yes m s z h w
set_option maxRecDepth 100000 in
set_option maxHeartbeats 16000000 in
theorem check_to (x : Nd) (hx : x.Small) (w : World) (hT : NamesIn w) : Calls Tryd.prog 8 #[.agg x.val] w fun e w' => e = .returned (.int .i64 x.checkZ) ∧ Below w.heap.size w w' := by
  have TN := Lib.hid (NdAt.new x 28 w)
  have HB := Lib.hid ((Below.refl w.heap.size w).alloc (Nat.le_refl _) (.cells x.val 28))
  have HS : Hid (w.heap.size < (w.alloc (.cells x.val 28)).heap.size) := Lib.hid (by simp)
  have HT : Hid (NamesIn (w.alloc (.cells x.val 28))) := Lib.hid (hT.grown HB.out)
  obtain ⟨kb, hkb⟩ : ∃ b, knownB x.kd = b := ⟨_, rfl⟩
  obtain ⟨mb, hmb⟩ : ∃ mb, x.moreB = mb := ⟨_, rfl⟩
  obtain ⟨sb, hsb⟩ : ∃ sb, scaledB x.kd = sb := ⟨_, rfl⟩
  obtain ⟨r1, hr1⟩ : ∃ b, rightB x.m1 x.s1 = b := ⟨_, rfl⟩
  obtain ⟨r2, hr2⟩ : ∃ b, rightB x.m2 x.s2 = b := ⟨_, rfl⟩
  have hkn := fun (w : World) (h : NamesIn w) => known_to x.kd w h
  rw [hkb] at hkn
  have hsc := fun (w : World) => scaled_to x.kd w
  rw [hsb] at hsc
  have HKN := Lib.hid hkn
  have HSC := Lib.hid hsc
  have HRA := Lib.hid (fun (w : World) => right_b x.m1 x.s1 x.z1 r1 hr1 w)
  have HRB := Lib.hid (fun (w : World) => right_b x.m2 x.s2 x.z2 r2 hr2 w)
  have hz : x.checkZ = if kb = false then 6 else if mb = true then 2 else if ((sb && !r1) || (x.kd == 6 && !r2)) = true then 7 else if (sb && decide (x.hi < x.lo)) = true then 2 else 0 := by
    unfold Nd.checkZ; rw [hmb, hsb, hr1, hr2]
    by_cases h : x.kd < 1 ∨ 9 < x.kd
    · have e : kb = false := by rw [← hkb]; exact decide_eq_false (by omega)
      rw [if_pos h, e]; rfl
    · have e : kb = true := by rw [← hkb]; exact decide_eq_true (by omega)
      rw [if_neg h, e]; rfl
  have HZ := Lib.hid hz
  have HOW : Hid (kb = true → ∀ w, Calls Tryd.prog 20 #[.agg x.val] w fun e w' => e = .returned (.agg (x.ownK x.kd).val) ∧ Below w.heap.size w w') := Lib.hid (fun h w => own_to x (by rw [← hkb] at h; simpa [knownB] using h) w)
  have HAL : Hid (kb = true → ∀ w, Calls Tryd.prog 19 #[.agg x.val, .agg (x.ownK x.kd).val] w fun e w' => e = .returned (.bool !mb) ∧ Below w.heap.size w w') := Lib.hid (fun h w => csame_to x _ hx (own_small x _ hx) _ (by rw [alike_own x (by rw [← hkb] at h; simpa [knownB] using h), hmb]) w)
  generalize x.ownK x.kd = y at *
  clear hkb hmb hsb hr1 hr2 hz hkn hsc hx hT
  go_enter Tryd.func8, Tryd.ntmps8
  go_upto_region 1 with fail
  generalize w.alloc (.cells x.val 28) = W0 at TN HB HS HT ⊢
  have n0 := TN.out.at 0 (.int .i64 x.kd) rfl
  have n11 := TN.out.at 11 (.int .i32 x.m1) rfl
  have n12 := TN.out.at 12 (.int .i64 x.s1) rfl
  have n13 := TN.out.at 13 (.int .i8 x.z1) rfl
  have n14 := TN.out.at 14 (.int .i32 x.m2) rfl
  have n15 := TN.out.at 15 (.int .i64 x.s2) rfl
  have n16 := TN.out.at 16 (.int .i8 x.z2) rfl
  have n17 := TN.out.at 17 (.int .i8 x.lo) rfl
  have n18 := TN.out.at 18 (.int .i8 x.hi) rfl
  cases kb with
  | false =>
    go_wp2_with (go_at_call 18; (with_reducible refine (HKN.out _ HT.out).mono ?_); rintro e w1 ⟨rfl, rfl⟩)
    go_ret
    exact ⟨by rw [HZ.out]; rfl, HB.out⟩
  | true =>
    go_upto_region 3 with (go_at_call 18; (with_reducible refine (HKN.out _ HT.out).mono ?_); rintro e w1 ⟨rfl, rfl⟩)
    refine wp_region_held_drew (S := NdAt w.heap.size x) (by kernel_rfl) (TN.out.below HS.out (Below.refl _ _).drew) (fun hHeld => ?_)
    replace HB := Lib.hid (HB.out.trans (Below.refl _ W0).drew)
    replace HS : Hid (w.heap.size < W0.drew.heap.size) := Lib.hid HS.out
    clear TN HT HKN n0 n11 n12 n13 n14 n15 n16 n17 n18
    generalize W0.drew = W1 at *
    clear W0
    refine Tk.t 0 (v := .agg x.val) rfl (nd_load_at _ rfl (by rfl) _ x rfl (fun _ h => h)) (by assumption) ?_
    try simp only [Tk.put]
    refine Tk.t 1 (v := .agg x.val) rfl (nd_load_at _ rfl (by rfl) _ x rfl (fun _ h => h)) (by assumption) ?_
    try simp only [Tk.put]
    refine Tk.s 2 rfl (fun Kq hK => ?_)
    go_simp
    go_at_call 20
    with_reducible refine (HOW.out trivial _).mono ?_
    rintro e w1 ⟨rfl, hb⟩
    replace HB := Lib.hid (HB.out.trans (hb.mono HB.out.size))
    have hS2 := hHeld.below HS.out hb
    replace HS := Lib.hid (Nat.lt_of_lt_of_le HS.out hb.size)
    clear hb hHeld
    refine hK.out _ _ hS2 (fun hHeld => ?_)
    clear hK Kq hS2
    try simp only [Tk.put]
    refine Tk.s 3 rfl (fun Kq hK => ?_)
    go_simp
    go_at_call 19
    with_reducible refine (HAL.out trivial _).mono ?_
    rintro e w1 ⟨rfl, hb⟩
    replace HB := Lib.hid (HB.out.trans (hb.mono HB.out.size))
    have hS2 := hHeld.below HS.out hb
    replace HS := Lib.hid (Nat.lt_of_lt_of_le HS.out hb.size)
    clear hb hHeld
    refine hK.out _ _ hS2 (fun hHeld => ?_)
    clear hK Kq hS2
    try simp only [Tk.put]
    refine Tk.x 4 rfl ?_
    try simp only [Tk.put]
    refine Tk.x 5 rfl ?_
    try simp only [Tk.put]
    refine wpAnyH_done (by kernel_rfl) ?_ _
    have TN := Lib.hid hHeld
    clear hHeld HOW HAL
    have n0 := TN.out.at 0 (.int .i64 x.kd) rfl
    have n11 := TN.out.at 11 (.int .i32 x.m1) rfl
    have n12 := TN.out.at 12 (.int .i64 x.s1) rfl
    have n13 := TN.out.at 13 (.int .i8 x.z1) rfl
    have n14 := TN.out.at 14 (.int .i32 x.m2) rfl
    have n15 := TN.out.at 15 (.int .i64 x.s2) rfl
    have n16 := TN.out.at 16 (.int .i8 x.z2) rfl
    have n17 := TN.out.at 17 (.int .i8 x.lo) rfl
    have n18 := TN.out.at 18 (.int .i8 x.hi) rfl
    cases mb with
    | true =>
      go_wp2_with fail
      go_ret
      have hz3 : x.checkZ = 2 := by rw [HZ.out]; simp
      exact ⟨by rw [hz3]; rfl, HB.out⟩
    | false =>
      have HZ2 : Hid (x.checkZ = if ((sb && !r1) || (x.kd == 6 && !r2)) = true then 7 else if (sb && decide (x.hi < x.lo)) = true then 2 else 0) := Lib.hid (by rw [HZ.out]; simp)
      clear HZ
      obtain ⟨k6, hk6⟩ : ∃ b, (x.kd == 6) = b := ⟨_, rfl⟩
      obtain ⟨lb, hlb⟩ : ∃ b, decide (x.hi < x.lo) = b := ⟨_, rfl⟩
      rw [hk6, hlb] at HZ2
      cases sb <;> cases r1 <;> cases k6 <;> cases r2 <;> cases lb
      all_goals
        go_wp2_with (first | (go_at_call 21; (with_reducible refine (HSC.out _).mono ?_); rintro e w1 ⟨rfl, rfl⟩) | (go_at_call 22; (with_reducible refine (HRA.out _).mono ?_); rintro e w1 ⟨rfl, hb⟩; (replace TN := Lib.hid (TN.out.below HS.out hb)); (replace HB := Lib.hid (HB.out.trans (hb.mono HB.out.size))); (replace HS := Lib.hid (Nat.lt_of_lt_of_le HS.out hb.size)); clear hb n0 n11 n12 n13 n14 n15 n16 n17 n18; (have n0 := TN.out.at 0 (.int .i64 x.kd) rfl); (have n11 := TN.out.at 11 (.int .i32 x.m1) rfl); (have n12 := TN.out.at 12 (.int .i64 x.s1) rfl); (have n13 := TN.out.at 13 (.int .i8 x.z1) rfl); (have n14 := TN.out.at 14 (.int .i32 x.m2) rfl); (have n15 := TN.out.at 15 (.int .i64 x.s2) rfl); (have n16 := TN.out.at 16 (.int .i8 x.z2) rfl); (have n17 := TN.out.at 17 (.int .i8 x.lo) rfl); (have n18 := TN.out.at 18 (.int .i8 x.hi) rfl)) | (go_at_call 22; (with_reducible refine (HRB.out _).mono ?_); rintro e w1 ⟨rfl, hb⟩; (replace TN := Lib.hid (TN.out.below HS.out hb)); (replace HB := Lib.hid (HB.out.trans (hb.mono HB.out.size))); (replace HS := Lib.hid (Nat.lt_of_lt_of_le HS.out hb.size)); clear hb n0 n11 n12 n13 n14 n15 n16 n17 n18; (have n0 := TN.out.at 0 (.int .i64 x.kd) rfl); (have n11 := TN.out.at 11 (.int .i32 x.m1) rfl); (have n12 := TN.out.at 12 (.int .i64 x.s1) rfl); (have n13 := TN.out.at 13 (.int .i8 x.z1) rfl); (have n14 := TN.out.at 14 (.int .i32 x.m2) rfl); (have n15 := TN.out.at 15 (.int .i64 x.s2) rfl); (have n16 := TN.out.at 16 (.int .i8 x.z2) rfl); (have n17 := TN.out.at 17 (.int .i8 x.lo) rfl); (have n18 := TN.out.at 18 (.int .i8 x.hi) rfl)))
        go_ret
        exact ⟨by rw [HZ2.out]; rfl, HB.out⟩
end Go.Proofs.YtamcdpkakdiggaaDoor.CKind
end
section
namespace Go.Proofs.YtamcdpkakdiggaaDoor.CConv
open Go Go.ChangeShapes Go.WideShapes Go.ChangeAt Go.RowKit
open Plain CSat CShape CTensor
set_option linter.unusedVariables false
def ShapeAt (B : Nat) (H W C : Int) (wd : World) : Prop :=
  wd.cell? ⟨B, 0, none⟩ = some (.int .i64 H) ∧ wd.cell? ⟨B, 1, none⟩ = some (.int .i64 W) ∧ wd.cell? ⟨B, 2, none⟩ = some (.int .i64 C)
theorem ShapeAt.below {B B' : Nat} {H W C : Int} {w w' : World} (h : ShapeAt B H W C w) (hB : B < B') (hb : Below B' w w') : ShapeAt B H W C w' :=
  ⟨(hb.cell (p := ⟨B, 0, none⟩) hB).trans h.1, (hb.cell (p := ⟨B, 1, none⟩) hB).trans h.2.1, (hb.cell (p := ⟨B, 2, none⟩) hB).trans h.2.2⟩
theorem shapeNew (H W C : Int) (T : TypeId) (w : World) : ShapeAt w.heap.size H W C (w.alloc (.cells #[.int .i64 H, .int .i64 W, .int .i64 C] T)) := ⟨Kit.new_cell _ _ _ _, Kit.new_cell _ _ _ _, Kit.new_cell _ _ _ _⟩
/-- what is held of the calls' memory while the sums are made. -/
def OfAt (w : World) (H W C : Int) (A : Option Addr) (n c : Nat) (x0 x1 x2 x8 x11 x12 x13 x14 x15 x16 x17 x18 : Value) (K S P O Z : Int) (WA BA : Option Addr) (nW cW nB cB : Nat) (X Y U : Int) (g6 : Nat) (wr : World) : Prop :=
  BoxAt w.heap.size H W C A n c wr ∧ NodeAt (w.heap.size + 1) x0 x1 x2 x8 x11 x12 x13 x14 x15 x16 x17 x18 K S P O Z WA BA nW cW nB cB wr ∧ FreshT (w.heap.size + 2) wr ∧ ShapeAt g6 X Y U wr ∧ Below w.heap.size w wr ∧ g6 + 1 ≤ wr.heap.size
theorem OfAt.below {w : World} {H W C : Int} {A : Option Addr} {n c : Nat} {x0 x1 x2 x8 x11 x12 x13 x14 x15 x16 x17 x18 : Value} {K S P O Z : Int} {WA BA : Option Addr} {nW cW nB cB : Nat} {X Y U : Int} {g6 : Nat} {w1 w2 : World} {B' : Nat} (h : OfAt w H W C A n c x0 x1 x2 x8 x11 x12 x13 x14 x15 x16 x17 x18 K S P O Z WA BA nW cW nB cB X Y U g6 w1) (h6 : w.heap.size + 3 ≤ g6) (hB : g6 < B') (hb : Below B' w1 w2) : OfAt w H W C A n c x0 x1 x2 x8 x11 x12 x13 x14 x15 x16 x17 x18 K S P O Z WA BA nW cW nB cB X Y U g6 w2 := by
  obtain ⟨a1, a2, a3, a4, a5, a6⟩ := h
  exact ⟨a1.below (by omega) hb, a2.below (by omega) hb, a3.below (by omega) hb, a4.below hB hb, a5.trans (hb.mono (by omega)), Nat.le_trans a6 hb.size⟩
end Go.Proofs.YtamcdpkakdiggaaDoor.CConv
end
section
namespace Go.Proofs.YtamcdpkakdiggaaDoor.CDense
open Go Go.ChangeShapes Go.WideShapes Go.ChangeAt Go.RowKit
open Plain CSat CShape CTensor CConv
set_option linter.unusedVariables false
/-- a call that hands back a list of its own. -/
def Owned (w : World) (T n : Nat) (xs : List Value) (e : Ending) (w' : World) : Prop :=
  ∃ v, e = .returned v ∧ w'.ownsRow w.heap.size T 1 v n xs ∧ Below w.heap.size w w'
end Go.Proofs.YtamcdpkakdiggaaDoor.CDense
end
section
namespace Go.Proofs.YtamcdpkakdiggaaDoor.CConv
open Go Go.ChangeShapes Go.WideShapes Go.ChangeAt Go.RowKit
open Plain CSat CShape CTensor
set_option linter.unusedVariables false
/-- the box of the sums in the making. -/
def OutAt (B : Nat) (X Y U : Int) (v : Value) (wd : World) : Prop :=
  wd.cell? ⟨B, 0, none⟩ = some (.int .i64 X) ∧ wd.cell? ⟨B, 1, none⟩ = some (.int .i64 Y) ∧ wd.cell? ⟨B, 2, none⟩ = some (.int .i64 U) ∧ wd.cell? ⟨B, 3, none⟩ = some v ∧ wd.frozen? ⟨B, 3, none⟩ = false
theorem OutAt.below {B B' : Nat} {X Y U : Int} {v : Value} {w w' : World} (h : OutAt B X Y U v w) (hB : B < B') (hb : Below B' w w') : OutAt B X Y U v w' :=
  ⟨(hb.cell (p := ⟨B, 0, none⟩) hB).trans h.1, (hb.cell (p := ⟨B, 1, none⟩) hB).trans h.2.1, (hb.cell (p := ⟨B, 2, none⟩) hB).trans h.2.2.1, (hb.cell (p := ⟨B, 3, none⟩) hB).trans h.2.2.2.1, (hb.frozen (p := ⟨B, 3, none⟩) hB).trans h.2.2.2.2⟩
theorem OutAt.new (X Y U : Int) (v : Value) (T : TypeId) (w : World) : OutAt w.heap.size X Y U v (w.alloc (.cells #[.int .i64 X, .int .i64 Y, .int .i64 U, v] T)) :=
  ⟨Kit.new_cell _ _ _ _, Kit.new_cell _ _ _ _, Kit.new_cell _ _ _ _, Kit.new_cell _ _ _ _, World.frozen?_alloc_at _ _ _ _ rfl⟩
theorem OutAt.store {B : Nat} {X Y U : Int} {v : Value} {w : World} (h : OutAt B X Y U v w) (u : Value) : OutAt B X Y U u (w.setCell ⟨B, 3, none⟩ u) := by
  obtain ⟨h1, h2, h3, h4, h5⟩ := h
  have k : ∀ (i : Nat), i ≠ 3 → (w.setCell ⟨B, 3, none⟩ u).cell? ⟨B, i, none⟩ = w.cell? ⟨B, i, none⟩ := fun i hne => World.cell?_setCell_other _ _ _ _ (fun e => by injection e; omega)
  exact ⟨(k 0 (by omega)).trans h1, (k 1 (by omega)).trans h2, (k 2 (by omega)).trans h3, World.cell?_setCell_same _ _ _ h4, (World.frozen?_setCell _ _ _ _).trans h5⟩
end Go.Proofs.YtamcdpkakdiggaaDoor.CConv
end
section
namespace Go.Proofs.YtamcdpkakdiggaaDoor.CTensor
open Go Go.ChangeShapes Go.WideShapes Go.ChangeAt Go.RowKit
open Plain CSat CShape
set_option linter.unusedVariables false
theorem eqShape (a b c x y z : Int) (w : World) : (Op.equalIn 10000 31 (.agg #[.int .i64 a, .int .i64 b, .int .i64 c]) (.agg #[.int .i64 x, .int .i64 y, .int .i64 z])).run Tryd.prog w = .ok (a == x && (b == y && c == z)) w := by
  have u3 := Tryd.underlying3
  have a3 := Tryd.isAgg3
  have z3 := Tryd.sizeOf3
  have hS : Tryd.prog.underlying 31 = some (.struct (Tryd.prog.fieldsOf 31)) := by kernel_rfl
  rw [show (10000 : Nat) = 9999 + 1 from rfl, run_equalIn_agg w 9999 31 _ _ hS Tryd.stoodInHeld31]
  simp only [Program.fieldsOf, Tryd.underlying31]
  go_simp
  by_cases h1 : a = x <;> by_cases h2 : b = y <;> by_cases h3 : c = z <;> simp [h1, h2, h3]
end Go.Proofs.YtamcdpkakdiggaaDoor.CTensor
end
section
namespace Go.Proofs.YtamcdpkakdiggaaDoor.CConv
open Go Go.ChangeShapes Go.WideShapes Go.ChangeAt Go.RowKit
open Plain CSat CShape CTensor
set_option linter.unusedVariables false
theorem few_yes (H W C : Int) (A : Option Addr) (n c : Nat) (x0 x1 x2 x8 x11 x12 x13 x14 x15 x16 x17 x18 : Value) (K S P O Z : Int) (WA BA : Option Addr) (nW cW nB cB : Nat) (h1 : n ≤ 1024) (h2 : nW ≤ 2000) (h3 : nB ≤ 200) (w : World) :
    Calls Tryd.prog 6 #[.agg #[.int .i64 H, .int .i64 W, .int .i64 C, .slice A n c], .agg #[x0, x1, x2, .int .i64 K, .int .i64 S, .int .i64 P, .int .i64 O, .int .i8 Z, x8, .slice WA nW cW, .slice BA nB cB, x11, x12, x13, x14, x15, x16, x17, x18]] w fun e w' => e = .returned (.bool true) ∧ Below w.heap.size w w' := by
  have i1 : (n : Int) ≤ 1024 := by omega
  have i2 : (nW : Int) ≤ 2000 := by omega
  have i3 : (nB : Int) ≤ 200 := by omega
  go_enter Tryd.func6, Tryd.ntmps6
  go_wp2_with fail
  go_ret
  exact ⟨rfl, ((Below.refl _ _).alloc (Nat.le_refl _) _).alloc (by simp) _⟩
theorem few_no (H W C : Int) (A : Option Addr) (n c : Nat) (x0 x1 x2 x8 x11 x12 x13 x14 x15 x16 x17 x18 : Value) (K S P O Z : Int) (WA BA : Option Addr) (nW cW nB cB : Nat) (h : ¬ (n ≤ 1024 ∧ nW ≤ 2000 ∧ nB ≤ 200)) (w : World) :
    Calls Tryd.prog 6 #[.agg #[.int .i64 H, .int .i64 W, .int .i64 C, .slice A n c], .agg #[x0, x1, x2, .int .i64 K, .int .i64 S, .int .i64 P, .int .i64 O, .int .i8 Z, x8, .slice WA nW cW, .slice BA nB cB, x11, x12, x13, x14, x15, x16, x17, x18]] w fun e w' => e = .returned (.bool false) ∧ Below w.heap.size w w' := by
  rcases (show (1024 : Int) < n ∨ ((n : Int) ≤ 1024 ∧ (2000 : Int) < nW) ∨ ((n : Int) ≤ 1024 ∧ (nW : Int) ≤ 2000 ∧ (200 : Int) < nB) by omega) with i1 | ⟨i1, i2⟩ | ⟨i1, i2, i3⟩
  all_goals
    clear h
    go_enter Tryd.func6, Tryd.ntmps6
    go_wp2_with fail
    go_ret
    exact ⟨by first | rfl | exact congrArg (fun b => Ending.returned (Value.bool b)) (decide_eq_false (by omega)), ((Below.refl _ _).alloc (Nat.le_refl _) _).alloc (by simp) _⟩
end Go.Proofs.YtamcdpkakdiggaaDoor.CConv
end
