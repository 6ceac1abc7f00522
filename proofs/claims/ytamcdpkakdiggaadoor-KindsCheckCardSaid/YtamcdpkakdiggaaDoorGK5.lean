/- Texts of this seat, one behind the other: KindOwnB, KindOwn, KindNums, KindSame. -/
import Derived.Deep.CutRange
import Derived.Laws.StructEq
import Derived.Test.YtamcdpkakdiggaaDoorGK2
import Derived.Test.YtamcdpkakdiggaaDoorGK3
import Derived.Test.YtamcdpkakdiggaaDoorGK4
section
namespace Go.Proofs.YtamcdpkakdiggaaDoor.CKind
open Go Go.ChangeShapes Go.WideShapes Go.ChangeAt Go.RowKit Go.Deep
open Plain CSat CShape CTensor CConv
set_option linter.unusedVariables false
set_option linter.unusedSimpArgs false
set_option maxRecDepth 100000 in
set_option maxHeartbeats 4000000 in
theorem own_2 (x : Nd) (hk : x.kd = 2) (w : World) :
    Calls Tryd.prog 20 #[.agg x.val] w fun e w' => e = .returned (.agg (x.ownK 2).val) ∧ Below w.heap.size w w' := by
  have TN := Lib.hid (NdAt.new x 28 w)
  have HK := Lib.hid hk
  clear hk
  go_enter Tryd.func20, Tryd.ntmps20
  go_upto_region 1 with fail
  have HR : Hid (NdBox (w.heap.size + 1) Nd.zero ((w.alloc (.cells x.val 28)).alloc (.cells Nd.zero.val 28))) := Lib.hid (by have := NdBox.new Nd.zero 28 (w.alloc (.cells x.val 28)); rwa [World.size_alloc] at this)
  replace TN := Lib.hid (TN.out.below (B := w.heap.size + 1) (Nat.lt_succ_self _) ((Below.refl _ _).alloc (by simp) (.cells Nd.zero.val 28)))
  have HB := Lib.hid (((Below.refl w.heap.size w).alloc (Nat.le_refl _) (.cells x.val 28)).alloc (by simp) (.cells Nd.zero.val 28))
  have HS : Hid (((w.alloc (.cells x.val 28)).alloc (.cells Nd.zero.val 28)).heap.size = w.heap.size + 2) := Lib.hid (by simp)
  generalize h : (w.alloc (.cells x.val 28)).alloc (.cells Nd.zero.val 28) = W0 at TN HR HB HS
  rw [show (w.alloc (Obj.cells x.val 28)).alloc (Obj.cells #[.int .i64 0, .int .i64 0, .int .i64 0, .int .i64 0, .int .i64 0, .int .i64 0, .int .i64 0, .int .i8 0, .int .i8 0, .slice none 0 0, .slice none 0 0, .int .i32 0, .int .i64 0, .int .i8 0, .int .i32 0, .int .i64 0, .int .i8 0, .int .i8 0, .int .i8 0] 28) = W0 from h]
  clear h
  have q0 : W0.cell? ⟨w.heap.size, 0, none⟩ = some (.int .i64 2) := TN.out.at 0 _ (by show some (Value.int .i64 x.kd) = _; rw [HK.out])
  have q1 := TN.out.at 1 (.int .i64 x.na) rfl
  go_upto_region 2 with (refine nd_store rfl (.tmp 3) (.tmp 8) rfl _ Nd.zero ⟨2, x.na, 0, 0, 0, 0, 0, 0, 0, none, 0, 0, none, 0, 0, 0, 0, 0, 0, 0, 0, 0, 0⟩ rfl rfl (NdBox.new Nd.zero _ _) ?_; rintro W1 hp hb1 hs1)
  replace TN := Lib.hid (TN.out.below (by rw [HS.out]; omega) (((Below.refl _ _).alloc (Nat.le_refl _) _).trans hb1))
  replace HR := Lib.hid (HR.out.below (by rw [HS.out]; omega) (((Below.refl _ _).alloc (Nat.le_refl _) _).trans hb1))
  replace HB := Lib.hid (HB.out.trans ((((Below.refl _ _).alloc (Nat.le_refl _) _).trans hb1).mono (by rw [HS.out]; omega)))
  have HP := Lib.hid hp
  have HL : Hid (w.heap.size + 1 < W0.heap.size) := Lib.hid (by rw [HS.out]; omega)
  clear hp hb1 hs1 HS q0 q1
  generalize W0.heap.size = b at *
  clear W0
  have q0 : W1.cell? ⟨w.heap.size, 0, none⟩ = some (.int .i64 2) := TN.out.at 0 _ (by show some (Value.int .i64 x.kd) = _; rw [HK.out])
  go_upto_region 10 with fail
  clear q0
  have hb := (Below.refl b W1).drew
  replace HP := Lib.hid (HP.out.below (Nat.lt_succ_self b) (Below.refl (b + 1) W1).drew)
  replace HR := Lib.hid (HR.out.below HL.out hb)
  replace HB := Lib.hid (HB.out.trans (hb.mono (Nat.le_of_lt (Nat.lt_of_succ_lt HL.out))))
  refine wp_region_held_drew (S := NdAt w.heap.size x) (by kernel_rfl) (TN.out.below (Nat.lt_of_succ_lt HL.out) hb) (fun hHeld => ?_)
  clear hb TN
  generalize W1.drew = V30 at *
  refine Tk.x 0 rfl ?_
  try simp only [Tk.put]
  refine Tk.y 1 (v := (.slice x.WA x.nW x.cW)) rfl ?_ ?_
  · intro wS hSw
    have q := hSw.at 9 (.slice x.WA x.nW x.cW) rfl
    first | (go_simp; done) | (go_simp; with_reducible rfl)
  try simp only [Tk.put]
  refine Tk.x 2 rfl ?_
  try simp only [Tk.put]
  refine Tk.y 3 (v := (.slice x.BA x.nB x.cB)) rfl ?_ ?_
  · intro wS hSw
    have q := hSw.at 10 (.slice x.BA x.nB x.cB) rfl
    first | (go_simp; done) | (go_simp; with_reducible rfl)
  try simp only [Tk.put]
  refine Tk.x 4 rfl ?_
  try simp only [Tk.put]
  refine Tk.s 5 rfl (fun Kq hK => ?_)
  have c9 := HP.out.1.at 9 _ rfl
  have f9 := HP.out.fr 9 (by decide)
  go_simp
  clear c9 f9
  have hS2 := hHeld.below (Nat.lt_of_succ_lt HL.out) ((Below.refl b V30).setCell (p := ⟨b, 9, none⟩) (Nat.le_refl _) (.slice x.WA x.nW x.cW))
  clear hHeld
  have hb := ((Below.refl b V30).setCell (p := ⟨b, 9, none⟩) (Nat.le_refl _) (.slice x.WA x.nW x.cW))
  replace HP := Lib.hid (NdBox.set (y := ⟨2, x.na, 0, 0, 0, 0, 0, 0, 0, x.WA, x.nW, x.cW, none, 0, 0, 0, 0, 0, 0, 0, 0, 0, 0⟩) HP.out 9 (.slice x.WA x.nW x.cW) (by decide) rfl)
  replace HR := Lib.hid (HR.out.below HL.out hb)
  replace HB := Lib.hid (HB.out.trans (hb.mono (Nat.le_of_lt (Nat.lt_of_succ_lt HL.out))))
  clear hb
  generalize (V30).setCell ⟨b, 9, none⟩ (.slice x.WA x.nW x.cW) = V31 at *
  refine hK.out _ _ hS2 (fun hHeld => ?_)
  clear hK Kq hS2
  try simp only [Tk.put]
  refine Tk.x 6 rfl ?_
  try simp only [Tk.put]
  refine Tk.s 7 rfl (fun Kq hK => ?_)
  have c10 := HP.out.1.at 10 _ rfl
  have f10 := HP.out.fr 10 (by decide)
  go_simp
  clear c10 f10
  have hS2 := hHeld.below (Nat.lt_of_succ_lt HL.out) ((Below.refl b V31).setCell (p := ⟨b, 10, none⟩) (Nat.le_refl _) (.slice x.BA x.nB x.cB))
  clear hHeld
  have hb := ((Below.refl b V31).setCell (p := ⟨b, 10, none⟩) (Nat.le_refl _) (.slice x.BA x.nB x.cB))
  replace HP := Lib.hid (NdBox.set (y := ⟨2, x.na, 0, 0, 0, 0, 0, 0, 0, x.WA, x.nW, x.cW, x.BA, x.nB, x.cB, 0, 0, 0, 0, 0, 0, 0, 0⟩) HP.out 10 (.slice x.BA x.nB x.cB) (by decide) rfl)
  replace HR := Lib.hid (HR.out.below HL.out hb)
  replace HB := Lib.hid (HB.out.trans (hb.mono (Nat.le_of_lt (Nat.lt_of_succ_lt HL.out))))
  clear hb
  generalize (V31).setCell ⟨b, 10, none⟩ (.slice x.BA x.nB x.cB) = V32 at *
  refine hK.out _ _ hS2 (fun hHeld => ?_)
  clear hK Kq hS2
  try simp only [Tk.put]
  refine wpAnyH_done (by kernel_rfl) ?_ _
  have TN := Lib.hid hHeld
  clear hHeld
  have q0 : V32.cell? ⟨w.heap.size, 0, none⟩ = some (.int .i64 2) := TN.out.at 0 _ (by show some (Value.int .i64 x.kd) = _; rw [HK.out])
  go_upto_region 11 with fail
  clear q0
  have hb := (Below.refl b V32).drew
  replace HP := Lib.hid (HP.out.below (Nat.lt_succ_self b) (Below.refl (b + 1) V32).drew)
  replace HR := Lib.hid (HR.out.below HL.out hb)
  replace HB := Lib.hid (HB.out.trans (hb.mono (Nat.le_of_lt (Nat.lt_of_succ_lt HL.out))))
  refine wp_region_held_drew (S := NdAt w.heap.size x) (by kernel_rfl) (TN.out.below (Nat.lt_of_succ_lt HL.out) hb) (fun hHeld => ?_)
  clear hb TN
  generalize V32.drew = V33 at *
  refine Tk.x 0 rfl ?_
  try simp only [Tk.put]
  refine Tk.y 1 (v := .agg #[.int .i32 x.m1, .int .i64 x.s1, .int .i8 x.z1]) rfl ?_ ?_
  · intro wS hSw
    have q := hSw.at 11 (.int .i32 x.m1) rfl
    have q2 := hSw.at 12 (.int .i64 x.s1) rfl
    have q3 := hSw.at 13 (.int .i8 x.z1) rfl
    first | (go_simp; done) | (go_simp; with_reducible rfl)
  try simp only [Tk.put]
  refine Tk.x 2 rfl ?_
  try simp only [Tk.put]
  refine Tk.y 3 (v := (.int .i8 x.lo)) rfl ?_ ?_
  · intro wS hSw
    have q := hSw.at 17 (.int .i8 x.lo) rfl
    first | (go_simp; done) | (go_simp; with_reducible rfl)
  try simp only [Tk.put]
  refine Tk.x 4 rfl ?_
  try simp only [Tk.put]
  refine Tk.y 5 (v := (.int .i8 x.hi)) rfl ?_ ?_
  · intro wS hSw
    have q := hSw.at 18 (.int .i8 x.hi) rfl
    first | (go_simp; done) | (go_simp; with_reducible rfl)
  try simp only [Tk.put]
  refine Tk.x 6 rfl ?_
  try simp only [Tk.put]
  refine Tk.s 7 rfl (fun Kq hK => ?_)
  have c11 := HP.out.1.at 11 _ rfl
  have f11 := HP.out.fr 11 (by decide)
  have c12 := HP.out.1.at 12 _ rfl
  have f12 := HP.out.fr 12 (by decide)
  have c13 := HP.out.1.at 13 _ rfl
  have f13 := HP.out.fr 13 (by decide)
  go_simp
  clear c11 f11 c12 f12 c13 f13
  have hS2 := hHeld.below (Nat.lt_of_succ_lt HL.out) ((((Below.refl b V33).setCell (p := ⟨b, 11, none⟩) (Nat.le_refl _) (.int .i32 x.m1)).setCell (p := ⟨b, 12, none⟩) (Nat.le_refl _) (.int .i64 x.s1)).setCell (p := ⟨b, 13, none⟩) (Nat.le_refl _) (.int .i8 x.z1))
  clear hHeld
  have hb := ((((Below.refl b V33).setCell (p := ⟨b, 11, none⟩) (Nat.le_refl _) (.int .i32 x.m1)).setCell (p := ⟨b, 12, none⟩) (Nat.le_refl _) (.int .i64 x.s1)).setCell (p := ⟨b, 13, none⟩) (Nat.le_refl _) (.int .i8 x.z1))
  replace HP := Lib.hid (NdBox.set (y := ⟨2, x.na, 0, 0, 0, 0, 0, 0, 0, x.WA, x.nW, x.cW, x.BA, x.nB, x.cB, x.m1, x.s1, x.z1, 0, 0, 0, 0, 0⟩) (NdBox.set (y := ⟨2, x.na, 0, 0, 0, 0, 0, 0, 0, x.WA, x.nW, x.cW, x.BA, x.nB, x.cB, x.m1, x.s1, 0, 0, 0, 0, 0, 0⟩) (NdBox.set (y := ⟨2, x.na, 0, 0, 0, 0, 0, 0, 0, x.WA, x.nW, x.cW, x.BA, x.nB, x.cB, x.m1, 0, 0, 0, 0, 0, 0, 0⟩) HP.out 11 (.int .i32 x.m1) (by decide) rfl) 12 (.int .i64 x.s1) (by decide) rfl) 13 (.int .i8 x.z1) (by decide) rfl)
  replace HR := Lib.hid (HR.out.below HL.out hb)
  replace HB := Lib.hid (HB.out.trans (hb.mono (Nat.le_of_lt (Nat.lt_of_succ_lt HL.out))))
  clear hb
  generalize (((V33).setCell ⟨b, 11, none⟩ (.int .i32 x.m1)).setCell ⟨b, 12, none⟩ (.int .i64 x.s1)).setCell ⟨b, 13, none⟩ (.int .i8 x.z1) = V34 at *
  refine hK.out _ _ hS2 (fun hHeld => ?_)
  clear hK Kq hS2
  try simp only [Tk.put]
  refine Tk.x 8 rfl ?_
  try simp only [Tk.put]
  refine Tk.s 9 rfl (fun Kq hK => ?_)
  have c17 := HP.out.1.at 17 _ rfl
  have f17 := HP.out.fr 17 (by decide)
  go_simp
  clear c17 f17
  have hS2 := hHeld.below (Nat.lt_of_succ_lt HL.out) ((Below.refl b V34).setCell (p := ⟨b, 17, none⟩) (Nat.le_refl _) (.int .i8 x.lo))
  clear hHeld
  have hb := ((Below.refl b V34).setCell (p := ⟨b, 17, none⟩) (Nat.le_refl _) (.int .i8 x.lo))
  replace HP := Lib.hid (NdBox.set (y := ⟨2, x.na, 0, 0, 0, 0, 0, 0, 0, x.WA, x.nW, x.cW, x.BA, x.nB, x.cB, x.m1, x.s1, x.z1, 0, 0, 0, x.lo, 0⟩) HP.out 17 (.int .i8 x.lo) (by decide) rfl)
  replace HR := Lib.hid (HR.out.below HL.out hb)
  replace HB := Lib.hid (HB.out.trans (hb.mono (Nat.le_of_lt (Nat.lt_of_succ_lt HL.out))))
  clear hb
  generalize (V34).setCell ⟨b, 17, none⟩ (.int .i8 x.lo) = V35 at *
  refine hK.out _ _ hS2 (fun hHeld => ?_)
  clear hK Kq hS2
  try simp only [Tk.put]
  refine Tk.x 10 rfl ?_
  try simp only [Tk.put]
  refine Tk.s 11 rfl (fun Kq hK => ?_)
  have c18 := HP.out.1.at 18 _ rfl
  have f18 := HP.out.fr 18 (by decide)
  go_simp
  clear c18 f18
  have hS2 := hHeld.below (Nat.lt_of_succ_lt HL.out) ((Below.refl b V35).setCell (p := ⟨b, 18, none⟩) (Nat.le_refl _) (.int .i8 x.hi))
  clear hHeld
  have hb := ((Below.refl b V35).setCell (p := ⟨b, 18, none⟩) (Nat.le_refl _) (.int .i8 x.hi))
  replace HP := Lib.hid (NdBox.set (y := ⟨2, x.na, 0, 0, 0, 0, 0, 0, 0, x.WA, x.nW, x.cW, x.BA, x.nB, x.cB, x.m1, x.s1, x.z1, 0, 0, 0, x.lo, x.hi⟩) HP.out 18 (.int .i8 x.hi) (by decide) rfl)
  replace HR := Lib.hid (HR.out.below HL.out hb)
  replace HB := Lib.hid (HB.out.trans (hb.mono (Nat.le_of_lt (Nat.lt_of_succ_lt HL.out))))
  clear hb
  generalize (V35).setCell ⟨b, 18, none⟩ (.int .i8 x.hi) = V36 at *
  refine hK.out _ _ hS2 (fun hHeld => ?_)
  clear hK Kq hS2
  try simp only [Tk.put]
  refine wpAnyH_done (by kernel_rfl) ?_ _
  have TN := Lib.hid hHeld
  clear hHeld
  have q0 : V36.cell? ⟨w.heap.size, 0, none⟩ = some (.int .i64 2) := TN.out.at 0 _ (by show some (Value.int .i64 x.kd) = _; rw [HK.out])
  have q7 := TN.out.at 7 (.int .i8 x.Z) rfl
  have c7 := HP.out.1.at 7 _ rfl
  have f7 := HP.out.fr 7 (by decide)
  go_upto_region 22 with fail
  clear q0 q7 c7 f7
  have hb := ((Below.refl b V36).setCell (p := ⟨b, 7, none⟩) (Nat.le_refl _) (.int .i8 x.Z))
  replace HP := Lib.hid (NdBox.set (y := ⟨2, x.na, 0, 0, 0, 0, 0, x.Z, 0, x.WA, x.nW, x.cW, x.BA, x.nB, x.cB, x.m1, x.s1, x.z1, 0, 0, 0, x.lo, x.hi⟩) HP.out 7 (.int .i8 x.Z) (by decide) rfl)
  replace TN := Lib.hid (TN.out.below (Nat.lt_of_succ_lt HL.out) hb)
  replace HR := Lib.hid (HR.out.below HL.out hb)
  replace HB := Lib.hid (HB.out.trans (hb.mono (Nat.le_of_lt (Nat.lt_of_succ_lt HL.out))))
  clear hb
  generalize (V36).setCell ⟨b, 7, none⟩ (.int .i8 x.Z) = V37 at *
  have hb := (Below.refl b V37).drew
  replace HP := Lib.hid (HP.out.below (Nat.lt_succ_self b) (Below.refl (b + 1) V37).drew)
  replace HR := Lib.hid (HR.out.below HL.out hb)
  replace HB := Lib.hid (HB.out.trans (hb.mono (Nat.le_of_lt (Nat.lt_of_succ_lt HL.out))))
  refine wp_region_held_drew (S := NdAt w.heap.size x) (by kernel_rfl) (TN.out.below (Nat.lt_of_succ_lt HL.out) hb) (fun hHeld => ?_)
  clear hb TN
  generalize V37.drew = V38 at *
  refine Tk.x 0 rfl ?_
  try simp only [Tk.put]
  refine Tk.y 1 (v := (.int .i64 x.K)) rfl ?_ ?_
  · intro wS hSw
    have q := hSw.at 3 (.int .i64 x.K) rfl
    first | (go_simp; done) | (go_simp; with_reducible rfl)
  try simp only [Tk.put]
  refine Tk.x 2 rfl ?_
  try simp only [Tk.put]
  refine Tk.y 3 (v := (.int .i64 x.S)) rfl ?_ ?_
  · intro wS hSw
    have q := hSw.at 4 (.int .i64 x.S) rfl
    first | (go_simp; done) | (go_simp; with_reducible rfl)
  try simp only [Tk.put]
  refine Tk.x 4 rfl ?_
  try simp only [Tk.put]
  refine Tk.s 5 rfl (fun Kq hK => ?_)
  have c3 := HP.out.1.at 3 _ rfl
  have f3 := HP.out.fr 3 (by decide)
  go_simp
  clear c3 f3
  have hS2 := hHeld.below (Nat.lt_of_succ_lt HL.out) ((Below.refl b V38).setCell (p := ⟨b, 3, none⟩) (Nat.le_refl _) (.int .i64 x.K))
  clear hHeld
  have hb := ((Below.refl b V38).setCell (p := ⟨b, 3, none⟩) (Nat.le_refl _) (.int .i64 x.K))
  replace HP := Lib.hid (NdBox.set (y := ⟨2, x.na, 0, x.K, 0, 0, 0, x.Z, 0, x.WA, x.nW, x.cW, x.BA, x.nB, x.cB, x.m1, x.s1, x.z1, 0, 0, 0, x.lo, x.hi⟩) HP.out 3 (.int .i64 x.K) (by decide) rfl)
  replace HR := Lib.hid (HR.out.below HL.out hb)
  replace HB := Lib.hid (HB.out.trans (hb.mono (Nat.le_of_lt (Nat.lt_of_succ_lt HL.out))))
  clear hb
  generalize (V38).setCell ⟨b, 3, none⟩ (.int .i64 x.K) = V39 at *
  refine hK.out _ _ hS2 (fun hHeld => ?_)
  clear hK Kq hS2
  try simp only [Tk.put]
  refine Tk.x 6 rfl ?_
  try simp only [Tk.put]
  refine Tk.s 7 rfl (fun Kq hK => ?_)
  have c4 := HP.out.1.at 4 _ rfl
  have f4 := HP.out.fr 4 (by decide)
  go_simp
  clear c4 f4
  have hS2 := hHeld.below (Nat.lt_of_succ_lt HL.out) ((Below.refl b V39).setCell (p := ⟨b, 4, none⟩) (Nat.le_refl _) (.int .i64 x.S))
  clear hHeld
  have hb := ((Below.refl b V39).setCell (p := ⟨b, 4, none⟩) (Nat.le_refl _) (.int .i64 x.S))
  replace HP := Lib.hid (NdBox.set (y := ⟨2, x.na, 0, x.K, x.S, 0, 0, x.Z, 0, x.WA, x.nW, x.cW, x.BA, x.nB, x.cB, x.m1, x.s1, x.z1, 0, 0, 0, x.lo, x.hi⟩) HP.out 4 (.int .i64 x.S) (by decide) rfl)
  replace HR := Lib.hid (HR.out.below HL.out hb)
  replace HB := Lib.hid (HB.out.trans (hb.mono (Nat.le_of_lt (Nat.lt_of_succ_lt HL.out))))
  clear hb
  generalize (V39).setCell ⟨b, 4, none⟩ (.int .i64 x.S) = V40 at *
  refine hK.out _ _ hS2 (fun hHeld => ?_)
  clear hK Kq hS2
  try simp only [Tk.put]
  refine wpAnyH_done (by kernel_rfl) ?_ _
  have TN := Lib.hid hHeld
  clear hHeld
  have q0 : V40.cell? ⟨w.heap.size, 0, none⟩ = some (.int .i64 2) := TN.out.at 0 _ (by show some (Value.int .i64 x.kd) = _; rw [HK.out])
  have q5 := TN.out.at 5 (.int .i64 x.P) rfl
  have c5 := HP.out.1.at 5 _ rfl
  have f5 := HP.out.fr 5 (by decide)
  go_upto_region 24 with fail
  clear q0 q5 c5 f5
  have hb := ((Below.refl b V40).setCell (p := ⟨b, 5, none⟩) (Nat.le_refl _) (.int .i64 x.P))
  replace HP := Lib.hid (NdBox.set (y := ⟨2, x.na, 0, x.K, x.S, x.P, 0, x.Z, 0, x.WA, x.nW, x.cW, x.BA, x.nB, x.cB, x.m1, x.s1, x.z1, 0, 0, 0, x.lo, x.hi⟩) HP.out 5 (.int .i64 x.P) (by decide) rfl)
  replace TN := Lib.hid (TN.out.below (Nat.lt_of_succ_lt HL.out) hb)
  replace HR := Lib.hid (HR.out.below HL.out hb)
  replace HB := Lib.hid (HB.out.trans (hb.mono (Nat.le_of_lt (Nat.lt_of_succ_lt HL.out))))
  clear hb
  generalize (V40).setCell ⟨b, 5, none⟩ (.int .i64 x.P) = V41 at *
  go_wp2_with (first | (refine nd_load rfl (.tmp 3) rfl b ⟨2, x.na, 0, x.K, x.S, x.P, 0, x.Z, 0, x.WA, x.nW, x.cW, x.BA, x.nB, x.cB, x.m1, x.s1, x.z1, 0, 0, 0, x.lo, x.hi⟩ rfl HP.out.1 ?_) | (refine nd_store rfl (.tmp 2) (.tmp 78) rfl (w.heap.size + 1) Nd.zero ⟨2, x.na, 0, x.K, x.S, x.P, 0, x.Z, 0, x.WA, x.nW, x.cW, x.BA, x.nB, x.cB, x.m1, x.s1, x.z1, 0, 0, 0, x.lo, x.hi⟩ rfl rfl HR.out ?_; rintro W2 hp hb1 hs1))
  refine bodyPost_ret (nd_result rfl _ _ (w.heap.size + 1) ⟨2, x.na, 0, x.K, x.S, x.P, 0, x.Z, 0, x.WA, x.nW, x.cW, x.BA, x.nB, x.cB, x.m1, x.s1, x.z1, 0, 0, 0, x.lo, x.hi⟩ rfl hp.1) rfl ?_
  exact ⟨rfl, HB.out.trans (hb1.mono (Nat.le_succ _))⟩
set_option maxRecDepth 100000 in
set_option maxHeartbeats 4000000 in
theorem own_3 (x : Nd) (hk : x.kd = 3) (w : World) :
    Calls Tryd.prog 20 #[.agg x.val] w fun e w' => e = .returned (.agg (x.ownK 3).val) ∧ Below w.heap.size w w' := by
  have TN := Lib.hid (NdAt.new x 28 w)
  have HK := Lib.hid hk
  clear hk
  go_enter Tryd.func20, Tryd.ntmps20
  go_upto_region 1 with fail
  have HR : Hid (NdBox (w.heap.size + 1) Nd.zero ((w.alloc (.cells x.val 28)).alloc (.cells Nd.zero.val 28))) := Lib.hid (by have := NdBox.new Nd.zero 28 (w.alloc (.cells x.val 28)); rwa [World.size_alloc] at this)
  replace TN := Lib.hid (TN.out.below (B := w.heap.size + 1) (Nat.lt_succ_self _) ((Below.refl _ _).alloc (by simp) (.cells Nd.zero.val 28)))
  have HB := Lib.hid (((Below.refl w.heap.size w).alloc (Nat.le_refl _) (.cells x.val 28)).alloc (by simp) (.cells Nd.zero.val 28))
  have HS : Hid (((w.alloc (.cells x.val 28)).alloc (.cells Nd.zero.val 28)).heap.size = w.heap.size + 2) := Lib.hid (by simp)
  generalize h : (w.alloc (.cells x.val 28)).alloc (.cells Nd.zero.val 28) = W0 at TN HR HB HS
  rw [show (w.alloc (Obj.cells x.val 28)).alloc (Obj.cells #[.int .i64 0, .int .i64 0, .int .i64 0, .int .i64 0, .int .i64 0, .int .i64 0, .int .i64 0, .int .i8 0, .int .i8 0, .slice none 0 0, .slice none 0 0, .int .i32 0, .int .i64 0, .int .i8 0, .int .i32 0, .int .i64 0, .int .i8 0, .int .i8 0, .int .i8 0] 28) = W0 from h]
  clear h
  have q0 : W0.cell? ⟨w.heap.size, 0, none⟩ = some (.int .i64 3) := TN.out.at 0 _ (by show some (Value.int .i64 x.kd) = _; rw [HK.out])
  have q1 := TN.out.at 1 (.int .i64 x.na) rfl
  go_upto_region 2 with (refine nd_store rfl (.tmp 3) (.tmp 8) rfl _ Nd.zero ⟨3, x.na, 0, 0, 0, 0, 0, 0, 0, none, 0, 0, none, 0, 0, 0, 0, 0, 0, 0, 0, 0, 0⟩ rfl rfl (NdBox.new Nd.zero _ _) ?_; rintro W1 hp hb1 hs1)
  replace TN := Lib.hid (TN.out.below (by rw [HS.out]; omega) (((Below.refl _ _).alloc (Nat.le_refl _) _).trans hb1))
  replace HR := Lib.hid (HR.out.below (by rw [HS.out]; omega) (((Below.refl _ _).alloc (Nat.le_refl _) _).trans hb1))
  replace HB := Lib.hid (HB.out.trans ((((Below.refl _ _).alloc (Nat.le_refl _) _).trans hb1).mono (by rw [HS.out]; omega)))
  have HP := Lib.hid hp
  have HL : Hid (w.heap.size + 1 < W0.heap.size) := Lib.hid (by rw [HS.out]; omega)
  clear hp hb1 hs1 HS q0 q1
  generalize W0.heap.size = b at *
  clear W0
  have q0 : W1.cell? ⟨w.heap.size, 0, none⟩ = some (.int .i64 3) := TN.out.at 0 _ (by show some (Value.int .i64 x.kd) = _; rw [HK.out])
  have q6 := TN.out.at 6 (.int .i64 x.O) rfl
  have c6 := HP.out.1.at 6 _ rfl
  have f6 := HP.out.fr 6 (by decide)
  go_upto_region 10 with fail
  clear q0 q6 c6 f6
  have hb := ((Below.refl b W1).setCell (p := ⟨b, 6, none⟩) (Nat.le_refl _) (.int .i64 x.O))
  replace HP := Lib.hid (NdBox.set (y := ⟨3, x.na, 0, 0, 0, 0, x.O, 0, 0, none, 0, 0, none, 0, 0, 0, 0, 0, 0, 0, 0, 0, 0⟩) HP.out 6 (.int .i64 x.O) (by decide) rfl)
  replace TN := Lib.hid (TN.out.below (Nat.lt_of_succ_lt HL.out) hb)
  replace HR := Lib.hid (HR.out.below HL.out hb)
  replace HB := Lib.hid (HB.out.trans (hb.mono (Nat.le_of_lt (Nat.lt_of_succ_lt HL.out))))
  clear hb
  generalize (W1).setCell ⟨b, 6, none⟩ (.int .i64 x.O) = V42 at *
  have hb := (Below.refl b V42).drew
  replace HP := Lib.hid (HP.out.below (Nat.lt_succ_self b) (Below.refl (b + 1) V42).drew)
  replace HR := Lib.hid (HR.out.below HL.out hb)
  replace HB := Lib.hid (HB.out.trans (hb.mono (Nat.le_of_lt (Nat.lt_of_succ_lt HL.out))))
  refine wp_region_held_drew (S := NdAt w.heap.size x) (by kernel_rfl) (TN.out.below (Nat.lt_of_succ_lt HL.out) hb) (fun hHeld => ?_)
  clear hb TN
  generalize V42.drew = V43 at *
  refine Tk.x 0 rfl ?_
  try simp only [Tk.put]
  refine Tk.y 1 (v := (.slice x.WA x.nW x.cW)) rfl ?_ ?_
  · intro wS hSw
    have q := hSw.at 9 (.slice x.WA x.nW x.cW) rfl
    first | (go_simp; done) | (go_simp; with_reducible rfl)
  try simp only [Tk.put]
  refine Tk.x 2 rfl ?_
  try simp only [Tk.put]
  refine Tk.y 3 (v := (.slice x.BA x.nB x.cB)) rfl ?_ ?_
  · intro wS hSw
    have q := hSw.at 10 (.slice x.BA x.nB x.cB) rfl
    first | (go_simp; done) | (go_simp; with_reducible rfl)
  try simp only [Tk.put]
  refine Tk.x 4 rfl ?_
  try simp only [Tk.put]
  refine Tk.s 5 rfl (fun Kq hK => ?_)
  have c9 := HP.out.1.at 9 _ rfl
  have f9 := HP.out.fr 9 (by decide)
  go_simp
  clear c9 f9
  have hS2 := hHeld.below (Nat.lt_of_succ_lt HL.out) ((Below.refl b V43).setCell (p := ⟨b, 9, none⟩) (Nat.le_refl _) (.slice x.WA x.nW x.cW))
  clear hHeld
  have hb := ((Below.refl b V43).setCell (p := ⟨b, 9, none⟩) (Nat.le_refl _) (.slice x.WA x.nW x.cW))
  replace HP := Lib.hid (NdBox.set (y := ⟨3, x.na, 0, 0, 0, 0, x.O, 0, 0, x.WA, x.nW, x.cW, none, 0, 0, 0, 0, 0, 0, 0, 0, 0, 0⟩) HP.out 9 (.slice x.WA x.nW x.cW) (by decide) rfl)
  replace HR := Lib.hid (HR.out.below HL.out hb)
  replace HB := Lib.hid (HB.out.trans (hb.mono (Nat.le_of_lt (Nat.lt_of_succ_lt HL.out))))
  clear hb
  generalize (V43).setCell ⟨b, 9, none⟩ (.slice x.WA x.nW x.cW) = V44 at *
  refine hK.out _ _ hS2 (fun hHeld => ?_)
  clear hK Kq hS2
  try simp only [Tk.put]
  refine Tk.x 6 rfl ?_
  try simp only [Tk.put]
  refine Tk.s 7 rfl (fun Kq hK => ?_)
  have c10 := HP.out.1.at 10 _ rfl
  have f10 := HP.out.fr 10 (by decide)
  go_simp
  clear c10 f10
  have hS2 := hHeld.below (Nat.lt_of_succ_lt HL.out) ((Below.refl b V44).setCell (p := ⟨b, 10, none⟩) (Nat.le_refl _) (.slice x.BA x.nB x.cB))
  clear hHeld
  have hb := ((Below.refl b V44).setCell (p := ⟨b, 10, none⟩) (Nat.le_refl _) (.slice x.BA x.nB x.cB))
  replace HP := Lib.hid (NdBox.set (y := ⟨3, x.na, 0, 0, 0, 0, x.O, 0, 0, x.WA, x.nW, x.cW, x.BA, x.nB, x.cB, 0, 0, 0, 0, 0, 0, 0, 0⟩) HP.out 10 (.slice x.BA x.nB x.cB) (by decide) rfl)
  replace HR := Lib.hid (HR.out.below HL.out hb)
  replace HB := Lib.hid (HB.out.trans (hb.mono (Nat.le_of_lt (Nat.lt_of_succ_lt HL.out))))
  clear hb
  generalize (V44).setCell ⟨b, 10, none⟩ (.slice x.BA x.nB x.cB) = V45 at *
  refine hK.out _ _ hS2 (fun hHeld => ?_)
  clear hK Kq hS2
  try simp only [Tk.put]
  refine wpAnyH_done (by kernel_rfl) ?_ _
  have TN := Lib.hid hHeld
  clear hHeld
  have q0 : V45.cell? ⟨w.heap.size, 0, none⟩ = some (.int .i64 3) := TN.out.at 0 _ (by show some (Value.int .i64 x.kd) = _; rw [HK.out])
  go_upto_region 11 with fail
  clear q0
  have hb := (Below.refl b V45).drew
  replace HP := Lib.hid (HP.out.below (Nat.lt_succ_self b) (Below.refl (b + 1) V45).drew)
  replace HR := Lib.hid (HR.out.below HL.out hb)
  replace HB := Lib.hid (HB.out.trans (hb.mono (Nat.le_of_lt (Nat.lt_of_succ_lt HL.out))))
  refine wp_region_held_drew (S := NdAt w.heap.size x) (by kernel_rfl) (TN.out.below (Nat.lt_of_succ_lt HL.out) hb) (fun hHeld => ?_)
  clear hb TN
  generalize V45.drew = V46 at *
  refine Tk.x 0 rfl ?_
  try simp only [Tk.put]
  refine Tk.y 1 (v := .agg #[.int .i32 x.m1, .int .i64 x.s1, .int .i8 x.z1]) rfl ?_ ?_
  · intro wS hSw
    have q := hSw.at 11 (.int .i32 x.m1) rfl
    have q2 := hSw.at 12 (.int .i64 x.s1) rfl
    have q3 := hSw.at 13 (.int .i8 x.z1) rfl
    first | (go_simp; done) | (go_simp; with_reducible rfl)
  try simp only [Tk.put]
  refine Tk.x 2 rfl ?_
  try simp only [Tk.put]
  refine Tk.y 3 (v := (.int .i8 x.lo)) rfl ?_ ?_
  · intro wS hSw
    have q := hSw.at 17 (.int .i8 x.lo) rfl
    first | (go_simp; done) | (go_simp; with_reducible rfl)
  try simp only [Tk.put]
  refine Tk.x 4 rfl ?_
  try simp only [Tk.put]
  refine Tk.y 5 (v := (.int .i8 x.hi)) rfl ?_ ?_
  · intro wS hSw
    have q := hSw.at 18 (.int .i8 x.hi) rfl
    first | (go_simp; done) | (go_simp; with_reducible rfl)
  try simp only [Tk.put]
  refine Tk.x 6 rfl ?_
  try simp only [Tk.put]
  refine Tk.s 7 rfl (fun Kq hK => ?_)
  have c11 := HP.out.1.at 11 _ rfl
  have f11 := HP.out.fr 11 (by decide)
  have c12 := HP.out.1.at 12 _ rfl
  have f12 := HP.out.fr 12 (by decide)
  have c13 := HP.out.1.at 13 _ rfl
  have f13 := HP.out.fr 13 (by decide)
  go_simp
  clear c11 f11 c12 f12 c13 f13
  have hS2 := hHeld.below (Nat.lt_of_succ_lt HL.out) ((((Below.refl b V46).setCell (p := ⟨b, 11, none⟩) (Nat.le_refl _) (.int .i32 x.m1)).setCell (p := ⟨b, 12, none⟩) (Nat.le_refl _) (.int .i64 x.s1)).setCell (p := ⟨b, 13, none⟩) (Nat.le_refl _) (.int .i8 x.z1))
  clear hHeld
  have hb := ((((Below.refl b V46).setCell (p := ⟨b, 11, none⟩) (Nat.le_refl _) (.int .i32 x.m1)).setCell (p := ⟨b, 12, none⟩) (Nat.le_refl _) (.int .i64 x.s1)).setCell (p := ⟨b, 13, none⟩) (Nat.le_refl _) (.int .i8 x.z1))
  replace HP := Lib.hid (NdBox.set (y := ⟨3, x.na, 0, 0, 0, 0, x.O, 0, 0, x.WA, x.nW, x.cW, x.BA, x.nB, x.cB, x.m1, x.s1, x.z1, 0, 0, 0, 0, 0⟩) (NdBox.set (y := ⟨3, x.na, 0, 0, 0, 0, x.O, 0, 0, x.WA, x.nW, x.cW, x.BA, x.nB, x.cB, x.m1, x.s1, 0, 0, 0, 0, 0, 0⟩) (NdBox.set (y := ⟨3, x.na, 0, 0, 0, 0, x.O, 0, 0, x.WA, x.nW, x.cW, x.BA, x.nB, x.cB, x.m1, 0, 0, 0, 0, 0, 0, 0⟩) HP.out 11 (.int .i32 x.m1) (by decide) rfl) 12 (.int .i64 x.s1) (by decide) rfl) 13 (.int .i8 x.z1) (by decide) rfl)
  replace HR := Lib.hid (HR.out.below HL.out hb)
  replace HB := Lib.hid (HB.out.trans (hb.mono (Nat.le_of_lt (Nat.lt_of_succ_lt HL.out))))
  clear hb
  generalize (((V46).setCell ⟨b, 11, none⟩ (.int .i32 x.m1)).setCell ⟨b, 12, none⟩ (.int .i64 x.s1)).setCell ⟨b, 13, none⟩ (.int .i8 x.z1) = V47 at *
  refine hK.out _ _ hS2 (fun hHeld => ?_)
  clear hK Kq hS2
  try simp only [Tk.put]
  refine Tk.x 8 rfl ?_
  try simp only [Tk.put]
  refine Tk.s 9 rfl (fun Kq hK => ?_)
  have c17 := HP.out.1.at 17 _ rfl
  have f17 := HP.out.fr 17 (by decide)
  go_simp
  clear c17 f17
  have hS2 := hHeld.below (Nat.lt_of_succ_lt HL.out) ((Below.refl b V47).setCell (p := ⟨b, 17, none⟩) (Nat.le_refl _) (.int .i8 x.lo))
  clear hHeld
  have hb := ((Below.refl b V47).setCell (p := ⟨b, 17, none⟩) (Nat.le_refl _) (.int .i8 x.lo))
  replace HP := Lib.hid (NdBox.set (y := ⟨3, x.na, 0, 0, 0, 0, x.O, 0, 0, x.WA, x.nW, x.cW, x.BA, x.nB, x.cB, x.m1, x.s1, x.z1, 0, 0, 0, x.lo, 0⟩) HP.out 17 (.int .i8 x.lo) (by decide) rfl)
  replace HR := Lib.hid (HR.out.below HL.out hb)
  replace HB := Lib.hid (HB.out.trans (hb.mono (Nat.le_of_lt (Nat.lt_of_succ_lt HL.out))))
  clear hb
  generalize (V47).setCell ⟨b, 17, none⟩ (.int .i8 x.lo) = V48 at *
  refine hK.out _ _ hS2 (fun hHeld => ?_)
  clear hK Kq hS2
  try simp only [Tk.put]
  refine Tk.x 10 rfl ?_
  try simp only [Tk.put]
  refine Tk.s 11 rfl (fun Kq hK => ?_)
  have c18 := HP.out.1.at 18 _ rfl
  have f18 := HP.out.fr 18 (by decide)
  go_simp
  clear c18 f18
  have hS2 := hHeld.below (Nat.lt_of_succ_lt HL.out) ((Below.refl b V48).setCell (p := ⟨b, 18, none⟩) (Nat.le_refl _) (.int .i8 x.hi))
  clear hHeld
  have hb := ((Below.refl b V48).setCell (p := ⟨b, 18, none⟩) (Nat.le_refl _) (.int .i8 x.hi))
  replace HP := Lib.hid (NdBox.set (y := ⟨3, x.na, 0, 0, 0, 0, x.O, 0, 0, x.WA, x.nW, x.cW, x.BA, x.nB, x.cB, x.m1, x.s1, x.z1, 0, 0, 0, x.lo, x.hi⟩) HP.out 18 (.int .i8 x.hi) (by decide) rfl)
  replace HR := Lib.hid (HR.out.below HL.out hb)
  replace HB := Lib.hid (HB.out.trans (hb.mono (Nat.le_of_lt (Nat.lt_of_succ_lt HL.out))))
  clear hb
  generalize (V48).setCell ⟨b, 18, none⟩ (.int .i8 x.hi) = V49 at *
  refine hK.out _ _ hS2 (fun hHeld => ?_)
  clear hK Kq hS2
  try simp only [Tk.put]
  refine wpAnyH_done (by kernel_rfl) ?_ _
  have TN := Lib.hid hHeld
  clear hHeld
  have q0 : V49.cell? ⟨w.heap.size, 0, none⟩ = some (.int .i64 3) := TN.out.at 0 _ (by show some (Value.int .i64 x.kd) = _; rw [HK.out])
  have q7 := TN.out.at 7 (.int .i8 x.Z) rfl
  have c7 := HP.out.1.at 7 _ rfl
  have f7 := HP.out.fr 7 (by decide)
  go_upto_region 24 with fail
  clear q0 q7 c7 f7
  have hb := ((Below.refl b V49).setCell (p := ⟨b, 7, none⟩) (Nat.le_refl _) (.int .i8 x.Z))
  replace HP := Lib.hid (NdBox.set (y := ⟨3, x.na, 0, 0, 0, 0, x.O, x.Z, 0, x.WA, x.nW, x.cW, x.BA, x.nB, x.cB, x.m1, x.s1, x.z1, 0, 0, 0, x.lo, x.hi⟩) HP.out 7 (.int .i8 x.Z) (by decide) rfl)
  replace TN := Lib.hid (TN.out.below (Nat.lt_of_succ_lt HL.out) hb)
  replace HR := Lib.hid (HR.out.below HL.out hb)
  replace HB := Lib.hid (HB.out.trans (hb.mono (Nat.le_of_lt (Nat.lt_of_succ_lt HL.out))))
  clear hb
  generalize (V49).setCell ⟨b, 7, none⟩ (.int .i8 x.Z) = V50 at *
  go_wp2_with (first | (refine nd_load rfl (.tmp 3) rfl b ⟨3, x.na, 0, 0, 0, 0, x.O, x.Z, 0, x.WA, x.nW, x.cW, x.BA, x.nB, x.cB, x.m1, x.s1, x.z1, 0, 0, 0, x.lo, x.hi⟩ rfl HP.out.1 ?_) | (refine nd_store rfl (.tmp 2) (.tmp 78) rfl (w.heap.size + 1) Nd.zero ⟨3, x.na, 0, 0, 0, 0, x.O, x.Z, 0, x.WA, x.nW, x.cW, x.BA, x.nB, x.cB, x.m1, x.s1, x.z1, 0, 0, 0, x.lo, x.hi⟩ rfl rfl HR.out ?_; rintro W2 hp hb1 hs1))
  refine bodyPost_ret (nd_result rfl _ _ (w.heap.size + 1) ⟨3, x.na, 0, 0, 0, 0, x.O, x.Z, 0, x.WA, x.nW, x.cW, x.BA, x.nB, x.cB, x.m1, x.s1, x.z1, 0, 0, 0, x.lo, x.hi⟩ rfl hp.1) rfl ?_
  exact ⟨rfl, HB.out.trans (hb1.mono (Nat.le_succ _))⟩
set_option maxRecDepth 100000 in
set_option maxHeartbeats 4000000 in
theorem own_5 (x : Nd) (hk : x.kd = 5) (w : World) :
    Calls Tryd.prog 20 #[.agg x.val] w fun e w' => e = .returned (.agg (x.ownK 5).val) ∧ Below w.heap.size w w' := by
  have TN := Lib.hid (NdAt.new x 28 w)
  have HK := Lib.hid hk
  clear hk
  go_enter Tryd.func20, Tryd.ntmps20
  go_upto_region 1 with fail
  have HR : Hid (NdBox (w.heap.size + 1) Nd.zero ((w.alloc (.cells x.val 28)).alloc (.cells Nd.zero.val 28))) := Lib.hid (by have := NdBox.new Nd.zero 28 (w.alloc (.cells x.val 28)); rwa [World.size_alloc] at this)
  replace TN := Lib.hid (TN.out.below (B := w.heap.size + 1) (Nat.lt_succ_self _) ((Below.refl _ _).alloc (by simp) (.cells Nd.zero.val 28)))
  have HB := Lib.hid (((Below.refl w.heap.size w).alloc (Nat.le_refl _) (.cells x.val 28)).alloc (by simp) (.cells Nd.zero.val 28))
  have HS : Hid (((w.alloc (.cells x.val 28)).alloc (.cells Nd.zero.val 28)).heap.size = w.heap.size + 2) := Lib.hid (by simp)
  generalize h : (w.alloc (.cells x.val 28)).alloc (.cells Nd.zero.val 28) = W0 at TN HR HB HS
  rw [show (w.alloc (Obj.cells x.val 28)).alloc (Obj.cells #[.int .i64 0, .int .i64 0, .int .i64 0, .int .i64 0, .int .i64 0, .int .i64 0, .int .i64 0, .int .i8 0, .int .i8 0, .slice none 0 0, .slice none 0 0, .int .i32 0, .int .i64 0, .int .i8 0, .int .i32 0, .int .i64 0, .int .i8 0, .int .i8 0, .int .i8 0] 28) = W0 from h]
  clear h
  have q0 : W0.cell? ⟨w.heap.size, 0, none⟩ = some (.int .i64 5) := TN.out.at 0 _ (by show some (Value.int .i64 x.kd) = _; rw [HK.out])
  have q1 := TN.out.at 1 (.int .i64 x.na) rfl
  go_upto_region 2 with (refine nd_store rfl (.tmp 3) (.tmp 8) rfl _ Nd.zero ⟨5, x.na, 0, 0, 0, 0, 0, 0, 0, none, 0, 0, none, 0, 0, 0, 0, 0, 0, 0, 0, 0, 0⟩ rfl rfl (NdBox.new Nd.zero _ _) ?_; rintro W1 hp hb1 hs1)
  replace TN := Lib.hid (TN.out.below (by rw [HS.out]; omega) (((Below.refl _ _).alloc (Nat.le_refl _) _).trans hb1))
  replace HR := Lib.hid (HR.out.below (by rw [HS.out]; omega) (((Below.refl _ _).alloc (Nat.le_refl _) _).trans hb1))
  replace HB := Lib.hid (HB.out.trans ((((Below.refl _ _).alloc (Nat.le_refl _) _).trans hb1).mono (by rw [HS.out]; omega)))
  have HP := Lib.hid hp
  have HL : Hid (w.heap.size + 1 < W0.heap.size) := Lib.hid (by rw [HS.out]; omega)
  clear hp hb1 hs1 HS q0 q1
  generalize W0.heap.size = b at *
  clear W0
  have q0 : W1.cell? ⟨w.heap.size, 0, none⟩ = some (.int .i64 5) := TN.out.at 0 _ (by show some (Value.int .i64 x.kd) = _; rw [HK.out])
  go_upto_region 22 with fail
  clear q0
  have hb := (Below.refl b W1).drew
  replace HP := Lib.hid (HP.out.below (Nat.lt_succ_self b) (Below.refl (b + 1) W1).drew)
  replace HR := Lib.hid (HR.out.below HL.out hb)
  replace HB := Lib.hid (HB.out.trans (hb.mono (Nat.le_of_lt (Nat.lt_of_succ_lt HL.out))))
  refine wp_region_held_drew (S := NdAt w.heap.size x) (by kernel_rfl) (TN.out.below (Nat.lt_of_succ_lt HL.out) hb) (fun hHeld => ?_)
  clear hb TN
  generalize W1.drew = V51 at *
  refine Tk.x 0 rfl ?_
  try simp only [Tk.put]
  refine Tk.y 1 (v := (.int .i64 x.K)) rfl ?_ ?_
  · intro wS hSw
    have q := hSw.at 3 (.int .i64 x.K) rfl
    first | (go_simp; done) | (go_simp; with_reducible rfl)
  try simp only [Tk.put]
  refine Tk.x 2 rfl ?_
  try simp only [Tk.put]
  refine Tk.y 3 (v := (.int .i64 x.S)) rfl ?_ ?_
  · intro wS hSw
    have q := hSw.at 4 (.int .i64 x.S) rfl
    first | (go_simp; done) | (go_simp; with_reducible rfl)
  try simp only [Tk.put]
  refine Tk.x 4 rfl ?_
  try simp only [Tk.put]
  refine Tk.s 5 rfl (fun Kq hK => ?_)
  have c3 := HP.out.1.at 3 _ rfl
  have f3 := HP.out.fr 3 (by decide)
  go_simp
  clear c3 f3
  have hS2 := hHeld.below (Nat.lt_of_succ_lt HL.out) ((Below.refl b V51).setCell (p := ⟨b, 3, none⟩) (Nat.le_refl _) (.int .i64 x.K))
  clear hHeld
  have hb := ((Below.refl b V51).setCell (p := ⟨b, 3, none⟩) (Nat.le_refl _) (.int .i64 x.K))
  replace HP := Lib.hid (NdBox.set (y := ⟨5, x.na, 0, x.K, 0, 0, 0, 0, 0, none, 0, 0, none, 0, 0, 0, 0, 0, 0, 0, 0, 0, 0⟩) HP.out 3 (.int .i64 x.K) (by decide) rfl)
  replace HR := Lib.hid (HR.out.below HL.out hb)
  replace HB := Lib.hid (HB.out.trans (hb.mono (Nat.le_of_lt (Nat.lt_of_succ_lt HL.out))))
  clear hb
  generalize (V51).setCell ⟨b, 3, none⟩ (.int .i64 x.K) = V52 at *
  refine hK.out _ _ hS2 (fun hHeld => ?_)
  clear hK Kq hS2
  try simp only [Tk.put]
  refine Tk.x 6 rfl ?_
  try simp only [Tk.put]
  refine Tk.s 7 rfl (fun Kq hK => ?_)
  have c4 := HP.out.1.at 4 _ rfl
  have f4 := HP.out.fr 4 (by decide)
  go_simp
  clear c4 f4
  have hS2 := hHeld.below (Nat.lt_of_succ_lt HL.out) ((Below.refl b V52).setCell (p := ⟨b, 4, none⟩) (Nat.le_refl _) (.int .i64 x.S))
  clear hHeld
  have hb := ((Below.refl b V52).setCell (p := ⟨b, 4, none⟩) (Nat.le_refl _) (.int .i64 x.S))
  replace HP := Lib.hid (NdBox.set (y := ⟨5, x.na, 0, x.K, x.S, 0, 0, 0, 0, none, 0, 0, none, 0, 0, 0, 0, 0, 0, 0, 0, 0, 0⟩) HP.out 4 (.int .i64 x.S) (by decide) rfl)
  replace HR := Lib.hid (HR.out.below HL.out hb)
  replace HB := Lib.hid (HB.out.trans (hb.mono (Nat.le_of_lt (Nat.lt_of_succ_lt HL.out))))
  clear hb
  generalize (V52).setCell ⟨b, 4, none⟩ (.int .i64 x.S) = V53 at *
  refine hK.out _ _ hS2 (fun hHeld => ?_)
  clear hK Kq hS2
  try simp only [Tk.put]
  refine wpAnyH_done (by kernel_rfl) ?_ _
  have TN := Lib.hid hHeld
  clear hHeld
  have q0 : V53.cell? ⟨w.heap.size, 0, none⟩ = some (.int .i64 5) := TN.out.at 0 _ (by show some (Value.int .i64 x.kd) = _; rw [HK.out])
  have q5 := TN.out.at 5 (.int .i64 x.P) rfl
  have c5 := HP.out.1.at 5 _ rfl
  have f5 := HP.out.fr 5 (by decide)
  go_upto_region 24 with fail
  clear q0 q5 c5 f5
  have hb := ((Below.refl b V53).setCell (p := ⟨b, 5, none⟩) (Nat.le_refl _) (.int .i64 x.P))
  replace HP := Lib.hid (NdBox.set (y := ⟨5, x.na, 0, x.K, x.S, x.P, 0, 0, 0, none, 0, 0, none, 0, 0, 0, 0, 0, 0, 0, 0, 0, 0⟩) HP.out 5 (.int .i64 x.P) (by decide) rfl)
  replace TN := Lib.hid (TN.out.below (Nat.lt_of_succ_lt HL.out) hb)
  replace HR := Lib.hid (HR.out.below HL.out hb)
  replace HB := Lib.hid (HB.out.trans (hb.mono (Nat.le_of_lt (Nat.lt_of_succ_lt HL.out))))
  clear hb
  generalize (V53).setCell ⟨b, 5, none⟩ (.int .i64 x.P) = V54 at *
  go_wp2_with (first | (refine nd_load rfl (.tmp 3) rfl b ⟨5, x.na, 0, x.K, x.S, x.P, 0, 0, 0, none, 0, 0, none, 0, 0, 0, 0, 0, 0, 0, 0, 0, 0⟩ rfl HP.out.1 ?_) | (refine nd_store rfl (.tmp 2) (.tmp 78) rfl (w.heap.size + 1) Nd.zero ⟨5, x.na, 0, x.K, x.S, x.P, 0, 0, 0, none, 0, 0, none, 0, 0, 0, 0, 0, 0, 0, 0, 0, 0⟩ rfl rfl HR.out ?_; rintro W2 hp hb1 hs1))
  refine bodyPost_ret (nd_result rfl _ _ (w.heap.size + 1) ⟨5, x.na, 0, x.K, x.S, x.P, 0, 0, 0, none, 0, 0, none, 0, 0, 0, 0, 0, 0, 0, 0, 0, 0⟩ rfl hp.1) rfl ?_
  exact ⟨rfl, HB.out.trans (hb1.mono (Nat.le_succ _))⟩
set_option maxRecDepth 100000 in
set_option maxHeartbeats 4000000 in
theorem own_7 (x : Nd) (hk : x.kd = 7) (w : World) :
    Calls Tryd.prog 20 #[.agg x.val] w fun e w' => e = .returned (.agg (x.ownK 7).val) ∧ Below w.heap.size w w' := by
  have TN := Lib.hid (NdAt.new x 28 w)
  have HK := Lib.hid hk
  clear hk
  go_enter Tryd.func20, Tryd.ntmps20
  go_upto_region 1 with fail
  have HR : Hid (NdBox (w.heap.size + 1) Nd.zero ((w.alloc (.cells x.val 28)).alloc (.cells Nd.zero.val 28))) := Lib.hid (by have := NdBox.new Nd.zero 28 (w.alloc (.cells x.val 28)); rwa [World.size_alloc] at this)
  replace TN := Lib.hid (TN.out.below (B := w.heap.size + 1) (Nat.lt_succ_self _) ((Below.refl _ _).alloc (by simp) (.cells Nd.zero.val 28)))
  have HB := Lib.hid (((Below.refl w.heap.size w).alloc (Nat.le_refl _) (.cells x.val 28)).alloc (by simp) (.cells Nd.zero.val 28))
  have HS : Hid (((w.alloc (.cells x.val 28)).alloc (.cells Nd.zero.val 28)).heap.size = w.heap.size + 2) := Lib.hid (by simp)
  generalize h : (w.alloc (.cells x.val 28)).alloc (.cells Nd.zero.val 28) = W0 at TN HR HB HS
  rw [show (w.alloc (Obj.cells x.val 28)).alloc (Obj.cells #[.int .i64 0, .int .i64 0, .int .i64 0, .int .i64 0, .int .i64 0, .int .i64 0, .int .i64 0, .int .i8 0, .int .i8 0, .slice none 0 0, .slice none 0 0, .int .i32 0, .int .i64 0, .int .i8 0, .int .i32 0, .int .i64 0, .int .i8 0, .int .i8 0, .int .i8 0] 28) = W0 from h]
  clear h
  have q0 : W0.cell? ⟨w.heap.size, 0, none⟩ = some (.int .i64 7) := TN.out.at 0 _ (by show some (Value.int .i64 x.kd) = _; rw [HK.out])
  have q1 := TN.out.at 1 (.int .i64 x.na) rfl
  go_upto_region 2 with (refine nd_store rfl (.tmp 3) (.tmp 8) rfl _ Nd.zero ⟨7, x.na, 0, 0, 0, 0, 0, 0, 0, none, 0, 0, none, 0, 0, 0, 0, 0, 0, 0, 0, 0, 0⟩ rfl rfl (NdBox.new Nd.zero _ _) ?_; rintro W1 hp hb1 hs1)
  replace TN := Lib.hid (TN.out.below (by rw [HS.out]; omega) (((Below.refl _ _).alloc (Nat.le_refl _) _).trans hb1))
  replace HR := Lib.hid (HR.out.below (by rw [HS.out]; omega) (((Below.refl _ _).alloc (Nat.le_refl _) _).trans hb1))
  replace HB := Lib.hid (HB.out.trans ((((Below.refl _ _).alloc (Nat.le_refl _) _).trans hb1).mono (by rw [HS.out]; omega)))
  have HP := Lib.hid hp
  have HL : Hid (w.heap.size + 1 < W0.heap.size) := Lib.hid (by rw [HS.out]; omega)
  clear hp hb1 hs1 HS q0 q1
  generalize W0.heap.size = b at *
  clear W0
  have q0 : W1.cell? ⟨w.heap.size, 0, none⟩ = some (.int .i64 7) := TN.out.at 0 _ (by show some (Value.int .i64 x.kd) = _; rw [HK.out])
  go_upto_region 11 with fail
  clear q0
  have hb := (Below.refl b W1).drew
  replace HP := Lib.hid (HP.out.below (Nat.lt_succ_self b) (Below.refl (b + 1) W1).drew)
  replace HR := Lib.hid (HR.out.below HL.out hb)
  replace HB := Lib.hid (HB.out.trans (hb.mono (Nat.le_of_lt (Nat.lt_of_succ_lt HL.out))))
  refine wp_region_held_drew (S := NdAt w.heap.size x) (by kernel_rfl) (TN.out.below (Nat.lt_of_succ_lt HL.out) hb) (fun hHeld => ?_)
  clear hb TN
  generalize W1.drew = V55 at *
  refine Tk.x 0 rfl ?_
  try simp only [Tk.put]
  refine Tk.y 1 (v := .agg #[.int .i32 x.m1, .int .i64 x.s1, .int .i8 x.z1]) rfl ?_ ?_
  · intro wS hSw
    have q := hSw.at 11 (.int .i32 x.m1) rfl
    have q2 := hSw.at 12 (.int .i64 x.s1) rfl
    have q3 := hSw.at 13 (.int .i8 x.z1) rfl
    first | (go_simp; done) | (go_simp; with_reducible rfl)
  try simp only [Tk.put]
  refine Tk.x 2 rfl ?_
  try simp only [Tk.put]
  refine Tk.y 3 (v := (.int .i8 x.lo)) rfl ?_ ?_
  · intro wS hSw
    have q := hSw.at 17 (.int .i8 x.lo) rfl
    first | (go_simp; done) | (go_simp; with_reducible rfl)
  try simp only [Tk.put]
  refine Tk.x 4 rfl ?_
  try simp only [Tk.put]
  refine Tk.y 5 (v := (.int .i8 x.hi)) rfl ?_ ?_
  · intro wS hSw
    have q := hSw.at 18 (.int .i8 x.hi) rfl
    first | (go_simp; done) | (go_simp; with_reducible rfl)
  try simp only [Tk.put]
  refine Tk.x 6 rfl ?_
  try simp only [Tk.put]
  refine Tk.s 7 rfl (fun Kq hK => ?_)
  have c11 := HP.out.1.at 11 _ rfl
  have f11 := HP.out.fr 11 (by decide)
  have c12 := HP.out.1.at 12 _ rfl
  have f12 := HP.out.fr 12 (by decide)
  have c13 := HP.out.1.at 13 _ rfl
  have f13 := HP.out.fr 13 (by decide)
  go_simp
  clear c11 f11 c12 f12 c13 f13
  have hS2 := hHeld.below (Nat.lt_of_succ_lt HL.out) ((((Below.refl b V55).setCell (p := ⟨b, 11, none⟩) (Nat.le_refl _) (.int .i32 x.m1)).setCell (p := ⟨b, 12, none⟩) (Nat.le_refl _) (.int .i64 x.s1)).setCell (p := ⟨b, 13, none⟩) (Nat.le_refl _) (.int .i8 x.z1))
  clear hHeld
  have hb := ((((Below.refl b V55).setCell (p := ⟨b, 11, none⟩) (Nat.le_refl _) (.int .i32 x.m1)).setCell (p := ⟨b, 12, none⟩) (Nat.le_refl _) (.int .i64 x.s1)).setCell (p := ⟨b, 13, none⟩) (Nat.le_refl _) (.int .i8 x.z1))
  replace HP := Lib.hid (NdBox.set (y := ⟨7, x.na, 0, 0, 0, 0, 0, 0, 0, none, 0, 0, none, 0, 0, x.m1, x.s1, x.z1, 0, 0, 0, 0, 0⟩) (NdBox.set (y := ⟨7, x.na, 0, 0, 0, 0, 0, 0, 0, none, 0, 0, none, 0, 0, x.m1, x.s1, 0, 0, 0, 0, 0, 0⟩) (NdBox.set (y := ⟨7, x.na, 0, 0, 0, 0, 0, 0, 0, none, 0, 0, none, 0, 0, x.m1, 0, 0, 0, 0, 0, 0, 0⟩) HP.out 11 (.int .i32 x.m1) (by decide) rfl) 12 (.int .i64 x.s1) (by decide) rfl) 13 (.int .i8 x.z1) (by decide) rfl)
  replace HR := Lib.hid (HR.out.below HL.out hb)
  replace HB := Lib.hid (HB.out.trans (hb.mono (Nat.le_of_lt (Nat.lt_of_succ_lt HL.out))))
  clear hb
  generalize (((V55).setCell ⟨b, 11, none⟩ (.int .i32 x.m1)).setCell ⟨b, 12, none⟩ (.int .i64 x.s1)).setCell ⟨b, 13, none⟩ (.int .i8 x.z1) = V56 at *
  refine hK.out _ _ hS2 (fun hHeld => ?_)
  clear hK Kq hS2
  try simp only [Tk.put]
  refine Tk.x 8 rfl ?_
  try simp only [Tk.put]
  refine Tk.s 9 rfl (fun Kq hK => ?_)
  have c17 := HP.out.1.at 17 _ rfl
  have f17 := HP.out.fr 17 (by decide)
  go_simp
  clear c17 f17
  have hS2 := hHeld.below (Nat.lt_of_succ_lt HL.out) ((Below.refl b V56).setCell (p := ⟨b, 17, none⟩) (Nat.le_refl _) (.int .i8 x.lo))
  clear hHeld
  have hb := ((Below.refl b V56).setCell (p := ⟨b, 17, none⟩) (Nat.le_refl _) (.int .i8 x.lo))
  replace HP := Lib.hid (NdBox.set (y := ⟨7, x.na, 0, 0, 0, 0, 0, 0, 0, none, 0, 0, none, 0, 0, x.m1, x.s1, x.z1, 0, 0, 0, x.lo, 0⟩) HP.out 17 (.int .i8 x.lo) (by decide) rfl)
  replace HR := Lib.hid (HR.out.below HL.out hb)
  replace HB := Lib.hid (HB.out.trans (hb.mono (Nat.le_of_lt (Nat.lt_of_succ_lt HL.out))))
  clear hb
  generalize (V56).setCell ⟨b, 17, none⟩ (.int .i8 x.lo) = V57 at *
  refine hK.out _ _ hS2 (fun hHeld => ?_)
  clear hK Kq hS2
  try simp only [Tk.put]
  refine Tk.x 10 rfl ?_
  try simp only [Tk.put]
  refine Tk.s 11 rfl (fun Kq hK => ?_)
  have c18 := HP.out.1.at 18 _ rfl
  have f18 := HP.out.fr 18 (by decide)
  go_simp
  clear c18 f18
  have hS2 := hHeld.below (Nat.lt_of_succ_lt HL.out) ((Below.refl b V57).setCell (p := ⟨b, 18, none⟩) (Nat.le_refl _) (.int .i8 x.hi))
  clear hHeld
  have hb := ((Below.refl b V57).setCell (p := ⟨b, 18, none⟩) (Nat.le_refl _) (.int .i8 x.hi))
  replace HP := Lib.hid (NdBox.set (y := ⟨7, x.na, 0, 0, 0, 0, 0, 0, 0, none, 0, 0, none, 0, 0, x.m1, x.s1, x.z1, 0, 0, 0, x.lo, x.hi⟩) HP.out 18 (.int .i8 x.hi) (by decide) rfl)
  replace HR := Lib.hid (HR.out.below HL.out hb)
  replace HB := Lib.hid (HB.out.trans (hb.mono (Nat.le_of_lt (Nat.lt_of_succ_lt HL.out))))
  clear hb
  generalize (V57).setCell ⟨b, 18, none⟩ (.int .i8 x.hi) = V58 at *
  refine hK.out _ _ hS2 (fun hHeld => ?_)
  clear hK Kq hS2
  try simp only [Tk.put]
  refine wpAnyH_done (by kernel_rfl) ?_ _
  have TN := Lib.hid hHeld
  clear hHeld
  have q0 : V58.cell? ⟨w.heap.size, 0, none⟩ = some (.int .i64 7) := TN.out.at 0 _ (by show some (Value.int .i64 x.kd) = _; rw [HK.out])
  have q7 := TN.out.at 7 (.int .i8 x.Z) rfl
  have c7 := HP.out.1.at 7 _ rfl
  have f7 := HP.out.fr 7 (by decide)
  go_upto_region 24 with fail
  clear q0 q7 c7 f7
  have hb := ((Below.refl b V58).setCell (p := ⟨b, 7, none⟩) (Nat.le_refl _) (.int .i8 x.Z))
  replace HP := Lib.hid (NdBox.set (y := ⟨7, x.na, 0, 0, 0, 0, 0, x.Z, 0, none, 0, 0, none, 0, 0, x.m1, x.s1, x.z1, 0, 0, 0, x.lo, x.hi⟩) HP.out 7 (.int .i8 x.Z) (by decide) rfl)
  replace TN := Lib.hid (TN.out.below (Nat.lt_of_succ_lt HL.out) hb)
  replace HR := Lib.hid (HR.out.below HL.out hb)
  replace HB := Lib.hid (HB.out.trans (hb.mono (Nat.le_of_lt (Nat.lt_of_succ_lt HL.out))))
  clear hb
  generalize (V58).setCell ⟨b, 7, none⟩ (.int .i8 x.Z) = V59 at *
  go_wp2_with (first | (refine nd_load rfl (.tmp 3) rfl b ⟨7, x.na, 0, 0, 0, 0, 0, x.Z, 0, none, 0, 0, none, 0, 0, x.m1, x.s1, x.z1, 0, 0, 0, x.lo, x.hi⟩ rfl HP.out.1 ?_) | (refine nd_store rfl (.tmp 2) (.tmp 78) rfl (w.heap.size + 1) Nd.zero ⟨7, x.na, 0, 0, 0, 0, 0, x.Z, 0, none, 0, 0, none, 0, 0, x.m1, x.s1, x.z1, 0, 0, 0, x.lo, x.hi⟩ rfl rfl HR.out ?_; rintro W2 hp hb1 hs1))
  refine bodyPost_ret (nd_result rfl _ _ (w.heap.size + 1) ⟨7, x.na, 0, 0, 0, 0, 0, x.Z, 0, none, 0, 0, none, 0, 0, x.m1, x.s1, x.z1, 0, 0, 0, x.lo, x.hi⟩ rfl hp.1) rfl ?_
  exact ⟨rfl, HB.out.trans (hb1.mono (Nat.le_succ _))⟩
set_option maxRecDepth 100000 in
set_option maxHeartbeats 4000000 in
theorem own_9 (x : Nd) (hk : x.kd = 9) (w : World) :
    Calls Tryd.prog 20 #[.agg x.val] w fun e w' => e = .returned (.agg (x.ownK 9).val) ∧ Below w.heap.size w w' := by
  have TN := Lib.hid (NdAt.new x 28 w)
  have HK := Lib.hid hk
  clear hk
  go_enter Tryd.func20, Tryd.ntmps20
  go_upto_region 1 with fail
  have HR : Hid (NdBox (w.heap.size + 1) Nd.zero ((w.alloc (.cells x.val 28)).alloc (.cells Nd.zero.val 28))) := Lib.hid (by have := NdBox.new Nd.zero 28 (w.alloc (.cells x.val 28)); rwa [World.size_alloc] at this)
  replace TN := Lib.hid (TN.out.below (B := w.heap.size + 1) (Nat.lt_succ_self _) ((Below.refl _ _).alloc (by simp) (.cells Nd.zero.val 28)))
  have HB := Lib.hid (((Below.refl w.heap.size w).alloc (Nat.le_refl _) (.cells x.val 28)).alloc (by simp) (.cells Nd.zero.val 28))
  have HS : Hid (((w.alloc (.cells x.val 28)).alloc (.cells Nd.zero.val 28)).heap.size = w.heap.size + 2) := Lib.hid (by simp)
  generalize h : (w.alloc (.cells x.val 28)).alloc (.cells Nd.zero.val 28) = W0 at TN HR HB HS
  rw [show (w.alloc (Obj.cells x.val 28)).alloc (Obj.cells #[.int .i64 0, .int .i64 0, .int .i64 0, .int .i64 0, .int .i64 0, .int .i64 0, .int .i64 0, .int .i8 0, .int .i8 0, .slice none 0 0, .slice none 0 0, .int .i32 0, .int .i64 0, .int .i8 0, .int .i32 0, .int .i64 0, .int .i8 0, .int .i8 0, .int .i8 0] 28) = W0 from h]
  clear h
  have q0 : W0.cell? ⟨w.heap.size, 0, none⟩ = some (.int .i64 9) := TN.out.at 0 _ (by show some (Value.int .i64 x.kd) = _; rw [HK.out])
  have q1 := TN.out.at 1 (.int .i64 x.na) rfl
  go_upto_region 2 with (refine nd_store rfl (.tmp 3) (.tmp 8) rfl _ Nd.zero ⟨9, x.na, 0, 0, 0, 0, 0, 0, 0, none, 0, 0, none, 0, 0, 0, 0, 0, 0, 0, 0, 0, 0⟩ rfl rfl (NdBox.new Nd.zero _ _) ?_; rintro W1 hp hb1 hs1)
  replace TN := Lib.hid (TN.out.below (by rw [HS.out]; omega) (((Below.refl _ _).alloc (Nat.le_refl _) _).trans hb1))
  replace HR := Lib.hid (HR.out.below (by rw [HS.out]; omega) (((Below.refl _ _).alloc (Nat.le_refl _) _).trans hb1))
  replace HB := Lib.hid (HB.out.trans ((((Below.refl _ _).alloc (Nat.le_refl _) _).trans hb1).mono (by rw [HS.out]; omega)))
  have HP := Lib.hid hp
  have HL : Hid (w.heap.size + 1 < W0.heap.size) := Lib.hid (by rw [HS.out]; omega)
  clear hp hb1 hs1 HS q0 q1
  generalize W0.heap.size = b at *
  clear W0
  have q0 : W1.cell? ⟨w.heap.size, 0, none⟩ = some (.int .i64 9) := TN.out.at 0 _ (by show some (Value.int .i64 x.kd) = _; rw [HK.out])
  go_wp2_with (first | (refine nd_load rfl (.tmp 3) rfl b ⟨9, x.na, 0, 0, 0, 0, 0, 0, 0, none, 0, 0, none, 0, 0, 0, 0, 0, 0, 0, 0, 0, 0⟩ rfl HP.out.1 ?_) | (refine nd_store rfl (.tmp 2) (.tmp 78) rfl (w.heap.size + 1) Nd.zero ⟨9, x.na, 0, 0, 0, 0, 0, 0, 0, none, 0, 0, none, 0, 0, 0, 0, 0, 0, 0, 0, 0, 0⟩ rfl rfl HR.out ?_; rintro W2 hp hb1 hs1))
  refine bodyPost_ret (nd_result rfl _ _ (w.heap.size + 1) ⟨9, x.na, 0, 0, 0, 0, 0, 0, 0, none, 0, 0, none, 0, 0, 0, 0, 0, 0, 0, 0, 0, 0⟩ rfl hp.1) rfl ?_
  exact ⟨rfl, HB.out.trans (hb1.mono (Nat.le_succ _))⟩
end Go.Proofs.YtamcdpkakdiggaaDoor.CKind
end
section
namespace Go.Proofs.YtamcdpkakdiggaaDoor.CKind
open Go Go.ChangeShapes Go.WideShapes Go.ChangeAt Go.RowKit Go.Deep
open Plain CSat CShape CTensor CConv
set_option linter.unusedVariables false
set_option linter.unusedSimpArgs false
theorem own_to (x : Nd) (h : 1 ≤ x.kd ∧ x.kd ≤ 9) (w : World) :
    Calls Tryd.prog 20 #[.agg x.val] w fun e w' => e = .returned (.agg (x.ownK x.kd).val) ∧ Below w.heap.size w w' := by
  have : x.kd = 1 ∨ x.kd = 2 ∨ x.kd = 3 ∨ x.kd = 4 ∨ x.kd = 5 ∨ x.kd = 6 ∨ x.kd = 7 ∨ x.kd = 8 ∨ x.kd = 9 := by omega
  rcases this with h | h | h | h | h | h | h | h | h
  · rw [h]; exact own_1 x h w
  · rw [h]; exact own_2 x h w
  · rw [h]; exact own_3 x h w
  · rw [h]; exact own_4 x h w
  · rw [h]; exact own_5 x h w
  · rw [h]; exact own_6 x h w
  · rw [h]; exact own_7 x h w
  · rw [h]; exact own_8 x h w
  · rw [h]; exact own_9 x h w
end Go.Proofs.YtamcdpkakdiggaaDoor.CKind
end
section
namespace Go.Proofs.YtamcdpkakdiggaaDoor.CKind
open Go Go.ChangeShapes Go.WideShapes Go.ChangeAt Go.RowKit Go.Deep
open Plain CSat CShape CTensor CConv
set_option linter.unusedVariables false
set_option linter.unusedSimpArgs false
/-- numbers of 8 bits. -/
def Nd.Small (x : Nd) : Prop := (-128 ≤ x.Z ∧ x.Z ≤ 127) ∧ (-128 ≤ x.Y ∧ x.Y ≤ 127) ∧ (-128 ≤ x.lo ∧ x.lo ≤ 127) ∧ (-128 ≤ x.hi ∧ x.hi ≤ 127)
/-- what only some kinds have, beside lists and scales. -/
def Nd.nine (x : Nd) : Array Value := #[.int .i64 x.nb, .int .i64 x.K, .int .i64 x.S, .int .i64 x.P, .int .i64 x.O, .int .i64 x.Z, .int .i64 x.Y, .int .i64 x.lo, .int .i64 x.hi]
theorem there_new9 (w : World) {cs : Array Value} (T : TypeId) {n : Nat} (h : cs.size = n) : (w.alloc (.cells cs T)).there w.heap.size 0 n := fun j hj => by
  rw [Nat.zero_add]
  constructor
  · rw [Kit.new_cell]
    simp [h, hj]
  · unfold World.frozen?; rw [heap_alloc_new]; rfl
theorem setCells_below {g B : Nat} (hg : B ≤ g) : ∀ (vs : List Value) (o : Nat) (w : World), Below B w (w.setCells g o vs)
  | [], _, w => Below.refl _ _
  | v :: vs, o, w => ((Below.refl B w).setCell (p := ⟨g, o, none⟩) hg v).trans (setCells_below hg vs (o + 1) _)
set_option maxRecDepth 100000 in
set_option maxHeartbeats 4000000 in
theorem numbers_to (x : Nd) (hx : x.Small) (w : World) :
    Calls Tryd.prog 41 #[.agg x.val] w fun e w' => e = .returned (.agg x.nine) ∧ Below w.heap.size w w' := by
  obtain ⟨⟨z0, z1⟩, ⟨y0, y1⟩, ⟨l0, l1⟩, ⟨h0, h1⟩⟩ := hx
  have i7 : IntKind.i64.wrap x.Z = x.Z := IntWalk.i64_in _ (by omega)
  have i8 : IntKind.i64.wrap x.Y = x.Y := IntWalk.i64_in _ (by omega)
  have i17 : IntKind.i64.wrap x.lo = x.lo := IntWalk.i64_in _ (by omega)
  have i18 : IntKind.i64.wrap x.hi = x.hi := IntWalk.i64_in _ (by omega)
  clear z0 z1 y0 y1 l0 l1 h0 h1
  have TN := Lib.hid (NdAt.new x 28 w)
  go_enter Tryd.func41, Tryd.ntmps41
  go_upto_region 1 with fail
  have hth := there_new9 (w.alloc (.cells x.val 28)) (cs := #[.int .i64 0, .int .i64 0, .int .i64 0, .int .i64 0, .int .i64 0, .int .i64 0, .int .i64 0, .int .i64 0, .int .i64 0]) 63 (n := 9) rfl
  rw [World.size_alloc] at hth
  have HT := Lib.hid hth
  clear hth
  replace TN := Lib.hid (TN.out.below (B := w.heap.size + 1) (Nat.lt_succ_self _) ((Below.refl _ _).alloc (by simp) (.cells #[.int .i64 0, .int .i64 0, .int .i64 0, .int .i64 0, .int .i64 0, .int .i64 0, .int .i64 0, .int .i64 0, .int .i64 0] 63)))
  have HB := Lib.hid (((Below.refl w.heap.size w).alloc (Nat.le_refl _) (.cells x.val 28)).alloc (by simp) (.cells #[.int .i64 0, .int .i64 0, .int .i64 0, .int .i64 0, .int .i64 0, .int .i64 0, .int .i64 0, .int .i64 0, .int .i64 0] 63))
  generalize (w.alloc (.cells x.val 28)).alloc (.cells #[.int .i64 0, .int .i64 0, .int .i64 0, .int .i64 0, .int .i64 0, .int .i64 0, .int .i64 0, .int .i64 0, .int .i64 0] 63) = W0 at TN HT HB ⊢
  have n2 := TN.out.at 2 (.int .i64 x.nb) rfl
  have n3 := TN.out.at 3 (.int .i64 x.K) rfl
  have n4 := TN.out.at 4 (.int .i64 x.S) rfl
  have n5 := TN.out.at 5 (.int .i64 x.P) rfl
  have n6 := TN.out.at 6 (.int .i64 x.O) rfl
  have n7 := TN.out.at 7 (.int .i8 x.Z) rfl
  have n8 := TN.out.at 8 (.int .i8 x.Y) rfl
  have n17 := TN.out.at 17 (.int .i8 x.lo) rfl
  have n18 := TN.out.at 18 (.int .i8 x.hi) rfl
  go_wp2_with (refine wpList_store_mid rfl 63 (.tmp 2) (.tmp 25) rfl (w.heap.size + 1) 0 x.nine rfl rfl HT.out (by kernel_rfl) (by simp [Nd.nine, Value.oneCell']) ?_; have HQ := Lib.hid (World.rangeAt_setCells_same W0 (w.heap.size + 1) 0 x.nine.toList HT.out); have HZ : Hid (Below w.heap.size W0 (W0.setCells (w.heap.size + 1) 0 x.nine.toList)) := Lib.hid (setCells_below (Nat.le_succ _) _ _ _); generalize W0.setCells (w.heap.size + 1) 0 x.nine.toList = W1 at HQ HZ ⊢)
  refine bodyPost_ret (Kit.results_c rfl _ _ (w.heap.size + 1) 0 x.nine.toList _ rfl HQ.out Tryd.underlying63 rfl (by kernel_rfl)) rfl ?_
  exact ⟨rfl, HB.out.trans HZ.out⟩
/-- are the nine numbers alike? -/
def nineB (x y : Nd) : Bool := x.nb == y.nb && x.K == y.K && x.S == y.S && x.P == y.P && x.O == y.O && x.Z == y.Z && x.Y == y.Y && x.lo == y.lo && x.hi == y.hi
theorem eqNine (x y : Nd) (b : Bool) (hb : nineB x y = b) (w : World) : (Op.equalIn 10000 63 (.agg x.nine) (.agg y.nine)).run Tryd.prog w = .ok b w := by
  subst hb
  have u3 := Tryd.underlying3
  have a3 := Tryd.isAgg3
  have z3 := Tryd.sizeOf3
  unfold Nd.nine nineB
  rw [show (10000 : Nat) = 9999 + 1 from rfl, Op.equalIn]
  simp only [Sem.run_bind, run_underlying Tryd.underlying63, Result.andThen_ok]
  simp only [Std.Legacy.Range.forIn_eq_forIn_range', Std.Legacy.Range.size, Nat.sub_zero, Nat.add_sub_cancel, Nat.div_one, List.range'_succ, List.range'_zero, List.forIn_cons, List.forIn_nil]
  go_simp
  by_cases h0 : x.nb = y.nb
  rotate_left
  · simp [h0]
  by_cases h1 : x.K = y.K
  rotate_left
  · simp [h0, h1]
  by_cases h2 : x.S = y.S
  rotate_left
  · simp [h0, h1, h2]
  by_cases h3 : x.P = y.P
  rotate_left
  · simp [h0, h1, h2, h3]
  by_cases h4 : x.O = y.O
  rotate_left
  · simp [h0, h1, h2, h3, h4]
  by_cases h5 : x.Z = y.Z
  rotate_left
  · simp [h0, h1, h2, h3, h4, h5]
  by_cases h6 : x.Y = y.Y
  rotate_left
  · simp [h0, h1, h2, h3, h4, h5, h6]
  by_cases h7 : x.lo = y.lo
  rotate_left
  · simp [h0, h1, h2, h3, h4, h5, h6, h7]
  by_cases h8 : x.hi = y.hi
  rotate_left
  · simp [h0, h1, h2, h3, h4, h5, h6, h7, h8]
  simp [h0, h1, h2, h3, h4, h5, h6, h7, h8]
end Go.Proofs.YtamcdpkakdiggaaDoor.CKind
end
section
namespace Go.Proofs.YtamcdpkakdiggaaDoor.CKind
open Go Go.ChangeShapes Go.WideShapes Go.ChangeAt Go.RowKit Go.Deep
open Plain CSat CShape CTensor CConv
set_option linter.unusedVariables false
set_option linter.unusedSimpArgs false
theorem ksame_yes (A B : Option Addr) (zs : List Int) (n c d : Nat) (hn : n = zs.length) (hl : n ≤ 1000000) (w : World) {B1 B2 : Nat} (ha : Kit.Rd w B1 A (zs.map (.int .i8))) (hb : Kit.Rd w B2 B (zs.map (.int .i8))) :
    Calls Tryd.prog 39 #[.slice A n c, .slice B n d] w fun e w' => e = .returned (.bool true) ∧ ∃ m, w' = w.drewN m := by
  subst hn
  have HA := Lib.hid ha
  have HB := Lib.hid hb
  clear ha hb
  go_enter Tryd.func39, Tryd.ntmps39
  go_wp2_with fail
  go_loopw [5] (fun i wr => ∃ k nq : Nat, k ≤ zs.length ∧ i = .int .i64 k ∧ Hid (wr = w.drewN nq)) (fun i _ => zs.length - (intOf i).toNat)
  case atStart => exact ⟨0, 0, Nat.zero_le _, rfl, Lib.hid rfl⟩
  case round =>
    obtain ⟨k, nq, hk, rfl, hw⟩ := hrel
    obtain rfl := hw.out
    clear hw
    by_cases hlt : k < zs.length
    · obtain ⟨b, off, rfl, _, hx⟩ := HA.out.ints hlt
      obtain ⟨b2, off2, rfl, _, hy⟩ := HB.out.ints hlt
      generalize zs[k] = x at hx hy
      have h0 : (0 : Int) ≤ (k : Int) := by omega
      have h1 : (k : Int) < (zs.length : Int) := by omega
      go_wp2_with fail
      go_quiet (fail)
      go_wp2
      go_roundw
      case rel => exact ⟨k + 1, _, by omega, by go_num, Lib.hid rfl⟩
      case measure => simp [intOf]; omega
    · go_wp2_with fail
      go_ret
      exact ⟨rfl, nq, rfl⟩
theorem ksame32_yes (A B : Option Addr) (zs : List Int) (n c d : Nat) (hn : n = zs.length) (hl : n ≤ 1000000) (w : World) {B1 B2 : Nat} (ha : Kit.Rd w B1 A (zs.map (.int .i32))) (hb : Kit.Rd w B2 B (zs.map (.int .i32))) :
    Calls Tryd.prog 40 #[.slice A n c, .slice B n d] w fun e w' => e = .returned (.bool true) ∧ ∃ m, w' = w.drewN m := by
  subst hn
  have HA := Lib.hid ha
  have HB := Lib.hid hb
  clear ha hb
  go_enter Tryd.func40, Tryd.ntmps40
  go_wp2_with fail
  go_loopw [5] (fun i wr => ∃ k nq : Nat, k ≤ zs.length ∧ i = .int .i64 k ∧ Hid (wr = w.drewN nq)) (fun i _ => zs.length - (intOf i).toNat)
  case atStart => exact ⟨0, 0, Nat.zero_le _, rfl, Lib.hid rfl⟩
  case round =>
    obtain ⟨k, nq, hk, rfl, hw⟩ := hrel
    obtain rfl := hw.out
    clear hw
    by_cases hlt : k < zs.length
    · obtain ⟨b, off, rfl, _, hx⟩ := HA.out.ints hlt
      obtain ⟨b2, off2, rfl, _, hy⟩ := HB.out.ints hlt
      generalize zs[k] = x at hx hy
      have h0 : (0 : Int) ≤ (k : Int) := by omega
      have h1 : (k : Int) < (zs.length : Int) := by omega
      go_wp2_with fail
      go_quiet (fail)
      go_wp2
      go_roundw
      case rel => exact ⟨k + 1, _, by omega, by go_num, Lib.hid rfl⟩
      case measure => simp [intOf]; omega
    · go_wp2_with fail
      go_ret
      exact ⟨rfl, nq, rfl⟩
theorem eqQuantK (a b c x y z : Int) (w : World) : (Op.equalIn 10000 26 (.agg #[.int .i32 a, .int .i64 b, .int .i8 c]) (.agg #[.int .i32 x, .int .i64 y, .int .i8 z])).run Tryd.prog w = .ok (a == x && (b == y && c == z)) w := by
  have u1 := Tryd.underlying21
  have a1 := Tryd.isAgg21
  have z1 := Tryd.sizeOf21
  have u2 := Tryd.underlying22
  have a2 := Tryd.isAgg22
  have z2 := Tryd.sizeOf22
  have u3 := Tryd.underlying3
  have a3 := Tryd.isAgg3
  have z3 := Tryd.sizeOf3
  have hS : Tryd.prog.underlying 26 = some (.struct (Tryd.prog.fieldsOf 26)) := by kernel_rfl
  rw [show (10000 : Nat) = 9999 + 1 from rfl, run_equalIn_agg w 9999 26 _ _ hS Tryd.stoodInHeld26]
  simp only [Program.fieldsOf, Tryd.underlying26]
  go_simp
  by_cases h1 : a = x <;> by_cases h2 : b = y <;> by_cases h3 : c = z <;> simp [h1, h2, h3]
theorem ksame_len (A B : Option Addr) (n c m d : Nat) (hne : n ≠ m) (w : World) :
    Calls Tryd.prog 39 #[.slice A n c, .slice B m d] w fun e w' => e = .returned (.bool false) ∧ w' = w := by
  have hx : ((n : Int) != (m : Int)) = true := by simp; omega
  go_enter Tryd.func39, Tryd.ntmps39
  go_wp2_with fail
  go_ret
  exact ⟨rfl, rfl⟩
theorem ksame32_len (A B : Option Addr) (n c m d : Nat) (hne : n ≠ m) (w : World) :
    Calls Tryd.prog 40 #[.slice A n c, .slice B m d] w fun e w' => e = .returned (.bool false) ∧ w' = w := by
  have hx : ((n : Int) != (m : Int)) = true := by simp; omega
  go_enter Tryd.func40, Tryd.ntmps40
  go_wp2_with fail
  go_ret
  exact ⟨rfl, rfl⟩
end Go.Proofs.YtamcdpkakdiggaaDoor.CKind
end
