/- Texts of this seat, one behind the other: KindsCheckW, KindClone, KindPlainC, KindSameA, KindSameB. -/
import Derived.Deep.CutRange
import Derived.Deep.RegionHeld
import Derived.Laws.MakeOwn
import Derived.Laws.AppendOwn
import Derived.Lib.SliceRun
import Derived.Orders
import Derived.Test.YtamcdpkakdiggaaDoorGK1
import Derived.Test.YtamcdpkakdiggaaDoorGK2
import Derived.Test.YtamcdpkakdiggaaDoorGK3
import Derived.Test.YtamcdpkakdiggaaDoorGK5
import Derived.Test.YtamcdpkakdiggaaDoorGK12
section
namespace Go.Proofs.YtamcdpkakdiggaaDoor.lawKindsCheck
open Go Go.ChangeShapes Go.WideShapes Go.ChangeAt Go.RowKit Go.Deep
open Plain CSat CShape CTensor CConv CKind
set_option linter.unusedVariables false
set_option linter.unusedSimpArgs false
set_option maxRecDepth 100000 in
set_option maxHeartbeats 8000000 in
theorem walk_no (x : Nd) (k : Int) (hx : x.Small) (hf : ¬ (x.nW ≤ 2000 ∧ x.nB ≤ 200)) (w : World) (hT : NamesIn w) :
    Calls Tryd.prog 3 #[.agg x.val, .int .i64 k] w fun e w' => e = .returned (.bool true) ∧ Below w.heap.size w w' := by
  have HT := Lib.hid hT
  have HF : Hid (∀ w, Calls Tryd.prog 6 #[.agg #[.int .i64 0, .int .i64 0, .int .i64 0, .slice none 0 0], .agg x.val] w fun e w' => e = .returned (.bool false) ∧ Below w.heap.size w w') := Lib.hid (fun w => few_no 0 0 0 none 0 0 (.int .i64 x.kd) (.int .i64 x.na) (.int .i64 x.nb) (.int .i8 x.Y) (.int .i32 x.m1) (.int .i64 x.s1) (.int .i8 x.z1) (.int .i32 x.m2) (.int .i64 x.s2) (.int .i8 x.z2) (.int .i8 x.lo) (.int .i8 x.hi) x.K x.S x.P x.O x.Z x.WA x.BA x.nW x.cW x.nB x.cB (fun h => hf h.2) w)
  clear hf hT
  have H0N := Lib.hid (NdAt.new x 28 w)
  have HB := Lib.hid ((Below.refl w.heap.size w).alloc (Nat.le_refl _) (.cells x.val 28))
  have HL : Hid (w.heap.size < (w.alloc (.cells x.val 28)).heap.size) := Lib.hid (by simp)
  go_enter Tryd.func3, Tryd.ntmps3
  go_upto_region 1 with fail
  generalize w.alloc (.cells x.val 28) = W0 at *
  go_wp2_with (first
    | (go_at_call 6; (with_reducible refine (HF.out _).mono ?_); rintro e1 w1 ⟨rfl, hb⟩; (replace H0N := Lib.hid (H0N.out.below HL.out hb)); (replace HB := Lib.hid (HB.out.trans (hb.mono HB.out.size))); (replace HL := Lib.hid (Nat.lt_of_lt_of_le HL.out hb.size)); clear hb)
    | (go_at_call 7; (with_reducible refine (known25 _ (HT.out.grown HB.out)).mono ?_); rintro e1 w1 ⟨rfl, hb⟩; (replace H0N := Lib.hid (H0N.out.below HL.out hb)); (replace HB := Lib.hid (HB.out.trans (hb.mono HB.out.size))); (replace HL := Lib.hid (Nat.lt_of_lt_of_le HL.out hb.size)); clear hb)
    | (refine nd_load rfl _ rfl (w.heap.size) x rfl (H0N.out) ?_))
  go_ret
  exact ⟨rfl, HB.out⟩
set_option maxRecDepth 100000 in
set_option maxHeartbeats 8000000 in
theorem walk_y0 (x : Nd) (k : Int) (hx : x.Small) (hf : x.nW ≤ 2000 ∧ x.nB ≤ 200) (h1 : (k == 1) = true) (w : World) (hT : NamesIn w) :
    Calls Tryd.prog 3 #[.agg x.val, .int .i64 k] w fun e w' => e = .returned (.bool true) ∧ Below w.heap.size w w' := by
  have HT := Lib.hid hT
  have HF : Hid (∀ w, Calls Tryd.prog 6 #[.agg #[.int .i64 0, .int .i64 0, .int .i64 0, .slice none 0 0], .agg x.val] w fun e w' => e = .returned (.bool true) ∧ Below w.heap.size w w') := Lib.hid (fun w => few_yes 0 0 0 none 0 0 (.int .i64 x.kd) (.int .i64 x.na) (.int .i64 x.nb) (.int .i8 x.Y) (.int .i32 x.m1) (.int .i64 x.s1) (.int .i8 x.z1) (.int .i32 x.m2) (.int .i64 x.s2) (.int .i8 x.z2) (.int .i8 x.lo) (.int .i8 x.hi) x.K x.S x.P x.O x.Z x.WA x.BA x.nW x.cW x.nB x.cB (by omega) hf.1 hf.2 w)
  clear hf hT
  have H0N := Lib.hid (NdAt.new x 28 w)
  have HB := Lib.hid ((Below.refl w.heap.size w).alloc (Nat.le_refl _) (.cells x.val 28))
  have HL : Hid (w.heap.size < (w.alloc (.cells x.val 28)).heap.size) := Lib.hid (by simp)
  have HC := Lib.hid (fun (w : World) (h : NamesIn w) => check_to x hx w h)
  have HR := Lib.hid (refCheck_to x)
  unfold CheckIs at HR
  generalize x.checkZ = z at HC HR
  have HN := Lib.hid (fun (w : World) (h : NamesIn w) => name_to k w h)
  have HM := Lib.hid (fun w => refName_to k w)
  generalize kname k = nm at HN HM
  have hs : sumsB k = true := by unfold sumsB; simp [h1]
  have HSU := Lib.hid (fun w => sums_to k w)
  rw [hs] at HSU
  have E1 := Lib.hid h1
  have D1 : Hid (decide (k = 1) = true) := Lib.hid (by simpa using h1)
  clear hs hx h1
  go_enter Tryd.func3, Tryd.ntmps3
  go_upto_region 1 with fail
  generalize w.alloc (.cells x.val 28) = W0 at *
  go_upto_region 3 with (first
    | (go_at_call 6; (with_reducible refine (HF.out _).mono ?_); rintro e1 w1 ⟨rfl, hb⟩; (replace H0N := Lib.hid (H0N.out.below HL.out hb)); (replace HB := Lib.hid (HB.out.trans (hb.mono HB.out.size))); (replace HL := Lib.hid (Nat.lt_of_lt_of_le HL.out hb.size)); clear hb)
    | (refine nd_load rfl _ rfl (w.heap.size) x rfl (H0N.out) ?_))
  refine wp_region_held_drew (S := fun w' => NdAt (w.heap.size) x w') (by kernel_rfl) (H0N.out.below (Nat.lt_of_le_of_lt (by omega) HL.out) (Below.refl _ _).drew) (fun hHeld => ?_)
  replace HB := Lib.hid (HB.out.trans (Below.refl _ w1).drew)
  replace HL : Hid (w.heap.size < w1.drew.heap.size) := Lib.hid HL.out
  clear H0N
  generalize w1.drew = W1 at *
  clear w1
  refine Tk.t 0 (v := .agg (x).val) rfl (nd_load_at _ rfl (by rfl) _ (x) rfl (fun _ h => h)) (by assumption) ?_
  try simp only [Tk.put]
  refine Tk.t 2 (v := .agg (x).val) rfl (nd_load_at _ rfl (by rfl) _ (x) rfl (fun _ h => h)) (by assumption) ?_
  try simp only [Tk.put]
  refine Tk.s 1 rfl (fun Kq hK => ?_)
  go_simp
  go_at_call 8
  with_reducible refine (HC.out _ (HT.out.grown HB.out)).mono ?_
  rintro e w1 ⟨rfl, hb⟩
  replace HB := Lib.hid (HB.out.trans (hb.mono HB.out.size))
  have hS2 : NdAt (w.heap.size) x w1 := (hHeld).below (Nat.lt_of_le_of_lt (by omega) HL.out) hb
  replace HL : Hid (w.heap.size < w1.heap.size) := Lib.hid (Nat.lt_of_lt_of_le HL.out hb.size)
  clear hb hHeld
  refine hK.out _ _ hS2 (fun hHeld => ?_)
  clear hK Kq hS2
  try simp only [Tk.put]
  refine Tk.s 3 rfl (fun Kq hK => ?_)
  go_simp
  go_at_call 9
  with_reducible refine (HR.out _).mono ?_
  rintro e w1 ⟨rfl, hb⟩
  replace HB := Lib.hid (HB.out.trans (hb.mono HB.out.size))
  have hS2 : NdAt (w.heap.size) x w1 := (hHeld).below (Nat.lt_of_le_of_lt (by omega) HL.out) hb
  replace HL : Hid (w.heap.size < w1.heap.size) := Lib.hid (Nat.lt_of_lt_of_le HL.out hb.size)
  clear hb hHeld
  refine hK.out _ _ hS2 (fun hHeld => ?_)
  clear hK Kq hS2
  try simp only [Tk.put]
  refine Tk.y 4 (v := .bool true) rfl ?_ ?_
  · intro wS hSw
    first | (go_simp; done) | (go_simp; with_reducible rfl)
  try simp only [Tk.put]
  refine Tk.x 5 rfl ?_
  try simp only [Tk.put]
  refine Tk.x 6 rfl ?_
  try simp only [Tk.put]
  refine Tk.x 8 rfl ?_
  try simp only [Tk.put]
  refine Tk.s 7 rfl (fun Kq hK => ?_)
  go_simp
  go_at_call 10
  with_reducible refine (HN.out _ (HT.out.grown HB.out)).mono ?_
  rintro e w1 ⟨rfl, rfl⟩
  have hS2 := hHeld
  clear hHeld
  refine hK.out _ _ hS2 (fun hHeld => ?_)
  clear hK Kq hS2
  try simp only [Tk.put]
  refine Tk.s 9 rfl (fun Kq hK => ?_)
  go_simp
  go_at_call 11
  with_reducible refine (HM.out _).mono ?_
  rintro e w1 ⟨rfl, hb⟩
  replace HB := Lib.hid (HB.out.trans (hb.mono HB.out.size))
  have hS2 : NdAt (w.heap.size) x w1 := (hHeld).below (Nat.lt_of_le_of_lt (by omega) HL.out) hb
  replace HL : Hid (w.heap.size < w1.heap.size) := Lib.hid (Nat.lt_of_lt_of_le HL.out hb.size)
  clear hb hHeld
  refine hK.out _ _ hS2 (fun hHeld => ?_)
  clear hK Kq hS2
  try simp only [Tk.put]
  refine Tk.y 10 (v := .bool true) rfl ?_ ?_
  · intro wS hSw
    first | (go_simp; done) | (go_simp; with_reducible rfl)
  try simp only [Tk.put]
  refine Tk.x 11 rfl ?_
  try simp only [Tk.put]
  refine Tk.x 12 rfl ?_
  try simp only [Tk.put]
  refine Tk.x 13 rfl ?_
  try simp only [Tk.put]
  refine Tk.x 15 rfl ?_
  try simp only [Tk.put]
  refine Tk.y 16 (v := .bool true) rfl ?_ ?_
  · intro wS hSw
    have g0 := E1.out
    have g1 := D1.out
    first | (go_simp; done) | (go_simp; with_reducible rfl) | (simp [g0, g1]; done) | (go_simp; simp [g0, g1])
  try simp only [Tk.put]
  refine Tk.s 14 rfl (fun Kq hK => ?_)
  go_simp
  go_at_call 12
  with_reducible refine (HSU.out _).mono ?_
  rintro e w1 ⟨rfl, rfl⟩
  have hS2 := hHeld
  clear hHeld
  refine hK.out _ _ hS2 (fun hHeld => ?_)
  clear hK Kq hS2
  try simp only [Tk.put]
  refine Tk.x 17 rfl ?_
  try simp only [Tk.put]
  refine Tk.t 18 (v := undef) rfl (Or.inr ⟨by rfl, by rfl⟩) (by assumption) ?_
  try simp only [Tk.put]
  refine Tk.t 19 (v := undef) rfl (Or.inr ⟨by rfl, by rfl⟩) (by assumption) ?_
  try simp only [Tk.put]
  refine Tk.x 20 rfl ?_
  try simp only [Tk.put]
  refine Tk.x 21 rfl ?_
  try simp only [Tk.put]
  refine Tk.t 22 (v := undef) rfl (Or.inr ⟨by rfl, by rfl⟩) (by assumption) ?_
  try simp only [Tk.put]
  refine Tk.t 23 (v := undef) rfl (Or.inr ⟨by rfl, by rfl⟩) (by assumption) ?_
  try simp only [Tk.put]
  refine Tk.x 24 rfl ?_
  try simp only [Tk.put]
  refine Tk.x 25 rfl ?_
  try simp only [Tk.put]
  refine Tk.x 26 rfl ?_
  try simp only [Tk.put]
  refine Tk.x 27 rfl ?_
  try simp only [Tk.put]
  refine Tk.s 28 rfl (fun Kq hK => ?_)
  go_simp
  go_at_call 7
  with_reducible refine (known25 _ (HT.out.grown HB.out)).mono ?_
  rintro e w1 ⟨rfl, hb⟩
  replace HB := Lib.hid (HB.out.trans (hb.mono HB.out.size))
  have hS2 : NdAt (w.heap.size) x w1 := (hHeld).below (Nat.lt_of_le_of_lt (by omega) HL.out) hb
  replace HL : Hid (w.heap.size < w1.heap.size) := Lib.hid (Nat.lt_of_lt_of_le HL.out hb.size)
  clear hb hHeld
  refine hK.out _ _ hS2 (fun hHeld => ?_)
  clear hK Kq hS2
  try simp only [Tk.put]
  refine Tk.x 29 rfl ?_
  try simp only [Tk.put]
  refine Tk.x 30 rfl ?_
  try simp only [Tk.put]
  refine wpAnyH_done (by kernel_rfl) ?_ _
  have H0N := Lib.hid (hHeld)
  clear hHeld
  go_wp2_with fail
  go_ret
  exact ⟨rfl, HB.out⟩
set_option maxRecDepth 100000 in
set_option maxHeartbeats 8000000 in
theorem walk_y1 (x : Nd) (k : Int) (hx : x.Small) (hf : x.nW ≤ 2000 ∧ x.nB ≤ 200) (h1 : (k == 1) = false) (h2 : (k == 2) = true) (w : World) (hT : NamesIn w) :
    Calls Tryd.prog 3 #[.agg x.val, .int .i64 k] w fun e w' => e = .returned (.bool true) ∧ Below w.heap.size w w' := by
  have HT := Lib.hid hT
  have HF : Hid (∀ w, Calls Tryd.prog 6 #[.agg #[.int .i64 0, .int .i64 0, .int .i64 0, .slice none 0 0], .agg x.val] w fun e w' => e = .returned (.bool true) ∧ Below w.heap.size w w') := Lib.hid (fun w => few_yes 0 0 0 none 0 0 (.int .i64 x.kd) (.int .i64 x.na) (.int .i64 x.nb) (.int .i8 x.Y) (.int .i32 x.m1) (.int .i64 x.s1) (.int .i8 x.z1) (.int .i32 x.m2) (.int .i64 x.s2) (.int .i8 x.z2) (.int .i8 x.lo) (.int .i8 x.hi) x.K x.S x.P x.O x.Z x.WA x.BA x.nW x.cW x.nB x.cB (by omega) hf.1 hf.2 w)
  clear hf hT
  have H0N := Lib.hid (NdAt.new x 28 w)
  have HB := Lib.hid ((Below.refl w.heap.size w).alloc (Nat.le_refl _) (.cells x.val 28))
  have HL : Hid (w.heap.size < (w.alloc (.cells x.val 28)).heap.size) := Lib.hid (by simp)
  have HC := Lib.hid (fun (w : World) (h : NamesIn w) => check_to x hx w h)
  have HR := Lib.hid (refCheck_to x)
  unfold CheckIs at HR
  generalize x.checkZ = z at HC HR
  have HN := Lib.hid (fun (w : World) (h : NamesIn w) => name_to k w h)
  have HM := Lib.hid (fun w => refName_to k w)
  generalize kname k = nm at HN HM
  have hs : sumsB k = true := by unfold sumsB; simp [h1, h2]
  have HSU := Lib.hid (fun w => sums_to k w)
  rw [hs] at HSU
  have E1 := Lib.hid h1
  have D1 : Hid (decide (k = 1) = false) := Lib.hid (by simpa using h1)
  have E2 := Lib.hid h2
  have D2 : Hid (decide (k = 2) = true) := Lib.hid (by simpa using h2)
  clear hs hx h1 h2
  go_enter Tryd.func3, Tryd.ntmps3
  go_upto_region 1 with fail
  generalize w.alloc (.cells x.val 28) = W0 at *
  go_upto_region 3 with (first
    | (go_at_call 6; (with_reducible refine (HF.out _).mono ?_); rintro e1 w1 ⟨rfl, hb⟩; (replace H0N := Lib.hid (H0N.out.below HL.out hb)); (replace HB := Lib.hid (HB.out.trans (hb.mono HB.out.size))); (replace HL := Lib.hid (Nat.lt_of_lt_of_le HL.out hb.size)); clear hb)
    | (refine nd_load rfl _ rfl (w.heap.size) x rfl (H0N.out) ?_))
  refine wp_region_held_drew (S := fun w' => NdAt (w.heap.size) x w') (by kernel_rfl) (H0N.out.below (Nat.lt_of_le_of_lt (by omega) HL.out) (Below.refl _ _).drew) (fun hHeld => ?_)
  replace HB := Lib.hid (HB.out.trans (Below.refl _ w1).drew)
  replace HL : Hid (w.heap.size < w1.drew.heap.size) := Lib.hid HL.out
  clear H0N
  generalize w1.drew = W1 at *
  clear w1
  refine Tk.t 0 (v := .agg (x).val) rfl (nd_load_at _ rfl (by rfl) _ (x) rfl (fun _ h => h)) (by assumption) ?_
  try simp only [Tk.put]
  refine Tk.t 2 (v := .agg (x).val) rfl (nd_load_at _ rfl (by rfl) _ (x) rfl (fun _ h => h)) (by assumption) ?_
  try simp only [Tk.put]
  refine Tk.s 1 rfl (fun Kq hK => ?_)
  go_simp
  go_at_call 8
  with_reducible refine (HC.out _ (HT.out.grown HB.out)).mono ?_
  rintro e w1 ⟨rfl, hb⟩
  replace HB := Lib.hid (HB.out.trans (hb.mono HB.out.size))
  have hS2 : NdAt (w.heap.size) x w1 := (hHeld).below (Nat.lt_of_le_of_lt (by omega) HL.out) hb
  replace HL : Hid (w.heap.size < w1.heap.size) := Lib.hid (Nat.lt_of_lt_of_le HL.out hb.size)
  clear hb hHeld
  refine hK.out _ _ hS2 (fun hHeld => ?_)
  clear hK Kq hS2
  try simp only [Tk.put]
  refine Tk.s 3 rfl (fun Kq hK => ?_)
  go_simp
  go_at_call 9
  with_reducible refine (HR.out _).mono ?_
  rintro e w1 ⟨rfl, hb⟩
  replace HB := Lib.hid (HB.out.trans (hb.mono HB.out.size))
  have hS2 : NdAt (w.heap.size) x w1 := (hHeld).below (Nat.lt_of_le_of_lt (by omega) HL.out) hb
  replace HL : Hid (w.heap.size < w1.heap.size) := Lib.hid (Nat.lt_of_lt_of_le HL.out hb.size)
  clear hb hHeld
  refine hK.out _ _ hS2 (fun hHeld => ?_)
  clear hK Kq hS2
  try simp only [Tk.put]
  refine Tk.y 4 (v := .bool true) rfl ?_ ?_
  · intro wS hSw
    first | (go_simp; done) | (go_simp; with_reducible rfl)
  try simp only [Tk.put]
  refine Tk.x 5 rfl ?_
  try simp only [Tk.put]
  refine Tk.x 6 rfl ?_
  try simp only [Tk.put]
  refine Tk.x 8 rfl ?_
  try simp only [Tk.put]
  refine Tk.s 7 rfl (fun Kq hK => ?_)
  go_simp
  go_at_call 10
  with_reducible refine (HN.out _ (HT.out.grown HB.out)).mono ?_
  rintro e w1 ⟨rfl, rfl⟩
  have hS2 := hHeld
  clear hHeld
  refine hK.out _ _ hS2 (fun hHeld => ?_)
  clear hK Kq hS2
  try simp only [Tk.put]
  refine Tk.s 9 rfl (fun Kq hK => ?_)
  go_simp
  go_at_call 11
  with_reducible refine (HM.out _).mono ?_
  rintro e w1 ⟨rfl, hb⟩
  replace HB := Lib.hid (HB.out.trans (hb.mono HB.out.size))
  have hS2 : NdAt (w.heap.size) x w1 := (hHeld).below (Nat.lt_of_le_of_lt (by omega) HL.out) hb
  replace HL : Hid (w.heap.size < w1.heap.size) := Lib.hid (Nat.lt_of_lt_of_le HL.out hb.size)
  clear hb hHeld
  refine hK.out _ _ hS2 (fun hHeld => ?_)
  clear hK Kq hS2
  try simp only [Tk.put]
  refine Tk.y 10 (v := .bool true) rfl ?_ ?_
  · intro wS hSw
    first | (go_simp; done) | (go_simp; with_reducible rfl)
  try simp only [Tk.put]
  refine Tk.x 11 rfl ?_
  try simp only [Tk.put]
  refine Tk.x 12 rfl ?_
  try simp only [Tk.put]
  refine Tk.x 13 rfl ?_
  try simp only [Tk.put]
  refine Tk.x 15 rfl ?_
  try simp only [Tk.put]
  refine Tk.y 16 (v := .bool false) rfl ?_ ?_
  · intro wS hSw
    have g0 := E1.out
    have g1 := D1.out
    first | (go_simp; done) | (go_simp; with_reducible rfl) | (simp [g0, g1]; done) | (go_simp; simp [g0, g1])
  try simp only [Tk.put]
  refine Tk.s 14 rfl (fun Kq hK => ?_)
  go_simp
  go_at_call 12
  with_reducible refine (HSU.out _).mono ?_
  rintro e w1 ⟨rfl, rfl⟩
  have hS2 := hHeld
  clear hHeld
  refine hK.out _ _ hS2 (fun hHeld => ?_)
  clear hK Kq hS2
  try simp only [Tk.put]
  refine Tk.x 17 rfl ?_
  try simp only [Tk.put]
  refine Tk.x 18 rfl ?_
  try simp only [Tk.put]
  refine Tk.y 19 (v := .bool true) rfl ?_ ?_
  · intro wS hSw
    have g0 := E2.out
    have g1 := D2.out
    first | (go_simp; done) | (go_simp; with_reducible rfl) | (simp [g0, g1]; done) | (go_simp; simp [g0, g1])
  try simp only [Tk.put]
  refine Tk.x 20 rfl ?_
  try simp only [Tk.put]
  refine Tk.x 21 rfl ?_
  try simp only [Tk.put]
  refine Tk.t 22 (v := undef) rfl (Or.inr ⟨by rfl, by rfl⟩) (by assumption) ?_
  try simp only [Tk.put]
  refine Tk.t 23 (v := undef) rfl (Or.inr ⟨by rfl, by rfl⟩) (by assumption) ?_
  try simp only [Tk.put]
  refine Tk.x 24 rfl ?_
  try simp only [Tk.put]
  refine Tk.x 25 rfl ?_
  try simp only [Tk.put]
  refine Tk.x 26 rfl ?_
  try simp only [Tk.put]
  refine Tk.x 27 rfl ?_
  try simp only [Tk.put]
  refine Tk.s 28 rfl (fun Kq hK => ?_)
  go_simp
  go_at_call 7
  with_reducible refine (known25 _ (HT.out.grown HB.out)).mono ?_
  rintro e w1 ⟨rfl, hb⟩
  replace HB := Lib.hid (HB.out.trans (hb.mono HB.out.size))
  have hS2 : NdAt (w.heap.size) x w1 := (hHeld).below (Nat.lt_of_le_of_lt (by omega) HL.out) hb
  replace HL : Hid (w.heap.size < w1.heap.size) := Lib.hid (Nat.lt_of_lt_of_le HL.out hb.size)
  clear hb hHeld
  refine hK.out _ _ hS2 (fun hHeld => ?_)
  clear hK Kq hS2
  try simp only [Tk.put]
  refine Tk.x 29 rfl ?_
  try simp only [Tk.put]
  refine Tk.x 30 rfl ?_
  try simp only [Tk.put]
  refine wpAnyH_done (by kernel_rfl) ?_ _
  have H0N := Lib.hid (hHeld)
  clear hHeld
  go_wp2_with fail
  go_ret
  exact ⟨rfl, HB.out⟩
set_option maxRecDepth 100000 in
set_option maxHeartbeats 8000000 in
theorem walk_y2 (x : Nd) (k : Int) (hx : x.Small) (hf : x.nW ≤ 2000 ∧ x.nB ≤ 200) (h1 : (k == 1) = false) (h2 : (k == 2) = false) (h3 : (k == 3) = true) (w : World) (hT : NamesIn w) :
    Calls Tryd.prog 3 #[.agg x.val, .int .i64 k] w fun e w' => e = .returned (.bool true) ∧ Below w.heap.size w w' := by
  have HT := Lib.hid hT
  have HF : Hid (∀ w, Calls Tryd.prog 6 #[.agg #[.int .i64 0, .int .i64 0, .int .i64 0, .slice none 0 0], .agg x.val] w fun e w' => e = .returned (.bool true) ∧ Below w.heap.size w w') := Lib.hid (fun w => few_yes 0 0 0 none 0 0 (.int .i64 x.kd) (.int .i64 x.na) (.int .i64 x.nb) (.int .i8 x.Y) (.int .i32 x.m1) (.int .i64 x.s1) (.int .i8 x.z1) (.int .i32 x.m2) (.int .i64 x.s2) (.int .i8 x.z2) (.int .i8 x.lo) (.int .i8 x.hi) x.K x.S x.P x.O x.Z x.WA x.BA x.nW x.cW x.nB x.cB (by omega) hf.1 hf.2 w)
  clear hf hT
  have H0N := Lib.hid (NdAt.new x 28 w)
  have HB := Lib.hid ((Below.refl w.heap.size w).alloc (Nat.le_refl _) (.cells x.val 28))
  have HL : Hid (w.heap.size < (w.alloc (.cells x.val 28)).heap.size) := Lib.hid (by simp)
  have HC := Lib.hid (fun (w : World) (h : NamesIn w) => check_to x hx w h)
  have HR := Lib.hid (refCheck_to x)
  unfold CheckIs at HR
  generalize x.checkZ = z at HC HR
  have HN := Lib.hid (fun (w : World) (h : NamesIn w) => name_to k w h)
  have HM := Lib.hid (fun w => refName_to k w)
  generalize kname k = nm at HN HM
  have hs : sumsB k = true := by unfold sumsB; simp [h1, h2, h3]
  have HSU := Lib.hid (fun w => sums_to k w)
  rw [hs] at HSU
  have E1 := Lib.hid h1
  have D1 : Hid (decide (k = 1) = false) := Lib.hid (by simpa using h1)
  have E2 := Lib.hid h2
  have D2 : Hid (decide (k = 2) = false) := Lib.hid (by simpa using h2)
  have E3 := Lib.hid h3
  have D3 : Hid (decide (k = 3) = true) := Lib.hid (by simpa using h3)
  clear hs hx h1 h2 h3
  go_enter Tryd.func3, Tryd.ntmps3
  go_upto_region 1 with fail
  generalize w.alloc (.cells x.val 28) = W0 at *
  go_upto_region 3 with (first
    | (go_at_call 6; (with_reducible refine (HF.out _).mono ?_); rintro e1 w1 ⟨rfl, hb⟩; (replace H0N := Lib.hid (H0N.out.below HL.out hb)); (replace HB := Lib.hid (HB.out.trans (hb.mono HB.out.size))); (replace HL := Lib.hid (Nat.lt_of_lt_of_le HL.out hb.size)); clear hb)
    | (refine nd_load rfl _ rfl (w.heap.size) x rfl (H0N.out) ?_))
  refine wp_region_held_drew (S := fun w' => NdAt (w.heap.size) x w') (by kernel_rfl) (H0N.out.below (Nat.lt_of_le_of_lt (by omega) HL.out) (Below.refl _ _).drew) (fun hHeld => ?_)
  replace HB := Lib.hid (HB.out.trans (Below.refl _ w1).drew)
  replace HL : Hid (w.heap.size < w1.drew.heap.size) := Lib.hid HL.out
  clear H0N
  generalize w1.drew = W1 at *
  clear w1
  refine Tk.t 0 (v := .agg (x).val) rfl (nd_load_at _ rfl (by rfl) _ (x) rfl (fun _ h => h)) (by assumption) ?_
  try simp only [Tk.put]
  refine Tk.t 2 (v := .agg (x).val) rfl (nd_load_at _ rfl (by rfl) _ (x) rfl (fun _ h => h)) (by assumption) ?_
  try simp only [Tk.put]
  refine Tk.s 1 rfl (fun Kq hK => ?_)
  go_simp
  go_at_call 8
  with_reducible refine (HC.out _ (HT.out.grown HB.out)).mono ?_
  rintro e w1 ⟨rfl, hb⟩
  replace HB := Lib.hid (HB.out.trans (hb.mono HB.out.size))
  have hS2 : NdAt (w.heap.size) x w1 := (hHeld).below (Nat.lt_of_le_of_lt (by omega) HL.out) hb
  replace HL : Hid (w.heap.size < w1.heap.size) := Lib.hid (Nat.lt_of_lt_of_le HL.out hb.size)
  clear hb hHeld
  refine hK.out _ _ hS2 (fun hHeld => ?_)
  clear hK Kq hS2
  try simp only [Tk.put]
  refine Tk.s 3 rfl (fun Kq hK => ?_)
  go_simp
  go_at_call 9
  with_reducible refine (HR.out _).mono ?_
  rintro e w1 ⟨rfl, hb⟩
  replace HB := Lib.hid (HB.out.trans (hb.mono HB.out.size))
  have hS2 : NdAt (w.heap.size) x w1 := (hHeld).below (Nat.lt_of_le_of_lt (by omega) HL.out) hb
  replace HL : Hid (w.heap.size < w1.heap.size) := Lib.hid (Nat.lt_of_lt_of_le HL.out hb.size)
  clear hb hHeld
  refine hK.out _ _ hS2 (fun hHeld => ?_)
  clear hK Kq hS2
  try simp only [Tk.put]
  refine Tk.y 4 (v := .bool true) rfl ?_ ?_
  · intro wS hSw
    first | (go_simp; done) | (go_simp; with_reducible rfl)
  try simp only [Tk.put]
  refine Tk.x 5 rfl ?_
  try simp only [Tk.put]
  refine Tk.x 6 rfl ?_
  try simp only [Tk.put]
  refine Tk.x 8 rfl ?_
  try simp only [Tk.put]
  refine Tk.s 7 rfl (fun Kq hK => ?_)
  go_simp
  go_at_call 10
  with_reducible refine (HN.out _ (HT.out.grown HB.out)).mono ?_
  rintro e w1 ⟨rfl, rfl⟩
  have hS2 := hHeld
  clear hHeld
  refine hK.out _ _ hS2 (fun hHeld => ?_)
  clear hK Kq hS2
  try simp only [Tk.put]
  refine Tk.s 9 rfl (fun Kq hK => ?_)
  go_simp
  go_at_call 11
  with_reducible refine (HM.out _).mono ?_
  rintro e w1 ⟨rfl, hb⟩
  replace HB := Lib.hid (HB.out.trans (hb.mono HB.out.size))
  have hS2 : NdAt (w.heap.size) x w1 := (hHeld).below (Nat.lt_of_le_of_lt (by omega) HL.out) hb
  replace HL : Hid (w.heap.size < w1.heap.size) := Lib.hid (Nat.lt_of_lt_of_le HL.out hb.size)
  clear hb hHeld
  refine hK.out _ _ hS2 (fun hHeld => ?_)
  clear hK Kq hS2
  try simp only [Tk.put]
  refine Tk.y 10 (v := .bool true) rfl ?_ ?_
  · intro wS hSw
    first | (go_simp; done) | (go_simp; with_reducible rfl)
  try simp only [Tk.put]
  refine Tk.x 11 rfl ?_
  try simp only [Tk.put]
  refine Tk.x 12 rfl ?_
  try simp only [Tk.put]
  refine Tk.x 13 rfl ?_
  try simp only [Tk.put]
  refine Tk.x 15 rfl ?_
  try simp only [Tk.put]
  refine Tk.y 16 (v := .bool false) rfl ?_ ?_
  · intro wS hSw
    have g0 := E1.out
    have g1 := D1.out
    first | (go_simp; done) | (go_simp; with_reducible rfl) | (simp [g0, g1]; done) | (go_simp; simp [g0, g1])
  try simp only [Tk.put]
  refine Tk.s 14 rfl (fun Kq hK => ?_)
  go_simp
  go_at_call 12
  with_reducible refine (HSU.out _).mono ?_
  rintro e w1 ⟨rfl, rfl⟩
  have hS2 := hHeld
  clear hHeld
  refine hK.out _ _ hS2 (fun hHeld => ?_)
  clear hK Kq hS2
  try simp only [Tk.put]
  refine Tk.x 17 rfl ?_
  try simp only [Tk.put]
  refine Tk.x 18 rfl ?_
  try simp only [Tk.put]
  refine Tk.y 19 (v := .bool false) rfl ?_ ?_
  · intro wS hSw
    have g0 := E2.out
    have g1 := D2.out
    first | (go_simp; done) | (go_simp; with_reducible rfl) | (simp [g0, g1]; done) | (go_simp; simp [g0, g1])
  try simp only [Tk.put]
  refine Tk.x 20 rfl ?_
  try simp only [Tk.put]
  refine Tk.x 21 rfl ?_
  try simp only [Tk.put]
  refine Tk.x 22 rfl ?_
  try simp only [Tk.put]
  refine Tk.y 23 (v := .bool true) rfl ?_ ?_
  · intro wS hSw
    have g0 := E3.out
    have g1 := D3.out
    first | (go_simp; done) | (go_simp; with_reducible rfl) | (simp [g0, g1]; done) | (go_simp; simp [g0, g1])
  try simp only [Tk.put]
  refine Tk.x 24 rfl ?_
  try simp only [Tk.put]
  refine Tk.x 25 rfl ?_
  try simp only [Tk.put]
  refine Tk.x 26 rfl ?_
  try simp only [Tk.put]
  refine Tk.x 27 rfl ?_
  try simp only [Tk.put]
  refine Tk.s 28 rfl (fun Kq hK => ?_)
  go_simp
  go_at_call 7
  with_reducible refine (known25 _ (HT.out.grown HB.out)).mono ?_
  rintro e w1 ⟨rfl, hb⟩
  replace HB := Lib.hid (HB.out.trans (hb.mono HB.out.size))
  have hS2 : NdAt (w.heap.size) x w1 := (hHeld).below (Nat.lt_of_le_of_lt (by omega) HL.out) hb
  replace HL : Hid (w.heap.size < w1.heap.size) := Lib.hid (Nat.lt_of_lt_of_le HL.out hb.size)
  clear hb hHeld
  refine hK.out _ _ hS2 (fun hHeld => ?_)
  clear hK Kq hS2
  try simp only [Tk.put]
  refine Tk.x 29 rfl ?_
  try simp only [Tk.put]
  refine Tk.x 30 rfl ?_
  try simp only [Tk.put]
  refine wpAnyH_done (by kernel_rfl) ?_ _
  have H0N := Lib.hid (hHeld)
  clear hHeld
  go_wp2_with fail
  go_ret
  exact ⟨rfl, HB.out⟩
set_option maxRecDepth 100000 in
set_option maxHeartbeats 8000000 in
theorem walk_y3 (x : Nd) (k : Int) (hx : x.Small) (hf : x.nW ≤ 2000 ∧ x.nB ≤ 200) (h1 : (k == 1) = false) (h2 : (k == 2) = false) (h3 : (k == 3) = false) (w : World) (hT : NamesIn w) :
    Calls Tryd.prog 3 #[.agg x.val, .int .i64 k] w fun e w' => e = .returned (.bool true) ∧ Below w.heap.size w w' := by
  have HT := Lib.hid hT
  have HF : Hid (∀ w, Calls Tryd.prog 6 #[.agg #[.int .i64 0, .int .i64 0, .int .i64 0, .slice none 0 0], .agg x.val] w fun e w' => e = .returned (.bool true) ∧ Below w.heap.size w w') := Lib.hid (fun w => few_yes 0 0 0 none 0 0 (.int .i64 x.kd) (.int .i64 x.na) (.int .i64 x.nb) (.int .i8 x.Y) (.int .i32 x.m1) (.int .i64 x.s1) (.int .i8 x.z1) (.int .i32 x.m2) (.int .i64 x.s2) (.int .i8 x.z2) (.int .i8 x.lo) (.int .i8 x.hi) x.K x.S x.P x.O x.Z x.WA x.BA x.nW x.cW x.nB x.cB (by omega) hf.1 hf.2 w)
  clear hf hT
  have H0N := Lib.hid (NdAt.new x 28 w)
  have HB := Lib.hid ((Below.refl w.heap.size w).alloc (Nat.le_refl _) (.cells x.val 28))
  have HL : Hid (w.heap.size < (w.alloc (.cells x.val 28)).heap.size) := Lib.hid (by simp)
  have HC := Lib.hid (fun (w : World) (h : NamesIn w) => check_to x hx w h)
  have HR := Lib.hid (refCheck_to x)
  unfold CheckIs at HR
  generalize x.checkZ = z at HC HR
  have HN := Lib.hid (fun (w : World) (h : NamesIn w) => name_to k w h)
  have HM := Lib.hid (fun w => refName_to k w)
  generalize kname k = nm at HN HM
  have hs : sumsB k = false := by unfold sumsB; simp [h1, h2, h3]
  have HSU := Lib.hid (fun w => sums_to k w)
  rw [hs] at HSU
  have E1 := Lib.hid h1
  have D1 : Hid (decide (k = 1) = false) := Lib.hid (by simpa using h1)
  have E2 := Lib.hid h2
  have D2 : Hid (decide (k = 2) = false) := Lib.hid (by simpa using h2)
  have E3 := Lib.hid h3
  have D3 : Hid (decide (k = 3) = false) := Lib.hid (by simpa using h3)
  clear hs hx h1 h2 h3
  go_enter Tryd.func3, Tryd.ntmps3
  go_upto_region 1 with fail
  generalize w.alloc (.cells x.val 28) = W0 at *
  go_upto_region 3 with (first
    | (go_at_call 6; (with_reducible refine (HF.out _).mono ?_); rintro e1 w1 ⟨rfl, hb⟩; (replace H0N := Lib.hid (H0N.out.below HL.out hb)); (replace HB := Lib.hid (HB.out.trans (hb.mono HB.out.size))); (replace HL := Lib.hid (Nat.lt_of_lt_of_le HL.out hb.size)); clear hb)
    | (refine nd_load rfl _ rfl (w.heap.size) x rfl (H0N.out) ?_))
  refine wp_region_held_drew (S := fun w' => NdAt (w.heap.size) x w') (by kernel_rfl) (H0N.out.below (Nat.lt_of_le_of_lt (by omega) HL.out) (Below.refl _ _).drew) (fun hHeld => ?_)
  replace HB := Lib.hid (HB.out.trans (Below.refl _ w1).drew)
  replace HL : Hid (w.heap.size < w1.drew.heap.size) := Lib.hid HL.out
  clear H0N
  generalize w1.drew = W1 at *
  clear w1
  refine Tk.t 0 (v := .agg (x).val) rfl (nd_load_at _ rfl (by rfl) _ (x) rfl (fun _ h => h)) (by assumption) ?_
  try simp only [Tk.put]
  refine Tk.t 2 (v := .agg (x).val) rfl (nd_load_at _ rfl (by rfl) _ (x) rfl (fun _ h => h)) (by assumption) ?_
  try simp only [Tk.put]
  refine Tk.s 1 rfl (fun Kq hK => ?_)
  go_simp
  go_at_call 8
  with_reducible refine (HC.out _ (HT.out.grown HB.out)).mono ?_
  rintro e w1 ⟨rfl, hb⟩
  replace HB := Lib.hid (HB.out.trans (hb.mono HB.out.size))
  have hS2 : NdAt (w.heap.size) x w1 := (hHeld).below (Nat.lt_of_le_of_lt (by omega) HL.out) hb
  replace HL : Hid (w.heap.size < w1.heap.size) := Lib.hid (Nat.lt_of_lt_of_le HL.out hb.size)
  clear hb hHeld
  refine hK.out _ _ hS2 (fun hHeld => ?_)
  clear hK Kq hS2
  try simp only [Tk.put]
  refine Tk.s 3 rfl (fun Kq hK => ?_)
  go_simp
  go_at_call 9
  with_reducible refine (HR.out _).mono ?_
  rintro e w1 ⟨rfl, hb⟩
  replace HB := Lib.hid (HB.out.trans (hb.mono HB.out.size))
  have hS2 : NdAt (w.heap.size) x w1 := (hHeld).below (Nat.lt_of_le_of_lt (by omega) HL.out) hb
  replace HL : Hid (w.heap.size < w1.heap.size) := Lib.hid (Nat.lt_of_lt_of_le HL.out hb.size)
  clear hb hHeld
  refine hK.out _ _ hS2 (fun hHeld => ?_)
  clear hK Kq hS2
  try simp only [Tk.put]
  refine Tk.y 4 (v := .bool true) rfl ?_ ?_
  · intro wS hSw
    first | (go_simp; done) | (go_simp; with_reducible rfl)
  try simp only [Tk.put]
  refine Tk.x 5 rfl ?_
  try simp only [Tk.put]
  refine Tk.x 6 rfl ?_
  try simp only [Tk.put]
  refine Tk.x 8 rfl ?_
  try simp only [Tk.put]
  refine Tk.s 7 rfl (fun Kq hK => ?_)
  go_simp
  go_at_call 10
  with_reducible refine (HN.out _ (HT.out.grown HB.out)).mono ?_
  rintro e w1 ⟨rfl, rfl⟩
  have hS2 := hHeld
  clear hHeld
  refine hK.out _ _ hS2 (fun hHeld => ?_)
  clear hK Kq hS2
  try simp only [Tk.put]
  refine Tk.s 9 rfl (fun Kq hK => ?_)
  go_simp
  go_at_call 11
  with_reducible refine (HM.out _).mono ?_
  rintro e w1 ⟨rfl, hb⟩
  replace HB := Lib.hid (HB.out.trans (hb.mono HB.out.size))
  have hS2 : NdAt (w.heap.size) x w1 := (hHeld).below (Nat.lt_of_le_of_lt (by omega) HL.out) hb
  replace HL : Hid (w.heap.size < w1.heap.size) := Lib.hid (Nat.lt_of_lt_of_le HL.out hb.size)
  clear hb hHeld
  refine hK.out _ _ hS2 (fun hHeld => ?_)
  clear hK Kq hS2
  try simp only [Tk.put]
  refine Tk.y 10 (v := .bool true) rfl ?_ ?_
  · intro wS hSw
    first | (go_simp; done) | (go_simp; with_reducible rfl)
  try simp only [Tk.put]
  refine Tk.x 11 rfl ?_
  try simp only [Tk.put]
  refine Tk.x 12 rfl ?_
  try simp only [Tk.put]
  refine Tk.x 13 rfl ?_
  try simp only [Tk.put]
  refine Tk.x 15 rfl ?_
  try simp only [Tk.put]
  refine Tk.y 16 (v := .bool false) rfl ?_ ?_
  · intro wS hSw
    have g0 := E1.out
    have g1 := D1.out
    first | (go_simp; done) | (go_simp; with_reducible rfl) | (simp [g0, g1]; done) | (go_simp; simp [g0, g1])
  try simp only [Tk.put]
  refine Tk.s 14 rfl (fun Kq hK => ?_)
  go_simp
  go_at_call 12
  with_reducible refine (HSU.out _).mono ?_
  rintro e w1 ⟨rfl, rfl⟩
  have hS2 := hHeld
  clear hHeld
  refine hK.out _ _ hS2 (fun hHeld => ?_)
  clear hK Kq hS2
  try simp only [Tk.put]
  refine Tk.x 17 rfl ?_
  try simp only [Tk.put]
  refine Tk.x 18 rfl ?_
  try simp only [Tk.put]
  refine Tk.y 19 (v := .bool false) rfl ?_ ?_
  · intro wS hSw
    have g0 := E2.out
    have g1 := D2.out
    first | (go_simp; done) | (go_simp; with_reducible rfl) | (simp [g0, g1]; done) | (go_simp; simp [g0, g1])
  try simp only [Tk.put]
  refine Tk.x 20 rfl ?_
  try simp only [Tk.put]
  refine Tk.x 21 rfl ?_
  try simp only [Tk.put]
  refine Tk.x 22 rfl ?_
  try simp only [Tk.put]
  refine Tk.y 23 (v := .bool false) rfl ?_ ?_
  · intro wS hSw
    have g0 := E3.out
    have g1 := D3.out
    first | (go_simp; done) | (go_simp; with_reducible rfl) | (simp [g0, g1]; done) | (go_simp; simp [g0, g1])
  try simp only [Tk.put]
  refine Tk.x 24 rfl ?_
  try simp only [Tk.put]
  refine Tk.x 25 rfl ?_
  try simp only [Tk.put]
  refine Tk.x 26 rfl ?_
  try simp only [Tk.put]
  refine Tk.x 27 rfl ?_
  try simp only [Tk.put]
  refine Tk.s 28 rfl (fun Kq hK => ?_)
  go_simp
  go_at_call 7
  with_reducible refine (known25 _ (HT.out.grown HB.out)).mono ?_
  rintro e w1 ⟨rfl, hb⟩
  replace HB := Lib.hid (HB.out.trans (hb.mono HB.out.size))
  have hS2 : NdAt (w.heap.size) x w1 := (hHeld).below (Nat.lt_of_le_of_lt (by omega) HL.out) hb
  replace HL : Hid (w.heap.size < w1.heap.size) := Lib.hid (Nat.lt_of_lt_of_le HL.out hb.size)
  clear hb hHeld
  refine hK.out _ _ hS2 (fun hHeld => ?_)
  clear hK Kq hS2
  try simp only [Tk.put]
  refine Tk.x 29 rfl ?_
  try simp only [Tk.put]
  refine Tk.x 30 rfl ?_
  try simp only [Tk.put]
  refine wpAnyH_done (by kernel_rfl) ?_ _
  have H0N := Lib.hid (hHeld)
  clear hHeld
  go_wp2_with fail
  go_ret
  exact ⟨rfl, HB.out⟩
end Go.Proofs.YtamcdpkakdiggaaDoor.lawKindsCheck
end
section
namespace Go.Proofs.YtamcdpkakdiggaaDoor.CKind
open Go Go.ChangeShapes Go.WideShapes Go.ChangeAt Go.RowKit Go.Deep
open Plain CSat CShape CTensor CConv
set_option linter.unusedVariables false
set_option linter.unusedSimpArgs false
def K32 (zs : List Int) : List Value := zs.map (.int .i32)
theorem kparts {P : Program} {t : TypeId} {z : Option Value} {s b : Nat} (h : (P.info? t).map (fun i => (i.zero, i.size, i.bytes)) = some (z, s, b)) : ∃ i, P.info? t = some i ∧ i.zero = z ∧ i.size = s ∧ i.bytes = b := by
  cases hi : P.info? t with
  | none => rw [hi] at h; cases h
  | some i => rw [hi] at h; simp at h; exact ⟨i, rfl, h.1, h.2.1, h.2.2⟩
theorem info_i32k : (Tryd.prog.info? 21).map (fun i => (i.zero, i.size, i.bytes)) = some (some (.int .i32 0), 1, 4) := by kernel_rfl
set_option maxHeartbeats 1000000 in
theorem kclone32 (A : Option Addr) (zs : List Int) (n c : Nat) (hn : zs.length = n) (hl : n ≤ 1000000) {B : Nat} (w : World) (hB : B ≤ w.heap.size) (hr : Kit.Rd w B A (K32 zs)) :
    Calls Tryd.prog 38 #[.slice A n c] w (fun e w' => ∃ v, e = .returned v ∧ w'.ownsRow w.heap.size 21 1 v n (K32 zs) ∧ Below w.heap.size w w') := by
  have HN := Lib.hid hn
  have HR := Lib.hid hr
  have qn : ∀ (w : World) (a : Option Addr) (n c n' c' : Nat), (binOp .eql 24 (.slice a n c) (.slice none n' c')).run Tryd.prog w = .ok (.bool a.isNone) w := fun w a n c n' c' => Lib.run_eql_slice_nil w _ _ a n c n' c' Tryd.underlying24
  cases A with
  | none =>
    have hz : zs = [] := by
      cases zs with
      | nil => rfl
      | cons z zs => obtain ⟨b, off, h, _⟩ := hr.plain (by simp [K32]); cases h
    subst hz
    have h0 : n = 0 := by simpa using hn.symm
    subst h0
    clear hn hr HN HR
    go_enter Tryd.func38, Tryd.ntmps38
    go_wp2
    go_ret
    exact ⟨_, rfl, ⟨by simp [K32], .inl ⟨rfl, rfl⟩⟩, Below.refl _ _⟩
  | some ad =>
    clear hn hr
    go_enter Tryd.func38, Tryd.ntmps38
    obtain ⟨i0, hi0, hi1, hi2, hi3⟩ := kparts info_i32k
    go_wp2_with (at_builtin; refine Kit.wpList_append_rd _ rfl (.tmp 5) (.tmp 6) _ rfl w.heap.size 21 i0 (.int .i32 0) 1 4 Tryd.underlying24 hi0 hi1 hi2 hi3 rfl (by decide) (.slice (some ⟨_, 0, none⟩) 0 0) 0 [] rfl (World.ownsRow_lit _ #[] 0 (Nat.le_refl _) (Nat.zero_le _) rfl) _ _ n _ (K32 zs) rfl (by simp [K32, HN.out]) (HR.out.alloc hB _) (Kit.ints_one .i32 zs) (by unfold maxLen; omega) (by omega) (by simp) ?_; intro v1 w1 hown1 hg1 hat1; replace hown1 : w1.ownsRow w.heap.size 21 1 v1 n (K32 zs) := (by simpa using hown1); have HO := Lib.hid hown1; have HX := Lib.hid (((Below.refl _ w).alloc (Nat.le_refl _) (.cells #[] 21)).grown hg1 (by simp) (fun q hq => by simp [Value.ownBlock] at hq; omega)); clear hown1 hg1 hat1)
    go_ret
    exact ⟨_, rfl, HO.out, HX.out⟩
end Go.Proofs.YtamcdpkakdiggaaDoor.CKind
end
section
namespace Go.Proofs.YtamcdpkakdiggaaDoor.CKind
open Go Go.ChangeShapes Go.WideShapes Go.ChangeAt Go.RowKit Go.Deep
open Plain CSat CShape CTensor CConv
set_option linter.unusedVariables false
set_option linter.unusedSimpArgs false
theorem Kit.own_setK {w : World} {base : Nat} {e : TypeId} {size n : Nat} {v : Value} {xs : List Value} (h : w.ownsRow base e size v n xs) (a : Addr) (u : Value) (ha : a.block < base) : (w.setCell a u).ownsRow base e size v n xs := by
  refine h.kept (row := some a.block) ⟨rfl, rfl, rfl, by simp, fun k _ hk => Below.heap_setCell _ _ _ k (fun e => hk (by rw [e]))⟩ ?_
  cases hv : v.ownBlock with
  | none => exact .inl rfl
  | some q => exact .inr (fun e => by have := Kit.own_block_ge h q hv; cases e; omega)
theorem own_setCellsK {base g : Nat} {e : TypeId} {size n : Nat} {v : Value} {xs : List Value} (hg : g < base) : ∀ (vs : List Value) (o : Nat) (w : World), w.ownsRow base e size v n xs → (w.setCells g o vs).ownsRow base e size v n xs
  | [], _, _, h => h
  | u :: vs, o, w, h => own_setCellsK hg vs (o + 1) _ (Kit.own_setK h _ _ hg)
/-- a node is stored whole; rows of their own stay. -/
theorem nd_store_own {ops : Array Oper} {rest : List Oper} {op : Oper} {a : Act} {w : World} {Q : Exit → Act → World → Prop} (hgd : op.guard = none) (x y : Operand) (ho : op.op = .store 28 x y)
    (b : Nat) (u v : Nd) (hx : a.eval x = .pointer (some ⟨b, 0, none⟩)) (hy : a.eval y = .agg v.val) (hb : NdBox b u w)
    (h : ∀ w', NdBox b v w' → Below b w w' → w'.heap.size = w.heap.size → (∀ (base : Nat) (e : TypeId) (size n : Nat) (z : Value) (xs : List Value), b < base → w.ownsRow base e size z n xs → w'.ownsRow base e size z n xs) → wpList Tryd.prog ops Q rest (a.put op.dst undef) w') : wpList Tryd.prog ops Q (op :: rest) a w := by
  refine wpList_store_mid hgd 28 x y ho b 0 v.val hx hy hb.2 info_node (nd_one v) ?_
  have go : ∀ (vs : List Value) (o : Nat) (w : World), Below b w (w.setCells b o vs) ∧ (w.setCells b o vs).heap.size = w.heap.size := by
    intro vs
    induction vs with
    | nil => intro o w; exact ⟨Below.refl _ _, rfl⟩
    | cons v vs ih => intro o w; exact ⟨((Below.refl b w).setCell (p := ⟨b, o, none⟩) (Nat.le_refl _) v).trans (ih (o + 1) _).1, (ih (o + 1) (w.setCell ⟨b, o, none⟩ v)).2.trans (by simp [World.setCell])⟩
  exact h _ ⟨World.rangeAt_setCells_same _ _ _ _ hb.2, World.there_setCells hb.2 _ _ _⟩ (go _ _ _).1 (go _ _ _).2 (fun base e size n z xs hlt ho => own_setCellsK hlt _ _ _ ho)
set_option maxRecDepth 100000 in
set_option maxHeartbeats 4000000 in
theorem plain_no (x : Nd) (hkb : knownB x.kd = false) (w : World) (hT : NamesIn w) :
    Calls Tryd.prog 15 #[.agg x.val] w fun e w' => e = .returned (.agg Nd.zero.val) ∧ Below w.heap.size w w' := by
  have TN := Lib.hid (NdAt.new x 28 w)
  have HT := Lib.hid hT
  clear hT
  have hkn := fun (w : World) (h : NamesIn w) => known_to x.kd w h
  rw [hkb] at hkn
  have HKN := Lib.hid hkn
  clear hkn hkb
  go_enter Tryd.func15, Tryd.ntmps15
  go_upto_region 1 with fail
  have HR : Hid (NdBox (w.heap.size + 1) Nd.zero ((w.alloc (.cells x.val 28)).alloc (.cells Nd.zero.val 28))) := Lib.hid (by have := NdBox.new Nd.zero 28 (w.alloc (.cells x.val 28)); rwa [World.size_alloc] at this)
  replace TN := Lib.hid (TN.out.below (B := w.heap.size + 1) (Nat.lt_succ_self _) ((Below.refl _ _).alloc (by simp) (.cells Nd.zero.val 28)))
  have HB := Lib.hid (((Below.refl w.heap.size w).alloc (Nat.le_refl _) (.cells x.val 28)).alloc (by simp) (.cells Nd.zero.val 28))
  have HS : Hid (((w.alloc (.cells x.val 28)).alloc (.cells Nd.zero.val 28)).heap.size = w.heap.size + 2) := Lib.hid (by simp)
  generalize h : (w.alloc (.cells x.val 28)).alloc (.cells Nd.zero.val 28) = W0 at TN HR HB HS
  rw [show (w.alloc (Obj.cells x.val 28)).alloc (Obj.cells #[.int .i64 0, .int .i64 0, .int .i64 0, .int .i64 0, .int .i64 0, .int .i64 0, .int .i64 0, .int .i8 0, .int .i8 0, .slice none 0 0, .slice none 0 0, .int .i32 0, .int .i64 0, .int .i8 0, .int .i32 0, .int .i64 0, .int .i8 0, .int .i8 0, .int .i8 0] 28) = W0 from h]
  clear h
  have q0 := TN.out.at 0 (.int .i64 x.kd) rfl
  go_wp2_with (first
    | (go_at_call 18; (with_reducible refine (HKN.out _ (HT.out.grown HB.out)).mono ?_); rintro e w1 ⟨rfl, rfl⟩)
    | (refine nd_store rfl (.tmp 2) (.tmp 8) rfl (w.heap.size + 1) Nd.zero Nd.zero rfl rfl HR.out ?_; rintro W2 hp hb1 hs1))
  refine bodyPost_ret (nd_result rfl _ _ (w.heap.size + 1) Nd.zero rfl hp.1) rfl ?_
  exact ⟨rfl, HB.out.trans (hb1.mono (Nat.le_succ _))⟩
/-- a node with what its kind tells alone, its lists elsewhere. -/
def Nd.plainV (x : Nd) (A : Option Addr) (c : Nat) (A2 : Option Addr) (c2 : Nat) : Nd := { x.ownK x.kd with WA := A, cW := c, BA := A2, cB := c2 }
set_option maxRecDepth 100000 in
set_option maxHeartbeats 8000000 in
theorem plain_yes (x : Nd) (hkb : knownB x.kd = true) (zs us : List Int) (hz : zs.length = (x.ownK x.kd).nW) (hzl : (x.ownK x.kd).nW ≤ 1000000) (hu : us.length = (x.ownK x.kd).nB) (hul : (x.ownK x.kd).nB ≤ 1000000) (w : World) {B1 B2 : Nat}
    (hr : Kit.Rd w B1 (x.ownK x.kd).WA (zs.map (.int .i8))) (hB1 : B1 ≤ w.heap.size) (hr2 : Kit.Rd w B2 (x.ownK x.kd).BA (us.map (.int .i32))) (hB2 : B2 ≤ w.heap.size) (hT : NamesIn w) :
    Calls Tryd.prog 15 #[.agg x.val] w fun e w' => ∃ A c A2 c2, e = .returned (.agg (x.plainV A c A2 c2).val) ∧ Below w.heap.size w w' ∧ Kit.Rd w' w'.heap.size A (zs.map (.int .i8)) ∧ Kit.Rd w' w'.heap.size A2 (us.map (.int .i32)) := by
  have HRW := Lib.hid (hr.more hB1)
  have HRU := Lib.hid (hr2.more hB2)
  have HZ := Lib.hid hz
  have HZL := Lib.hid hzl
  have HU := Lib.hid hu
  have HUL := Lib.hid hul
  have HOW := Lib.hid (fun w => own_to x (by simpa [knownB] using hkb) w)
  have HPV : Hid (∀ A c A2 c2, x.plainV A c A2 c2 = { x.ownK x.kd with WA := A, cW := c, BA := A2, cB := c2 }) := Lib.hid (fun _ _ _ _ => rfl)
  clear hr hB1 hr2 hB2 hz hzl hu hul
  generalize x.ownK x.kd = y at *
  have TN := Lib.hid (NdAt.new x 28 w)
  have HT := Lib.hid hT
  clear hT
  have hkn := fun (w : World) (h : NamesIn w) => known_to x.kd w h
  rw [hkb] at hkn
  have HKN := Lib.hid hkn
  clear hkn hkb
  go_enter Tryd.func15, Tryd.ntmps15
  go_upto_region 1 with fail
  have HR : Hid (NdBox (w.heap.size + 1) Nd.zero ((w.alloc (.cells x.val 28)).alloc (.cells Nd.zero.val 28))) := Lib.hid (by have := NdBox.new Nd.zero 28 (w.alloc (.cells x.val 28)); rwa [World.size_alloc] at this)
  replace TN := Lib.hid (TN.out.below (B := w.heap.size + 1) (Nat.lt_succ_self _) ((Below.refl _ _).alloc (by simp) (.cells Nd.zero.val 28)))
  have HB := Lib.hid (((Below.refl w.heap.size w).alloc (Nat.le_refl _) (.cells x.val 28)).alloc (by simp) (.cells Nd.zero.val 28))
  have HS : Hid (((w.alloc (.cells x.val 28)).alloc (.cells Nd.zero.val 28)).heap.size = w.heap.size + 2) := Lib.hid (by simp)
  generalize h : (w.alloc (.cells x.val 28)).alloc (.cells Nd.zero.val 28) = W0 at TN HR HB HS
  rw [show (w.alloc (Obj.cells x.val 28)).alloc (Obj.cells #[.int .i64 0, .int .i64 0, .int .i64 0, .int .i64 0, .int .i64 0, .int .i64 0, .int .i64 0, .int .i8 0, .int .i8 0, .slice none 0 0, .slice none 0 0, .int .i32 0, .int .i64 0, .int .i8 0, .int .i32 0, .int .i64 0, .int .i8 0, .int .i8 0, .int .i8 0] 28) = W0 from h]
  clear h
  have q0 := TN.out.at 0 (.int .i64 x.kd) rfl
  go_upto_region 4 with (first
    | (go_at_call 18; (with_reducible refine (HKN.out _ (HT.out.grown HB.out)).mono ?_); rintro e w1 ⟨rfl, rfl⟩)
    | (refine nd_load rfl _ rfl w.heap.size x rfl TN.out ?_)
    | (go_at_call 20; (with_reducible refine (HOW.out _).mono ?_); rintro e w1 ⟨rfl, hb⟩; (replace HR := Lib.hid (HR.out.below (by rw [HS.out]; omega) hb)); (replace HB := Lib.hid (HB.out.trans (hb.mono HB.out.size))); (have HL : Hid (w.heap.size + 1 < w1.heap.size) := Lib.hid (by have := hb.size; rw [HS.out] at this; omega)); clear hb)
    | (refine nd_store rfl (.tmp 3) (.tmp 10) rfl _ Nd.zero y rfl rfl (NdBox.new Nd.zero _ _) ?_; rintro W2 hp hb1 hs1))
  replace HR := Lib.hid (HR.out.below HL.out (((Below.refl _ _).alloc (Nat.le_refl _) _).trans hb1))
  replace HB := Lib.hid (HB.out.trans ((((Below.refl _ _).alloc (Nat.le_refl _) _).trans hb1).mono (Nat.le_of_lt (Nat.lt_of_succ_lt HL.out))))
  have HP := Lib.hid hp
  clear hp hb1 hs1 HS q0 TN HT HKN HOW
  generalize w1.heap.size = b at *
  clear w1 W0
  replace HRW := Lib.hid (HRW.out.below HB.out)
  replace HRU := Lib.hid (HRU.out.below HB.out)
  have HBW := Lib.hid HB.out.size
  have HBU := Lib.hid HB.out.size
  refine wp_region_any (by kernel_rfl) ?_
  rw [show ({ W2 with drawn := W2.drawn + 1 } : World) = W2.drew from rfl]
  replace HR : Hid (NdBox (w.heap.size + 1) Nd.zero W2.drew) := Lib.hid (HR.out.below HL.out (Below.refl b W2).drew)
  replace HP : Hid (NdBox b y W2.drew) := Lib.hid (HP.out.below (Nat.lt_succ_self b) (Below.refl (b + 1) W2).drew)
  replace HB : Hid (Below w.heap.size w W2.drew) := Lib.hid (HB.out.trans (Below.refl _ W2).drew)
  replace HRW : Hid (Kit.Rd W2.drew w.heap.size y.WA (zs.map (.int .i8))) := Lib.hid HRW.out.drew
  replace HRU : Hid (Kit.Rd W2.drew w.heap.size y.BA (us.map (.int .i32))) := Lib.hid HRU.out.drew
  replace HBW : Hid (w.heap.size ≤ W2.drew.heap.size) := Lib.hid HBW.out
  replace HBU : Hid (w.heap.size ≤ W2.drew.heap.size) := Lib.hid HBU.out
  generalize W2.drew = V0 at *
  clear W2
  have q9 := HP.out.1.at 9 (.slice y.WA y.nW y.cW) rfl
  have q10 := HP.out.1.at 10 (.slice y.BA y.nB y.cB) rfl
  refine Tk.z 0 rfl ?_
  try simp only [Tk.put]
  refine Tk.z 3 rfl ?_
  try simp only [Tk.put]
  refine wpAny_ready (rs := [1, 4]) (by kernel_rfl) (by simp) ?_
  refine Tk.d rfl (fun Kq hK => ?_) (Tk.d rfl (fun Kq hK => ?_) (fun j hj => by cases hj))
  go_simp
  refine hK _ _ ?_
  clear hK Kq
  try simp only [Tk.put]
  refine wpAny_ready (rs := [2, 4]) (by kernel_rfl) (by simp) ?_
  refine Tk.d rfl (fun Kq hK => ?_) (Tk.d rfl (fun Kq hK => ?_) (fun j hj => by cases hj))
  clear q9 q10
  go_simp
  go_at_call 37
  refine (sclone _ zs _ _ HZ.out HZL.out _ HBW.out (HRW.out)).mono ?_
  rintro e V1 ⟨v1, rfl, ho, hb⟩
  have HO1 := Lib.hid (Kit.own_base ho (show b + 1 ≤ _ from HP.out.lt))
  replace HR := Lib.hid (HR.out.below (Nat.lt_of_succ_lt (Nat.lt_of_lt_of_le (Nat.succ_lt_succ HL.out) HP.out.lt)) hb)
  replace HB := Lib.hid (HB.out.trans (hb.mono HB.out.size))
  replace HRU := Lib.hid (HRU.out.below (hb.mono HBU.out))
  replace HBU := Lib.hid (Nat.le_trans HBU.out hb.size)
  replace HP := Lib.hid (HP.out.below HP.out.lt hb)
  clear ho hb HRW HBW
  have q9 := HP.out.1.at 9 (.slice y.WA y.nW y.cW) rfl
  have q10 := HP.out.1.at 10 (.slice y.BA y.nB y.cB) rfl
  dsimp only
  refine hK _ _ ?_
  clear hK Kq
  try simp only [Tk.put]
  refine Tk.q 4 rfl (fun Kq hK => ?_)
  go_simp
  refine hK _ _ ?_
  clear hK Kq
  try simp only [Tk.put]
  rotate_left
  go_simp
  refine hK _ _ ?_
  clear hK Kq
  try simp only [Tk.put]
  refine Tk.q 2 rfl (fun Kq hK => ?_)
  clear q9 q10
  go_simp
  go_at_call 37
  refine (sclone _ zs _ _ HZ.out HZL.out _ HBW.out (HRW.out)).mono ?_
  rintro e V1 ⟨v1, rfl, ho, hb⟩
  have HO1 := Lib.hid (Kit.own_base ho (show b + 1 ≤ _ from HP.out.lt))
  replace HR := Lib.hid (HR.out.below (Nat.lt_of_succ_lt (Nat.lt_of_lt_of_le (Nat.succ_lt_succ HL.out) HP.out.lt)) hb)
  replace HB := Lib.hid (HB.out.trans (hb.mono HB.out.size))
  replace HRU := Lib.hid (HRU.out.below (hb.mono HBU.out))
  replace HBU := Lib.hid (Nat.le_trans HBU.out hb.size)
  replace HP := Lib.hid (HP.out.below HP.out.lt hb)
  clear ho hb HRW HBW
  have q9 := HP.out.1.at 9 (.slice y.WA y.nW y.cW) rfl
  have q10 := HP.out.1.at 10 (.slice y.BA y.nB y.cB) rfl
  dsimp only
  refine hK _ _ ?_
  clear hK Kq
  try simp only [Tk.put]
  rotate_left
  go_simp
  refine hK _ _ ?_
  clear hK Kq
  try simp only [Tk.put]
  refine Tk.q 1 rfl (fun Kq hK => ?_)
  go_simp
  refine hK _ _ ?_
  clear hK Kq
  try simp only [Tk.put]
  refine Tk.q 2 rfl (fun Kq hK => ?_)
  clear q9 q10
  go_simp
  go_at_call 37
  refine (sclone _ zs _ _ HZ.out HZL.out _ HBW.out (HRW.out)).mono ?_
  rintro e V1 ⟨v1, rfl, ho, hb⟩
  have HO1 := Lib.hid (Kit.own_base ho (show b + 1 ≤ _ from HP.out.lt))
  replace HR := Lib.hid (HR.out.below (Nat.lt_of_succ_lt (Nat.lt_of_lt_of_le (Nat.succ_lt_succ HL.out) HP.out.lt)) hb)
  replace HB := Lib.hid (HB.out.trans (hb.mono HB.out.size))
  replace HRU := Lib.hid (HRU.out.below (hb.mono HBU.out))
  replace HBU := Lib.hid (Nat.le_trans HBU.out hb.size)
  replace HP := Lib.hid (HP.out.below HP.out.lt hb)
  clear ho hb HRW HBW
  have q9 := HP.out.1.at 9 (.slice y.WA y.nW y.cW) rfl
  have q10 := HP.out.1.at 10 (.slice y.BA y.nB y.cB) rfl
  dsimp only
  refine hK _ _ ?_
  clear hK Kq
  try simp only [Tk.put]
  all_goals
    refine Tk.z 6 rfl ?_
    try simp only [Tk.put]
    refine Tk.q 5 rfl (fun Kq hK => ?_)
    go_simp
    go_at_call 38
    refine (kclone32 _ us _ _ HU.out HUL.out _ HBU.out (HRU.out)).mono ?_
    rintro e V2 ⟨v2, rfl, ho, hb⟩
    have HO2 := Lib.hid (Kit.own_base ho (show b + 1 ≤ _ from HP.out.lt))
    replace HO1 := Lib.hid (Kit.own_below HO1.out hb)
    replace HR := Lib.hid (HR.out.below (Nat.lt_of_succ_lt (Nat.lt_of_lt_of_le (Nat.succ_lt_succ HL.out) HP.out.lt)) hb)
    replace HB := Lib.hid (HB.out.trans (hb.mono HB.out.size))
    replace HP := Lib.hid (HP.out.below HP.out.lt hb)
    clear ho hb HRU HBU q9 q10
    obtain ⟨A5, k5, rfl, -, -, -⟩ := Kit.own_rd HO1.out
    obtain ⟨A6, k6, rfl, -, -, -⟩ := Kit.own_rd HO2.out
    have q9 := HP.out.1.at 9 (.slice y.WA y.nW y.cW) rfl
    have f9 := HP.out.fr 9 (by decide)
    dsimp only
    refine hK _ _ ?_
    clear hK Kq
    try simp only [Tk.put]
    refine Tk.q 7 rfl (fun Kq hK => ?_)
    go_simp
    refine hK _ _ ?_
    clear hK Kq q9 f9
    try simp only [Tk.put]
    replace HP : Hid (NdBox b { y with WA := A5, cW := k5 } _) := Lib.hid (HP.out.set 9 (.slice A5 y.nW k5) (by decide) rfl)
    replace HR := Lib.hid (HR.out.below HL.out ((Below.refl b V2).setCell (p := ⟨b, 9, none⟩) (Nat.le_refl _) (.slice A5 y.nW k5)))
    replace HB := Lib.hid (HB.out.setCell (p := ⟨b, 9, none⟩) (Nat.le_of_lt (Nat.lt_of_succ_lt HL.out)) (.slice A5 y.nW k5))
    replace HO1 := Lib.hid (Kit.own_setK HO1.out ⟨b, 9, none⟩ (.slice A5 y.nW k5) (Nat.lt_succ_self b))
    replace HO2 := Lib.hid (Kit.own_setK HO2.out ⟨b, 9, none⟩ (.slice A5 y.nW k5) (Nat.lt_succ_self b))
    generalize V2.setCell ⟨b, 9, none⟩ (.slice A5 y.nW k5) = V3 at *
    have q10 := HP.out.1.at 10 (.slice y.BA y.nB y.cB) rfl
    have f10 := HP.out.fr 10 (by decide)
    refine Tk.z 8 rfl ?_
    try simp only [Tk.put]
    refine Tk.q 9 rfl (fun Kq hK => ?_)
    go_simp
    refine hK _ _ ?_
    clear hK Kq q10 f10
    try simp only [Tk.put]
    replace HP : Hid (NdBox b { y with WA := A5, cW := k5, BA := A6, cB := k6 } _) := Lib.hid (HP.out.set 10 (.slice A6 y.nB k6) (by decide) rfl)
    replace HR := Lib.hid (HR.out.below HL.out ((Below.refl b V3).setCell (p := ⟨b, 10, none⟩) (Nat.le_refl _) (.slice A6 y.nB k6)))
    replace HB := Lib.hid (HB.out.setCell (p := ⟨b, 10, none⟩) (Nat.le_of_lt (Nat.lt_of_succ_lt HL.out)) (.slice A6 y.nB k6))
    replace HO1 := Lib.hid (Kit.own_setK HO1.out ⟨b, 10, none⟩ (.slice A6 y.nB k6) (Nat.lt_succ_self b))
    replace HO2 := Lib.hid (Kit.own_setK HO2.out ⟨b, 10, none⟩ (.slice A6 y.nB k6) (Nat.lt_succ_self b))
    generalize V3.setCell ⟨b, 10, none⟩ (.slice A6 y.nB k6) = V4 at *
    refine wpAny_done (by kernel_rfl) ?_ _
    go_wp2_with (first
      | (refine nd_load rfl (.tmp 3) rfl b { y with WA := A5, cW := k5, BA := A6, cB := k6 } rfl HP.out.1 ?_)
      | (refine nd_store_own rfl (.tmp 2) (.tmp 19) rfl (w.heap.size + 1) Nd.zero { y with WA := A5, cW := k5, BA := A6, cB := k6 } rfl rfl HR.out ?_; rintro W5 hp hb1 hs1 hown))
    refine bodyPost_ret (nd_result rfl _ _ (w.heap.size + 1) { y with WA := A5, cW := k5, BA := A6, cB := k6 } rfl hp.1) rfl ?_
    have o1 := hown _ _ _ _ _ _ (Nat.lt_succ_of_lt HL.out) HO1.out
    have o2 := hown _ _ _ _ _ _ (Nat.lt_succ_of_lt HL.out) HO2.out
    obtain ⟨A7, k7, e7, -, -, r7⟩ := Kit.own_rd o1
    obtain ⟨A8, k8, e8, -, -, r8⟩ := Kit.own_rd o2
    cases e7
    cases e8
    exact ⟨A5, k5, A6, k6, by rw [HPV.out], HB.out.trans (hb1.mono (Nat.le_succ _)), r7, r8⟩
end Go.Proofs.YtamcdpkakdiggaaDoor.CKind
end
section
namespace Go.Proofs.YtamcdpkakdiggaaDoor.CKind
open Go Go.ChangeShapes Go.WideShapes Go.ChangeAt Go.RowKit Go.Deep
open Plain CSat CShape CTensor CConv
set_option linter.unusedVariables false
set_option linter.unusedSimpArgs false
set_option maxRecDepth 100000 in
set_option maxHeartbeats 8000000 in
theorem nsame_a0 (x y : Nd) (d0 : x.kd ≠ y.kd) (w : World) :
    Calls Tryd.prog 16 #[.agg x.val, .agg y.val] w fun e w' => e = .returned (.bool false) ∧ Below w.heap.size w w' := by
  have b0 : (x.kd != y.kd) = true := by simpa using d0
  have c0 : (x.kd == y.kd) = false := by simpa using d0
  clear d0 
  unfold Nd.val
  go_enter Tryd.func16, Tryd.ntmps16
  go_wp2_with fail
  go_ret
  exact ⟨rfl, ((Below.refl _ _).alloc (Nat.le_refl _) _).alloc (by simp) _⟩
set_option maxRecDepth 100000 in
set_option maxHeartbeats 8000000 in
theorem nsame_a1 (x y : Nd) (e0 : x.kd = y.kd) (d1 : x.na ≠ y.na) (w : World) :
    Calls Tryd.prog 16 #[.agg x.val, .agg y.val] w fun e w' => e = .returned (.bool false) ∧ Below w.heap.size w w' := by
  have b0 : (x.kd != y.kd) = false := by simpa using e0
  have c0 : (x.kd == y.kd) = true := by simpa using e0
  have b1 : (x.na != y.na) = true := by simpa using d1
  have c1 : (x.na == y.na) = false := by simpa using d1
  clear d1 e0
  unfold Nd.val
  go_enter Tryd.func16, Tryd.ntmps16
  go_wp2_with fail
  go_ret
  exact ⟨rfl, ((Below.refl _ _).alloc (Nat.le_refl _) _).alloc (by simp) _⟩
set_option maxRecDepth 100000 in
set_option maxHeartbeats 8000000 in
theorem nsame_a2 (x y : Nd) (e0 : x.kd = y.kd) (e1 : x.na = y.na) (d2 : x.nb ≠ y.nb) (w : World) :
    Calls Tryd.prog 16 #[.agg x.val, .agg y.val] w fun e w' => e = .returned (.bool false) ∧ Below w.heap.size w w' := by
  have b0 : (x.kd != y.kd) = false := by simpa using e0
  have c0 : (x.kd == y.kd) = true := by simpa using e0
  have b1 : (x.na != y.na) = false := by simpa using e1
  have c1 : (x.na == y.na) = true := by simpa using e1
  have b2 : (x.nb != y.nb) = true := by simpa using d2
  have c2 : (x.nb == y.nb) = false := by simpa using d2
  clear d2 e0 e1
  unfold Nd.val
  go_enter Tryd.func16, Tryd.ntmps16
  go_wp2_with fail
  go_ret
  exact ⟨rfl, ((Below.refl _ _).alloc (Nat.le_refl _) _).alloc (by simp) _⟩
set_option maxRecDepth 100000 in
set_option maxHeartbeats 8000000 in
theorem nsame_a3 (x y : Nd) (e0 : x.kd = y.kd) (e1 : x.na = y.na) (e2 : x.nb = y.nb) (d3 : x.K ≠ y.K) (w : World) :
    Calls Tryd.prog 16 #[.agg x.val, .agg y.val] w fun e w' => e = .returned (.bool false) ∧ Below w.heap.size w w' := by
  have b0 : (x.kd != y.kd) = false := by simpa using e0
  have c0 : (x.kd == y.kd) = true := by simpa using e0
  have b1 : (x.na != y.na) = false := by simpa using e1
  have c1 : (x.na == y.na) = true := by simpa using e1
  have b2 : (x.nb != y.nb) = false := by simpa using e2
  have c2 : (x.nb == y.nb) = true := by simpa using e2
  have b3 : (x.K != y.K) = true := by simpa using d3
  have c3 : (x.K == y.K) = false := by simpa using d3
  clear d3 e0 e1 e2
  unfold Nd.val
  go_enter Tryd.func16, Tryd.ntmps16
  go_wp2_with fail
  go_ret
  exact ⟨rfl, ((Below.refl _ _).alloc (Nat.le_refl _) _).alloc (by simp) _⟩
set_option maxRecDepth 100000 in
set_option maxHeartbeats 8000000 in
theorem nsame_a4 (x y : Nd) (e0 : x.kd = y.kd) (e1 : x.na = y.na) (e2 : x.nb = y.nb) (e3 : x.K = y.K) (d4 : x.S ≠ y.S) (w : World) :
    Calls Tryd.prog 16 #[.agg x.val, .agg y.val] w fun e w' => e = .returned (.bool false) ∧ Below w.heap.size w w' := by
  have b0 : (x.kd != y.kd) = false := by simpa using e0
  have c0 : (x.kd == y.kd) = true := by simpa using e0
  have b1 : (x.na != y.na) = false := by simpa using e1
  have c1 : (x.na == y.na) = true := by simpa using e1
  have b2 : (x.nb != y.nb) = false := by simpa using e2
  have c2 : (x.nb == y.nb) = true := by simpa using e2
  have b3 : (x.K != y.K) = false := by simpa using e3
  have c3 : (x.K == y.K) = true := by simpa using e3
  have b4 : (x.S != y.S) = true := by simpa using d4
  have c4 : (x.S == y.S) = false := by simpa using d4
  clear d4 e0 e1 e2 e3
  unfold Nd.val
  go_enter Tryd.func16, Tryd.ntmps16
  go_wp2_with fail
  go_ret
  exact ⟨rfl, ((Below.refl _ _).alloc (Nat.le_refl _) _).alloc (by simp) _⟩
set_option maxRecDepth 100000 in
set_option maxHeartbeats 8000000 in
theorem nsame_a5 (x y : Nd) (e0 : x.kd = y.kd) (e1 : x.na = y.na) (e2 : x.nb = y.nb) (e3 : x.K = y.K) (e4 : x.S = y.S) (d5 : x.P ≠ y.P) (w : World) :
    Calls Tryd.prog 16 #[.agg x.val, .agg y.val] w fun e w' => e = .returned (.bool false) ∧ Below w.heap.size w w' := by
  have b0 : (x.kd != y.kd) = false := by simpa using e0
  have c0 : (x.kd == y.kd) = true := by simpa using e0
  have b1 : (x.na != y.na) = false := by simpa using e1
  have c1 : (x.na == y.na) = true := by simpa using e1
  have b2 : (x.nb != y.nb) = false := by simpa using e2
  have c2 : (x.nb == y.nb) = true := by simpa using e2
  have b3 : (x.K != y.K) = false := by simpa using e3
  have c3 : (x.K == y.K) = true := by simpa using e3
  have b4 : (x.S != y.S) = false := by simpa using e4
  have c4 : (x.S == y.S) = true := by simpa using e4
  have b5 : (x.P != y.P) = true := by simpa using d5
  have c5 : (x.P == y.P) = false := by simpa using d5
  clear d5 e0 e1 e2 e3 e4
  unfold Nd.val
  go_enter Tryd.func16, Tryd.ntmps16
  go_wp2_with fail
  go_ret
  exact ⟨rfl, ((Below.refl _ _).alloc (Nat.le_refl _) _).alloc (by simp) _⟩
set_option maxRecDepth 100000 in
set_option maxHeartbeats 8000000 in
theorem nsame_a6 (x y : Nd) (e0 : x.kd = y.kd) (e1 : x.na = y.na) (e2 : x.nb = y.nb) (e3 : x.K = y.K) (e4 : x.S = y.S) (e5 : x.P = y.P) (d6 : x.O ≠ y.O) (w : World) :
    Calls Tryd.prog 16 #[.agg x.val, .agg y.val] w fun e w' => e = .returned (.bool false) ∧ Below w.heap.size w w' := by
  have b0 : (x.kd != y.kd) = false := by simpa using e0
  have c0 : (x.kd == y.kd) = true := by simpa using e0
  have b1 : (x.na != y.na) = false := by simpa using e1
  have c1 : (x.na == y.na) = true := by simpa using e1
  have b2 : (x.nb != y.nb) = false := by simpa using e2
  have c2 : (x.nb == y.nb) = true := by simpa using e2
  have b3 : (x.K != y.K) = false := by simpa using e3
  have c3 : (x.K == y.K) = true := by simpa using e3
  have b4 : (x.S != y.S) = false := by simpa using e4
  have c4 : (x.S == y.S) = true := by simpa using e4
  have b5 : (x.P != y.P) = false := by simpa using e5
  have c5 : (x.P == y.P) = true := by simpa using e5
  have b6 : (x.O != y.O) = true := by simpa using d6
  have c6 : (x.O == y.O) = false := by simpa using d6
  clear d6 e0 e1 e2 e3 e4 e5
  unfold Nd.val
  go_enter Tryd.func16, Tryd.ntmps16
  go_wp2_with fail
  go_ret
  exact ⟨rfl, ((Below.refl _ _).alloc (Nat.le_refl _) _).alloc (by simp) _⟩
end Go.Proofs.YtamcdpkakdiggaaDoor.CKind
end
section
namespace Go.Proofs.YtamcdpkakdiggaaDoor.CKind
open Go Go.ChangeShapes Go.WideShapes Go.ChangeAt Go.RowKit Go.Deep
open Plain CSat CShape CTensor CConv
set_option linter.unusedVariables false
set_option linter.unusedSimpArgs false
set_option maxRecDepth 100000 in
set_option maxHeartbeats 8000000 in
theorem nsame_b0 (x y : Nd) (e0 : x.kd = y.kd) (e1 : x.na = y.na) (e2 : x.nb = y.nb) (e3 : x.K = y.K) (e4 : x.S = y.S) (e5 : x.P = y.P) (e6 : x.O = y.O) (d10 : x.Z ≠ y.Z) (w : World) :
    Calls Tryd.prog 16 #[.agg x.val, .agg y.val] w fun e w' => e = .returned (.bool false) ∧ Below w.heap.size w w' := by
  have b0 : (x.kd != y.kd) = false := by simpa using e0
  have c0 : (x.kd == y.kd) = true := by simpa using e0
  have b1 : (x.na != y.na) = false := by simpa using e1
  have c1 : (x.na == y.na) = true := by simpa using e1
  have b2 : (x.nb != y.nb) = false := by simpa using e2
  have c2 : (x.nb == y.nb) = true := by simpa using e2
  have b3 : (x.K != y.K) = false := by simpa using e3
  have c3 : (x.K == y.K) = true := by simpa using e3
  have b4 : (x.S != y.S) = false := by simpa using e4
  have c4 : (x.S == y.S) = true := by simpa using e4
  have b5 : (x.P != y.P) = false := by simpa using e5
  have c5 : (x.P == y.P) = true := by simpa using e5
  have b6 : (x.O != y.O) = false := by simpa using e6
  have c6 : (x.O == y.O) = true := by simpa using e6
  have b10 : (x.Z != y.Z) = true := by simpa using d10
  have c10 : (x.Z == y.Z) = false := by simpa using d10
  clear e0 e1 e2 e3 e4 e5 e6 d10
  unfold Nd.val
  go_enter Tryd.func16, Tryd.ntmps16
  go_wp2_with fail
  go_ret
  exact ⟨rfl, ((Below.refl _ _).alloc (Nat.le_refl _) _).alloc (by simp) _⟩
set_option maxRecDepth 100000 in
set_option maxHeartbeats 8000000 in
theorem nsame_b1 (x y : Nd) (e0 : x.kd = y.kd) (e1 : x.na = y.na) (e2 : x.nb = y.nb) (e3 : x.K = y.K) (e4 : x.S = y.S) (e5 : x.P = y.P) (e6 : x.O = y.O) (e10 : x.Z = y.Z) (d11 : x.Y ≠ y.Y) (w : World) :
    Calls Tryd.prog 16 #[.agg x.val, .agg y.val] w fun e w' => e = .returned (.bool false) ∧ Below w.heap.size w w' := by
  have b0 : (x.kd != y.kd) = false := by simpa using e0
  have c0 : (x.kd == y.kd) = true := by simpa using e0
  have b1 : (x.na != y.na) = false := by simpa using e1
  have c1 : (x.na == y.na) = true := by simpa using e1
  have b2 : (x.nb != y.nb) = false := by simpa using e2
  have c2 : (x.nb == y.nb) = true := by simpa using e2
  have b3 : (x.K != y.K) = false := by simpa using e3
  have c3 : (x.K == y.K) = true := by simpa using e3
  have b4 : (x.S != y.S) = false := by simpa using e4
  have c4 : (x.S == y.S) = true := by simpa using e4
  have b5 : (x.P != y.P) = false := by simpa using e5
  have c5 : (x.P == y.P) = true := by simpa using e5
  have b6 : (x.O != y.O) = false := by simpa using e6
  have c6 : (x.O == y.O) = true := by simpa using e6
  have b10 : (x.Z != y.Z) = false := by simpa using e10
  have c10 : (x.Z == y.Z) = true := by simpa using e10
  have b11 : (x.Y != y.Y) = true := by simpa using d11
  have c11 : (x.Y == y.Y) = false := by simpa using d11
  clear e0 e1 e2 e3 e4 e5 e6 e10 d11
  unfold Nd.val
  go_enter Tryd.func16, Tryd.ntmps16
  go_wp2_with fail
  go_ret
  exact ⟨rfl, ((Below.refl _ _).alloc (Nat.le_refl _) _).alloc (by simp) _⟩
set_option maxRecDepth 100000 in
set_option maxHeartbeats 8000000 in
theorem nsame_b2 (x y : Nd) (e0 : x.kd = y.kd) (e1 : x.na = y.na) (e2 : x.nb = y.nb) (e3 : x.K = y.K) (e4 : x.S = y.S) (e5 : x.P = y.P) (e6 : x.O = y.O) (e10 : x.Z = y.Z) (e11 : x.Y = y.Y) (d12 : x.lo ≠ y.lo) (w : World) :
    Calls Tryd.prog 16 #[.agg x.val, .agg y.val] w fun e w' => e = .returned (.bool false) ∧ Below w.heap.size w w' := by
  have b0 : (x.kd != y.kd) = false := by simpa using e0
  have c0 : (x.kd == y.kd) = true := by simpa using e0
  have b1 : (x.na != y.na) = false := by simpa using e1
  have c1 : (x.na == y.na) = true := by simpa using e1
  have b2 : (x.nb != y.nb) = false := by simpa using e2
  have c2 : (x.nb == y.nb) = true := by simpa using e2
  have b3 : (x.K != y.K) = false := by simpa using e3
  have c3 : (x.K == y.K) = true := by simpa using e3
  have b4 : (x.S != y.S) = false := by simpa using e4
  have c4 : (x.S == y.S) = true := by simpa using e4
  have b5 : (x.P != y.P) = false := by simpa using e5
  have c5 : (x.P == y.P) = true := by simpa using e5
  have b6 : (x.O != y.O) = false := by simpa using e6
  have c6 : (x.O == y.O) = true := by simpa using e6
  have b10 : (x.Z != y.Z) = false := by simpa using e10
  have c10 : (x.Z == y.Z) = true := by simpa using e10
  have b11 : (x.Y != y.Y) = false := by simpa using e11
  have c11 : (x.Y == y.Y) = true := by simpa using e11
  have b12 : (x.lo != y.lo) = true := by simpa using d12
  have c12 : (x.lo == y.lo) = false := by simpa using d12
  clear e0 e1 e2 e3 e4 e5 e6 e10 e11 d12
  unfold Nd.val
  go_enter Tryd.func16, Tryd.ntmps16
  go_wp2_with fail
  go_ret
  exact ⟨rfl, ((Below.refl _ _).alloc (Nat.le_refl _) _).alloc (by simp) _⟩
set_option maxRecDepth 100000 in
set_option maxHeartbeats 8000000 in
theorem nsame_b3 (x y : Nd) (e0 : x.kd = y.kd) (e1 : x.na = y.na) (e2 : x.nb = y.nb) (e3 : x.K = y.K) (e4 : x.S = y.S) (e5 : x.P = y.P) (e6 : x.O = y.O) (e10 : x.Z = y.Z) (e11 : x.Y = y.Y) (e12 : x.lo = y.lo) (d13 : x.hi ≠ y.hi) (w : World) :
    Calls Tryd.prog 16 #[.agg x.val, .agg y.val] w fun e w' => e = .returned (.bool false) ∧ Below w.heap.size w w' := by
  have b0 : (x.kd != y.kd) = false := by simpa using e0
  have c0 : (x.kd == y.kd) = true := by simpa using e0
  have b1 : (x.na != y.na) = false := by simpa using e1
  have c1 : (x.na == y.na) = true := by simpa using e1
  have b2 : (x.nb != y.nb) = false := by simpa using e2
  have c2 : (x.nb == y.nb) = true := by simpa using e2
  have b3 : (x.K != y.K) = false := by simpa using e3
  have c3 : (x.K == y.K) = true := by simpa using e3
  have b4 : (x.S != y.S) = false := by simpa using e4
  have c4 : (x.S == y.S) = true := by simpa using e4
  have b5 : (x.P != y.P) = false := by simpa using e5
  have c5 : (x.P == y.P) = true := by simpa using e5
  have b6 : (x.O != y.O) = false := by simpa using e6
  have c6 : (x.O == y.O) = true := by simpa using e6
  have b10 : (x.Z != y.Z) = false := by simpa using e10
  have c10 : (x.Z == y.Z) = true := by simpa using e10
  have b11 : (x.Y != y.Y) = false := by simpa using e11
  have c11 : (x.Y == y.Y) = true := by simpa using e11
  have b12 : (x.lo != y.lo) = false := by simpa using e12
  have c12 : (x.lo == y.lo) = true := by simpa using e12
  have b13 : (x.hi != y.hi) = true := by simpa using d13
  have c13 : (x.hi == y.hi) = false := by simpa using d13
  clear e0 e1 e2 e3 e4 e5 e6 e10 e11 e12 d13
  unfold Nd.val
  go_enter Tryd.func16, Tryd.ntmps16
  go_wp2_with fail
  go_ret
  exact ⟨rfl, ((Below.refl _ _).alloc (Nat.le_refl _) _).alloc (by simp) _⟩
set_option maxRecDepth 100000 in
set_option maxHeartbeats 8000000 in
theorem nsame_b4 (x y : Nd) (e0 : x.kd = y.kd) (e1 : x.na = y.na) (e2 : x.nb = y.nb) (e3 : x.K = y.K) (e4 : x.S = y.S) (e5 : x.P = y.P) (e6 : x.O = y.O) (e10 : x.Z = y.Z) (e11 : x.Y = y.Y) (e12 : x.lo = y.lo) (e13 : x.hi = y.hi) (dq0 : (x.m1 == y.m1 && (x.s1 == y.s1 && x.z1 == y.z1)) = false) (w : World) :
    Calls Tryd.prog 16 #[.agg x.val, .agg y.val] w fun e w' => e = .returned (.bool false) ∧ Below w.heap.size w w' := by
  have b0 : (x.kd != y.kd) = false := by simpa using e0
  have c0 : (x.kd == y.kd) = true := by simpa using e0
  have b1 : (x.na != y.na) = false := by simpa using e1
  have c1 : (x.na == y.na) = true := by simpa using e1
  have b2 : (x.nb != y.nb) = false := by simpa using e2
  have c2 : (x.nb == y.nb) = true := by simpa using e2
  have b3 : (x.K != y.K) = false := by simpa using e3
  have c3 : (x.K == y.K) = true := by simpa using e3
  have b4 : (x.S != y.S) = false := by simpa using e4
  have c4 : (x.S == y.S) = true := by simpa using e4
  have b5 : (x.P != y.P) = false := by simpa using e5
  have c5 : (x.P == y.P) = true := by simpa using e5
  have b6 : (x.O != y.O) = false := by simpa using e6
  have c6 : (x.O == y.O) = true := by simpa using e6
  have b10 : (x.Z != y.Z) = false := by simpa using e10
  have c10 : (x.Z == y.Z) = true := by simpa using e10
  have b11 : (x.Y != y.Y) = false := by simpa using e11
  have c11 : (x.Y == y.Y) = true := by simpa using e11
  have b12 : (x.lo != y.lo) = false := by simpa using e12
  have c12 : (x.lo == y.lo) = true := by simpa using e12
  have b13 : (x.hi != y.hi) = false := by simpa using e13
  have c13 : (x.hi == y.hi) = true := by simpa using e13
  have HQ0 := eqQuantK x.m1 x.s1 x.z1 y.m1 y.s1 y.z1
  rw [dq0] at HQ0
  have hgq0 := Tryd.eqGuardType26
  clear e0 e1 e2 e3 e4 e5 e6 e10 e11 e12 e13 dq0
  unfold Nd.val
  go_enter Tryd.func16, Tryd.ntmps16
  go_wp2_with fail
  go_ret
  exact ⟨rfl, ((Below.refl _ _).alloc (Nat.le_refl _) _).alloc (by simp) _⟩
set_option maxRecDepth 100000 in
set_option maxHeartbeats 8000000 in
theorem nsame_b5 (x y : Nd) (e0 : x.kd = y.kd) (e1 : x.na = y.na) (e2 : x.nb = y.nb) (e3 : x.K = y.K) (e4 : x.S = y.S) (e5 : x.P = y.P) (e6 : x.O = y.O) (e10 : x.Z = y.Z) (e11 : x.Y = y.Y) (e12 : x.lo = y.lo) (e13 : x.hi = y.hi) (eq0 : (x.m1 == y.m1 && (x.s1 == y.s1 && x.z1 == y.z1)) = true) (dq1 : (x.m2 == y.m2 && (x.s2 == y.s2 && x.z2 == y.z2)) = false) (w : World) :
    Calls Tryd.prog 16 #[.agg x.val, .agg y.val] w fun e w' => e = .returned (.bool false) ∧ Below w.heap.size w w' := by
  have b0 : (x.kd != y.kd) = false := by simpa using e0
  have c0 : (x.kd == y.kd) = true := by simpa using e0
  have b1 : (x.na != y.na) = false := by simpa using e1
  have c1 : (x.na == y.na) = true := by simpa using e1
  have b2 : (x.nb != y.nb) = false := by simpa using e2
  have c2 : (x.nb == y.nb) = true := by simpa using e2
  have b3 : (x.K != y.K) = false := by simpa using e3
  have c3 : (x.K == y.K) = true := by simpa using e3
  have b4 : (x.S != y.S) = false := by simpa using e4
  have c4 : (x.S == y.S) = true := by simpa using e4
  have b5 : (x.P != y.P) = false := by simpa using e5
  have c5 : (x.P == y.P) = true := by simpa using e5
  have b6 : (x.O != y.O) = false := by simpa using e6
  have c6 : (x.O == y.O) = true := by simpa using e6
  have b10 : (x.Z != y.Z) = false := by simpa using e10
  have c10 : (x.Z == y.Z) = true := by simpa using e10
  have b11 : (x.Y != y.Y) = false := by simpa using e11
  have c11 : (x.Y == y.Y) = true := by simpa using e11
  have b12 : (x.lo != y.lo) = false := by simpa using e12
  have c12 : (x.lo == y.lo) = true := by simpa using e12
  have b13 : (x.hi != y.hi) = false := by simpa using e13
  have c13 : (x.hi == y.hi) = true := by simpa using e13
  have HQ0 := eqQuantK x.m1 x.s1 x.z1 y.m1 y.s1 y.z1
  rw [eq0] at HQ0
  have hgq0 := Tryd.eqGuardType26
  have HQ1 := eqQuantK x.m2 x.s2 x.z2 y.m2 y.s2 y.z2
  rw [dq1] at HQ1
  have hgq1 := Tryd.eqGuardType26
  clear e0 e1 e2 e3 e4 e5 e6 e10 e11 e12 e13 eq0 dq1
  unfold Nd.val
  go_enter Tryd.func16, Tryd.ntmps16
  go_wp2_with fail
  go_ret
  exact ⟨rfl, ((Below.refl _ _).alloc (Nat.le_refl _) _).alloc (by simp) _⟩
end Go.Proofs.YtamcdpkakdiggaaDoor.CKind
end
