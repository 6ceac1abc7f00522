/- Contracts of package ratio (layer 3), the third part: products. -/
import Derived.Test.YtpiigdgiliaihaaRatioTwo
namespace Go.Proofs.Ytpiigdgiliaihaa.CRatio
open Go Go.ChangeShapes Go.WideShapes Go.ChangeAt Go.RowKit
open Plain CSat CFix Num
set_option linter.unusedVariables false

/-- what comes of two scales that are plain: the code of what is wrong, and the cells. -/
def timesE (y y' : Nat) : Int := if 31 ≤ y + y' ∧ y + y' ≤ 93 then 0 else 3
def timesS (x x' y y' : Nat) (z : Int) : Array Value := if timesE y y' = 0 then #[.int .i32 ((max (x * x' / 2147483648) 1 : Nat) : Int), .int .i64 ((y + y' - 31 : Nat) : Int), .int .i8 z] else #[.int .i32 0, .int .i64 0, .int .i8 0]
theorem timesE_low {y y' : Nat} {e : Int} (h : y + y' < 31) (he : timesE y y' = e) : e = 3 := by rw [← he]; unfold timesE; rw [if_neg (by omega)]
theorem timesE_high {y y' : Nat} {e : Int} (h : 93 < y + y') (he : timesE y y' = e) : e = 3 := by rw [← he]; unfold timesE; rw [if_neg (by omega)]
theorem timesE_ok {y y' : Nat} {e : Int} (h : 31 ≤ y + y') (h2 : y + y' ≤ 93) (he : timesE y y' = e) : e = 0 := by rw [← he]; unfold timesE; rw [if_pos ⟨h, h2⟩]
theorem timesS_bad {x x' y y' : Nat} {z : Int} {v : Array Value} (h : timesE y y' ≠ 0) (hv : timesS x x' y y' z = v) : v = #[.int .i32 0, .int .i64 0, .int .i8 0] := by rw [← hv]; unfold timesS; rw [if_neg h]
theorem timesS_ok {x x' y y' : Nat} {z : Int} {v : Array Value} (h : timesE y y' = 0) (hv : timesS x x' y y' z = v) : v = #[.int .i32 ((max (x * x' / 2147483648) 1 : Nat) : Int), .int .i64 ((y + y' - 31 : Nat) : Int), .int .i8 z] := by rw [← hv]; unfold timesS; rw [if_pos h]

set_option maxHeartbeats 8000000 in
theorem times_yes (m s j x y m' s' j' x' y' : Nat) (z z' : Int) (h1 : 1 ≤ m) (h2 : m ≤ 2147483647) (hs : s ≤ 62) (hj : IsPlain m s j x) (hy : s + j = y) (h1' : 1 ≤ m') (h2' : m' ≤ 2147483647) (hs' : s' ≤ 62) (hj' : IsPlain m' s' j' x') (hy' : s' + j' = y') (v : Array Value) (e0 : Int) (he : timesE y y' = e0) (hv : timesS x x' y y' z' = v) (w : World) :
    Calls Try.prog 10 #[.agg #[.int .i32 (m : Int), .int .i64 (s : Int), .int .i8 z], .agg #[.int .i32 (m' : Int), .int .i64 (s' : Int), .int .i8 z']] w fun e w' => e = .returned (.tuple #[.agg v, .int .i64 e0]) ∧ Below w.heap.size w w' := by
  have HR := Lib.hid (show rightB m s = true by simp [rightB]; omega)
  have HR' := Lib.hid (show rightB m' s' = true by simp [rightB]; omega)
  have x1 := hj.top h2
  have x2 := hj'.top h2'
  have x3 := hj.pos h1
  have x4 := hj'.pos h1'
  have y1 : y ≤ 62 := by have := hj.2.1; omega
  have y2 : y' ≤ 62 := by have := hj'.2.1; omega
  have HJ := Lib.hid hj
  have HJ' := Lib.hid hj'
  have HY := Lib.hid hy
  have HY' := Lib.hid hy'
  have HE := Lib.hid he
  have HV := Lib.hid hv
  clear hj hj' hy hy' he hv
  go_enter Try.func10, Try.ntmps10
  go_wp2_with (first
    | (go_at_call 19; ((with_reducible refine (isRight_yes (m : Int) (s : Int) z HR.out _).mono ?_); rintro e w1 ⟨rfl, hb1⟩; obtain ⟨hc1, hf1⟩ := Kit.bcell hb1))
    | (go_at_call 19; ((with_reducible refine (isRight_yes (m' : Int) (s' : Int) z' HR'.out _).mono ?_); rintro e w2 ⟨rfl, hb2⟩; obtain ⟨hc2, hf2⟩ := Kit.bcell hb2)))
  have s1 : w.heap.size + 2 < w1.heap.size := by have := hb1.size; simp at this; omega
  have s2 : w.heap.size + 2 < w2.heap.size := by have := hb2.size; omega
  have z2 : Below w.heap.size w w2 := (((((Below.refl _ _).alloc (Nat.le_refl _) _).alloc (by simp) _).alloc (by simp; omega) _).trans (hb1.mono (by simp; omega))).trans (hb2.mono (by omega))
  have c0 : w2.cell? ⟨w.heap.size, 0, none⟩ = some (.int .i32 (m : Int)) := (hb2.cell (p := ⟨w.heap.size, 0, none⟩) (by simp; omega)).trans (by go_cell)
  have c1 : w2.cell? ⟨w.heap.size, 1, none⟩ = some (.int .i64 (s : Int)) := (hb2.cell (p := ⟨w.heap.size, 1, none⟩) (by simp; omega)).trans (by go_cell)
  have c2 : w2.cell? ⟨w.heap.size, 2, none⟩ = some (.int .i8 z) := (hb2.cell (p := ⟨w.heap.size, 2, none⟩) (by simp; omega)).trans (by go_cell)
  have c3 : w2.cell? ⟨w.heap.size + 1, 0, none⟩ = some (.int .i32 (m' : Int)) := (hb2.cell (p := ⟨w.heap.size + 1, 0, none⟩) (by simp; omega)).trans (by go_cell)
  have c4 : w2.cell? ⟨w.heap.size + 1, 1, none⟩ = some (.int .i64 (s' : Int)) := (hb2.cell (p := ⟨w.heap.size + 1, 1, none⟩) (by simp; omega)).trans (by go_cell)
  have c5 : w2.cell? ⟨w.heap.size + 1, 2, none⟩ = some (.int .i8 z') := (hb2.cell (p := ⟨w.heap.size + 1, 2, none⟩) (by simp; omega)).trans (by go_cell)
  have c6 : w2.cell? ⟨w.heap.size + 2, 0, none⟩ = some (.int .i32 0) := (hb2.cell (p := ⟨w.heap.size + 2, 0, none⟩) (by simp; omega)).trans (by go_cell)
  have c7 : w2.cell? ⟨w.heap.size + 2, 1, none⟩ = some (.int .i64 0) := (hb2.cell (p := ⟨w.heap.size + 2, 1, none⟩) (by simp; omega)).trans (by go_cell)
  have c8 : w2.cell? ⟨w.heap.size + 2, 2, none⟩ = some (.int .i8 0) := (hb2.cell (p := ⟨w.heap.size + 2, 2, none⟩) (by simp; omega)).trans (by go_cell)
  have f0 : w2.frozen? ⟨w.heap.size + 2, 0, none⟩ = false := (hb2.frozen (p := ⟨w.heap.size + 2, 0, none⟩) (by simp; omega)).trans (by go_cell)
  have f1 : w2.frozen? ⟨w.heap.size + 2, 1, none⟩ = false := (hb2.frozen (p := ⟨w.heap.size + 2, 1, none⟩) (by simp; omega)).trans (by go_cell)
  have f2 : w2.frozen? ⟨w.heap.size + 2, 2, none⟩ = false := (hb2.frozen (p := ⟨w.heap.size + 2, 2, none⟩) (by simp; omega)).trans (by go_cell)
  clear hc1 hf1 hc2 hf2 hb1 hb2
  have ba0 : w.heap.size < w2.heap.size := (by omega)
  have bc0 : ¬ w.heap.size = w2.heap.size := (by omega)
  have bd0 : ¬ w2.heap.size = w.heap.size := (by omega)
  have ba1 : w.heap.size + 1 < w2.heap.size := (by omega)
  have bc1 : ¬ w.heap.size + 1 = w2.heap.size := (by omega)
  have bd1 : ¬ w2.heap.size = w.heap.size + 1 := (by omega)
  have bba0 : w.heap.size < w2.heap.size + 1 := (by omega)
  have bbc0 : ¬ w.heap.size = w2.heap.size + 1 := (by omega)
  have bbd0 : ¬ w2.heap.size + 1 = w.heap.size := (by omega)
  have bba1 : w.heap.size + 1 < w2.heap.size + 1 := (by omega)
  have bbc1 : ¬ w.heap.size + 1 = w2.heap.size + 1 := (by omega)
  have bbd1 : ¬ w2.heap.size + 1 = w.heap.size + 1 := (by omega)
  go_cut [6, 7] from 19 to 22 (fun s6 s7 wx => ∃ g6 g7 : Nat, s6 = .pointer (some ⟨g6, 0, none⟩) ∧ s7 = .pointer (some ⟨g7, 0, none⟩) ∧ wx.cell? ⟨g6, 0, none⟩ = some (.int .i32 (x : Int)) ∧ wx.cell? ⟨g6, 1, none⟩ = some (.int .i64 (y : Int)) ∧ wx.cell? ⟨g6, 2, none⟩ = some (.int .i8 z) ∧ wx.cell? ⟨g7, 0, none⟩ = some (.int .i32 (x' : Int)) ∧ wx.cell? ⟨g7, 1, none⟩ = some (.int .i64 (y' : Int)) ∧ wx.cell? ⟨g7, 2, none⟩ = some (.int .i8 z') ∧ Below w2.heap.size w2 wx)
  case first =>
    go_region_held3 (fun w' => w'.cell? ⟨w.heap.size, 0, none⟩ = some (.int .i32 (m : Int)) ∧ w'.cell? ⟨w.heap.size, 1, none⟩ = some (.int .i64 (s : Int)) ∧ w'.cell? ⟨w.heap.size, 2, none⟩ = some (.int .i8 z) ∧ w'.cell? ⟨w.heap.size + 1, 0, none⟩ = some (.int .i32 (m' : Int)) ∧ w'.cell? ⟨w.heap.size + 1, 1, none⟩ = some (.int .i64 (s' : Int)) ∧ w'.cell? ⟨w.heap.size + 1, 2, none⟩ = some (.int .i8 z')) (go_keep) ((first
      | (go_at_call 12; ((with_reducible refine (plain_yes m s j x y z h1 h2 hs HJ.out HY.out _).mono ?_); rintro e wA ⟨rfl, hA⟩; have pe0 : wA.cell? ⟨w.heap.size, 0, none⟩ = some (.int .i32 (m : Int)) := (hA.cell (p := ⟨w.heap.size, 0, none⟩) (by first | omega | (simp; done) | (simp; omega))).trans (by go_cell); have pe1 : wA.cell? ⟨w.heap.size, 1, none⟩ = some (.int .i64 (s : Int)) := (hA.cell (p := ⟨w.heap.size, 1, none⟩) (by first | omega | (simp; done) | (simp; omega))).trans (by go_cell); have pe2 : wA.cell? ⟨w.heap.size, 2, none⟩ = some (.int .i8 z) := (hA.cell (p := ⟨w.heap.size, 2, none⟩) (by first | omega | (simp; done) | (simp; omega))).trans (by go_cell); have pe3 : wA.cell? ⟨w.heap.size + 1, 0, none⟩ = some (.int .i32 (m' : Int)) := (hA.cell (p := ⟨w.heap.size + 1, 0, none⟩) (by first | omega | (simp; done) | (simp; omega))).trans (by go_cell); have pe4 : wA.cell? ⟨w.heap.size + 1, 1, none⟩ = some (.int .i64 (s' : Int)) := (hA.cell (p := ⟨w.heap.size + 1, 1, none⟩) (by first | omega | (simp; done) | (simp; omega))).trans (by go_cell); have pe5 : wA.cell? ⟨w.heap.size + 1, 2, none⟩ = some (.int .i8 z') := (hA.cell (p := ⟨w.heap.size + 1, 2, none⟩) (by first | omega | (simp; done) | (simp; omega))).trans (by go_cell); have ps : w2.heap.size ≤ wA.heap.size := (by have := hA.size; first | omega | (simp at this; omega)); (first | (have px0l : w2.heap.size < wA.heap.size := (by have := hA.size; first | omega | (simp at this; omega)); have px0n : ¬ w2.heap.size = wA.heap.size := Nat.ne_of_lt px0l; have px0m : ¬ wA.heap.size = w2.heap.size := Nat.ne_of_gt px0l; have px00 : wA.cell? ⟨w2.heap.size, 0, none⟩ = some (.int .i32 0) := (hA.cell (p := ⟨w2.heap.size, 0, none⟩) (by first | omega | (simp; done) | (simp; omega))).trans (by go_cell); have px0f0 : wA.frozen? ⟨w2.heap.size, 0, none⟩ = false := (hA.frozen (p := ⟨w2.heap.size, 0, none⟩) (by first | omega | (simp; done) | (simp; omega))).trans (by go_cell); have px01 : wA.cell? ⟨w2.heap.size, 1, none⟩ = some (.int .i64 0) := (hA.cell (p := ⟨w2.heap.size, 1, none⟩) (by first | omega | (simp; done) | (simp; omega))).trans (by go_cell); have px0f1 : wA.frozen? ⟨w2.heap.size, 1, none⟩ = false := (hA.frozen (p := ⟨w2.heap.size, 1, none⟩) (by first | omega | (simp; done) | (simp; omega))).trans (by go_cell); have px02 : wA.cell? ⟨w2.heap.size, 2, none⟩ = some (.int .i8 0) := (hA.cell (p := ⟨w2.heap.size, 2, none⟩) (by first | omega | (simp; done) | (simp; omega))).trans (by go_cell); have px0f2 : wA.frozen? ⟨w2.heap.size, 2, none⟩ = false := (hA.frozen (p := ⟨w2.heap.size, 2, none⟩) (by first | omega | (simp; done) | (simp; omega))).trans (by go_cell)) | skip); (first | (have px1l : w2.heap.size + 1 < wA.heap.size := (by have := hA.size; first | omega | (simp at this; omega)); have px1n : ¬ w2.heap.size + 1 = wA.heap.size := Nat.ne_of_lt px1l; have px1m : ¬ wA.heap.size = w2.heap.size + 1 := Nat.ne_of_gt px1l; have px10 : wA.cell? ⟨w2.heap.size + 1, 0, none⟩ = some (.int .i32 0) := (hA.cell (p := ⟨w2.heap.size + 1, 0, none⟩) (by first | omega | (simp; done) | (simp; omega))).trans (by go_cell); have px1f0 : wA.frozen? ⟨w2.heap.size + 1, 0, none⟩ = false := (hA.frozen (p := ⟨w2.heap.size + 1, 0, none⟩) (by first | omega | (simp; done) | (simp; omega))).trans (by go_cell); have px11 : wA.cell? ⟨w2.heap.size + 1, 1, none⟩ = some (.int .i64 0) := (hA.cell (p := ⟨w2.heap.size + 1, 1, none⟩) (by first | omega | (simp; done) | (simp; omega))).trans (by go_cell); have px1f1 : wA.frozen? ⟨w2.heap.size + 1, 1, none⟩ = false := (hA.frozen (p := ⟨w2.heap.size + 1, 1, none⟩) (by first | omega | (simp; done) | (simp; omega))).trans (by go_cell); have px12 : wA.cell? ⟨w2.heap.size + 1, 2, none⟩ = some (.int .i8 0) := (hA.cell (p := ⟨w2.heap.size + 1, 2, none⟩) (by first | omega | (simp; done) | (simp; omega))).trans (by go_cell); have px1f2 : wA.frozen? ⟨w2.heap.size + 1, 2, none⟩ = false := (hA.frozen (p := ⟨w2.heap.size + 1, 2, none⟩) (by first | omega | (simp; done) | (simp; omega))).trans (by go_cell)) | skip); have pra0 : w.heap.size < wA.heap.size := (by omega); have prc0 : ¬ w.heap.size = wA.heap.size := (by omega); have prd0 : ¬ wA.heap.size = w.heap.size := (by omega); have pra1 : w.heap.size + 1 < wA.heap.size := (by omega); have prc1 : ¬ w.heap.size + 1 = wA.heap.size := (by omega); have prd1 : ¬ wA.heap.size = w.heap.size + 1 := (by omega); have pua0 : w.heap.size < wA.heap.size + 1 := (by omega); have puc0 : ¬ w.heap.size = wA.heap.size + 1 := (by omega); have pud0 : ¬ wA.heap.size + 1 = w.heap.size := (by omega); have pua1 : w.heap.size + 1 < wA.heap.size + 1 := (by omega); have puc1 : ¬ w.heap.size + 1 = wA.heap.size + 1 := (by omega); have pud1 : ¬ wA.heap.size + 1 = w.heap.size + 1 := (by omega); have pz : Below w2.heap.size w2 wA := (by go_grown : Below w2.heap.size w2 _).trans (hA.mono (by first | omega | (simp; done) | (simp; omega)))))
      | (go_at_call 12; ((with_reducible refine (plain_yes m' s' j' x' y' z' h1' h2' hs' HJ'.out HY'.out _).mono ?_); rintro e wB ⟨rfl, hB⟩; have qe0 : wB.cell? ⟨w.heap.size, 0, none⟩ = some (.int .i32 (m : Int)) := (hB.cell (p := ⟨w.heap.size, 0, none⟩) (by first | omega | (simp; done) | (simp; omega))).trans (by go_cell); have qe1 : wB.cell? ⟨w.heap.size, 1, none⟩ = some (.int .i64 (s : Int)) := (hB.cell (p := ⟨w.heap.size, 1, none⟩) (by first | omega | (simp; done) | (simp; omega))).trans (by go_cell); have qe2 : wB.cell? ⟨w.heap.size, 2, none⟩ = some (.int .i8 z) := (hB.cell (p := ⟨w.heap.size, 2, none⟩) (by first | omega | (simp; done) | (simp; omega))).trans (by go_cell); have qe3 : wB.cell? ⟨w.heap.size + 1, 0, none⟩ = some (.int .i32 (m' : Int)) := (hB.cell (p := ⟨w.heap.size + 1, 0, none⟩) (by first | omega | (simp; done) | (simp; omega))).trans (by go_cell); have qe4 : wB.cell? ⟨w.heap.size + 1, 1, none⟩ = some (.int .i64 (s' : Int)) := (hB.cell (p := ⟨w.heap.size + 1, 1, none⟩) (by first | omega | (simp; done) | (simp; omega))).trans (by go_cell); have qe5 : wB.cell? ⟨w.heap.size + 1, 2, none⟩ = some (.int .i8 z') := (hB.cell (p := ⟨w.heap.size + 1, 2, none⟩) (by first | omega | (simp; done) | (simp; omega))).trans (by go_cell); have qs : wA.heap.size ≤ wB.heap.size := (by have := hB.size; first | omega | (simp at this; omega)); (first | (have qx0l : w2.heap.size < wB.heap.size := (by have := hB.size; first | omega | (simp at this; omega)); have qx0n : ¬ w2.heap.size = wB.heap.size := Nat.ne_of_lt qx0l; have qx0m : ¬ wB.heap.size = w2.heap.size := Nat.ne_of_gt qx0l; have qx00 : wB.cell? ⟨w2.heap.size, 0, none⟩ = some (.int .i32 0) := (hB.cell (p := ⟨w2.heap.size, 0, none⟩) (by first | omega | (simp; done) | (simp; omega))).trans (by go_cell); have qx0f0 : wB.frozen? ⟨w2.heap.size, 0, none⟩ = false := (hB.frozen (p := ⟨w2.heap.size, 0, none⟩) (by first | omega | (simp; done) | (simp; omega))).trans (by go_cell); have qx01 : wB.cell? ⟨w2.heap.size, 1, none⟩ = some (.int .i64 0) := (hB.cell (p := ⟨w2.heap.size, 1, none⟩) (by first | omega | (simp; done) | (simp; omega))).trans (by go_cell); have qx0f1 : wB.frozen? ⟨w2.heap.size, 1, none⟩ = false := (hB.frozen (p := ⟨w2.heap.size, 1, none⟩) (by first | omega | (simp; done) | (simp; omega))).trans (by go_cell); have qx02 : wB.cell? ⟨w2.heap.size, 2, none⟩ = some (.int .i8 0) := (hB.cell (p := ⟨w2.heap.size, 2, none⟩) (by first | omega | (simp; done) | (simp; omega))).trans (by go_cell); have qx0f2 : wB.frozen? ⟨w2.heap.size, 2, none⟩ = false := (hB.frozen (p := ⟨w2.heap.size, 2, none⟩) (by first | omega | (simp; done) | (simp; omega))).trans (by go_cell)) | skip); (first | (have qx1l : w2.heap.size + 1 < wB.heap.size := (by have := hB.size; first | omega | (simp at this; omega)); have qx1n : ¬ w2.heap.size + 1 = wB.heap.size := Nat.ne_of_lt qx1l; have qx1m : ¬ wB.heap.size = w2.heap.size + 1 := Nat.ne_of_gt qx1l; have qx10 : wB.cell? ⟨w2.heap.size + 1, 0, none⟩ = some (.int .i32 0) := (hB.cell (p := ⟨w2.heap.size + 1, 0, none⟩) (by first | omega | (simp; done) | (simp; omega))).trans (by go_cell); have qx1f0 : wB.frozen? ⟨w2.heap.size + 1, 0, none⟩ = false := (hB.frozen (p := ⟨w2.heap.size + 1, 0, none⟩) (by first | omega | (simp; done) | (simp; omega))).trans (by go_cell); have qx11 : wB.cell? ⟨w2.heap.size + 1, 1, none⟩ = some (.int .i64 0) := (hB.cell (p := ⟨w2.heap.size + 1, 1, none⟩) (by first | omega | (simp; done) | (simp; omega))).trans (by go_cell); have qx1f1 : wB.frozen? ⟨w2.heap.size + 1, 1, none⟩ = false := (hB.frozen (p := ⟨w2.heap.size + 1, 1, none⟩) (by first | omega | (simp; done) | (simp; omega))).trans (by go_cell); have qx12 : wB.cell? ⟨w2.heap.size + 1, 2, none⟩ = some (.int .i8 0) := (hB.cell (p := ⟨w2.heap.size + 1, 2, none⟩) (by first | omega | (simp; done) | (simp; omega))).trans (by go_cell); have qx1f2 : wB.frozen? ⟨w2.heap.size + 1, 2, none⟩ = false := (hB.frozen (p := ⟨w2.heap.size + 1, 2, none⟩) (by first | omega | (simp; done) | (simp; omega))).trans (by go_cell)) | skip); (first | (have qx2l : wA.heap.size < wB.heap.size := (by have := hB.size; first | omega | (simp at this; omega)); have qx2n : ¬ wA.heap.size = wB.heap.size := Nat.ne_of_lt qx2l; have qx2m : ¬ wB.heap.size = wA.heap.size := Nat.ne_of_gt qx2l; have qx20 : wB.cell? ⟨wA.heap.size, 0, none⟩ = some (.int .i32 0) := (hB.cell (p := ⟨wA.heap.size, 0, none⟩) (by first | omega | (simp; done) | (simp; omega))).trans (by go_cell); have qx2f0 : wB.frozen? ⟨wA.heap.size, 0, none⟩ = false := (hB.frozen (p := ⟨wA.heap.size, 0, none⟩) (by first | omega | (simp; done) | (simp; omega))).trans (by go_cell); have qx21 : wB.cell? ⟨wA.heap.size, 1, none⟩ = some (.int .i64 0) := (hB.cell (p := ⟨wA.heap.size, 1, none⟩) (by first | omega | (simp; done) | (simp; omega))).trans (by go_cell); have qx2f1 : wB.frozen? ⟨wA.heap.size, 1, none⟩ = false := (hB.frozen (p := ⟨wA.heap.size, 1, none⟩) (by first | omega | (simp; done) | (simp; omega))).trans (by go_cell); have qx22 : wB.cell? ⟨wA.heap.size, 2, none⟩ = some (.int .i8 0) := (hB.cell (p := ⟨wA.heap.size, 2, none⟩) (by first | omega | (simp; done) | (simp; omega))).trans (by go_cell); have qx2f2 : wB.frozen? ⟨wA.heap.size, 2, none⟩ = false := (hB.frozen (p := ⟨wA.heap.size, 2, none⟩) (by first | omega | (simp; done) | (simp; omega))).trans (by go_cell)) | skip); (first | (have qx3l : wA.heap.size + 1 < wB.heap.size := (by have := hB.size; first | omega | (simp at this; omega)); have qx3n : ¬ wA.heap.size + 1 = wB.heap.size := Nat.ne_of_lt qx3l; have qx3m : ¬ wB.heap.size = wA.heap.size + 1 := Nat.ne_of_gt qx3l; have qx30 : wB.cell? ⟨wA.heap.size + 1, 0, none⟩ = some (.int .i32 0) := (hB.cell (p := ⟨wA.heap.size + 1, 0, none⟩) (by first | omega | (simp; done) | (simp; omega))).trans (by go_cell); have qx3f0 : wB.frozen? ⟨wA.heap.size + 1, 0, none⟩ = false := (hB.frozen (p := ⟨wA.heap.size + 1, 0, none⟩) (by first | omega | (simp; done) | (simp; omega))).trans (by go_cell); have qx31 : wB.cell? ⟨wA.heap.size + 1, 1, none⟩ = some (.int .i64 0) := (hB.cell (p := ⟨wA.heap.size + 1, 1, none⟩) (by first | omega | (simp; done) | (simp; omega))).trans (by go_cell); have qx3f1 : wB.frozen? ⟨wA.heap.size + 1, 1, none⟩ = false := (hB.frozen (p := ⟨wA.heap.size + 1, 1, none⟩) (by first | omega | (simp; done) | (simp; omega))).trans (by go_cell); have qx32 : wB.cell? ⟨wA.heap.size + 1, 2, none⟩ = some (.int .i8 0) := (hB.cell (p := ⟨wA.heap.size + 1, 2, none⟩) (by first | omega | (simp; done) | (simp; omega))).trans (by go_cell); have qx3f2 : wB.frozen? ⟨wA.heap.size + 1, 2, none⟩ = false := (hB.frozen (p := ⟨wA.heap.size + 1, 2, none⟩) (by first | omega | (simp; done) | (simp; omega))).trans (by go_cell)) | skip); have qra0 : w.heap.size < wB.heap.size := (by omega); have qrc0 : ¬ w.heap.size = wB.heap.size := (by omega); have qrd0 : ¬ wB.heap.size = w.heap.size := (by omega); have qra1 : w.heap.size + 1 < wB.heap.size := (by omega); have qrc1 : ¬ w.heap.size + 1 = wB.heap.size := (by omega); have qrd1 : ¬ wB.heap.size = w.heap.size + 1 := (by omega); have qua0 : w.heap.size < wB.heap.size + 1 := (by omega); have quc0 : ¬ w.heap.size = wB.heap.size + 1 := (by omega); have qud0 : ¬ wB.heap.size + 1 = w.heap.size := (by omega); have qua1 : w.heap.size + 1 < wB.heap.size + 1 := (by omega); have quc1 : ¬ w.heap.size + 1 = wB.heap.size + 1 := (by omega); have qud1 : ¬ wB.heap.size + 1 = w.heap.size + 1 := (by omega); have qz : Below w2.heap.size w2 wB := (by go_grown : Below w2.heap.size w2 _).trans (hB.mono (by first | omega | (simp; done) | (simp; omega)))))))
    all_goals (go_wp2_with fail; go_meet; exact ⟨_, _, rfl, rfl, by go_cell, by go_cell, by go_cell, by go_cell, by go_cell, by go_cell, by go_grown⟩)
  case rest =>
    obtain ⟨g6, g7, rfl, rfl, k0, k1, k2, l0, l1, l2, zc⟩ := hcut
    have d0 : wc.cell? ⟨w.heap.size + 1, 2, none⟩ = some (.int .i8 z') := (zc.cell (p := ⟨w.heap.size + 1, 2, none⟩) (by simp; omega)).trans (by assumption)
    have d1 : wc.cell? ⟨w.heap.size + 2, 0, none⟩ = some (.int .i32 0) := (zc.cell (p := ⟨w.heap.size + 2, 0, none⟩) (by simp; omega)).trans (by assumption)
    have d2 : wc.cell? ⟨w.heap.size + 2, 1, none⟩ = some (.int .i64 0) := (zc.cell (p := ⟨w.heap.size + 2, 1, none⟩) (by simp; omega)).trans (by assumption)
    have d3 : wc.cell? ⟨w.heap.size + 2, 2, none⟩ = some (.int .i8 0) := (zc.cell (p := ⟨w.heap.size + 2, 2, none⟩) (by simp; omega)).trans (by assumption)
    have g0' : wc.frozen? ⟨w.heap.size + 2, 0, none⟩ = false := (zc.frozen (p := ⟨w.heap.size + 2, 0, none⟩) (by simp; omega)).trans (by assumption)
    have g1' : wc.frozen? ⟨w.heap.size + 2, 1, none⟩ = false := (zc.frozen (p := ⟨w.heap.size + 2, 1, none⟩) (by simp; omega)).trans (by assumption)
    have g2' : wc.frozen? ⟨w.heap.size + 2, 2, none⟩ = false := (zc.frozen (p := ⟨w.heap.size + 2, 2, none⟩) (by simp; omega)).trans (by assumption)
    have zw : Below w.heap.size w wc := z2.trans (zc.mono (by omega))
    have sw : w.heap.size + 2 < wc.heap.size := by have := zc.size; omega
    clear c0 c1 c2 c3 c4 c5 c6 c7 c8 f0 f1 f2 zc
    have cs : (y + y' < 31) ∨ (31 ≤ y + y' ∧ 93 < y + y') ∨ (31 ≤ y + y' ∧ y + y' ≤ 93) := by omega
    rcases cs with q1 | ⟨q1, q2⟩ | ⟨q1, q2⟩
    · have e1 := timesE_low q1 (HE.out)
      have e2 := timesS_bad (by rw [HE.out, e1]; decide) HV.out
      subst e1 e2
      go_wp2
      refine bodyPost_ret (Kit.results_ct rfl _ _ (w.heap.size + 2) 0 [.int .i32 0, .int .i64 0, .int .i8 0] _ rfl (Kit.range_3 (by go_cell) (by go_cell) (by go_cell)) Try.underlying24 rfl (by kernel_rfl)) rfl ?_
      exact ⟨rfl, by go_grown⟩
    · have e1 := timesE_high q2 (HE.out)
      have e2 := timesS_bad (by rw [HE.out, e1]; decide) HV.out
      subst e1 e2
      go_wp2
      refine bodyPost_ret (Kit.results_ct rfl _ _ (w.heap.size + 2) 0 [.int .i32 0, .int .i64 0, .int .i8 0] _ rfl (Kit.range_3 (by go_cell) (by go_cell) (by go_cell)) Try.underlying24 rfl (by kernel_rfl)) rfl ?_
      exact ⟨rfl, by go_grown⟩
    · have e1 := timesE_ok q1 q2 (HE.out)
      have e2 := timesS_ok (by rw [HE.out, e1]) HV.out
      subst e1
      obtain ⟨q, hq⟩ : ∃ q, x * x' / 2147483648 = q := ⟨_, rfl⟩
      obtain ⟨p, hp⟩ : ∃ p, x * x' = p := ⟨_, rfl⟩
      have hp1 : p ≤ 2147483647 * 2147483647 := hp ▸ Nat.mul_le_mul x1 x2
      have hp0 : 1 ≤ p := hp ▸ Nat.mul_pos x3 x4
      have hpi : (x : Int) * (x' : Int) = (p : Int) := by rw [← hp]; simp
      have hq1 : (p : Int) / 2147483648 = (q : Int) := by rw [← hq, hp]; simp
      have hq2 : (p : Int).tdiv 2147483648 = (q : Int) := by rw [← hq, hp]; simp
      have hq3 : q ≤ 2147483647 := by omega
      have t1 : (y : Int) + (y' : Int) - 31 = ((y + y' - 31 : Nat) : Int) := by omega
      rw [hq] at e2
      clear hp hq
      by_cases hz : 1 ≤ q
      · rw [Nat.max_eq_left hz] at e2
        subst e2
        go_wp2
        refine bodyPost_ret (Kit.results_ct rfl _ _ (w.heap.size + 2) 0 [.int .i32 (q : Int), .int .i64 ((y + y' - 31 : Nat) : Int), .int .i8 z'] _ rfl (Kit.range_3 (by go_cell) (by go_cell) (by go_cell)) Try.underlying24 rfl (by kernel_rfl)) rfl ?_
        exact ⟨rfl, by go_grown⟩
      · have hz0 : q = 0 := by omega
        subst hz0
        subst e2
        go_wp2
        refine bodyPost_ret (Kit.results_ct rfl _ _ (w.heap.size + 2) 0 [.int .i32 1, .int .i64 ((y + y' - 31 : Nat) : Int), .int .i8 z'] _ rfl (Kit.range_3 (by go_cell) (by go_cell) (by go_cell)) Try.underlying24 rfl (by kernel_rfl)) rfl ?_
        exact ⟨rfl, by go_grown⟩
end Go.Proofs.Ytpiigdgiliaihaa.CRatio
