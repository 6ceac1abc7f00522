/- Texts of this seat, one behind the other: KindShC3, KindShapes, OpenNode, KindOpen, KindKnown, KindsShapeW, KindLaid. -/
import Derived.Deep.CutRange
import Derived.Lib.SmallJoins
import Derived.ProofKit
import Derived.LaidMore
import Derived.OpenShut
import Derived.Stop.Joined
import Derived.Test.YtamcdpkakdiggaaDoorGK1
import Derived.Test.YtamcdpkakdiggaaDoorGK3
import Derived.Test.YtamcdpkakdiggaaDoorGK6
import Derived.Test.YtamcdpkakdiggaaDoorGK10
import Derived.Test.YtamcdpkakdiggaaDoorGK11
section
namespace Go.Proofs.YtamcdpkakdiggaaDoor.CKind
open Go Go.ChangeShapes Go.WideShapes Go.ChangeAt Go.RowKit Go.Deep
open Plain CSat CShape CTensor CConv CDense CDepth
set_option linter.unusedVariables false
set_option linter.unusedSimpArgs false
set_option maxRecDepth 100000 in
set_option maxHeartbeats 4000000 in
theorem csh_8 (x : Nd) (hk : x.kd = 8) (H W C H2 W2 C2 e u0 u1 u2 : Int) (he : (if shapeB H W C = false then (5 : Int) else if x.P < 0 ∨ 4 < x.P then 2 else if shapeB (H + 2 * x.P) (W + 2 * x.P) C = false then 5 else 0) = e) (hv : (if e ≠ 0 then (#[.int .i64 0, .int .i64 0, .int .i64 0] : Array Value) else #[.int .i64 (H + 2 * x.P), .int .i64 (W + 2 * x.P), .int .i64 C]) = #[.int .i64 u0, .int .i64 u1, .int .i64 u2]) (w : World) :
    Calls Tryd.prog 13 #[.agg x.val, .agg #[.int .i64 H, .int .i64 W, .int .i64 C], .agg #[.int .i64 H2, .int .i64 W2, .int .i64 C2]] w fun r w' => r = .returned (.tuple #[.agg #[.int .i64 u0, .int .i64 u1, .int .i64 u2], .int .i64 e]) ∧ Below w.heap.size w w' := by
  have HC := Lib.hid (fun w => widened_to H W C x.P e u0 u1 u2 he hv w)
  clear he hv
  have HK := Lib.hid hk
  clear hk
  have TN := Lib.hid ((NdAt.new x 28 w).below (B := w.heap.size + 1) (by omega) ((((Below.refl _ _).alloc (by simp) (.cells #[.int .i64 H, .int .i64 W, .int .i64 C] 31)).alloc (by first | exact Nat.le_refl _ | (simp; done) | (simp; omega) | omega) (.cells #[.int .i64 H2, .int .i64 W2, .int .i64 C2] 31)).alloc (by first | exact Nat.le_refl _ | (simp; done) | (simp; omega) | omega) (.cells #[.int .i64 0, .int .i64 0, .int .i64 0] 31)))
  have HB : Hid (Below w.heap.size w ((((w.alloc (.cells x.val 28)).alloc (.cells #[.int .i64 H, .int .i64 W, .int .i64 C] 31)).alloc (.cells #[.int .i64 H2, .int .i64 W2, .int .i64 C2] 31)).alloc (.cells #[.int .i64 0, .int .i64 0, .int .i64 0] 31))) := Lib.hid (((((Below.refl _ _).alloc (by first | exact Nat.le_refl _ | (simp; done) | (simp; omega) | omega) _).alloc (by first | exact Nat.le_refl _ | (simp; done) | (simp; omega) | omega) _).alloc (by first | exact Nat.le_refl _ | (simp; done) | (simp; omega) | omega) _).alloc (by first | exact Nat.le_refl _ | (simp; done) | (simp; omega) | omega) _)
  have HS : Hid (((((w.alloc (.cells x.val 28)).alloc (.cells #[.int .i64 H, .int .i64 W, .int .i64 C] 31)).alloc (.cells #[.int .i64 H2, .int .i64 W2, .int .i64 C2] 31)).alloc (.cells #[.int .i64 0, .int .i64 0, .int .i64 0] 31)).heap.size = w.heap.size + 4) := Lib.hid (by simp)
  go_enter Tryd.func13, Tryd.ntmps13
  go_upto_region 1 with fail
  have k0 : ((((w.alloc (.cells x.val 28)).alloc (.cells #[.int .i64 H, .int .i64 W, .int .i64 C] 31)).alloc (.cells #[.int .i64 H2, .int .i64 W2, .int .i64 C2] 31)).alloc (.cells #[.int .i64 0, .int .i64 0, .int .i64 0] 31)).cell? ⟨w.heap.size + 1, 0, none⟩ = some (.int .i64 H) := by go_cell
  have k1 : ((((w.alloc (.cells x.val 28)).alloc (.cells #[.int .i64 H, .int .i64 W, .int .i64 C] 31)).alloc (.cells #[.int .i64 H2, .int .i64 W2, .int .i64 C2] 31)).alloc (.cells #[.int .i64 0, .int .i64 0, .int .i64 0] 31)).cell? ⟨w.heap.size + 1, 1, none⟩ = some (.int .i64 W) := by go_cell
  have k2 : ((((w.alloc (.cells x.val 28)).alloc (.cells #[.int .i64 H, .int .i64 W, .int .i64 C] 31)).alloc (.cells #[.int .i64 H2, .int .i64 W2, .int .i64 C2] 31)).alloc (.cells #[.int .i64 0, .int .i64 0, .int .i64 0] 31)).cell? ⟨w.heap.size + 1, 2, none⟩ = some (.int .i64 C) := by go_cell
  have k3 : ((((w.alloc (.cells x.val 28)).alloc (.cells #[.int .i64 H, .int .i64 W, .int .i64 C] 31)).alloc (.cells #[.int .i64 H2, .int .i64 W2, .int .i64 C2] 31)).alloc (.cells #[.int .i64 0, .int .i64 0, .int .i64 0] 31)).cell? ⟨w.heap.size + 2, 0, none⟩ = some (.int .i64 H2) := by go_cell
  have k4 : ((((w.alloc (.cells x.val 28)).alloc (.cells #[.int .i64 H, .int .i64 W, .int .i64 C] 31)).alloc (.cells #[.int .i64 H2, .int .i64 W2, .int .i64 C2] 31)).alloc (.cells #[.int .i64 0, .int .i64 0, .int .i64 0] 31)).cell? ⟨w.heap.size + 2, 1, none⟩ = some (.int .i64 W2) := by go_cell
  have k5 : ((((w.alloc (.cells x.val 28)).alloc (.cells #[.int .i64 H, .int .i64 W, .int .i64 C] 31)).alloc (.cells #[.int .i64 H2, .int .i64 W2, .int .i64 C2] 31)).alloc (.cells #[.int .i64 0, .int .i64 0, .int .i64 0] 31)).cell? ⟨w.heap.size + 2, 2, none⟩ = some (.int .i64 C2) := by go_cell
  have k6 : ((((w.alloc (.cells x.val 28)).alloc (.cells #[.int .i64 H, .int .i64 W, .int .i64 C] 31)).alloc (.cells #[.int .i64 H2, .int .i64 W2, .int .i64 C2] 31)).alloc (.cells #[.int .i64 0, .int .i64 0, .int .i64 0] 31)).cell? ⟨w.heap.size + 3, 0, none⟩ = some (.int .i64 0) := by go_cell
  have k7 : ((((w.alloc (.cells x.val 28)).alloc (.cells #[.int .i64 H, .int .i64 W, .int .i64 C] 31)).alloc (.cells #[.int .i64 H2, .int .i64 W2, .int .i64 C2] 31)).alloc (.cells #[.int .i64 0, .int .i64 0, .int .i64 0] 31)).cell? ⟨w.heap.size + 3, 1, none⟩ = some (.int .i64 0) := by go_cell
  have k8 : ((((w.alloc (.cells x.val 28)).alloc (.cells #[.int .i64 H, .int .i64 W, .int .i64 C] 31)).alloc (.cells #[.int .i64 H2, .int .i64 W2, .int .i64 C2] 31)).alloc (.cells #[.int .i64 0, .int .i64 0, .int .i64 0] 31)).cell? ⟨w.heap.size + 3, 2, none⟩ = some (.int .i64 0) := by go_cell
  have g0 : ((((w.alloc (.cells x.val 28)).alloc (.cells #[.int .i64 H, .int .i64 W, .int .i64 C] 31)).alloc (.cells #[.int .i64 H2, .int .i64 W2, .int .i64 C2] 31)).alloc (.cells #[.int .i64 0, .int .i64 0, .int .i64 0] 31)).frozen? ⟨w.heap.size + 3, 0, none⟩ = false := by go_cell
  have g1 : ((((w.alloc (.cells x.val 28)).alloc (.cells #[.int .i64 H, .int .i64 W, .int .i64 C] 31)).alloc (.cells #[.int .i64 H2, .int .i64 W2, .int .i64 C2] 31)).alloc (.cells #[.int .i64 0, .int .i64 0, .int .i64 0] 31)).frozen? ⟨w.heap.size + 3, 1, none⟩ = false := by go_cell
  have g2 : ((((w.alloc (.cells x.val 28)).alloc (.cells #[.int .i64 H, .int .i64 W, .int .i64 C] 31)).alloc (.cells #[.int .i64 H2, .int .i64 W2, .int .i64 C2] 31)).alloc (.cells #[.int .i64 0, .int .i64 0, .int .i64 0] 31)).frozen? ⟨w.heap.size + 3, 2, none⟩ = false := by go_cell
  generalize (((w.alloc (.cells x.val 28)).alloc (.cells #[.int .i64 H, .int .i64 W, .int .i64 C] 31)).alloc (.cells #[.int .i64 H2, .int .i64 W2, .int .i64 C2] 31)).alloc (.cells #[.int .i64 0, .int .i64 0, .int .i64 0] 31) = W0 at *
  have hz3 : w.heap.size + 3 < W0.heap.size := by rw [HS.out]; omega
  clear HS
  have q0 : W0.cell? ⟨w.heap.size, 0, none⟩ = some (.int .i64 8) := TN.out.at 0 _ (by show some (Value.int .i64 x.kd) = _; rw [HK.out])
  have q3 := TN.out.at 3 (.int .i64 x.K) rfl
  have q4 := TN.out.at 4 (.int .i64 x.S) rfl
  have q5 := TN.out.at 5 (.int .i64 x.P) rfl
  go_wp2_with (first
    | (refine nd_load rfl _ rfl w.heap.size x rfl TN.out ?_)
    | (go_at_call 30; (with_reducible refine (HC.out _).mono ?_); rintro e1 w1 ⟨rfl, hb⟩; obtain ⟨hcc, hff⟩ := Kit.bcell hb; (replace k0 := (hcc (w.heap.size + 1) 0 (by omega)).trans k0); (replace k1 := (hcc (w.heap.size + 1) 1 (by omega)).trans k1); (replace k2 := (hcc (w.heap.size + 1) 2 (by omega)).trans k2); (replace k3 := (hcc (w.heap.size + 2) 0 (by omega)).trans k3); (replace k4 := (hcc (w.heap.size + 2) 1 (by omega)).trans k4); (replace k5 := (hcc (w.heap.size + 2) 2 (by omega)).trans k5); (replace k6 := (hcc (w.heap.size + 3) 0 (by omega)).trans k6); (replace k7 := (hcc (w.heap.size + 3) 1 (by omega)).trans k7); (replace k8 := (hcc (w.heap.size + 3) 2 (by omega)).trans k8); (replace g0 := (hff (w.heap.size + 3) 0 hz3).trans g0); (replace g1 := (hff (w.heap.size + 3) 1 hz3).trans g1); (replace g2 := (hff (w.heap.size + 3) 2 hz3).trans g2); clear hcc hff; (replace hz3 : w.heap.size + 3 < w1.heap.size := Nat.lt_of_lt_of_le hz3 hb.size); (replace HB := Lib.hid (HB.out.trans (hb.mono HB.out.size))); clear hb))
  refine bodyPost_ret (Kit.results_ct rfl _ _ (w.heap.size + 3) 0 [.int .i64 u0, .int .i64 u1, .int .i64 u2] _ rfl (Kit.range_3 (by go_cell) (by go_cell) (by go_cell)) Tryd.underlying31 rfl (by kernel_rfl)) rfl ?_
  exact ⟨rfl, ((HB.out.setCell (p := ⟨w.heap.size + 3, 0, none⟩) (Nat.le_add_right _ _) _).setCell (p := ⟨w.heap.size + 3, 1, none⟩) (Nat.le_add_right _ _) _).setCell (p := ⟨w.heap.size + 3, 2, none⟩) (Nat.le_add_right _ _) _⟩
set_option maxRecDepth 100000 in
set_option maxHeartbeats 4000000 in
theorem csh_9 (x : Nd) (hk : x.kd = 9) (H W C H2 W2 C2 e u0 u1 u2 : Int) (N : Int) (hN : elemsZ H W C = N) (he : (if shapeB 1 1 N = true then (0 : Int) else 5) = e) (hv : (if shapeB 1 1 N = true then (#[.int .i64 1, .int .i64 1, .int .i64 N] : Array Value) else #[.int .i64 0, .int .i64 0, .int .i64 0]) = #[.int .i64 u0, .int .i64 u1, .int .i64 u2]) (w : World) :
    Calls Tryd.prog 13 #[.agg x.val, .agg #[.int .i64 H, .int .i64 W, .int .i64 C], .agg #[.int .i64 H2, .int .i64 W2, .int .i64 C2]] w fun r w' => r = .returned (.tuple #[.agg #[.int .i64 u0, .int .i64 u1, .int .i64 u2], .int .i64 e]) ∧ Below w.heap.size w w' := by
  have HE := Lib.hid (fun w => elems_to H W C N hN w)
  have HC := Lib.hid (fun w => valid_to 1 1 N e u0 u1 u2 _ rfl he hv w)
  clear he hv hN
  have HK := Lib.hid hk
  clear hk
  have TN := Lib.hid ((NdAt.new x 28 w).below (B := w.heap.size + 1) (by omega) ((((Below.refl _ _).alloc (by simp) (.cells #[.int .i64 H, .int .i64 W, .int .i64 C] 31)).alloc (by first | exact Nat.le_refl _ | (simp; done) | (simp; omega) | omega) (.cells #[.int .i64 H2, .int .i64 W2, .int .i64 C2] 31)).alloc (by first | exact Nat.le_refl _ | (simp; done) | (simp; omega) | omega) (.cells #[.int .i64 0, .int .i64 0, .int .i64 0] 31)))
  have HB : Hid (Below w.heap.size w ((((w.alloc (.cells x.val 28)).alloc (.cells #[.int .i64 H, .int .i64 W, .int .i64 C] 31)).alloc (.cells #[.int .i64 H2, .int .i64 W2, .int .i64 C2] 31)).alloc (.cells #[.int .i64 0, .int .i64 0, .int .i64 0] 31))) := Lib.hid (((((Below.refl _ _).alloc (by first | exact Nat.le_refl _ | (simp; done) | (simp; omega) | omega) _).alloc (by first | exact Nat.le_refl _ | (simp; done) | (simp; omega) | omega) _).alloc (by first | exact Nat.le_refl _ | (simp; done) | (simp; omega) | omega) _).alloc (by first | exact Nat.le_refl _ | (simp; done) | (simp; omega) | omega) _)
  have HS : Hid (((((w.alloc (.cells x.val 28)).alloc (.cells #[.int .i64 H, .int .i64 W, .int .i64 C] 31)).alloc (.cells #[.int .i64 H2, .int .i64 W2, .int .i64 C2] 31)).alloc (.cells #[.int .i64 0, .int .i64 0, .int .i64 0] 31)).heap.size = w.heap.size + 4) := Lib.hid (by simp)
  go_enter Tryd.func13, Tryd.ntmps13
  go_upto_region 1 with fail
  have k0 : ((((w.alloc (.cells x.val 28)).alloc (.cells #[.int .i64 H, .int .i64 W, .int .i64 C] 31)).alloc (.cells #[.int .i64 H2, .int .i64 W2, .int .i64 C2] 31)).alloc (.cells #[.int .i64 0, .int .i64 0, .int .i64 0] 31)).cell? ⟨w.heap.size + 1, 0, none⟩ = some (.int .i64 H) := by go_cell
  have k1 : ((((w.alloc (.cells x.val 28)).alloc (.cells #[.int .i64 H, .int .i64 W, .int .i64 C] 31)).alloc (.cells #[.int .i64 H2, .int .i64 W2, .int .i64 C2] 31)).alloc (.cells #[.int .i64 0, .int .i64 0, .int .i64 0] 31)).cell? ⟨w.heap.size + 1, 1, none⟩ = some (.int .i64 W) := by go_cell
  have k2 : ((((w.alloc (.cells x.val 28)).alloc (.cells #[.int .i64 H, .int .i64 W, .int .i64 C] 31)).alloc (.cells #[.int .i64 H2, .int .i64 W2, .int .i64 C2] 31)).alloc (.cells #[.int .i64 0, .int .i64 0, .int .i64 0] 31)).cell? ⟨w.heap.size + 1, 2, none⟩ = some (.int .i64 C) := by go_cell
  have k3 : ((((w.alloc (.cells x.val 28)).alloc (.cells #[.int .i64 H, .int .i64 W, .int .i64 C] 31)).alloc (.cells #[.int .i64 H2, .int .i64 W2, .int .i64 C2] 31)).alloc (.cells #[.int .i64 0, .int .i64 0, .int .i64 0] 31)).cell? ⟨w.heap.size + 2, 0, none⟩ = some (.int .i64 H2) := by go_cell
  have k4 : ((((w.alloc (.cells x.val 28)).alloc (.cells #[.int .i64 H, .int .i64 W, .int .i64 C] 31)).alloc (.cells #[.int .i64 H2, .int .i64 W2, .int .i64 C2] 31)).alloc (.cells #[.int .i64 0, .int .i64 0, .int .i64 0] 31)).cell? ⟨w.heap.size + 2, 1, none⟩ = some (.int .i64 W2) := by go_cell
  have k5 : ((((w.alloc (.cells x.val 28)).alloc (.cells #[.int .i64 H, .int .i64 W, .int .i64 C] 31)).alloc (.cells #[.int .i64 H2, .int .i64 W2, .int .i64 C2] 31)).alloc (.cells #[.int .i64 0, .int .i64 0, .int .i64 0] 31)).cell? ⟨w.heap.size + 2, 2, none⟩ = some (.int .i64 C2) := by go_cell
  have k6 : ((((w.alloc (.cells x.val 28)).alloc (.cells #[.int .i64 H, .int .i64 W, .int .i64 C] 31)).alloc (.cells #[.int .i64 H2, .int .i64 W2, .int .i64 C2] 31)).alloc (.cells #[.int .i64 0, .int .i64 0, .int .i64 0] 31)).cell? ⟨w.heap.size + 3, 0, none⟩ = some (.int .i64 0) := by go_cell
  have k7 : ((((w.alloc (.cells x.val 28)).alloc (.cells #[.int .i64 H, .int .i64 W, .int .i64 C] 31)).alloc (.cells #[.int .i64 H2, .int .i64 W2, .int .i64 C2] 31)).alloc (.cells #[.int .i64 0, .int .i64 0, .int .i64 0] 31)).cell? ⟨w.heap.size + 3, 1, none⟩ = some (.int .i64 0) := by go_cell
  have k8 : ((((w.alloc (.cells x.val 28)).alloc (.cells #[.int .i64 H, .int .i64 W, .int .i64 C] 31)).alloc (.cells #[.int .i64 H2, .int .i64 W2, .int .i64 C2] 31)).alloc (.cells #[.int .i64 0, .int .i64 0, .int .i64 0] 31)).cell? ⟨w.heap.size + 3, 2, none⟩ = some (.int .i64 0) := by go_cell
  have g0 : ((((w.alloc (.cells x.val 28)).alloc (.cells #[.int .i64 H, .int .i64 W, .int .i64 C] 31)).alloc (.cells #[.int .i64 H2, .int .i64 W2, .int .i64 C2] 31)).alloc (.cells #[.int .i64 0, .int .i64 0, .int .i64 0] 31)).frozen? ⟨w.heap.size + 3, 0, none⟩ = false := by go_cell
  have g1 : ((((w.alloc (.cells x.val 28)).alloc (.cells #[.int .i64 H, .int .i64 W, .int .i64 C] 31)).alloc (.cells #[.int .i64 H2, .int .i64 W2, .int .i64 C2] 31)).alloc (.cells #[.int .i64 0, .int .i64 0, .int .i64 0] 31)).frozen? ⟨w.heap.size + 3, 1, none⟩ = false := by go_cell
  have g2 : ((((w.alloc (.cells x.val 28)).alloc (.cells #[.int .i64 H, .int .i64 W, .int .i64 C] 31)).alloc (.cells #[.int .i64 H2, .int .i64 W2, .int .i64 C2] 31)).alloc (.cells #[.int .i64 0, .int .i64 0, .int .i64 0] 31)).frozen? ⟨w.heap.size + 3, 2, none⟩ = false := by go_cell
  generalize (((w.alloc (.cells x.val 28)).alloc (.cells #[.int .i64 H, .int .i64 W, .int .i64 C] 31)).alloc (.cells #[.int .i64 H2, .int .i64 W2, .int .i64 C2] 31)).alloc (.cells #[.int .i64 0, .int .i64 0, .int .i64 0] 31) = W0 at *
  have hz3 : w.heap.size + 3 < W0.heap.size := by rw [HS.out]; omega
  clear HS
  have q0 : W0.cell? ⟨w.heap.size, 0, none⟩ = some (.int .i64 9) := TN.out.at 0 _ (by show some (Value.int .i64 x.kd) = _; rw [HK.out])
  have q3 := TN.out.at 3 (.int .i64 x.K) rfl
  have q4 := TN.out.at 4 (.int .i64 x.S) rfl
  have q5 := TN.out.at 5 (.int .i64 x.P) rfl
  go_wp2_with (first
    | (refine nd_load rfl _ rfl w.heap.size x rfl TN.out ?_)
    | (go_at_call 31; (with_reducible refine (HE.out _).mono ?_); rintro e1 w1 ⟨rfl, hb⟩; obtain ⟨hcc, hff⟩ := Kit.bcell hb; (replace k0 := (hcc (w.heap.size + 1) 0 (by omega)).trans k0); (replace k1 := (hcc (w.heap.size + 1) 1 (by omega)).trans k1); (replace k2 := (hcc (w.heap.size + 1) 2 (by omega)).trans k2); (replace k3 := (hcc (w.heap.size + 2) 0 (by omega)).trans k3); (replace k4 := (hcc (w.heap.size + 2) 1 (by omega)).trans k4); (replace k5 := (hcc (w.heap.size + 2) 2 (by omega)).trans k5); (replace k6 := (hcc (w.heap.size + 3) 0 (by omega)).trans k6); (replace k7 := (hcc (w.heap.size + 3) 1 (by omega)).trans k7); (replace k8 := (hcc (w.heap.size + 3) 2 (by omega)).trans k8); (replace g0 := (hff (w.heap.size + 3) 0 hz3).trans g0); (replace g1 := (hff (w.heap.size + 3) 1 hz3).trans g1); (replace g2 := (hff (w.heap.size + 3) 2 hz3).trans g2); clear hcc hff; (replace hz3 : w.heap.size + 3 < w1.heap.size := Nat.lt_of_lt_of_le hz3 hb.size); (replace HB := Lib.hid (HB.out.trans (hb.mono HB.out.size))); clear hb)
    | (go_at_call 29; (with_reducible refine (HC.out _).mono ?_); rintro e1 w2 ⟨rfl, hb⟩; obtain ⟨hcc, hff⟩ := Kit.bcell hb; (replace k0 := (hcc (w.heap.size + 1) 0 (by omega)).trans k0); (replace k1 := (hcc (w.heap.size + 1) 1 (by omega)).trans k1); (replace k2 := (hcc (w.heap.size + 1) 2 (by omega)).trans k2); (replace k3 := (hcc (w.heap.size + 2) 0 (by omega)).trans k3); (replace k4 := (hcc (w.heap.size + 2) 1 (by omega)).trans k4); (replace k5 := (hcc (w.heap.size + 2) 2 (by omega)).trans k5); (replace k6 := (hcc (w.heap.size + 3) 0 (by omega)).trans k6); (replace k7 := (hcc (w.heap.size + 3) 1 (by omega)).trans k7); (replace k8 := (hcc (w.heap.size + 3) 2 (by omega)).trans k8); (replace g0 := (hff (w.heap.size + 3) 0 hz3).trans g0); (replace g1 := (hff (w.heap.size + 3) 1 hz3).trans g1); (replace g2 := (hff (w.heap.size + 3) 2 hz3).trans g2); clear hcc hff; (replace hz3 : w.heap.size + 3 < w2.heap.size := Nat.lt_of_lt_of_le hz3 hb.size); (replace HB := Lib.hid (HB.out.trans (hb.mono HB.out.size))); clear hb))
  refine bodyPost_ret (Kit.results_ct rfl _ _ (w.heap.size + 3) 0 [.int .i64 u0, .int .i64 u1, .int .i64 u2] _ rfl (Kit.range_3 (by go_cell) (by go_cell) (by go_cell)) Tryd.underlying31 rfl (by kernel_rfl)) rfl ?_
  exact ⟨rfl, ((HB.out.setCell (p := ⟨w.heap.size + 3, 0, none⟩) (Nat.le_add_right _ _) _).setCell (p := ⟨w.heap.size + 3, 1, none⟩) (Nat.le_add_right _ _) _).setCell (p := ⟨w.heap.size + 3, 2, none⟩) (Nat.le_add_right _ _) _⟩
set_option maxRecDepth 100000 in
set_option maxHeartbeats 4000000 in
theorem csh_0 (x : Nd) (hk : x.kd < 1 ∨ 9 < x.kd) (H W C H2 W2 C2 e u0 u1 u2 : Int) (he : (6 : Int) = e) (hv : (#[.int .i64 0, .int .i64 0, .int .i64 0] : Array Value) = #[.int .i64 u0, .int .i64 u1, .int .i64 u2]) (w : World) :
    Calls Tryd.prog 13 #[.agg x.val, .agg #[.int .i64 H, .int .i64 W, .int .i64 C], .agg #[.int .i64 H2, .int .i64 W2, .int .i64 C2]] w fun r w' => r = .returned (.tuple #[.agg #[.int .i64 u0, .int .i64 u1, .int .i64 u2], .int .i64 e]) ∧ Below w.heap.size w w' := by
  obtain ⟨rfl, rfl, rfl⟩ := three_inj hv
  subst he
  clear hv
  have HK := Lib.hid hk
  clear hk
  have TN := Lib.hid ((NdAt.new x 28 w).below (B := w.heap.size + 1) (by omega) ((((Below.refl _ _).alloc (by simp) (.cells #[.int .i64 H, .int .i64 W, .int .i64 C] 31)).alloc (by first | exact Nat.le_refl _ | (simp; done) | (simp; omega) | omega) (.cells #[.int .i64 H2, .int .i64 W2, .int .i64 C2] 31)).alloc (by first | exact Nat.le_refl _ | (simp; done) | (simp; omega) | omega) (.cells #[.int .i64 0, .int .i64 0, .int .i64 0] 31)))
  have HB : Hid (Below w.heap.size w ((((w.alloc (.cells x.val 28)).alloc (.cells #[.int .i64 H, .int .i64 W, .int .i64 C] 31)).alloc (.cells #[.int .i64 H2, .int .i64 W2, .int .i64 C2] 31)).alloc (.cells #[.int .i64 0, .int .i64 0, .int .i64 0] 31))) := Lib.hid (((((Below.refl _ _).alloc (by first | exact Nat.le_refl _ | (simp; done) | (simp; omega) | omega) _).alloc (by first | exact Nat.le_refl _ | (simp; done) | (simp; omega) | omega) _).alloc (by first | exact Nat.le_refl _ | (simp; done) | (simp; omega) | omega) _).alloc (by first | exact Nat.le_refl _ | (simp; done) | (simp; omega) | omega) _)
  have HS : Hid (((((w.alloc (.cells x.val 28)).alloc (.cells #[.int .i64 H, .int .i64 W, .int .i64 C] 31)).alloc (.cells #[.int .i64 H2, .int .i64 W2, .int .i64 C2] 31)).alloc (.cells #[.int .i64 0, .int .i64 0, .int .i64 0] 31)).heap.size = w.heap.size + 4) := Lib.hid (by simp)
  go_enter Tryd.func13, Tryd.ntmps13
  go_upto_region 1 with fail
  have k0 : ((((w.alloc (.cells x.val 28)).alloc (.cells #[.int .i64 H, .int .i64 W, .int .i64 C] 31)).alloc (.cells #[.int .i64 H2, .int .i64 W2, .int .i64 C2] 31)).alloc (.cells #[.int .i64 0, .int .i64 0, .int .i64 0] 31)).cell? ⟨w.heap.size + 1, 0, none⟩ = some (.int .i64 H) := by go_cell
  have k1 : ((((w.alloc (.cells x.val 28)).alloc (.cells #[.int .i64 H, .int .i64 W, .int .i64 C] 31)).alloc (.cells #[.int .i64 H2, .int .i64 W2, .int .i64 C2] 31)).alloc (.cells #[.int .i64 0, .int .i64 0, .int .i64 0] 31)).cell? ⟨w.heap.size + 1, 1, none⟩ = some (.int .i64 W) := by go_cell
  have k2 : ((((w.alloc (.cells x.val 28)).alloc (.cells #[.int .i64 H, .int .i64 W, .int .i64 C] 31)).alloc (.cells #[.int .i64 H2, .int .i64 W2, .int .i64 C2] 31)).alloc (.cells #[.int .i64 0, .int .i64 0, .int .i64 0] 31)).cell? ⟨w.heap.size + 1, 2, none⟩ = some (.int .i64 C) := by go_cell
  have k3 : ((((w.alloc (.cells x.val 28)).alloc (.cells #[.int .i64 H, .int .i64 W, .int .i64 C] 31)).alloc (.cells #[.int .i64 H2, .int .i64 W2, .int .i64 C2] 31)).alloc (.cells #[.int .i64 0, .int .i64 0, .int .i64 0] 31)).cell? ⟨w.heap.size + 2, 0, none⟩ = some (.int .i64 H2) := by go_cell
  have k4 : ((((w.alloc (.cells x.val 28)).alloc (.cells #[.int .i64 H, .int .i64 W, .int .i64 C] 31)).alloc (.cells #[.int .i64 H2, .int .i64 W2, .int .i64 C2] 31)).alloc (.cells #[.int .i64 0, .int .i64 0, .int .i64 0] 31)).cell? ⟨w.heap.size + 2, 1, none⟩ = some (.int .i64 W2) := by go_cell
  have k5 : ((((w.alloc (.cells x.val 28)).alloc (.cells #[.int .i64 H, .int .i64 W, .int .i64 C] 31)).alloc (.cells #[.int .i64 H2, .int .i64 W2, .int .i64 C2] 31)).alloc (.cells #[.int .i64 0, .int .i64 0, .int .i64 0] 31)).cell? ⟨w.heap.size + 2, 2, none⟩ = some (.int .i64 C2) := by go_cell
  have k6 : ((((w.alloc (.cells x.val 28)).alloc (.cells #[.int .i64 H, .int .i64 W, .int .i64 C] 31)).alloc (.cells #[.int .i64 H2, .int .i64 W2, .int .i64 C2] 31)).alloc (.cells #[.int .i64 0, .int .i64 0, .int .i64 0] 31)).cell? ⟨w.heap.size + 3, 0, none⟩ = some (.int .i64 0) := by go_cell
  have k7 : ((((w.alloc (.cells x.val 28)).alloc (.cells #[.int .i64 H, .int .i64 W, .int .i64 C] 31)).alloc (.cells #[.int .i64 H2, .int .i64 W2, .int .i64 C2] 31)).alloc (.cells #[.int .i64 0, .int .i64 0, .int .i64 0] 31)).cell? ⟨w.heap.size + 3, 1, none⟩ = some (.int .i64 0) := by go_cell
  have k8 : ((((w.alloc (.cells x.val 28)).alloc (.cells #[.int .i64 H, .int .i64 W, .int .i64 C] 31)).alloc (.cells #[.int .i64 H2, .int .i64 W2, .int .i64 C2] 31)).alloc (.cells #[.int .i64 0, .int .i64 0, .int .i64 0] 31)).cell? ⟨w.heap.size + 3, 2, none⟩ = some (.int .i64 0) := by go_cell
  have g0 : ((((w.alloc (.cells x.val 28)).alloc (.cells #[.int .i64 H, .int .i64 W, .int .i64 C] 31)).alloc (.cells #[.int .i64 H2, .int .i64 W2, .int .i64 C2] 31)).alloc (.cells #[.int .i64 0, .int .i64 0, .int .i64 0] 31)).frozen? ⟨w.heap.size + 3, 0, none⟩ = false := by go_cell
  have g1 : ((((w.alloc (.cells x.val 28)).alloc (.cells #[.int .i64 H, .int .i64 W, .int .i64 C] 31)).alloc (.cells #[.int .i64 H2, .int .i64 W2, .int .i64 C2] 31)).alloc (.cells #[.int .i64 0, .int .i64 0, .int .i64 0] 31)).frozen? ⟨w.heap.size + 3, 1, none⟩ = false := by go_cell
  have g2 : ((((w.alloc (.cells x.val 28)).alloc (.cells #[.int .i64 H, .int .i64 W, .int .i64 C] 31)).alloc (.cells #[.int .i64 H2, .int .i64 W2, .int .i64 C2] 31)).alloc (.cells #[.int .i64 0, .int .i64 0, .int .i64 0] 31)).frozen? ⟨w.heap.size + 3, 2, none⟩ = false := by go_cell
  generalize (((w.alloc (.cells x.val 28)).alloc (.cells #[.int .i64 H, .int .i64 W, .int .i64 C] 31)).alloc (.cells #[.int .i64 H2, .int .i64 W2, .int .i64 C2] 31)).alloc (.cells #[.int .i64 0, .int .i64 0, .int .i64 0] 31) = W0 at *
  have hz3 : w.heap.size + 3 < W0.heap.size := by rw [HS.out]; omega
  clear HS
  have q0 := TN.out.at 0 (.int .i64 x.kd) rfl
  have q3 := TN.out.at 3 (.int .i64 x.K) rfl
  have q4 := TN.out.at 4 (.int .i64 x.S) rfl
  have q5 := TN.out.at 5 (.int .i64 x.P) rfl
  have hk := HK.out
  have ks : ∀ j : Int, 1 ≤ j → j ≤ 9 → (x.kd == j) = false ∧ (x.kd != j) = true ∧ ¬ x.kd = j := fun j h1 h2 => by
    have : x.kd ≠ j := by omega
    simp [this]
  obtain ⟨e1, f1, g1x⟩ := ks 1 (by omega) (by omega)
  obtain ⟨e2, f2, g2x⟩ := ks 2 (by omega) (by omega)
  obtain ⟨e3, f3, g3x⟩ := ks 3 (by omega) (by omega)
  obtain ⟨e4, f4, g4x⟩ := ks 4 (by omega) (by omega)
  obtain ⟨e5, f5, g5x⟩ := ks 5 (by omega) (by omega)
  obtain ⟨e6, f6, g6x⟩ := ks 6 (by omega) (by omega)
  obtain ⟨e7, f7, g7x⟩ := ks 7 (by omega) (by omega)
  obtain ⟨e8, f8, g8x⟩ := ks 8 (by omega) (by omega)
  obtain ⟨e9, f9, g9x⟩ := ks 9 (by omega) (by omega)
  clear ks
  go_wp2_with (first
    | (refine nd_load rfl _ rfl w.heap.size x rfl TN.out ?_))
  refine bodyPost_ret (Kit.results_ct rfl _ _ (w.heap.size + 3) 0 [.int .i64 0, .int .i64 0, .int .i64 0] _ rfl (Kit.range_3 (by go_cell) (by go_cell) (by go_cell)) Tryd.underlying31 rfl (by kernel_rfl)) rfl ?_
  exact ⟨rfl, ((HB.out.setCell (p := ⟨w.heap.size + 3, 0, none⟩) (Nat.le_add_right _ _) _).setCell (p := ⟨w.heap.size + 3, 1, none⟩) (Nat.le_add_right _ _) _).setCell (p := ⟨w.heap.size + 3, 2, none⟩) (Nat.le_add_right _ _) _⟩
end Go.Proofs.YtamcdpkakdiggaaDoor.CKind
end
section
namespace Go.Proofs.YtamcdpkakdiggaaDoor.CKind
open Go Go.ChangeShapes Go.WideShapes Go.ChangeAt Go.RowKit Go.Deep
open Plain CSat CShape CTensor CConv CDense CDepth
set_option linter.unusedVariables false
set_option linter.unusedSimpArgs false
theorem shape_flat (H W C : Int) : shapeB 1 1 (elemsZ H W C) = shapeB H W C := by
  cases hs : shapeB H W C
  · rw [elemsZ_no hs]; decide
  · obtain ⟨a1, a2, a3, a4, a5, a6, a7⟩ := shapeB_yes hs
    have := prod_bd a1 a2 a3 a4 a5 a6
    rw [elemsZ_yes hs]
    generalize H * W * C = n at *
    exact decide_eq_true ⟨by omega, by omega, by omega, by omega, by omega, by omega, by omega⟩
theorem shape_to (x : Nd) : ShapeIs 13 x := by
  intro H W C H2 W2 C2 e u0 u1 u2 he hv w
  by_cases h0 : x.kd < 1 ∨ 9 < x.kd
  · have n1 : ¬ x.kd = 1 := by omega
    have n2 : ¬ x.kd = 2 := by omega
    have n3 : ¬ x.kd = 3 := by omega
    have n4 : ¬ (x.kd = 4 ∨ x.kd = 5) := by omega
    have e6 : x.shE H W C H2 W2 C2 = 6 := by unfold Nd.shE; rw [if_neg n1, if_neg n2, if_neg n3, if_neg n4, if_pos h0]
    refine csh_0 x h0 H W C H2 W2 C2 e u0 u1 u2 (e6.symm.trans he) ?_ w
    rw [← hv]; unfold Nd.shV; rw [if_neg n1, if_neg n2, if_neg n3, if_neg n4, e6, if_pos (by decide)]
  have hk : x.kd = 1 ∨ x.kd = 2 ∨ x.kd = 3 ∨ x.kd = 4 ∨ x.kd = 5 ∨ x.kd = 6 ∨ x.kd = 7 ∨ x.kd = 8 ∨ x.kd = 9 := by omega
  clear h0
  have c0 : ∀ {b : Bool} {y : Int}, (if b = false then (5 : Int) else y) = if b = true then y else 5 := fun {b} {y} => by cases b <;> rfl
  unfold Nd.shV Nd.shE at hv
  unfold Nd.shE at he
  rcases hk with h | h | h | h | h | h | h | h | h
  all_goals simp only [h, if_true, if_false, show ¬ (2 : Int) = 1 by decide, show ¬ (3 : Int) = 1 by decide, show ¬ (4 : Int) = 1 by decide, show ¬ (5 : Int) = 1 by decide, show ¬ (6 : Int) = 1 by decide, show ¬ (7 : Int) = 1 by decide, show ¬ (8 : Int) = 1 by decide, show ¬ (9 : Int) = 1 by decide,
    show ¬ (3 : Int) = 2 by decide, show ¬ (4 : Int) = 2 by decide, show ¬ (5 : Int) = 2 by decide, show ¬ (6 : Int) = 2 by decide, show ¬ (7 : Int) = 2 by decide, show ¬ (8 : Int) = 2 by decide, show ¬ (9 : Int) = 2 by decide,
    show ¬ (4 : Int) = 3 by decide, show ¬ (5 : Int) = 3 by decide, show ¬ (6 : Int) = 3 by decide, show ¬ (7 : Int) = 3 by decide, show ¬ (8 : Int) = 3 by decide, show ¬ (9 : Int) = 3 by decide,
    show ((4 : Int) = 4 ∨ (4 : Int) = 5) by decide, show ((5 : Int) = 4 ∨ (5 : Int) = 5) by decide, show ¬ ((6 : Int) = 4 ∨ (6 : Int) = 5) by decide, show ¬ ((7 : Int) = 4 ∨ (7 : Int) = 5) by decide, show ¬ ((8 : Int) = 4 ∨ (8 : Int) = 5) by decide, show ¬ ((9 : Int) = 4 ∨ (9 : Int) = 5) by decide,
    show ¬ ((6 : Int) < 1 ∨ (9 : Int) < 6) by decide, show ¬ ((7 : Int) < 1 ∨ (9 : Int) < 7) by decide, show ¬ ((8 : Int) < 1 ∨ (9 : Int) < 8) by decide, show ¬ ((9 : Int) < 1 ∨ (9 : Int) < 9) by decide,
    show ¬ (7 : Int) = 6 by decide, show ¬ (8 : Int) = 6 by decide, show ¬ (9 : Int) = 6 by decide, show ¬ (6 : Int) = 8 by decide, show ¬ (7 : Int) = 8 by decide, show ¬ (9 : Int) = 8 by decide, show ¬ (6 : Int) = 9 by decide, show ¬ (7 : Int) = 9 by decide, show ¬ (8 : Int) = 9 by decide, true_and, false_and] at he hv
  · exact csh_1 x h H W C H2 W2 C2 e u0 u1 u2 he hv w
  · exact csh_2 x h H W C H2 W2 C2 e u0 u1 u2 he hv w
  · exact csh_3 x h H W C H2 W2 C2 e u0 u1 u2 he hv w
  · exact csh_4 x h H W C H2 W2 C2 e u0 u1 u2 he hv w
  · exact csh_5 x h H W C H2 W2 C2 e u0 u1 u2 he hv w
  · cases hd : (H == H2 && (W == W2 && C == C2))
    · have h5 : (if shapeB H W C = false then (5 : Int) else if (H == H2 && (W == W2 && C == C2)) = false then 5 else 0) = 5 := by rw [hd]; cases shapeB H W C <;> rfl
      rw [h5] at he hv
      exact csh_6n x h H W C H2 W2 C2 e u0 u1 u2 hd he (by rw [← hv, if_pos (by decide)]) w
    · have h5 : (if shapeB H W C = false then (5 : Int) else if (H == H2 && (W == W2 && C == C2)) = false then 5 else 0) = if shapeB H W C = true then 0 else 5 := by rw [hd]; cases shapeB H W C <;> rfl
      rw [h5] at he hv
      refine csh_6y x h H W C H2 W2 C2 e u0 u1 u2 hd he ?_ w
      rw [← hv]; cases shapeB H W C <;> rfl
  · rw [c0] at he hv
    refine csh_7 x h H W C H2 W2 C2 e u0 u1 u2 he ?_ w
    rw [← hv]; cases shapeB H W C <;> rfl
  · refine csh_8 x h H W C H2 W2 C2 e u0 u1 u2 he ?_ w
    rw [← hv, ← he]
  · rw [c0] at he hv
    refine csh_9 x h H W C H2 W2 C2 e u0 u1 u2 _ rfl (by rw [shape_flat]; exact he) ?_ w
    rw [shape_flat, ← hv]; cases shapeB H W C <;> rfl
end Go.Proofs.YtamcdpkakdiggaaDoor.CKind
end
section
namespace Go.Proofs.YtamcdpkakdiggaaDoor.Kit
open Go Go.ChangeShapes Go.WideShapes Go.ChangeAt Go.RowKit Go.Deep
set_option linter.unusedVariables false
section
variable {H : Type} {enc : TypeId × Value → H} {P : Program} {w : World} {base b0 : Nat} {spare : Nat → Bool} {held : Bool} {r : Reach}
theorem size_19 {cs : Array Value} (h : cs.size = 19) : ∃ a0 a1 a2 a3 a4 a5 a6 a7 a8 a9 a10 a11 a12 a13 a14 a15 a16 a17 a18, cs = #[a0, a1, a2, a3, a4, a5, a6, a7, a8, a9, a10, a11, a12, a13, a14, a15, a16, a17, a18] := by
  obtain ⟨l⟩ := cs
  match l, h with
  | [a0, a1, a2, a3, a4, a5, a6, a7, a8, a9, a10, a11, a12, a13, a14, a15, a16, a17, a18], _ => exact ⟨a0, a1, a2, a3, a4, a5, a6, a7, a8, a9, a10, a11, a12, a13, a14, a15, a16, a17, a18, rfl⟩
theorem trod_islice_n {d e : TypeId} {k : IntKind} {c3 : Value} {n : Nat} {x : DataW H × List MemPlace} (hd : P.underlying d = some (.slice e)) (he : P.underlying e = some (.int k)) (hce : P.cellsOf e = 1) (h1 : DataW.trod enc P w base spare held n d [c3] = some x) :
    ∃ (A : Option Addr) (zs : List Int) (c : Nat), c3 = .slice A zs.length c ∧ zs.length ≤ c ∧ c ≤ maxLen ∧ (∀ n ∈ zs, (Lit.int k n).wf = true) ∧ Rd w w.heap.size A (zs.map (.int k)) := by
  obtain ⟨a3, len, cap, e3⟩ := Go.Joins.slice_form hd h1
  simp at e3
  subst e3
  rcases open_ints hd he hce h1 with ⟨hcs, _⟩ | ⟨a, len', cap', zs, hcs, _, hl, hm, hz, _, hcell, hwz⟩
  · simp at hcs
    obtain ⟨rfl, rfl, rfl⟩ := hcs
    exact ⟨none, [], 0, rfl, by simp, by simp, by simp, Rd.nil⟩
  · simp at hcs
    obtain ⟨rfl, rfl, rfl⟩ := hcs
    have hlz : len ≤ zs.length := by rw [hz]; split <;> omega
    refine ⟨some a, zs.take len, cap, ?_, ?_, hm, fun n hn => hwz n (List.mem_of_mem_take hn), fun j u hu => ?_⟩
    · rw [List.length_take, Nat.min_eq_left hlz]
    · rw [List.length_take, Nat.min_eq_left hlz]; exact hl
    · rw [List.getElem?_map, List.getElem?_take] at hu
      split at hu
      · rename_i hj
        have hjz : j < zs.length := by omega
        rw [List.getElem?_eq_getElem hjz] at hu
        simp only [Option.map_some, Option.some.injEq] at hu
        subst hu
        have h9 := hcell j hjz
        rw [List.getD_eq_getElem?_getD, List.getElem?_eq_getElem hjz, Option.getD_some] at h9
        exact ⟨a, rfl, by have := block_lt h9; rwa [add_block] at this, h9⟩
      · simp at hu
theorem open_node {t i b8 d e d2 e2 : TypeId} {fs : Array Field} {f3 f4 f5 f6 f7 f9 f10 : Field} {v : Value} {D : DataW H} {ps : List MemPlace}
    (ht : P.underlying t = some (.struct fs)) (hct : P.cellsOf t = 19) (hi : P.underlying i = some (.int .i64)) (hci : P.cellsOf i = 1) (hb : P.underlying b8 = some (.int .i8)) (hcb : P.cellsOf b8 = 1)
    (hd : P.underlying d = some (.slice e)) (he : P.underlying e = some (.int .i8)) (hce : P.cellsOf e = 1) (hcd : P.cellsOf d = 1) (hd2 : P.underlying d2 = some (.slice e2)) (he2 : P.underlying e2 = some (.int .i32)) (hce2 : P.cellsOf e2 = 1) (hcd2 : P.cellsOf d2 = 1)
    (q3 : fs[3]? = some f3) (q4 : fs[4]? = some f4) (q5 : fs[5]? = some f5) (q6 : fs[6]? = some f6) (q7 : fs[7]? = some f7) (q9 : fs[9]? = some f9) (q10 : fs[10]? = some f10)
    (o3 : f3.type = i ∧ f3.offset = 3) (o4 : f4.type = i ∧ f4.offset = 4) (o5 : f5.type = i ∧ f5.offset = 5) (o6 : f6.type = i ∧ f6.offset = 6) (o7 : f7.type = b8 ∧ f7.offset = 7) (o9 : f9.type = d ∧ f9.offset = 9) (o10 : f10.type = d2 ∧ f10.offset = 10)
    (hv : Value.okWide P w r b0 t v) (h : DataW.Trod enc P w base spare held t v D ps) :
    ∃ (a0 a1 a2 a8 a11 a12 a13 a14 a15 a16 a17 a18 : Value) (K S Q O Z : Int) (A : Option Addr) (ws : List Int) (c : Nat) (B : Option Addr) (bs : List Int) (c2 : Nat),
      v = .agg #[a0, a1, a2, .int .i64 K, .int .i64 S, .int .i64 Q, .int .i64 O, .int .i8 Z, a8, .slice A ws.length c, .slice B bs.length c2, a11, a12, a13, a14, a15, a16, a17, a18] ∧ (Lit.int .i8 Z).wf = true ∧
      ws.length ≤ c ∧ c ≤ maxLen ∧ (∀ n ∈ ws, (Lit.int .i8 n).wf = true) ∧ Rd w w.heap.size A (ws.map (.int .i8)) ∧
      bs.length ≤ c2 ∧ c2 ≤ maxLen ∧ (∀ n ∈ bs, (Lit.int .i32 n).wf = true) ∧ Rd w w.heap.size B (bs.map (.int .i32)) := by
  obtain ⟨cs, rfl, hsz⟩ := okWide_struct ht hv
  rw [hct] at hsz
  obtain ⟨a0, a1, a2, a3, a4, a5, a6, a7, a8, a9, a10, a11, a12, a13, a14, a15, a16, a17, a18, rfl⟩ := size_19 hsz
  obtain ⟨fuel, hfu⟩ := h
  obtain ⟨xs, n, _, _, _, hlen, hx⟩ := DataW.trod_struct ht hfu
  have hl : ∀ (j : Nat) (f : Field), fs[j]? = some f → j < xs.length := fun j f hj => by rw [hlen]; exact (Array.getElem?_eq_some_iff.1 hj).1
  have g3 := hx 3 f3 q3
  rw [o3.1, o3.2, hci, List.getElem?_eq_getElem (hl 3 f3 q3)] at g3
  rw [show ((Value.agg #[a0, a1, a2, a3, a4, a5, a6, a7, a8, a9, a10, a11, a12, a13, a14, a15, a16, a17, a18]).cells.toList.drop 3).take 1 = [a3] from rfl] at g3
  have g4 := hx 4 f4 q4
  rw [o4.1, o4.2, hci, List.getElem?_eq_getElem (hl 4 f4 q4)] at g4
  rw [show ((Value.agg #[a0, a1, a2, a3, a4, a5, a6, a7, a8, a9, a10, a11, a12, a13, a14, a15, a16, a17, a18]).cells.toList.drop 4).take 1 = [a4] from rfl] at g4
  have g5 := hx 5 f5 q5
  rw [o5.1, o5.2, hci, List.getElem?_eq_getElem (hl 5 f5 q5)] at g5
  rw [show ((Value.agg #[a0, a1, a2, a3, a4, a5, a6, a7, a8, a9, a10, a11, a12, a13, a14, a15, a16, a17, a18]).cells.toList.drop 5).take 1 = [a5] from rfl] at g5
  have g6 := hx 6 f6 q6
  rw [o6.1, o6.2, hci, List.getElem?_eq_getElem (hl 6 f6 q6)] at g6
  rw [show ((Value.agg #[a0, a1, a2, a3, a4, a5, a6, a7, a8, a9, a10, a11, a12, a13, a14, a15, a16, a17, a18]).cells.toList.drop 6).take 1 = [a6] from rfl] at g6
  have g7 := hx 7 f7 q7
  rw [o7.1, o7.2, hcb, List.getElem?_eq_getElem (hl 7 f7 q7)] at g7
  rw [show ((Value.agg #[a0, a1, a2, a3, a4, a5, a6, a7, a8, a9, a10, a11, a12, a13, a14, a15, a16, a17, a18]).cells.toList.drop 7).take 1 = [a7] from rfl] at g7
  have g9 := hx 9 f9 q9
  rw [o9.1, o9.2, hcd, List.getElem?_eq_getElem (hl 9 f9 q9)] at g9
  rw [show ((Value.agg #[a0, a1, a2, a3, a4, a5, a6, a7, a8, a9, a10, a11, a12, a13, a14, a15, a16, a17, a18]).cells.toList.drop 9).take 1 = [a9] from rfl] at g9
  have g10 := hx 10 f10 q10
  rw [o10.1, o10.2, hcd2, List.getElem?_eq_getElem (hl 10 f10 q10)] at g10
  rw [show ((Value.agg #[a0, a1, a2, a3, a4, a5, a6, a7, a8, a9, a10, a11, a12, a13, a14, a15, a16, a17, a18]).cells.toList.drop 10).take 1 = [a10] from rfl] at g10
  obtain ⟨K, eK, _, _⟩ := DataW.trod_int hi g3
  obtain ⟨S, eS, _, _⟩ := DataW.trod_int hi g4
  obtain ⟨Q, eQ, _, _⟩ := DataW.trod_int hi g5
  obtain ⟨O, eO, _, _⟩ := DataW.trod_int hi g6
  obtain ⟨Z, eZ, _, wZ⟩ := DataW.trod_int hb g7
  simp at eK eS eQ eO eZ
  subst eK eS eQ eO eZ
  obtain ⟨A, ws, c, rfl, p1, p2, p3, p4⟩ := trod_islice_n hd he hce g9
  obtain ⟨B, bs, c2, rfl, p5, p6, p7, p8⟩ := trod_islice_n hd2 he2 hce2 g10
  exact ⟨a0, a1, a2, a8, a11, a12, a13, a14, a15, a16, a17, a18, K, S, Q, O, Z, A, ws, c, B, bs, c2, rfl, wZ, p1, p2, p3, p4, p5, p6, p7, p8⟩
end
end Go.Proofs.YtamcdpkakdiggaaDoor.Kit
end
section
namespace Go.Proofs.YtamcdpkakdiggaaDoor.CKind
open Go Go.ChangeShapes Go.WideShapes Go.ChangeAt Go.RowKit Go.Deep
open Plain CSat CShape CTensor CConv
set_option linter.unusedVariables false
set_option linter.unusedSimpArgs false
theorem node_types : Tryd.prog.cellTypes Tryd.prog.depth 28 = some [3, 3, 3, 3, 3, 3, 3, 22, 22, 23, 24, 21, 3, 22, 21, 3, 22, 22, 22] := by kernel_rfl
theorem cell_int {P : Program} {w : World} {r : Reach} {b0 : Nat} {t u : TypeId} {fs : Array Field} {cs : Array Value} {ts : List TypeId} (ht : P.underlying t = some (.struct fs)) (hts : P.cellTypes P.depth t = some ts) (hv : Value.okWide P w r b0 t (.agg cs))
    (i : Nat) (v : Value) (hi : cs[i]? = some v) (hu : ts[i % ts.length]? = some u) (k : IntKind) (hk : P.underlying u = some (.int k)) : ∃ n, v = .int k n ∧ k.min ≤ n ∧ n ≤ k.max := by
  simp only [Value.okWide, ht] at hv
  obtain ⟨cs', e, _, ts', hts', _, hr⟩ := hv
  cases e
  rw [hts] at hts'
  cases hts'
  obtain ⟨u', hu', hc⟩ := hr i v hi
  rw [hu] at hu'
  cases hu'
  unfold Cell.okWide Cell.ok at hc
  rw [hk] at hc
  cases v <;> simp at hc
  obtain ⟨rfl, h⟩ := hc
  exact ⟨_, rfl, h.1, h.2⟩
/-- the limits of what a node tells. -/
def NdBd (kd na nb Y m1 s1 z1 m2 s2 z2 lo hi : Int) : Prop := (-9223372036854775808 ≤ kd ∧ kd ≤ 9223372036854775807) ∧ (-9223372036854775808 ≤ na ∧ na ≤ 9223372036854775807) ∧ (-9223372036854775808 ≤ nb ∧ nb ≤ 9223372036854775807) ∧ (-128 ≤ Y ∧ Y ≤ 127) ∧ (-2147483648 ≤ m1 ∧ m1 ≤ 2147483647) ∧ (-9223372036854775808 ≤ s1 ∧ s1 ≤ 9223372036854775807) ∧ (-128 ≤ z1 ∧ z1 ≤ 127) ∧ (-2147483648 ≤ m2 ∧ m2 ≤ 2147483647) ∧ (-9223372036854775808 ≤ s2 ∧ s2 ≤ 9223372036854775807) ∧ (-128 ≤ z2 ∧ z2 ≤ 127) ∧ (-128 ≤ lo ∧ lo ≤ 127) ∧ (-128 ≤ hi ∧ hi ≤ 127)
/-- all cells of a node but its lists are numbers. -/
theorem nd_cells {w : World} {r : Reach} {b0 : Nat} {a0 a1 a2 a3 a4 a5 a6 a7 a8 a9 a10 a11 a12 a13 a14 a15 a16 a17 a18 : Value} (hv : Value.okWide Tryd.prog w r b0 28 (.agg #[a0, a1, a2, a3, a4, a5, a6, a7, a8, a9, a10, a11, a12, a13, a14, a15, a16, a17, a18])) :
    ∃ kd na nb Y m1 s1 z1 m2 s2 z2 lo hi : Int, (a0 = .int .i64 kd ∧ a1 = .int .i64 na ∧ a2 = .int .i64 nb ∧ a8 = .int .i8 Y ∧ a11 = .int .i32 m1 ∧ a12 = .int .i64 s1 ∧ a13 = .int .i8 z1 ∧ a14 = .int .i32 m2 ∧ a15 = .int .i64 s2 ∧ a16 = .int .i8 z2 ∧ a17 = .int .i8 lo ∧ a18 = .int .i8 hi) ∧ NdBd kd na nb Y m1 s1 z1 m2 s2 z2 lo hi := by
  have h := fun (i : Nat) (v : Value) hi u hu k hk => cell_int (u := u) Tryd.underlying28 node_types hv i v hi hu k hk
  obtain ⟨kd, e0, l0, u0⟩ := h 0 a0 rfl _ rfl .i64 Tryd.underlying3
  obtain ⟨na, e1, l1, u1⟩ := h 1 a1 rfl _ rfl .i64 Tryd.underlying3
  obtain ⟨nb, e2, l2, u2⟩ := h 2 a2 rfl _ rfl .i64 Tryd.underlying3
  obtain ⟨Y, e8, l8, u8⟩ := h 8 a8 rfl _ rfl .i8 Tryd.underlying22
  obtain ⟨m1, e11, l11, u11⟩ := h 11 a11 rfl _ rfl .i32 Tryd.underlying21
  obtain ⟨s1, e12, l12, u12⟩ := h 12 a12 rfl _ rfl .i64 Tryd.underlying3
  obtain ⟨z1, e13, l13, u13⟩ := h 13 a13 rfl _ rfl .i8 Tryd.underlying22
  obtain ⟨m2, e14, l14, u14⟩ := h 14 a14 rfl _ rfl .i32 Tryd.underlying21
  obtain ⟨s2, e15, l15, u15⟩ := h 15 a15 rfl _ rfl .i64 Tryd.underlying3
  obtain ⟨z2, e16, l16, u16⟩ := h 16 a16 rfl _ rfl .i8 Tryd.underlying22
  obtain ⟨lo, e17, l17, u17⟩ := h 17 a17 rfl _ rfl .i8 Tryd.underlying22
  obtain ⟨hi, e18, l18, u18⟩ := h 18 a18 rfl _ rfl .i8 Tryd.underlying22
  clear h hv
  simp only [IntKind.min, IntKind.max, IntKind.signed, IntKind.bits] at *
  refine ⟨kd, na, nb, Y, m1, s1, z1, m2, s2, z2, lo, hi, ⟨e0, e1, e2, e8, e11, e12, e13, e14, e15, e16, e17, e18⟩, ?_⟩
  unfold NdBd
  simp at *
  omega
end Go.Proofs.YtamcdpkakdiggaaDoor.CKind
end
section
namespace Go.Proofs.YtamcdpkakdiggaaDoor.CKind
open Go Go.ChangeShapes Go.WideShapes Go.ChangeAt Go.RowKit Go.Deep
open Plain CSat CFix CShape CTensor CConv
set_option linter.unusedVariables false
set_option linter.unusedSimpArgs false
theorem known_join : kname 6 = ⟨#[106, 111, 105, 110]⟩ := by decide
set_option maxRecDepth 100000 in
set_option maxHeartbeats 4000000 in
theorem known25 (w : World) (hT : NamesIn w) : Calls Tryd.prog 7 #[] w fun e w' => e = .returned (.bool true) ∧ Below w.heap.size w w' := by
  have HS := shape_to ⟨9, 0, 0, 0, 0, 0, 0, 0, 0, none, 0, 0, none, 0, 0, 0, 0, 0, 0, 0, 0, 0, 0⟩ 2 3 4 0 0 0 0 1 1 24 (by decide) (by simp [Nd.shV, Nd.shE, shapeB, elemsZ])
  have HN := fun (w : World) (h : NamesIn w) => name_to 6 w h
  have HK := fun (w : World) (h : NamesIn w) => check_to ⟨0, 0, 0, 0, 0, 0, 0, 0, 0, none, 0, 0, none, 0, 0, 0, 0, 0, 0, 0, 0, 0, 0⟩ ⟨by decide, by decide, by decide, by decide⟩ w h
  have HT := Lib.hid hT
  clear hT
  have HQ := eqShape 1 1 24 1 1 24
  have hg := Tryd.eqGuardType31
  rw [known_join] at HN
  rw [show (⟨0, 0, 0, 0, 0, 0, 0, 0, 0, none, 0, 0, none, 0, 0, 0, 0, 0, 0, 0, 0, 0, 0⟩ : Nd).checkZ = 6 from by decide] at HK
  unfold Nd.val at HS HK
  have HS := Lib.hid HS
  have HN := Lib.hid HN
  have HK := Lib.hid HK
  go_enter Tryd.func7, Tryd.ntmps7
  go_wp2_with (first
    | (go_at_call 13; (with_reducible refine (HS.out _).mono ?_); rintro e1 w1 ⟨rfl, hb⟩; have HB := Lib.hid hb; clear hb)
    | (go_at_call 10; (with_reducible refine (HN.out _ (HT.out.grown (HB.out.alloc HB.out.size _))).mono ?_); rintro e1 w2 ⟨rfl, rfl⟩; replace HB := Lib.hid (HB.out.alloc HB.out.size (.cells #[.int .i64 1, .int .i64 1, .int .i64 24] 31)))
    | (go_at_call 8; (with_reducible refine (HK.out _ (HT.out.grown HB.out)).mono ?_); rintro e1 w3 ⟨rfl, hb⟩; replace HB := Lib.hid (HB.out.trans (hb.mono HB.out.size)); clear hb))
  go_ret
  exact ⟨by simp, HB.out⟩
end Go.Proofs.YtamcdpkakdiggaaDoor.CKind
end
section
namespace Go.Proofs.YtamcdpkakdiggaaDoor.lawKindsShape
open Go Go.ChangeShapes Go.WideShapes Go.ChangeAt Go.RowKit Go.Deep
open Plain CSat CShape CTensor CConv CKind
set_option linter.unusedVariables false
set_option linter.unusedSimpArgs false
set_option maxRecDepth 100000 in
set_option maxHeartbeats 8000000 in
theorem walk_no (x : Nd) (H W C H2 W2 C2 : Int) (hf : ¬ (x.nW ≤ 2000 ∧ x.nB ≤ 200)) (w : World) (hT : NamesIn w) :
    Calls Tryd.prog 4 #[.agg x.val, .agg #[.int .i64 H, .int .i64 W, .int .i64 C], .agg #[.int .i64 H2, .int .i64 W2, .int .i64 C2]] w fun e w' => e = .returned (.bool true) ∧ Below w.heap.size w w' := by
  obtain ⟨u0, u1, u2, hv⟩ := x.sh_three H W C H2 W2 C2
  obtain ⟨e, he⟩ : ∃ e, x.shE H W C H2 W2 C2 = e := ⟨_, rfl⟩
  have HS := Lib.hid (shape_to x H W C H2 W2 C2 e u0 u1 u2 he hv)
  have HR := Lib.hid (refShape_to x H W C H2 W2 C2 e u0 u1 u2 he hv)
  clear he hv
  have HF : ∀ w, Calls Tryd.prog 6 #[.agg #[.int .i64 0, .int .i64 0, .int .i64 0, .slice none 0 0], .agg x.val] w fun e w' => e = .returned (.bool false) ∧ Below w.heap.size w w' := fun (w : World) => few_no 0 0 0 none 0 0 (.int .i64 x.kd) (.int .i64 x.na) (.int .i64 x.nb) (.int .i8 x.Y) (.int .i32 x.m1) (.int .i64 x.s1) (.int .i8 x.z1) (.int .i32 x.m2) (.int .i64 x.s2) (.int .i8 x.z2) (.int .i8 x.lo) (.int .i8 x.hi) x.K x.S x.P x.O x.Z x.WA x.BA x.nW x.cW x.nB x.cB (fun h => hf h.2) w
  have HF := Lib.hid HF
  clear hf
  have HQ := eqShape u0 u1 u2 u0 u1 u2
  have hg := Tryd.eqGuardType31
  have TN := Lib.hid ((NdAt.new x 28 w).below (B := w.heap.size + 1) (by omega) ((((Below.refl _ _).alloc (by simp) (.cells #[.int .i64 H, .int .i64 W, .int .i64 C] 31)).alloc (by first | exact Nat.le_refl _ | (simp; done) | (simp; omega) | omega) (.cells #[.int .i64 H2, .int .i64 W2, .int .i64 C2] 31))))
  have HB := Lib.hid ((((Below.refl w.heap.size w).alloc (Nat.le_refl _) (.cells x.val 28)).alloc (by first | exact Nat.le_refl _ | (simp; done) | (simp; omega) | omega) (.cells #[.int .i64 H, .int .i64 W, .int .i64 C] 31)).alloc (by first | exact Nat.le_refl _ | (simp; done) | (simp; omega) | omega) (.cells #[.int .i64 H2, .int .i64 W2, .int .i64 C2] 31))
  have HT := Lib.hid hT
  clear hT
  go_enter Tryd.func4, Tryd.ntmps4
  go_upto_region 1 with fail
  have k0 : (((w.alloc (.cells x.val 28)).alloc (.cells #[.int .i64 H, .int .i64 W, .int .i64 C] 31)).alloc (.cells #[.int .i64 H2, .int .i64 W2, .int .i64 C2] 31)).cell? ⟨w.heap.size + 1, 0, none⟩ = some (.int .i64 H) := by go_cell
  have k1 : (((w.alloc (.cells x.val 28)).alloc (.cells #[.int .i64 H, .int .i64 W, .int .i64 C] 31)).alloc (.cells #[.int .i64 H2, .int .i64 W2, .int .i64 C2] 31)).cell? ⟨w.heap.size + 1, 1, none⟩ = some (.int .i64 W) := by go_cell
  have k2 : (((w.alloc (.cells x.val 28)).alloc (.cells #[.int .i64 H, .int .i64 W, .int .i64 C] 31)).alloc (.cells #[.int .i64 H2, .int .i64 W2, .int .i64 C2] 31)).cell? ⟨w.heap.size + 1, 2, none⟩ = some (.int .i64 C) := by go_cell
  have k3 : (((w.alloc (.cells x.val 28)).alloc (.cells #[.int .i64 H, .int .i64 W, .int .i64 C] 31)).alloc (.cells #[.int .i64 H2, .int .i64 W2, .int .i64 C2] 31)).cell? ⟨w.heap.size + 2, 0, none⟩ = some (.int .i64 H2) := by go_cell
  have k4 : (((w.alloc (.cells x.val 28)).alloc (.cells #[.int .i64 H, .int .i64 W, .int .i64 C] 31)).alloc (.cells #[.int .i64 H2, .int .i64 W2, .int .i64 C2] 31)).cell? ⟨w.heap.size + 2, 1, none⟩ = some (.int .i64 W2) := by go_cell
  have k5 : (((w.alloc (.cells x.val 28)).alloc (.cells #[.int .i64 H, .int .i64 W, .int .i64 C] 31)).alloc (.cells #[.int .i64 H2, .int .i64 W2, .int .i64 C2] 31)).cell? ⟨w.heap.size + 2, 2, none⟩ = some (.int .i64 C2) := by go_cell
  have hz2 : w.heap.size + 2 < (((w.alloc (.cells x.val 28)).alloc (.cells #[.int .i64 H, .int .i64 W, .int .i64 C] 31)).alloc (.cells #[.int .i64 H2, .int .i64 W2, .int .i64 C2] 31)).heap.size := by simp
  generalize (((w.alloc (.cells x.val 28)).alloc (.cells #[.int .i64 H, .int .i64 W, .int .i64 C] 31)).alloc (.cells #[.int .i64 H2, .int .i64 W2, .int .i64 C2] 31)) = W0 at *
  have hz1 : w.heap.size + 1 < W0.heap.size := by omega
  have hz0 : w.heap.size < W0.heap.size := by omega
  go_wp2_with (first
    | (go_at_call 6; (with_reducible refine (HF.out _).mono ?_); rintro e1 w1 ⟨rfl, hb⟩; (replace TN := Lib.hid (TN.out.below hz0 hb)); obtain ⟨hcc, hff⟩ := Kit.bcell hb; (replace HB := Lib.hid (HB.out.trans (hb.mono HB.out.size))); have hz2 : w.heap.size + 2 < w1.heap.size := (by have := hb.size; (try simp at this); omega); have hz1 : w.heap.size + 1 < w1.heap.size := (by omega); have hz0 : w.heap.size < w1.heap.size := (by omega); have hs1 := hb.size; (try simp only [World.size_alloc] at hs1); (try have hs2 := Nat.lt_of_succ_le hs1); clear hb)
    | (go_at_call 13; (with_reducible refine (HS.out _).mono ?_); rintro e1 w1 ⟨rfl, hb⟩; (replace TN := Lib.hid (TN.out.below hz0 hb)); obtain ⟨hcc, hff⟩ := Kit.bcell hb; (replace HB := Lib.hid (HB.out.trans (hb.mono HB.out.size))); have hz2 : w.heap.size + 2 < w1.heap.size := (by have := hb.size; (try simp at this); omega); have hz1 : w.heap.size + 1 < w1.heap.size := (by omega); have hz0 : w.heap.size < w1.heap.size := (by omega); have hs1 := hb.size; (try simp only [World.size_alloc] at hs1); (try have hs2 := Nat.lt_of_succ_le hs1); clear hb)
    | (go_at_call 14; (with_reducible refine (HR.out _).mono ?_); rintro e1 w1 ⟨rfl, hb⟩; (replace TN := Lib.hid ((TN.out.below hz0 ((Below.refl _ _).alloc (Nat.le_refl _) _)).below (by simp; omega) hb)); obtain ⟨hcc, hff⟩ := Kit.bcell hb; (replace HB := Lib.hid ((HB.out.alloc HB.out.size _).trans (hb.mono (by have := HB.out.size; simp; omega)))); have hz2 : w.heap.size + 2 < w1.heap.size := (by have := hb.size; (try simp at this); omega); have hz1 : w.heap.size + 1 < w1.heap.size := (by omega); have hz0 : w.heap.size < w1.heap.size := (by omega); have hs1 := hb.size; (try simp only [World.size_alloc] at hs1); (try have hs2 := Nat.lt_of_succ_le hs1); clear hb)
    | (go_at_call 7; (with_reducible refine (known25 _ (HT.out.grown (HB.out.alloc HB.out.size _))).mono ?_); rintro e1 w1 ⟨rfl, hb⟩; (replace TN := Lib.hid ((TN.out.below hz0 ((Below.refl _ _).alloc (Nat.le_refl _) _)).below (by simp; omega) hb)); obtain ⟨hcc, hff⟩ := Kit.bcell hb; (replace HB := Lib.hid ((HB.out.alloc HB.out.size _).trans (hb.mono (by have := HB.out.size; simp; omega)))); have hz2 : w.heap.size + 2 < w1.heap.size := (by have := hb.size; (try simp at this); omega); have hz1 : w.heap.size + 1 < w1.heap.size := (by omega); have hz0 : w.heap.size < w1.heap.size := (by omega); have hs1 := hb.size; (try simp only [World.size_alloc] at hs1); (try have hs2 := Nat.lt_of_succ_le hs1); clear hb)
    | (go_at_call 7; (with_reducible refine (known25 _ (HT.out.grown HB.out)).mono ?_); rintro e1 w1 ⟨rfl, hb⟩; (replace TN := Lib.hid (TN.out.below hz0 hb)); obtain ⟨hcc, hff⟩ := Kit.bcell hb; (replace HB := Lib.hid (HB.out.trans (hb.mono HB.out.size))); have hz2 : w.heap.size + 2 < w1.heap.size := (by have := hb.size; (try simp at this); omega); have hz1 : w.heap.size + 1 < w1.heap.size := (by omega); have hz0 : w.heap.size < w1.heap.size := (by omega); have hs1 := hb.size; (try simp only [World.size_alloc] at hs1); (try have hs2 := Nat.lt_of_succ_le hs1); clear hb)
    | (refine nd_load rfl _ rfl (w.heap.size) x rfl (TN.out) ?_)
    | (refine nd_load rfl _ rfl (w.heap.size) x rfl (TN.out.below hz0 ((Below.refl _ _).alloc (Nat.le_refl _) _)) ?_))
  go_ret
  exact ⟨by simp, HB.out⟩
set_option maxRecDepth 100000 in
set_option maxHeartbeats 8000000 in
theorem walk_yes (x : Nd) (H W C H2 W2 C2 : Int) (hf : x.nW ≤ 2000 ∧ x.nB ≤ 200) (w : World) (hT : NamesIn w) :
    Calls Tryd.prog 4 #[.agg x.val, .agg #[.int .i64 H, .int .i64 W, .int .i64 C], .agg #[.int .i64 H2, .int .i64 W2, .int .i64 C2]] w fun e w' => e = .returned (.bool true) ∧ Below w.heap.size w w' := by
  obtain ⟨u0, u1, u2, hv⟩ := x.sh_three H W C H2 W2 C2
  obtain ⟨e, he⟩ : ∃ e, x.shE H W C H2 W2 C2 = e := ⟨_, rfl⟩
  have HS := Lib.hid (shape_to x H W C H2 W2 C2 e u0 u1 u2 he hv)
  have HR := Lib.hid (refShape_to x H W C H2 W2 C2 e u0 u1 u2 he hv)
  clear he hv
  have HF : ∀ w, Calls Tryd.prog 6 #[.agg #[.int .i64 0, .int .i64 0, .int .i64 0, .slice none 0 0], .agg x.val] w fun e w' => e = .returned (.bool true) ∧ Below w.heap.size w w' := fun (w : World) => few_yes 0 0 0 none 0 0 (.int .i64 x.kd) (.int .i64 x.na) (.int .i64 x.nb) (.int .i8 x.Y) (.int .i32 x.m1) (.int .i64 x.s1) (.int .i8 x.z1) (.int .i32 x.m2) (.int .i64 x.s2) (.int .i8 x.z2) (.int .i8 x.lo) (.int .i8 x.hi) x.K x.S x.P x.O x.Z x.WA x.BA x.nW x.cW x.nB x.cB (by omega) hf.1 hf.2 w
  have HF := Lib.hid HF
  clear hf
  have HQ := eqShape u0 u1 u2 u0 u1 u2
  have hg := Tryd.eqGuardType31
  have TN := Lib.hid ((NdAt.new x 28 w).below (B := w.heap.size + 1) (by omega) ((((Below.refl _ _).alloc (by simp) (.cells #[.int .i64 H, .int .i64 W, .int .i64 C] 31)).alloc (by first | exact Nat.le_refl _ | (simp; done) | (simp; omega) | omega) (.cells #[.int .i64 H2, .int .i64 W2, .int .i64 C2] 31))))
  have HB := Lib.hid ((((Below.refl w.heap.size w).alloc (Nat.le_refl _) (.cells x.val 28)).alloc (by first | exact Nat.le_refl _ | (simp; done) | (simp; omega) | omega) (.cells #[.int .i64 H, .int .i64 W, .int .i64 C] 31)).alloc (by first | exact Nat.le_refl _ | (simp; done) | (simp; omega) | omega) (.cells #[.int .i64 H2, .int .i64 W2, .int .i64 C2] 31))
  have HT := Lib.hid hT
  clear hT
  go_enter Tryd.func4, Tryd.ntmps4
  go_upto_region 1 with fail
  have k0 : (((w.alloc (.cells x.val 28)).alloc (.cells #[.int .i64 H, .int .i64 W, .int .i64 C] 31)).alloc (.cells #[.int .i64 H2, .int .i64 W2, .int .i64 C2] 31)).cell? ⟨w.heap.size + 1, 0, none⟩ = some (.int .i64 H) := by go_cell
  have k1 : (((w.alloc (.cells x.val 28)).alloc (.cells #[.int .i64 H, .int .i64 W, .int .i64 C] 31)).alloc (.cells #[.int .i64 H2, .int .i64 W2, .int .i64 C2] 31)).cell? ⟨w.heap.size + 1, 1, none⟩ = some (.int .i64 W) := by go_cell
  have k2 : (((w.alloc (.cells x.val 28)).alloc (.cells #[.int .i64 H, .int .i64 W, .int .i64 C] 31)).alloc (.cells #[.int .i64 H2, .int .i64 W2, .int .i64 C2] 31)).cell? ⟨w.heap.size + 1, 2, none⟩ = some (.int .i64 C) := by go_cell
  have k3 : (((w.alloc (.cells x.val 28)).alloc (.cells #[.int .i64 H, .int .i64 W, .int .i64 C] 31)).alloc (.cells #[.int .i64 H2, .int .i64 W2, .int .i64 C2] 31)).cell? ⟨w.heap.size + 2, 0, none⟩ = some (.int .i64 H2) := by go_cell
  have k4 : (((w.alloc (.cells x.val 28)).alloc (.cells #[.int .i64 H, .int .i64 W, .int .i64 C] 31)).alloc (.cells #[.int .i64 H2, .int .i64 W2, .int .i64 C2] 31)).cell? ⟨w.heap.size + 2, 1, none⟩ = some (.int .i64 W2) := by go_cell
  have k5 : (((w.alloc (.cells x.val 28)).alloc (.cells #[.int .i64 H, .int .i64 W, .int .i64 C] 31)).alloc (.cells #[.int .i64 H2, .int .i64 W2, .int .i64 C2] 31)).cell? ⟨w.heap.size + 2, 2, none⟩ = some (.int .i64 C2) := by go_cell
  have hz2 : w.heap.size + 2 < (((w.alloc (.cells x.val 28)).alloc (.cells #[.int .i64 H, .int .i64 W, .int .i64 C] 31)).alloc (.cells #[.int .i64 H2, .int .i64 W2, .int .i64 C2] 31)).heap.size := by simp
  generalize (((w.alloc (.cells x.val 28)).alloc (.cells #[.int .i64 H, .int .i64 W, .int .i64 C] 31)).alloc (.cells #[.int .i64 H2, .int .i64 W2, .int .i64 C2] 31)) = W0 at *
  have hz1 : w.heap.size + 1 < W0.heap.size := by omega
  have hz0 : w.heap.size < W0.heap.size := by omega
  go_wp2_with (first
    | (go_at_call 6; (with_reducible refine (HF.out _).mono ?_); rintro e1 w1 ⟨rfl, hb⟩; (replace TN := Lib.hid (TN.out.below hz0 hb)); obtain ⟨hcc, hff⟩ := Kit.bcell hb; (replace HB := Lib.hid (HB.out.trans (hb.mono HB.out.size))); have hz2 : w.heap.size + 2 < w1.heap.size := (by have := hb.size; (try simp at this); omega); have hz1 : w.heap.size + 1 < w1.heap.size := (by omega); have hz0 : w.heap.size < w1.heap.size := (by omega); have hs1 := hb.size; (try simp only [World.size_alloc] at hs1); (try have hs2 := Nat.lt_of_succ_le hs1); clear hb)
    | (go_at_call 13; (with_reducible refine (HS.out _).mono ?_); rintro e1 w1 ⟨rfl, hb⟩; (replace TN := Lib.hid (TN.out.below hz0 hb)); obtain ⟨hcc, hff⟩ := Kit.bcell hb; (replace HB := Lib.hid (HB.out.trans (hb.mono HB.out.size))); have hz2 : w.heap.size + 2 < w1.heap.size := (by have := hb.size; (try simp at this); omega); have hz1 : w.heap.size + 1 < w1.heap.size := (by omega); have hz0 : w.heap.size < w1.heap.size := (by omega); have hs1 := hb.size; (try simp only [World.size_alloc] at hs1); (try have hs2 := Nat.lt_of_succ_le hs1); clear hb)
    | (go_at_call 14; (with_reducible refine (HR.out _).mono ?_); rintro e1 w1 ⟨rfl, hb⟩; (replace TN := Lib.hid ((TN.out.below hz0 ((Below.refl _ _).alloc (Nat.le_refl _) _)).below (by simp; omega) hb)); obtain ⟨hcc, hff⟩ := Kit.bcell hb; (replace HB := Lib.hid ((HB.out.alloc HB.out.size _).trans (hb.mono (by have := HB.out.size; simp; omega)))); have hz2 : w.heap.size + 2 < w1.heap.size := (by have := hb.size; (try simp at this); omega); have hz1 : w.heap.size + 1 < w1.heap.size := (by omega); have hz0 : w.heap.size < w1.heap.size := (by omega); have hs1 := hb.size; (try simp only [World.size_alloc] at hs1); (try have hs2 := Nat.lt_of_succ_le hs1); clear hb)
    | (go_at_call 7; (with_reducible refine (known25 _ (HT.out.grown (HB.out.alloc HB.out.size _))).mono ?_); rintro e1 w1 ⟨rfl, hb⟩; (replace TN := Lib.hid ((TN.out.below hz0 ((Below.refl _ _).alloc (Nat.le_refl _) _)).below (by simp; omega) hb)); obtain ⟨hcc, hff⟩ := Kit.bcell hb; (replace HB := Lib.hid ((HB.out.alloc HB.out.size _).trans (hb.mono (by have := HB.out.size; simp; omega)))); have hz2 : w.heap.size + 2 < w1.heap.size := (by have := hb.size; (try simp at this); omega); have hz1 : w.heap.size + 1 < w1.heap.size := (by omega); have hz0 : w.heap.size < w1.heap.size := (by omega); have hs1 := hb.size; (try simp only [World.size_alloc] at hs1); (try have hs2 := Nat.lt_of_succ_le hs1); clear hb)
    | (go_at_call 7; (with_reducible refine (known25 _ (HT.out.grown HB.out)).mono ?_); rintro e1 w1 ⟨rfl, hb⟩; (replace TN := Lib.hid (TN.out.below hz0 hb)); obtain ⟨hcc, hff⟩ := Kit.bcell hb; (replace HB := Lib.hid (HB.out.trans (hb.mono HB.out.size))); have hz2 : w.heap.size + 2 < w1.heap.size := (by have := hb.size; (try simp at this); omega); have hz1 : w.heap.size + 1 < w1.heap.size := (by omega); have hz0 : w.heap.size < w1.heap.size := (by omega); have hs1 := hb.size; (try simp only [World.size_alloc] at hs1); (try have hs2 := Nat.lt_of_succ_le hs1); clear hb)
    | (refine nd_load rfl _ rfl (w.heap.size) x rfl (TN.out) ?_)
    | (refine nd_load rfl _ rfl (w.heap.size) x rfl (TN.out.below hz0 ((Below.refl _ _).alloc (Nat.le_refl _) _)) ?_))
  go_ret
  exact ⟨by simp, HB.out⟩
end Go.Proofs.YtamcdpkakdiggaaDoor.lawKindsShape
end
section
namespace Go.Proofs.YtamcdpkakdiggaaDoor.CKind
open Go Go.ChangeShapes Go.WideShapes Go.ChangeAt Go.RowKit Go.Deep Go.WideElems
open Plain CSat CFix CShape CTensor CConv
set_option linter.unusedVariables false
set_option linter.unusedSimpArgs false
theorem gVar : Tryd.prog.globalNamed "stepwell/kinds.names" = some 0 := by kernel_rfl
theorem tVar : (Tryd.prog.globals[0]?).map (·.type) = some 50 := by kernel_rfl
def namesZ : List (List UInt8) := [[], [99, 111, 110, 118], [100, 101, 112, 116, 104], [100, 101, 110, 115, 101], [109, 97, 120, 112, 111, 111, 108], [97, 118, 103, 112, 111, 111, 108], [106, 111, 105, 110], [97, 99, 116], [112, 97, 100], [102, 108, 97, 116]]
theorem namesZ_at : ∀ n : Nat, n < 10 → namesZ[n]? = some (kname n).data.toList := by decide +kernel
theorem of_laid {W : World} (h : laidMetH Tryd.prog [("stepwell/kinds.names", Rows.laid_stepwell_kinds_names)] W) : NamesIn W := by
  rw [MakeChecks.laidMetH_plain _ _ _ (by kernel_rfl)] at h
  obtain ⟨ps, ⟨g0, t0, cs0, f0, p0, q0, hg0, ht0, hv0, hd0, _⟩, _, _⟩ := h
  obtain rfl := Option.some.inj (gVar.symm.trans hg0)
  obtain rfl := Option.some.inj (tVar.symm.trans ht0)
  obtain ⟨xs, m1, rfl, hx1, hlen, hn3, hel⟩ := DataW.trod_array Tryd.underlying50 hd0
  have c1 : Tryd.prog.cellsOf 9 = 1 := by kernel_rfl
  intro n hn
  rw [World.var?_cell hg0 hv0 n]
  have hi := hel n hn
  rw [c1] at hi
  have hxs : xs.map (·.1) = namesZ.map fun z => .lit (.string z) := by
    have := congrArg Prod.fst hx1
    simp only [Rows.laid_stepwell_kinds_names, DataW.agg.injEq] at this
    exact this.symm
  have hxn : (xs.map (·.1))[n]? = some (.lit (.string (kname n).data.toList)) := by
    rw [hxs, List.getElem?_map, namesZ_at n hn]; rfl
  rw [List.getElem?_map] at hxn
  obtain ⟨x, hx, hx2⟩ := Option.map_eq_some_iff.1 hxn
  rw [hx] at hi
  obtain ⟨k, e1, e2, _⟩ := DataW.trod_string Tryd.underlying9 hi
  have hk : k = kname n := by
    rw [e2] at hx2
    simp only [DataW.lit.injEq, Lit.string.injEq] at hx2
    exact ByteArray.ext (Array.toList_inj.1 hx2)
  subst hk
  have h0 := congrArg (fun l : List Value => l[0]?) e1
  simpa using h0
end Go.Proofs.YtamcdpkakdiggaaDoor.CKind
end
