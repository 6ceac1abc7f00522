/- Texts of this seat, one behind the other: DepthShape, KindShA, KindShB, KindShC. -/
import Derived.Deep.CutRange
import Derived.Test.YtamcdpkakdiggaaDoorGK2
import Derived.Test.YtamcdpkakdiggaaDoorGK6
import Derived.Test.YtamcdpkakdiggaaDoorGK8
section
namespace Go.Proofs.YtamcdpkakdiggaaDoor.CDepth
open Go Go.ChangeShapes Go.WideShapes Go.ChangeAt Go.RowKit
open Plain CSat CShape CTensor CConv
set_option linter.unusedVariables false
/-- the first error of a node's shape. -/
def depthE (H W C K S P : Int) (nW nB : Nat) : Int :=
  if slideE H W C K S P C ≠ 0 then slideE H W C K S P C else if (nW : Int) = C * K * K ∧ nW ≤ 16384 ∧ (nB : Int) = C then 0 else 9
def depthS (H W C K S P : Int) (nW nB : Nat) : Array Value :=
  if depthE H W C K S P nW nB = 0 then #[.int .i64 (stepsM H K S P), .int .i64 (stepsM W K S P), .int .i64 C] else #[.int .i64 0, .int .i64 0, .int .i64 0]
set_option maxHeartbeats 1000000 in
theorem dep_err (H W C : Int) (x0 x1 x2 x8 x11 x12 x13 x14 x15 x16 x17 x18 : Value) (K S P O Z : Int) (WA BA : Option Addr) (nW cW nB cB : Nat) (e : Int) (he : slideE H W C K S P C = e) (hn : e ≠ 0) (w : World) :
    Calls Tryd.prog 26 #[.agg #[.int .i64 H, .int .i64 W, .int .i64 C], .agg #[x0, x1, x2, .int .i64 K, .int .i64 S, .int .i64 P, .int .i64 O, .int .i8 Z, x8, .slice WA nW cW, .slice BA nB cB, x11, x12, x13, x14, x15, x16, x17, x18]] w fun e' w' => e' = .returned (.tuple #[.agg #[.int .i64 0, .int .i64 0, .int .i64 0], .int .i64 e]) ∧ Below w.heap.size w w' := by
  have hS : slideS H W C K S P C = #[.int .i64 0, .int .i64 0, .int .i64 0] := by unfold slideS; rw [he, if_neg hn]
  have hnb : (e != 0) = true := by simpa using hn
  have hnc : (e == 0) = false := by simpa using hn
  have HE := Lib.hid he
  have HS := Lib.hid hS
  clear he hS
  go_enter Tryd.func26, Tryd.ntmps26
  go_wp2_with (go_at_call 28; (refine (slide_to H W C K S P C e _ HE.out HS.out _).mono ?_); (rintro e' w1 ⟨rfl, hb⟩; obtain ⟨hcc, hff⟩ := Kit.bcell hb; have hz : w.heap.size + 3 ≤ w1.heap.size := (by have := hb.size; simp at this; omega); have hz2 : w.heap.size + 2 < w1.heap.size := (by omega); have hz1 : w.heap.size + 1 < w1.heap.size := (by omega); have hz0 : w.heap.size < w1.heap.size := (by omega); have HB := Lib.hid hb; clear hb))
  refine bodyPost_ret (Kit.results_ct rfl _ _ (w.heap.size + 2) 0 [.int .i64 0, .int .i64 0, .int .i64 0] _ rfl (Kit.range_3 (by go_cell) (by go_cell) (by go_cell)) Tryd.underlying31 rfl (by kernel_rfl)) rfl ?_
  have hB1 : Below w.heap.size w w1 := Below.trans ((((Below.refl _ _).alloc (Nat.le_refl _) _).alloc (by simp) _).alloc (by simp; omega) _) (HB.out.mono (by first | omega | (simp; done) | (simp; omega)))
  exact ⟨rfl, by exact (((hB1.setCell (p := ⟨w.heap.size + 2, 0, none⟩) (by simp) _).setCell (p := ⟨w.heap.size + 2, 1, none⟩) (by simp) _).setCell (p := ⟨w.heap.size + 2, 2, none⟩) (by simp) _).alloc (by simp; omega) _⟩
set_option maxHeartbeats 1000000 in
theorem dep_w1 (H W C : Int) (x0 x1 x2 x8 x11 x12 x13 x14 x15 x16 x17 x18 : Value) (K S P O Z : Int) (WA BA : Option Addr) (nW cW nB cB : Nat) (he : slideE H W C K S P C = 0) (hw : (nW : Int) ≠ C * K * K) (w : World) :
    Calls Tryd.prog 26 #[.agg #[.int .i64 H, .int .i64 W, .int .i64 C], .agg #[x0, x1, x2, .int .i64 K, .int .i64 S, .int .i64 P, .int .i64 O, .int .i8 Z, x8, .slice WA nW cW, .slice BA nB cB, x11, x12, x13, x14, x15, x16, x17, x18]] w fun e' w' => e' = .returned (.tuple #[.agg #[.int .i64 0, .int .i64 0, .int .i64 0], .int .i64 9]) ∧ Below w.heap.size w w' := by
  obtain ⟨hs, ha, hb2, hr1, hr2, hr⟩ := slide_ok he
  have hS : slideS H W C K S P C = #[.int .i64 (stepsM H K S P), .int .i64 (stepsM W K S P), .int .i64 C] := by unfold slideS; rw [he, if_pos rfl]
  obtain ⟨-, -, -, -, c1, c2, -⟩ := shapeB_yes hs
  obtain ⟨-, -, -, -, o1, o2, -⟩ := shapeB_yes hr
  obtain ⟨-, -, k1, k2, -⟩ := argsB_yes ha
  obtain ⟨p1, p2, p5, p6, -, -⟩ := weights_bd c1 c2 k1 (by omega) o1 o2
  generalize stepsM H K S P = m at hS ⊢
  generalize stepsM W K S P = m2 at hS ⊢
  obtain ⟨q, hq⟩ : ∃ q, C * K * K = q := ⟨_, rfl⟩
  rw [hq] at p5 p6
  rw [hq] at hw
  have hwb : ((nW : Int) != q) = true := by simpa using hw
  have hwc : ((nW : Int) == q) = false := by simpa using hw
  clear ha hb2 hr1 hr2 hr hs
  have HE := Lib.hid he
  have HS := Lib.hid hS
  clear he hS
  go_enter Tryd.func26, Tryd.ntmps26
  go_wp2_with (go_at_call 28; (refine (slide_to H W C K S P C 0 _ HE.out HS.out _).mono ?_); (rintro e' w1 ⟨rfl, hb⟩; obtain ⟨hcc, hff⟩ := Kit.bcell hb; have hz : w.heap.size + 3 ≤ w1.heap.size := (by have := hb.size; simp at this; omega); have hz2 : w.heap.size + 2 < w1.heap.size := (by omega); have hz1 : w.heap.size + 1 < w1.heap.size := (by omega); have hz0 : w.heap.size < w1.heap.size := (by omega); have HB := Lib.hid hb; clear hb))
  refine bodyPost_ret (Kit.results_ct rfl _ _ (w.heap.size + 2) 0 [.int .i64 0, .int .i64 0, .int .i64 0] _ rfl (Kit.range_3 (by go_cell) (by go_cell) (by go_cell)) Tryd.underlying31 rfl (by kernel_rfl)) rfl ?_
  have hB1 : Below w.heap.size w w1 := Below.trans ((((Below.refl _ _).alloc (Nat.le_refl _) _).alloc (by simp) _).alloc (by simp; omega) _) (HB.out.mono (by first | omega | (simp; done) | (simp; omega)))
  exact ⟨rfl, by exact (((hB1.setCell (p := ⟨w.heap.size + 2, 0, none⟩) (by simp) _).setCell (p := ⟨w.heap.size + 2, 1, none⟩) (by simp) _).setCell (p := ⟨w.heap.size + 2, 2, none⟩) (by simp) _).alloc (by simp; omega) _⟩
set_option maxHeartbeats 1000000 in
theorem dep_w2 (H W C : Int) (x0 x1 x2 x8 x11 x12 x13 x14 x15 x16 x17 x18 : Value) (K S P O Z : Int) (WA BA : Option Addr) (nW cW nB cB : Nat) (he : slideE H W C K S P C = 0) (hw : (nW : Int) = C * K * K) (hw2 : 16384 < nW) (w : World) :
    Calls Tryd.prog 26 #[.agg #[.int .i64 H, .int .i64 W, .int .i64 C], .agg #[x0, x1, x2, .int .i64 K, .int .i64 S, .int .i64 P, .int .i64 O, .int .i8 Z, x8, .slice WA nW cW, .slice BA nB cB, x11, x12, x13, x14, x15, x16, x17, x18]] w fun e' w' => e' = .returned (.tuple #[.agg #[.int .i64 0, .int .i64 0, .int .i64 0], .int .i64 9]) ∧ Below w.heap.size w w' := by
  obtain ⟨hs, ha, hb2, hr1, hr2, hr⟩ := slide_ok he
  have hS : slideS H W C K S P C = #[.int .i64 (stepsM H K S P), .int .i64 (stepsM W K S P), .int .i64 C] := by unfold slideS; rw [he, if_pos rfl]
  obtain ⟨-, -, -, -, c1, c2, -⟩ := shapeB_yes hs
  obtain ⟨-, -, -, -, o1, o2, -⟩ := shapeB_yes hr
  obtain ⟨-, -, k1, k2, -⟩ := argsB_yes ha
  obtain ⟨p1, p2, p5, p6, -, -⟩ := weights_bd c1 c2 k1 (by omega) o1 o2
  generalize stepsM H K S P = m at hS ⊢
  generalize stepsM W K S P = m2 at hS ⊢
  obtain ⟨q, hq⟩ : ∃ q, C * K * K = q := ⟨_, rfl⟩
  rw [hq] at p5 p6
  rw [hq] at hw
  subst hw
  have hw3 : (16384 : Int) < (nW : Int) := by omega
  clear ha hb2 hr1 hr2 hr hs
  have HE := Lib.hid he
  have HS := Lib.hid hS
  clear he hS
  go_enter Tryd.func26, Tryd.ntmps26
  go_wp2_with (go_at_call 28; (refine (slide_to H W C K S P C 0 _ HE.out HS.out _).mono ?_); (rintro e' w1 ⟨rfl, hb⟩; obtain ⟨hcc, hff⟩ := Kit.bcell hb; have hz : w.heap.size + 3 ≤ w1.heap.size := (by have := hb.size; simp at this; omega); have hz2 : w.heap.size + 2 < w1.heap.size := (by omega); have hz1 : w.heap.size + 1 < w1.heap.size := (by omega); have hz0 : w.heap.size < w1.heap.size := (by omega); have HB := Lib.hid hb; clear hb))
  refine bodyPost_ret (Kit.results_ct rfl _ _ (w.heap.size + 2) 0 [.int .i64 0, .int .i64 0, .int .i64 0] _ rfl (Kit.range_3 (by go_cell) (by go_cell) (by go_cell)) Tryd.underlying31 rfl (by kernel_rfl)) rfl ?_
  have hB1 : Below w.heap.size w w1 := Below.trans ((((Below.refl _ _).alloc (Nat.le_refl _) _).alloc (by simp) _).alloc (by simp; omega) _) (HB.out.mono (by first | omega | (simp; done) | (simp; omega)))
  exact ⟨rfl, by exact (((hB1.setCell (p := ⟨w.heap.size + 2, 0, none⟩) (by simp) _).setCell (p := ⟨w.heap.size + 2, 1, none⟩) (by simp) _).setCell (p := ⟨w.heap.size + 2, 2, none⟩) (by simp) _).alloc (by simp; omega) _⟩
set_option maxHeartbeats 1000000 in
theorem dep_w3 (H W C : Int) (x0 x1 x2 x8 x11 x12 x13 x14 x15 x16 x17 x18 : Value) (K S P O Z : Int) (WA BA : Option Addr) (nW cW nB cB : Nat) (he : slideE H W C K S P C = 0) (hw : (nW : Int) = C * K * K) (hw2 : nW ≤ 16384) (hb : (nB : Int) ≠ C) (w : World) :
    Calls Tryd.prog 26 #[.agg #[.int .i64 H, .int .i64 W, .int .i64 C], .agg #[x0, x1, x2, .int .i64 K, .int .i64 S, .int .i64 P, .int .i64 O, .int .i8 Z, x8, .slice WA nW cW, .slice BA nB cB, x11, x12, x13, x14, x15, x16, x17, x18]] w fun e' w' => e' = .returned (.tuple #[.agg #[.int .i64 0, .int .i64 0, .int .i64 0], .int .i64 9]) ∧ Below w.heap.size w w' := by
  obtain ⟨hs, ha, hb2, hr1, hr2, hr⟩ := slide_ok he
  have hS : slideS H W C K S P C = #[.int .i64 (stepsM H K S P), .int .i64 (stepsM W K S P), .int .i64 C] := by unfold slideS; rw [he, if_pos rfl]
  obtain ⟨-, -, -, -, c1, c2, -⟩ := shapeB_yes hs
  obtain ⟨-, -, -, -, o1, o2, -⟩ := shapeB_yes hr
  obtain ⟨-, -, k1, k2, -⟩ := argsB_yes ha
  obtain ⟨p1, p2, p5, p6, -, -⟩ := weights_bd c1 c2 k1 (by omega) o1 o2
  generalize stepsM H K S P = m at hS ⊢
  generalize stepsM W K S P = m2 at hS ⊢
  obtain ⟨q, hq⟩ : ∃ q, C * K * K = q := ⟨_, rfl⟩
  rw [hq] at p5 p6
  rw [hq] at hw
  subst hw
  have hw3 : (nW : Int) ≤ 16384 := by omega
  have hbb : ((nB : Int) != C) = true := by simpa using hb
  have hbc : ((nB : Int) == C) = false := by simpa using hb
  clear ha hb2 hr1 hr2 hr hs
  have HE := Lib.hid he
  have HS := Lib.hid hS
  clear he hS
  go_enter Tryd.func26, Tryd.ntmps26
  go_wp2_with (go_at_call 28; (refine (slide_to H W C K S P C 0 _ HE.out HS.out _).mono ?_); (rintro e' w1 ⟨rfl, hb⟩; obtain ⟨hcc, hff⟩ := Kit.bcell hb; have hz : w.heap.size + 3 ≤ w1.heap.size := (by have := hb.size; simp at this; omega); have hz2 : w.heap.size + 2 < w1.heap.size := (by omega); have hz1 : w.heap.size + 1 < w1.heap.size := (by omega); have hz0 : w.heap.size < w1.heap.size := (by omega); have HB := Lib.hid hb; clear hb))
  refine bodyPost_ret (Kit.results_ct rfl _ _ (w.heap.size + 2) 0 [.int .i64 0, .int .i64 0, .int .i64 0] _ rfl (Kit.range_3 (by go_cell) (by go_cell) (by go_cell)) Tryd.underlying31 rfl (by kernel_rfl)) rfl ?_
  have hB1 : Below w.heap.size w w1 := Below.trans ((((Below.refl _ _).alloc (Nat.le_refl _) _).alloc (by simp) _).alloc (by simp; omega) _) (HB.out.mono (by first | omega | (simp; done) | (simp; omega)))
  exact ⟨rfl, by exact (((hB1.setCell (p := ⟨w.heap.size + 2, 0, none⟩) (by simp) _).setCell (p := ⟨w.heap.size + 2, 1, none⟩) (by simp) _).setCell (p := ⟨w.heap.size + 2, 2, none⟩) (by simp) _).alloc (by simp; omega) _⟩
set_option maxHeartbeats 1000000 in
theorem dep_ok (H W C : Int) (x0 x1 x2 x8 x11 x12 x13 x14 x15 x16 x17 x18 : Value) (K S P O Z : Int) (WA BA : Option Addr) (nW cW nB cB : Nat) (he : slideE H W C K S P C = 0) (hw : (nW : Int) = C * K * K) (hw2 : nW ≤ 16384) (hb : (nB : Int) = C) (w : World) :
    Calls Tryd.prog 26 #[.agg #[.int .i64 H, .int .i64 W, .int .i64 C], .agg #[x0, x1, x2, .int .i64 K, .int .i64 S, .int .i64 P, .int .i64 O, .int .i8 Z, x8, .slice WA nW cW, .slice BA nB cB, x11, x12, x13, x14, x15, x16, x17, x18]] w fun e' w' => e' = .returned (.tuple #[.agg #[.int .i64 (stepsM H K S P), .int .i64 (stepsM W K S P), .int .i64 C], .int .i64 0]) ∧ Below w.heap.size w w' := by
  obtain ⟨hs, ha, hb2, hr1, hr2, hr⟩ := slide_ok he
  have hS : slideS H W C K S P C = #[.int .i64 (stepsM H K S P), .int .i64 (stepsM W K S P), .int .i64 C] := by unfold slideS; rw [he, if_pos rfl]
  obtain ⟨-, -, -, -, c1, c2, -⟩ := shapeB_yes hs
  obtain ⟨-, -, -, -, o1, o2, -⟩ := shapeB_yes hr
  obtain ⟨-, -, k1, k2, -⟩ := argsB_yes ha
  obtain ⟨p1, p2, p5, p6, -, -⟩ := weights_bd c1 c2 k1 (by omega) o1 o2
  generalize stepsM H K S P = m at hS ⊢
  generalize stepsM W K S P = m2 at hS ⊢
  obtain ⟨q, hq⟩ : ∃ q, C * K * K = q := ⟨_, rfl⟩
  rw [hq] at p5 p6
  rw [hq] at hw
  subst hw
  have hw3 : (nW : Int) ≤ 16384 := by omega
  have hbb : ((nB : Int) != C) = false := by simpa using hb
  clear ha hb2 hr1 hr2 hr hs
  have HE := Lib.hid he
  have HS := Lib.hid hS
  clear he hS
  go_enter Tryd.func26, Tryd.ntmps26
  go_wp2_with (go_at_call 28; (refine (slide_to H W C K S P C 0 _ HE.out HS.out _).mono ?_); (rintro e' w1 ⟨rfl, hb⟩; obtain ⟨hcc, hff⟩ := Kit.bcell hb; have hz : w.heap.size + 3 ≤ w1.heap.size := (by have := hb.size; simp at this; omega); have hz2 : w.heap.size + 2 < w1.heap.size := (by omega); have hz1 : w.heap.size + 1 < w1.heap.size := (by omega); have hz0 : w.heap.size < w1.heap.size := (by omega); have HB := Lib.hid hb; clear hb))
  refine bodyPost_ret (Kit.results_ct rfl _ _ (w.heap.size + 2) 0 [.int .i64 m, .int .i64 m2, .int .i64 C] _ rfl (Kit.range_3 (by go_cell) (by go_cell) (by go_cell)) Tryd.underlying31 rfl (by kernel_rfl)) rfl ?_
  have hB1 : Below w.heap.size w w1 := Below.trans ((((Below.refl _ _).alloc (Nat.le_refl _) _).alloc (by simp) _).alloc (by simp; omega) _) (HB.out.mono (by first | omega | (simp; done) | (simp; omega)))
  exact ⟨rfl, by exact (((hB1.setCell (p := ⟨w.heap.size + 2, 0, none⟩) (by simp) _).setCell (p := ⟨w.heap.size + 2, 1, none⟩) (by simp) _).setCell (p := ⟨w.heap.size + 2, 2, none⟩) (by simp) _).alloc (by simp; omega) _⟩
theorem dep_to (H W C : Int) (x0 x1 x2 x8 x11 x12 x13 x14 x15 x16 x17 x18 : Value) (K S P O Z : Int) (WA BA : Option Addr) (nW cW nB cB : Nat) (e : Int) (v : Array Value) (he : depthE H W C K S P nW nB = e) (hv : depthS H W C K S P nW nB = v) (w : World) :
    Calls Tryd.prog 26 #[.agg #[.int .i64 H, .int .i64 W, .int .i64 C], .agg #[x0, x1, x2, .int .i64 K, .int .i64 S, .int .i64 P, .int .i64 O, .int .i8 Z, x8, .slice WA nW cW, .slice BA nB cB, x11, x12, x13, x14, x15, x16, x17, x18]] w fun e' w' => e' = .returned (.tuple #[.agg v, .int .i64 e]) ∧ Below w.heap.size w w' := by
  subst hv
  unfold depthS
  rw [he]
  unfold depthE at he
  by_cases h1 : slideE H W C K S P C ≠ 0
  · rw [if_pos h1] at he
    rw [if_neg (by rw [← he]; exact h1)]
    exact dep_err H W C x0 x1 x2 x8 x11 x12 x13 x14 x15 x16 x17 x18 K S P O Z WA BA nW cW nB cB e he (by rw [← he]; exact h1) w
  · have h0 : slideE H W C K S P C = 0 := by omega
    rw [if_neg h1] at he
    by_cases h2 : (nW : Int) = C * K * K ∧ nW ≤ 16384 ∧ (nB : Int) = C
    · rw [if_pos h2] at he
      subst he
      rw [if_pos rfl]
      exact dep_ok H W C x0 x1 x2 x8 x11 x12 x13 x14 x15 x16 x17 x18 K S P O Z WA BA nW cW nB cB h0 h2.1 h2.2.1 h2.2.2 w
    · rw [if_neg h2] at he
      subst he
      rw [if_neg (by decide)]
      by_cases h3 : (nW : Int) = C * K * K
      · by_cases h4 : nW ≤ 16384
        · exact dep_w3 H W C x0 x1 x2 x8 x11 x12 x13 x14 x15 x16 x17 x18 K S P O Z WA BA nW cW nB cB h0 h3 h4 (fun h5 => h2 ⟨h3, h4, h5⟩) w
        · exact dep_w2 H W C x0 x1 x2 x8 x11 x12 x13 x14 x15 x16 x17 x18 K S P O Z WA BA nW cW nB cB h0 h3 (by omega) w
      · exact dep_w1 H W C x0 x1 x2 x8 x11 x12 x13 x14 x15 x16 x17 x18 K S P O Z WA BA nW cW nB cB h0 h3 w
set_option maxHeartbeats 1000000 in
theorem refDep_err (H W C : Int) (x0 x1 x2 x8 x11 x12 x13 x14 x15 x16 x17 x18 : Value) (K S P O Z : Int) (WA BA : Option Addr) (nW cW nB cB : Nat) (e : Int) (he : slideE H W C K S P C = e) (hn : e ≠ 0) (w : World) :
    Calls Tryd.prog 33 #[.agg #[.int .i64 H, .int .i64 W, .int .i64 C], .agg #[x0, x1, x2, .int .i64 K, .int .i64 S, .int .i64 P, .int .i64 O, .int .i8 Z, x8, .slice WA nW cW, .slice BA nB cB, x11, x12, x13, x14, x15, x16, x17, x18]] w fun e' w' => e' = .returned (.tuple #[.agg #[.int .i64 0, .int .i64 0, .int .i64 0], .int .i64 e]) ∧ Below w.heap.size w w' := by
  have hS : slideS H W C K S P C = #[.int .i64 0, .int .i64 0, .int .i64 0] := by unfold slideS; rw [he, if_neg hn]
  have hnb : (e != 0) = true := by simpa using hn
  have hnc : (e == 0) = false := by simpa using hn
  have HE := Lib.hid he
  have HS := Lib.hid hS
  clear he hS
  go_enter Tryd.func33, Tryd.ntmps33
  go_wp2_with (go_at_call 35; (refine (refSlide_to H W C K S P C e _ HE.out HS.out _).mono ?_); (rintro e' w1 ⟨rfl, hb⟩; obtain ⟨hcc, hff⟩ := Kit.bcell hb; have hz : w.heap.size + 3 ≤ w1.heap.size := (by have := hb.size; simp at this; omega); have hz2 : w.heap.size + 2 < w1.heap.size := (by omega); have hz1 : w.heap.size + 1 < w1.heap.size := (by omega); have hz0 : w.heap.size < w1.heap.size := (by omega); have HB := Lib.hid hb; clear hb))
  refine bodyPost_ret (Kit.results_ct rfl _ _ (w.heap.size + 2) 0 [.int .i64 0, .int .i64 0, .int .i64 0] _ rfl (Kit.range_3 (by go_cell) (by go_cell) (by go_cell)) Tryd.underlying31 rfl (by kernel_rfl)) rfl ?_
  have hB1 : Below w.heap.size w w1 := Below.trans ((((Below.refl _ _).alloc (Nat.le_refl _) _).alloc (by simp) _).alloc (by simp; omega) _) (HB.out.mono (by first | omega | (simp; done) | (simp; omega)))
  exact ⟨rfl, by exact (((hB1.setCell (p := ⟨w.heap.size + 2, 0, none⟩) (by simp) _).setCell (p := ⟨w.heap.size + 2, 1, none⟩) (by simp) _).setCell (p := ⟨w.heap.size + 2, 2, none⟩) (by simp) _).alloc (by simp; omega) _⟩
set_option maxHeartbeats 1000000 in
theorem refDep_w1 (H W C : Int) (x0 x1 x2 x8 x11 x12 x13 x14 x15 x16 x17 x18 : Value) (K S P O Z : Int) (WA BA : Option Addr) (nW cW nB cB : Nat) (he : slideE H W C K S P C = 0) (hw : (nW : Int) ≠ C * K * K) (w : World) :
    Calls Tryd.prog 33 #[.agg #[.int .i64 H, .int .i64 W, .int .i64 C], .agg #[x0, x1, x2, .int .i64 K, .int .i64 S, .int .i64 P, .int .i64 O, .int .i8 Z, x8, .slice WA nW cW, .slice BA nB cB, x11, x12, x13, x14, x15, x16, x17, x18]] w fun e' w' => e' = .returned (.tuple #[.agg #[.int .i64 0, .int .i64 0, .int .i64 0], .int .i64 9]) ∧ Below w.heap.size w w' := by
  obtain ⟨hs, ha, hb2, hr1, hr2, hr⟩ := slide_ok he
  have hS : slideS H W C K S P C = #[.int .i64 (stepsM H K S P), .int .i64 (stepsM W K S P), .int .i64 C] := by unfold slideS; rw [he, if_pos rfl]
  obtain ⟨-, -, -, -, c1, c2, -⟩ := shapeB_yes hs
  obtain ⟨-, -, -, -, o1, o2, -⟩ := shapeB_yes hr
  obtain ⟨-, -, k1, k2, -⟩ := argsB_yes ha
  obtain ⟨p1, p2, p5, p6, -, -⟩ := weights_bd c1 c2 k1 (by omega) o1 o2
  generalize stepsM H K S P = m at hS ⊢
  generalize stepsM W K S P = m2 at hS ⊢
  obtain ⟨q, hq⟩ : ∃ q, C * K * K = q := ⟨_, rfl⟩
  rw [hq] at p5 p6
  rw [hq] at hw
  have hwb : ((nW : Int) != q) = true := by simpa using hw
  have hwc : ((nW : Int) == q) = false := by simpa using hw
  clear ha hb2 hr1 hr2 hr hs
  have HE := Lib.hid he
  have HS := Lib.hid hS
  clear he hS
  go_enter Tryd.func33, Tryd.ntmps33
  go_wp2_with (go_at_call 35; (refine (refSlide_to H W C K S P C 0 _ HE.out HS.out _).mono ?_); (rintro e' w1 ⟨rfl, hb⟩; obtain ⟨hcc, hff⟩ := Kit.bcell hb; have hz : w.heap.size + 3 ≤ w1.heap.size := (by have := hb.size; simp at this; omega); have hz2 : w.heap.size + 2 < w1.heap.size := (by omega); have hz1 : w.heap.size + 1 < w1.heap.size := (by omega); have hz0 : w.heap.size < w1.heap.size := (by omega); have HB := Lib.hid hb; clear hb))
  refine bodyPost_ret (Kit.results_ct rfl _ _ (w.heap.size + 2) 0 [.int .i64 0, .int .i64 0, .int .i64 0] _ rfl (Kit.range_3 (by go_cell) (by go_cell) (by go_cell)) Tryd.underlying31 rfl (by kernel_rfl)) rfl ?_
  have hB1 : Below w.heap.size w w1 := Below.trans ((((Below.refl _ _).alloc (Nat.le_refl _) _).alloc (by simp) _).alloc (by simp; omega) _) (HB.out.mono (by first | omega | (simp; done) | (simp; omega)))
  exact ⟨rfl, by exact (((hB1.setCell (p := ⟨w.heap.size + 2, 0, none⟩) (by simp) _).setCell (p := ⟨w.heap.size + 2, 1, none⟩) (by simp) _).setCell (p := ⟨w.heap.size + 2, 2, none⟩) (by simp) _).alloc (by simp; omega) _⟩
set_option maxHeartbeats 1000000 in
theorem refDep_w2 (H W C : Int) (x0 x1 x2 x8 x11 x12 x13 x14 x15 x16 x17 x18 : Value) (K S P O Z : Int) (WA BA : Option Addr) (nW cW nB cB : Nat) (he : slideE H W C K S P C = 0) (hw : (nW : Int) = C * K * K) (hw2 : 16384 < nW) (w : World) :
    Calls Tryd.prog 33 #[.agg #[.int .i64 H, .int .i64 W, .int .i64 C], .agg #[x0, x1, x2, .int .i64 K, .int .i64 S, .int .i64 P, .int .i64 O, .int .i8 Z, x8, .slice WA nW cW, .slice BA nB cB, x11, x12, x13, x14, x15, x16, x17, x18]] w fun e' w' => e' = .returned (.tuple #[.agg #[.int .i64 0, .int .i64 0, .int .i64 0], .int .i64 9]) ∧ Below w.heap.size w w' := by
  obtain ⟨hs, ha, hb2, hr1, hr2, hr⟩ := slide_ok he
  have hS : slideS H W C K S P C = #[.int .i64 (stepsM H K S P), .int .i64 (stepsM W K S P), .int .i64 C] := by unfold slideS; rw [he, if_pos rfl]
  obtain ⟨-, -, -, -, c1, c2, -⟩ := shapeB_yes hs
  obtain ⟨-, -, -, -, o1, o2, -⟩ := shapeB_yes hr
  obtain ⟨-, -, k1, k2, -⟩ := argsB_yes ha
  obtain ⟨p1, p2, p5, p6, -, -⟩ := weights_bd c1 c2 k1 (by omega) o1 o2
  generalize stepsM H K S P = m at hS ⊢
  generalize stepsM W K S P = m2 at hS ⊢
  obtain ⟨q, hq⟩ : ∃ q, C * K * K = q := ⟨_, rfl⟩
  rw [hq] at p5 p6
  rw [hq] at hw
  subst hw
  have hw3 : (16384 : Int) < (nW : Int) := by omega
  clear ha hb2 hr1 hr2 hr hs
  have HE := Lib.hid he
  have HS := Lib.hid hS
  clear he hS
  go_enter Tryd.func33, Tryd.ntmps33
  go_wp2_with (go_at_call 35; (refine (refSlide_to H W C K S P C 0 _ HE.out HS.out _).mono ?_); (rintro e' w1 ⟨rfl, hb⟩; obtain ⟨hcc, hff⟩ := Kit.bcell hb; have hz : w.heap.size + 3 ≤ w1.heap.size := (by have := hb.size; simp at this; omega); have hz2 : w.heap.size + 2 < w1.heap.size := (by omega); have hz1 : w.heap.size + 1 < w1.heap.size := (by omega); have hz0 : w.heap.size < w1.heap.size := (by omega); have HB := Lib.hid hb; clear hb))
  refine bodyPost_ret (Kit.results_ct rfl _ _ (w.heap.size + 2) 0 [.int .i64 0, .int .i64 0, .int .i64 0] _ rfl (Kit.range_3 (by go_cell) (by go_cell) (by go_cell)) Tryd.underlying31 rfl (by kernel_rfl)) rfl ?_
  have hB1 : Below w.heap.size w w1 := Below.trans ((((Below.refl _ _).alloc (Nat.le_refl _) _).alloc (by simp) _).alloc (by simp; omega) _) (HB.out.mono (by first | omega | (simp; done) | (simp; omega)))
  exact ⟨rfl, by exact (((hB1.setCell (p := ⟨w.heap.size + 2, 0, none⟩) (by simp) _).setCell (p := ⟨w.heap.size + 2, 1, none⟩) (by simp) _).setCell (p := ⟨w.heap.size + 2, 2, none⟩) (by simp) _).alloc (by simp; omega) _⟩
set_option maxHeartbeats 1000000 in
theorem refDep_w3 (H W C : Int) (x0 x1 x2 x8 x11 x12 x13 x14 x15 x16 x17 x18 : Value) (K S P O Z : Int) (WA BA : Option Addr) (nW cW nB cB : Nat) (he : slideE H W C K S P C = 0) (hw : (nW : Int) = C * K * K) (hw2 : nW ≤ 16384) (hb : (nB : Int) ≠ C) (w : World) :
    Calls Tryd.prog 33 #[.agg #[.int .i64 H, .int .i64 W, .int .i64 C], .agg #[x0, x1, x2, .int .i64 K, .int .i64 S, .int .i64 P, .int .i64 O, .int .i8 Z, x8, .slice WA nW cW, .slice BA nB cB, x11, x12, x13, x14, x15, x16, x17, x18]] w fun e' w' => e' = .returned (.tuple #[.agg #[.int .i64 0, .int .i64 0, .int .i64 0], .int .i64 9]) ∧ Below w.heap.size w w' := by
  obtain ⟨hs, ha, hb2, hr1, hr2, hr⟩ := slide_ok he
  have hS : slideS H W C K S P C = #[.int .i64 (stepsM H K S P), .int .i64 (stepsM W K S P), .int .i64 C] := by unfold slideS; rw [he, if_pos rfl]
  obtain ⟨-, -, -, -, c1, c2, -⟩ := shapeB_yes hs
  obtain ⟨-, -, -, -, o1, o2, -⟩ := shapeB_yes hr
  obtain ⟨-, -, k1, k2, -⟩ := argsB_yes ha
  obtain ⟨p1, p2, p5, p6, -, -⟩ := weights_bd c1 c2 k1 (by omega) o1 o2
  generalize stepsM H K S P = m at hS ⊢
  generalize stepsM W K S P = m2 at hS ⊢
  obtain ⟨q, hq⟩ : ∃ q, C * K * K = q := ⟨_, rfl⟩
  rw [hq] at p5 p6
  rw [hq] at hw
  subst hw
  have hw3 : (nW : Int) ≤ 16384 := by omega
  have hbb : ((nB : Int) != C) = true := by simpa using hb
  have hbc : ((nB : Int) == C) = false := by simpa using hb
  clear ha hb2 hr1 hr2 hr hs
  have HE := Lib.hid he
  have HS := Lib.hid hS
  clear he hS
  go_enter Tryd.func33, Tryd.ntmps33
  go_wp2_with (go_at_call 35; (refine (refSlide_to H W C K S P C 0 _ HE.out HS.out _).mono ?_); (rintro e' w1 ⟨rfl, hb⟩; obtain ⟨hcc, hff⟩ := Kit.bcell hb; have hz : w.heap.size + 3 ≤ w1.heap.size := (by have := hb.size; simp at this; omega); have hz2 : w.heap.size + 2 < w1.heap.size := (by omega); have hz1 : w.heap.size + 1 < w1.heap.size := (by omega); have hz0 : w.heap.size < w1.heap.size := (by omega); have HB := Lib.hid hb; clear hb))
  refine bodyPost_ret (Kit.results_ct rfl _ _ (w.heap.size + 2) 0 [.int .i64 0, .int .i64 0, .int .i64 0] _ rfl (Kit.range_3 (by go_cell) (by go_cell) (by go_cell)) Tryd.underlying31 rfl (by kernel_rfl)) rfl ?_
  have hB1 : Below w.heap.size w w1 := Below.trans ((((Below.refl _ _).alloc (Nat.le_refl _) _).alloc (by simp) _).alloc (by simp; omega) _) (HB.out.mono (by first | omega | (simp; done) | (simp; omega)))
  exact ⟨rfl, by exact (((hB1.setCell (p := ⟨w.heap.size + 2, 0, none⟩) (by simp) _).setCell (p := ⟨w.heap.size + 2, 1, none⟩) (by simp) _).setCell (p := ⟨w.heap.size + 2, 2, none⟩) (by simp) _).alloc (by simp; omega) _⟩
set_option maxHeartbeats 1000000 in
theorem refDep_ok (H W C : Int) (x0 x1 x2 x8 x11 x12 x13 x14 x15 x16 x17 x18 : Value) (K S P O Z : Int) (WA BA : Option Addr) (nW cW nB cB : Nat) (he : slideE H W C K S P C = 0) (hw : (nW : Int) = C * K * K) (hw2 : nW ≤ 16384) (hb : (nB : Int) = C) (w : World) :
    Calls Tryd.prog 33 #[.agg #[.int .i64 H, .int .i64 W, .int .i64 C], .agg #[x0, x1, x2, .int .i64 K, .int .i64 S, .int .i64 P, .int .i64 O, .int .i8 Z, x8, .slice WA nW cW, .slice BA nB cB, x11, x12, x13, x14, x15, x16, x17, x18]] w fun e' w' => e' = .returned (.tuple #[.agg #[.int .i64 (stepsM H K S P), .int .i64 (stepsM W K S P), .int .i64 C], .int .i64 0]) ∧ Below w.heap.size w w' := by
  obtain ⟨hs, ha, hb2, hr1, hr2, hr⟩ := slide_ok he
  have hS : slideS H W C K S P C = #[.int .i64 (stepsM H K S P), .int .i64 (stepsM W K S P), .int .i64 C] := by unfold slideS; rw [he, if_pos rfl]
  obtain ⟨-, -, -, -, c1, c2, -⟩ := shapeB_yes hs
  obtain ⟨-, -, -, -, o1, o2, -⟩ := shapeB_yes hr
  obtain ⟨-, -, k1, k2, -⟩ := argsB_yes ha
  obtain ⟨p1, p2, p5, p6, -, -⟩ := weights_bd c1 c2 k1 (by omega) o1 o2
  generalize stepsM H K S P = m at hS ⊢
  generalize stepsM W K S P = m2 at hS ⊢
  obtain ⟨q, hq⟩ : ∃ q, C * K * K = q := ⟨_, rfl⟩
  rw [hq] at p5 p6
  rw [hq] at hw
  subst hw
  have hw3 : (nW : Int) ≤ 16384 := by omega
  have hbb : ((nB : Int) != C) = false := by simpa using hb
  clear ha hb2 hr1 hr2 hr hs
  have HE := Lib.hid he
  have HS := Lib.hid hS
  clear he hS
  go_enter Tryd.func33, Tryd.ntmps33
  go_wp2_with (go_at_call 35; (refine (refSlide_to H W C K S P C 0 _ HE.out HS.out _).mono ?_); (rintro e' w1 ⟨rfl, hb⟩; obtain ⟨hcc, hff⟩ := Kit.bcell hb; have hz : w.heap.size + 3 ≤ w1.heap.size := (by have := hb.size; simp at this; omega); have hz2 : w.heap.size + 2 < w1.heap.size := (by omega); have hz1 : w.heap.size + 1 < w1.heap.size := (by omega); have hz0 : w.heap.size < w1.heap.size := (by omega); have HB := Lib.hid hb; clear hb))
  refine bodyPost_ret (Kit.results_ct rfl _ _ (w.heap.size + 2) 0 [.int .i64 m, .int .i64 m2, .int .i64 C] _ rfl (Kit.range_3 (by go_cell) (by go_cell) (by go_cell)) Tryd.underlying31 rfl (by kernel_rfl)) rfl ?_
  have hB1 : Below w.heap.size w w1 := Below.trans ((((Below.refl _ _).alloc (Nat.le_refl _) _).alloc (by simp) _).alloc (by simp; omega) _) (HB.out.mono (by first | omega | (simp; done) | (simp; omega)))
  exact ⟨rfl, by exact (((hB1.setCell (p := ⟨w.heap.size + 2, 0, none⟩) (by simp) _).setCell (p := ⟨w.heap.size + 2, 1, none⟩) (by simp) _).setCell (p := ⟨w.heap.size + 2, 2, none⟩) (by simp) _).alloc (by simp; omega) _⟩
theorem refDep_to (H W C : Int) (x0 x1 x2 x8 x11 x12 x13 x14 x15 x16 x17 x18 : Value) (K S P O Z : Int) (WA BA : Option Addr) (nW cW nB cB : Nat) (e : Int) (v : Array Value) (he : depthE H W C K S P nW nB = e) (hv : depthS H W C K S P nW nB = v) (w : World) :
    Calls Tryd.prog 33 #[.agg #[.int .i64 H, .int .i64 W, .int .i64 C], .agg #[x0, x1, x2, .int .i64 K, .int .i64 S, .int .i64 P, .int .i64 O, .int .i8 Z, x8, .slice WA nW cW, .slice BA nB cB, x11, x12, x13, x14, x15, x16, x17, x18]] w fun e' w' => e' = .returned (.tuple #[.agg v, .int .i64 e]) ∧ Below w.heap.size w w' := by
  subst hv
  unfold depthS
  rw [he]
  unfold depthE at he
  by_cases h1 : slideE H W C K S P C ≠ 0
  · rw [if_pos h1] at he
    rw [if_neg (by rw [← he]; exact h1)]
    exact refDep_err H W C x0 x1 x2 x8 x11 x12 x13 x14 x15 x16 x17 x18 K S P O Z WA BA nW cW nB cB e he (by rw [← he]; exact h1) w
  · have h0 : slideE H W C K S P C = 0 := by omega
    rw [if_neg h1] at he
    by_cases h2 : (nW : Int) = C * K * K ∧ nW ≤ 16384 ∧ (nB : Int) = C
    · rw [if_pos h2] at he
      subst he
      rw [if_pos rfl]
      exact refDep_ok H W C x0 x1 x2 x8 x11 x12 x13 x14 x15 x16 x17 x18 K S P O Z WA BA nW cW nB cB h0 h2.1 h2.2.1 h2.2.2 w
    · rw [if_neg h2] at he
      subst he
      rw [if_neg (by decide)]
      by_cases h3 : (nW : Int) = C * K * K
      · by_cases h4 : nW ≤ 16384
        · exact refDep_w3 H W C x0 x1 x2 x8 x11 x12 x13 x14 x15 x16 x17 x18 K S P O Z WA BA nW cW nB cB h0 h3 h4 (fun h5 => h2 ⟨h3, h4, h5⟩) w
        · exact refDep_w2 H W C x0 x1 x2 x8 x11 x12 x13 x14 x15 x16 x17 x18 K S P O Z WA BA nW cW nB cB h0 h3 (by omega) w
      · exact refDep_w1 H W C x0 x1 x2 x8 x11 x12 x13 x14 x15 x16 x17 x18 K S P O Z WA BA nW cW nB cB h0 h3 w
end Go.Proofs.YtamcdpkakdiggaaDoor.CDepth
end
section
namespace Go.Proofs.YtamcdpkakdiggaaDoor.CKind
open Go Go.ChangeShapes Go.WideShapes Go.ChangeAt Go.RowKit Go.Deep
open Plain CSat CFix CShape CTensor CConv CDense CDepth
set_option linter.unusedVariables false
set_option linter.unusedSimpArgs false
set_option maxRecDepth 100000 in
set_option maxHeartbeats 8000000 in
theorem rks1 (H W C H2 W2 C2 na nb K S P O Z Y : Int) (WA : Option Addr) (nW cW : Nat) (BA : Option Addr) (nB cB : Nat) (m1 s1 z1 m2 s2 z2 lo hi : Int) (e u0 u1 u2 : Int) (he : convE H W C K S P O nW nB = e) (hv : convS H W C K S P O nW nB = #[.int .i64 u0, .int .i64 u1, .int .i64 u2]) (w : World) :
    Calls Tryd.prog 14 #[.agg #[.int .i64 1, .int .i64 na, .int .i64 nb, .int .i64 K, .int .i64 S, .int .i64 P, .int .i64 O, .int .i8 Z, .int .i8 Y, .slice WA nW cW, .slice BA nB cB, .int .i32 m1, .int .i64 s1, .int .i8 z1, .int .i32 m2, .int .i64 s2, .int .i8 z2, .int .i8 lo, .int .i8 hi], .agg #[.int .i64 H, .int .i64 W, .int .i64 C], .agg #[.int .i64 H2, .int .i64 W2, .int .i64 C2]] w fun r w' => r = .returned (.tuple #[.agg #[.int .i64 u0, .int .i64 u1, .int .i64 u2], .int .i64 e]) ∧ Below w.heap.size w w' := by
  have HE := Lib.hid he
  have HV := Lib.hid hv
  clear he hv
  have hND := (NdAt.new ⟨1, na, nb, K, S, P, O, Z, Y, WA, nW, cW, BA, nB, cB, m1, s1, z1, m2, s2, z2, lo, hi⟩ 28 w).below (B := w.heap.size + 1) (by omega) (w' := ((((w.alloc (.cells #[.int .i64 1, .int .i64 na, .int .i64 nb, .int .i64 K, .int .i64 S, .int .i64 P, .int .i64 O, .int .i8 Z, .int .i8 Y, .slice WA nW cW, .slice BA nB cB, .int .i32 m1, .int .i64 s1, .int .i8 z1, .int .i32 m2, .int .i64 s2, .int .i8 z2, .int .i8 lo, .int .i8 hi] 28)).alloc (.cells #[.int .i64 H, .int .i64 W, .int .i64 C] 31)).alloc (.cells #[.int .i64 H2, .int .i64 W2, .int .i64 C2] 31)).alloc (.cells #[.int .i64 0, .int .i64 0, .int .i64 0] 31))) ((((Below.refl _ _).alloc (by simp) _).alloc (by first | exact Nat.le_refl _ | (simp; done) | (simp; omega) | omega) _).alloc (by first | exact Nat.le_refl _ | (simp; done) | (simp; omega) | omega) _)
  have TN := Lib.hid hND
  clear hND
  go_enter Tryd.func14, Tryd.ntmps14
  go_wp2_with (first
    | (go_at_call 32; (with_reducible refine (refConv_to H W C (.int .i64 1) (.int .i64 na) (.int .i64 nb) (.int .i8 Y) (.int .i32 m1) (.int .i64 s1) (.int .i8 z1) (.int .i32 m2) (.int .i64 s2) (.int .i8 z2) (.int .i8 lo) (.int .i8 hi) K S P O Z WA BA nW cW nB cB e _ HE.out HV.out _).mono ?_); rintro e1 w1 ⟨rfl, hb⟩; obtain ⟨hcc, hff⟩ := Kit.bcell hb; have hz : w.heap.size + 4 ≤ w1.heap.size := (by have := hb.size; simp at this; omega); have hz3 : w.heap.size + 3 < w1.heap.size := (by omega); have hz2 : w.heap.size + 2 < w1.heap.size := (by omega); have hz1 : w.heap.size + 1 < w1.heap.size := (by omega); have hz0 : w.heap.size < w1.heap.size := (by omega); have HB := Lib.hid hb; clear hb)
    | (refine wpList_load_mid rfl 28 (.tmp 3) rfl w.heap.size 0 rfl [.int .i64 1, .int .i64 na, .int .i64 nb, .int .i64 K, .int .i64 S, .int .i64 P, .int .i64 O, .int .i8 Z, .int .i8 Y, .slice WA nW cW, .slice BA nB cB, .int .i32 m1, .int .i64 s1, .int .i8 z1, .int .i32 m2, .int .i64 s2, .int .i8 z2, .int .i8 lo, .int .i8 hi] _ (TN.out) Tryd.underlying28 rfl (by kernel_rfl) ?_))
  refine bodyPost_ret (Kit.results_ct rfl _ _ (w.heap.size + 3) 0 [.int .i64 u0, .int .i64 u1, .int .i64 u2] _ rfl (Kit.range_3 (by go_cell) (by go_cell) (by go_cell)) Tryd.underlying31 rfl (by kernel_rfl)) rfl ?_
  have hB1 : Below w.heap.size w w1 := Below.trans (((((Below.refl _ _).alloc (by first | exact Nat.le_refl _ | (simp; done) | (simp; omega) | omega) _).alloc (by first | exact Nat.le_refl _ | (simp; done) | (simp; omega) | omega) _).alloc (by first | exact Nat.le_refl _ | (simp; done) | (simp; omega) | omega) _).alloc (by first | exact Nat.le_refl _ | (simp; done) | (simp; omega) | omega) _) (HB.out.mono (by first | exact Nat.le_refl _ | (simp; done) | (simp; omega) | omega))
  exact ⟨rfl, (((hB1.setCell (p := ⟨w.heap.size + 3, 0, none⟩) (Nat.le_add_right _ _) _).setCell (p := ⟨w.heap.size + 3, 1, none⟩) (Nat.le_add_right _ _) _).setCell (p := ⟨w.heap.size + 3, 2, none⟩) (Nat.le_add_right _ _) _)⟩
set_option maxRecDepth 100000 in
set_option maxHeartbeats 8000000 in
theorem rks2 (H W C H2 W2 C2 na nb K S P O Z Y : Int) (WA : Option Addr) (nW cW : Nat) (BA : Option Addr) (nB cB : Nat) (m1 s1 z1 m2 s2 z2 lo hi : Int) (e u0 u1 u2 : Int) (he : depthE H W C K S P nW nB = e) (hv : depthS H W C K S P nW nB = #[.int .i64 u0, .int .i64 u1, .int .i64 u2]) (w : World) :
    Calls Tryd.prog 14 #[.agg #[.int .i64 2, .int .i64 na, .int .i64 nb, .int .i64 K, .int .i64 S, .int .i64 P, .int .i64 O, .int .i8 Z, .int .i8 Y, .slice WA nW cW, .slice BA nB cB, .int .i32 m1, .int .i64 s1, .int .i8 z1, .int .i32 m2, .int .i64 s2, .int .i8 z2, .int .i8 lo, .int .i8 hi], .agg #[.int .i64 H, .int .i64 W, .int .i64 C], .agg #[.int .i64 H2, .int .i64 W2, .int .i64 C2]] w fun r w' => r = .returned (.tuple #[.agg #[.int .i64 u0, .int .i64 u1, .int .i64 u2], .int .i64 e]) ∧ Below w.heap.size w w' := by
  have HE := Lib.hid he
  have HV := Lib.hid hv
  clear he hv
  have hND := (NdAt.new ⟨2, na, nb, K, S, P, O, Z, Y, WA, nW, cW, BA, nB, cB, m1, s1, z1, m2, s2, z2, lo, hi⟩ 28 w).below (B := w.heap.size + 1) (by omega) (w' := ((((w.alloc (.cells #[.int .i64 2, .int .i64 na, .int .i64 nb, .int .i64 K, .int .i64 S, .int .i64 P, .int .i64 O, .int .i8 Z, .int .i8 Y, .slice WA nW cW, .slice BA nB cB, .int .i32 m1, .int .i64 s1, .int .i8 z1, .int .i32 m2, .int .i64 s2, .int .i8 z2, .int .i8 lo, .int .i8 hi] 28)).alloc (.cells #[.int .i64 H, .int .i64 W, .int .i64 C] 31)).alloc (.cells #[.int .i64 H2, .int .i64 W2, .int .i64 C2] 31)).alloc (.cells #[.int .i64 0, .int .i64 0, .int .i64 0] 31))) ((((Below.refl _ _).alloc (by simp) _).alloc (by first | exact Nat.le_refl _ | (simp; done) | (simp; omega) | omega) _).alloc (by first | exact Nat.le_refl _ | (simp; done) | (simp; omega) | omega) _)
  have TN := Lib.hid hND
  clear hND
  go_enter Tryd.func14, Tryd.ntmps14
  go_wp2_with (first
    | (go_at_call 33; (with_reducible refine (refDep_to H W C (.int .i64 2) (.int .i64 na) (.int .i64 nb) (.int .i8 Y) (.int .i32 m1) (.int .i64 s1) (.int .i8 z1) (.int .i32 m2) (.int .i64 s2) (.int .i8 z2) (.int .i8 lo) (.int .i8 hi) K S P O Z WA BA nW cW nB cB e _ HE.out HV.out _).mono ?_); rintro e1 w1 ⟨rfl, hb⟩; obtain ⟨hcc, hff⟩ := Kit.bcell hb; have hz : w.heap.size + 4 ≤ w1.heap.size := (by have := hb.size; simp at this; omega); have hz3 : w.heap.size + 3 < w1.heap.size := (by omega); have hz2 : w.heap.size + 2 < w1.heap.size := (by omega); have hz1 : w.heap.size + 1 < w1.heap.size := (by omega); have hz0 : w.heap.size < w1.heap.size := (by omega); have HB := Lib.hid hb; clear hb)
    | (refine wpList_load_mid rfl 28 (.tmp 3) rfl w.heap.size 0 rfl [.int .i64 2, .int .i64 na, .int .i64 nb, .int .i64 K, .int .i64 S, .int .i64 P, .int .i64 O, .int .i8 Z, .int .i8 Y, .slice WA nW cW, .slice BA nB cB, .int .i32 m1, .int .i64 s1, .int .i8 z1, .int .i32 m2, .int .i64 s2, .int .i8 z2, .int .i8 lo, .int .i8 hi] _ (TN.out) Tryd.underlying28 rfl (by kernel_rfl) ?_))
  refine bodyPost_ret (Kit.results_ct rfl _ _ (w.heap.size + 3) 0 [.int .i64 u0, .int .i64 u1, .int .i64 u2] _ rfl (Kit.range_3 (by go_cell) (by go_cell) (by go_cell)) Tryd.underlying31 rfl (by kernel_rfl)) rfl ?_
  have hB1 : Below w.heap.size w w1 := Below.trans (((((Below.refl _ _).alloc (by first | exact Nat.le_refl _ | (simp; done) | (simp; omega) | omega) _).alloc (by first | exact Nat.le_refl _ | (simp; done) | (simp; omega) | omega) _).alloc (by first | exact Nat.le_refl _ | (simp; done) | (simp; omega) | omega) _).alloc (by first | exact Nat.le_refl _ | (simp; done) | (simp; omega) | omega) _) (HB.out.mono (by first | exact Nat.le_refl _ | (simp; done) | (simp; omega) | omega))
  exact ⟨rfl, (((hB1.setCell (p := ⟨w.heap.size + 3, 0, none⟩) (Nat.le_add_right _ _) _).setCell (p := ⟨w.heap.size + 3, 1, none⟩) (Nat.le_add_right _ _) _).setCell (p := ⟨w.heap.size + 3, 2, none⟩) (Nat.le_add_right _ _) _)⟩
set_option maxRecDepth 100000 in
set_option maxHeartbeats 8000000 in
theorem rks3 (H W C H2 W2 C2 na nb K S P O Z Y : Int) (WA : Option Addr) (nW cW : Nat) (BA : Option Addr) (nB cB : Nat) (m1 s1 z1 m2 s2 z2 lo hi : Int) (e u0 u1 u2 : Int) (he : denseE H W C O nW nB = e) (hv : denseS H W C O nW nB = #[.int .i64 u0, .int .i64 u1, .int .i64 u2]) (w : World) :
    Calls Tryd.prog 14 #[.agg #[.int .i64 3, .int .i64 na, .int .i64 nb, .int .i64 K, .int .i64 S, .int .i64 P, .int .i64 O, .int .i8 Z, .int .i8 Y, .slice WA nW cW, .slice BA nB cB, .int .i32 m1, .int .i64 s1, .int .i8 z1, .int .i32 m2, .int .i64 s2, .int .i8 z2, .int .i8 lo, .int .i8 hi], .agg #[.int .i64 H, .int .i64 W, .int .i64 C], .agg #[.int .i64 H2, .int .i64 W2, .int .i64 C2]] w fun r w' => r = .returned (.tuple #[.agg #[.int .i64 u0, .int .i64 u1, .int .i64 u2], .int .i64 e]) ∧ Below w.heap.size w w' := by
  have HE := Lib.hid he
  have HV := Lib.hid hv
  clear he hv
  have hND := (NdAt.new ⟨3, na, nb, K, S, P, O, Z, Y, WA, nW, cW, BA, nB, cB, m1, s1, z1, m2, s2, z2, lo, hi⟩ 28 w).below (B := w.heap.size + 1) (by omega) (w' := ((((w.alloc (.cells #[.int .i64 3, .int .i64 na, .int .i64 nb, .int .i64 K, .int .i64 S, .int .i64 P, .int .i64 O, .int .i8 Z, .int .i8 Y, .slice WA nW cW, .slice BA nB cB, .int .i32 m1, .int .i64 s1, .int .i8 z1, .int .i32 m2, .int .i64 s2, .int .i8 z2, .int .i8 lo, .int .i8 hi] 28)).alloc (.cells #[.int .i64 H, .int .i64 W, .int .i64 C] 31)).alloc (.cells #[.int .i64 H2, .int .i64 W2, .int .i64 C2] 31)).alloc (.cells #[.int .i64 0, .int .i64 0, .int .i64 0] 31))) ((((Below.refl _ _).alloc (by simp) _).alloc (by first | exact Nat.le_refl _ | (simp; done) | (simp; omega) | omega) _).alloc (by first | exact Nat.le_refl _ | (simp; done) | (simp; omega) | omega) _)
  have TN := Lib.hid hND
  clear hND
  go_enter Tryd.func14, Tryd.ntmps14
  go_wp2_with (first
    | (go_at_call 34; (with_reducible refine (rshape_to H W C (.int .i64 3) (.int .i64 na) (.int .i64 nb) (.int .i8 Y) (.int .i32 m1) (.int .i64 s1) (.int .i8 z1) (.int .i32 m2) (.int .i64 s2) (.int .i8 z2) (.int .i8 lo) (.int .i8 hi) K S P O Z WA BA nW cW nB cB e _ HE.out HV.out _).mono ?_); rintro e1 w1 ⟨rfl, hb⟩; obtain ⟨hcc, hff⟩ := Kit.bcell hb; have hz : w.heap.size + 4 ≤ w1.heap.size := (by have := hb.size; simp at this; omega); have hz3 : w.heap.size + 3 < w1.heap.size := (by omega); have hz2 : w.heap.size + 2 < w1.heap.size := (by omega); have hz1 : w.heap.size + 1 < w1.heap.size := (by omega); have hz0 : w.heap.size < w1.heap.size := (by omega); have HB := Lib.hid hb; clear hb)
    | (refine wpList_load_mid rfl 28 (.tmp 3) rfl w.heap.size 0 rfl [.int .i64 3, .int .i64 na, .int .i64 nb, .int .i64 K, .int .i64 S, .int .i64 P, .int .i64 O, .int .i8 Z, .int .i8 Y, .slice WA nW cW, .slice BA nB cB, .int .i32 m1, .int .i64 s1, .int .i8 z1, .int .i32 m2, .int .i64 s2, .int .i8 z2, .int .i8 lo, .int .i8 hi] _ (TN.out) Tryd.underlying28 rfl (by kernel_rfl) ?_))
  refine bodyPost_ret (Kit.results_ct rfl _ _ (w.heap.size + 3) 0 [.int .i64 u0, .int .i64 u1, .int .i64 u2] _ rfl (Kit.range_3 (by go_cell) (by go_cell) (by go_cell)) Tryd.underlying31 rfl (by kernel_rfl)) rfl ?_
  have hB1 : Below w.heap.size w w1 := Below.trans (((((Below.refl _ _).alloc (by first | exact Nat.le_refl _ | (simp; done) | (simp; omega) | omega) _).alloc (by first | exact Nat.le_refl _ | (simp; done) | (simp; omega) | omega) _).alloc (by first | exact Nat.le_refl _ | (simp; done) | (simp; omega) | omega) _).alloc (by first | exact Nat.le_refl _ | (simp; done) | (simp; omega) | omega) _) (HB.out.mono (by first | exact Nat.le_refl _ | (simp; done) | (simp; omega) | omega))
  exact ⟨rfl, (((hB1.setCell (p := ⟨w.heap.size + 3, 0, none⟩) (Nat.le_add_right _ _) _).setCell (p := ⟨w.heap.size + 3, 1, none⟩) (Nat.le_add_right _ _) _).setCell (p := ⟨w.heap.size + 3, 2, none⟩) (Nat.le_add_right _ _) _)⟩
end Go.Proofs.YtamcdpkakdiggaaDoor.CKind
end
section
namespace Go.Proofs.YtamcdpkakdiggaaDoor.CKind
open Go Go.ChangeShapes Go.WideShapes Go.ChangeAt Go.RowKit Go.Deep
open Plain CSat CFix CShape CTensor CConv
set_option linter.unusedVariables false
set_option linter.unusedSimpArgs false
set_option maxRecDepth 100000 in
set_option maxHeartbeats 8000000 in
theorem rks4 (H W C H2 W2 C2 na nb K S P O Z Y : Int) (WA : Option Addr) (nW cW : Nat) (BA : Option Addr) (nB cB : Nat) (m1 s1 z1 m2 s2 z2 lo hi : Int) (e u0 u1 u2 : Int) (he : slideE H W C K S P C = e) (hv : slideS H W C K S P C = #[.int .i64 u0, .int .i64 u1, .int .i64 u2]) (w : World) :
    Calls Tryd.prog 14 #[.agg #[.int .i64 4, .int .i64 na, .int .i64 nb, .int .i64 K, .int .i64 S, .int .i64 P, .int .i64 O, .int .i8 Z, .int .i8 Y, .slice WA nW cW, .slice BA nB cB, .int .i32 m1, .int .i64 s1, .int .i8 z1, .int .i32 m2, .int .i64 s2, .int .i8 z2, .int .i8 lo, .int .i8 hi], .agg #[.int .i64 H, .int .i64 W, .int .i64 C], .agg #[.int .i64 H2, .int .i64 W2, .int .i64 C2]] w fun r w' => r = .returned (.tuple #[.agg #[.int .i64 u0, .int .i64 u1, .int .i64 u2], .int .i64 e]) ∧ Below w.heap.size w w' := by
  have HE := Lib.hid he
  have HV := Lib.hid hv
  clear he hv
  go_enter Tryd.func14, Tryd.ntmps14
  go_wp2_with (go_at_call 35; (with_reducible refine (refSlide_to H W C K S P C e _ HE.out HV.out _).mono ?_); rintro e1 w1 ⟨rfl, hb⟩; obtain ⟨hcc, hff⟩ := Kit.bcell hb; have hz : w.heap.size + 4 ≤ w1.heap.size := (by have := hb.size; simp at this; omega); have hz3 : w.heap.size + 3 < w1.heap.size := (by omega); have hz2 : w.heap.size + 2 < w1.heap.size := (by omega); have hz1 : w.heap.size + 1 < w1.heap.size := (by omega); have hz0 : w.heap.size < w1.heap.size := (by omega); have HB := Lib.hid hb; clear hb)
  refine bodyPost_ret (Kit.results_ct rfl _ _ (w.heap.size + 3) 0 [.int .i64 u0, .int .i64 u1, .int .i64 u2] _ rfl (Kit.range_3 (by go_cell) (by go_cell) (by go_cell)) Tryd.underlying31 rfl (by kernel_rfl)) rfl ?_
  have hB1 : Below w.heap.size w w1 := Below.trans (((((Below.refl _ _).alloc (by first | exact Nat.le_refl _ | (simp; done) | (simp; omega) | omega) _).alloc (by first | exact Nat.le_refl _ | (simp; done) | (simp; omega) | omega) _).alloc (by first | exact Nat.le_refl _ | (simp; done) | (simp; omega) | omega) _).alloc (by first | exact Nat.le_refl _ | (simp; done) | (simp; omega) | omega) _) (HB.out.mono (by first | exact Nat.le_refl _ | (simp; done) | (simp; omega) | omega))
  exact ⟨rfl, (((hB1.setCell (p := ⟨w.heap.size + 3, 0, none⟩) (Nat.le_add_right _ _) _).setCell (p := ⟨w.heap.size + 3, 1, none⟩) (Nat.le_add_right _ _) _).setCell (p := ⟨w.heap.size + 3, 2, none⟩) (Nat.le_add_right _ _) _)⟩
set_option maxRecDepth 100000 in
set_option maxHeartbeats 8000000 in
theorem rks5 (H W C H2 W2 C2 na nb K S P O Z Y : Int) (WA : Option Addr) (nW cW : Nat) (BA : Option Addr) (nB cB : Nat) (m1 s1 z1 m2 s2 z2 lo hi : Int) (e u0 u1 u2 : Int) (he : slideE H W C K S P C = e) (hv : slideS H W C K S P C = #[.int .i64 u0, .int .i64 u1, .int .i64 u2]) (w : World) :
    Calls Tryd.prog 14 #[.agg #[.int .i64 5, .int .i64 na, .int .i64 nb, .int .i64 K, .int .i64 S, .int .i64 P, .int .i64 O, .int .i8 Z, .int .i8 Y, .slice WA nW cW, .slice BA nB cB, .int .i32 m1, .int .i64 s1, .int .i8 z1, .int .i32 m2, .int .i64 s2, .int .i8 z2, .int .i8 lo, .int .i8 hi], .agg #[.int .i64 H, .int .i64 W, .int .i64 C], .agg #[.int .i64 H2, .int .i64 W2, .int .i64 C2]] w fun r w' => r = .returned (.tuple #[.agg #[.int .i64 u0, .int .i64 u1, .int .i64 u2], .int .i64 e]) ∧ Below w.heap.size w w' := by
  have HE := Lib.hid he
  have HV := Lib.hid hv
  clear he hv
  go_enter Tryd.func14, Tryd.ntmps14
  go_wp2_with (go_at_call 35; (with_reducible refine (refSlide_to H W C K S P C e _ HE.out HV.out _).mono ?_); rintro e1 w1 ⟨rfl, hb⟩; obtain ⟨hcc, hff⟩ := Kit.bcell hb; have hz : w.heap.size + 4 ≤ w1.heap.size := (by have := hb.size; simp at this; omega); have hz3 : w.heap.size + 3 < w1.heap.size := (by omega); have hz2 : w.heap.size + 2 < w1.heap.size := (by omega); have hz1 : w.heap.size + 1 < w1.heap.size := (by omega); have hz0 : w.heap.size < w1.heap.size := (by omega); have HB := Lib.hid hb; clear hb)
  refine bodyPost_ret (Kit.results_ct rfl _ _ (w.heap.size + 3) 0 [.int .i64 u0, .int .i64 u1, .int .i64 u2] _ rfl (Kit.range_3 (by go_cell) (by go_cell) (by go_cell)) Tryd.underlying31 rfl (by kernel_rfl)) rfl ?_
  have hB1 : Below w.heap.size w w1 := Below.trans (((((Below.refl _ _).alloc (by first | exact Nat.le_refl _ | (simp; done) | (simp; omega) | omega) _).alloc (by first | exact Nat.le_refl _ | (simp; done) | (simp; omega) | omega) _).alloc (by first | exact Nat.le_refl _ | (simp; done) | (simp; omega) | omega) _).alloc (by first | exact Nat.le_refl _ | (simp; done) | (simp; omega) | omega) _) (HB.out.mono (by first | exact Nat.le_refl _ | (simp; done) | (simp; omega) | omega))
  exact ⟨rfl, (((hB1.setCell (p := ⟨w.heap.size + 3, 0, none⟩) (Nat.le_add_right _ _) _).setCell (p := ⟨w.heap.size + 3, 1, none⟩) (Nat.le_add_right _ _) _).setCell (p := ⟨w.heap.size + 3, 2, none⟩) (Nat.le_add_right _ _) _)⟩
set_option maxRecDepth 100000 in
set_option maxHeartbeats 8000000 in
theorem rks_lo (H W C H2 W2 C2 na nb K S P O Z Y : Int) (WA : Option Addr) (nW cW : Nat) (BA : Option Addr) (nB cB : Nat) (m1 s1 z1 m2 s2 z2 lo hi : Int) (kd : Int) (hk : kd < 1) (w : World) :
    Calls Tryd.prog 14 #[.agg #[.int .i64 kd, .int .i64 na, .int .i64 nb, .int .i64 K, .int .i64 S, .int .i64 P, .int .i64 O, .int .i8 Z, .int .i8 Y, .slice WA nW cW, .slice BA nB cB, .int .i32 m1, .int .i64 s1, .int .i8 z1, .int .i32 m2, .int .i64 s2, .int .i8 z2, .int .i8 lo, .int .i8 hi], .agg #[.int .i64 H, .int .i64 W, .int .i64 C], .agg #[.int .i64 H2, .int .i64 W2, .int .i64 C2]] w fun r w' => r = .returned (.tuple #[.agg #[.int .i64 0, .int .i64 0, .int .i64 0], .int .i64 6]) ∧ Below w.heap.size w w' := by
  have k1 : (kd == 1) = false := by simp; omega
  have k2 : (kd == 2) = false := by simp; omega
  have k3 : (kd == 3) = false := by simp; omega
  have k4 : (kd == 4) = false := by simp; omega
  have k5 : (kd == 5) = false := by simp; omega
  have kl : decide (kd < 1) = true := by simpa using hk
  have HK := Lib.hid hk
  clear hk
  go_enter Tryd.func14, Tryd.ntmps14
  go_wp2_with fail
  refine bodyPost_ret (Kit.results_ct rfl _ _ (w.heap.size + 3) 0 [.int .i64 0, .int .i64 0, .int .i64 0] _ rfl (Kit.range_3 (by go_cell) (by go_cell) (by go_cell)) Tryd.underlying31 rfl (by kernel_rfl)) rfl ?_
  have hB1 : Below w.heap.size w ((((w.alloc (.cells #[.int .i64 kd, .int .i64 na, .int .i64 nb, .int .i64 K, .int .i64 S, .int .i64 P, .int .i64 O, .int .i8 Z, .int .i8 Y, .slice WA nW cW, .slice BA nB cB, .int .i32 m1, .int .i64 s1, .int .i8 z1, .int .i32 m2, .int .i64 s2, .int .i8 z2, .int .i8 lo, .int .i8 hi] 28)).alloc (.cells #[.int .i64 H, .int .i64 W, .int .i64 C] 31)).alloc (.cells #[.int .i64 H2, .int .i64 W2, .int .i64 C2] 31)).alloc (.cells #[.int .i64 0, .int .i64 0, .int .i64 0] 31)) := ((((Below.refl _ _).alloc (by first | exact Nat.le_refl _ | (simp; done) | (simp; omega) | omega) _).alloc (by first | exact Nat.le_refl _ | (simp; done) | (simp; omega) | omega) _).alloc (by first | exact Nat.le_refl _ | (simp; done) | (simp; omega) | omega) _).alloc (by first | exact Nat.le_refl _ | (simp; done) | (simp; omega) | omega) _
  exact ⟨rfl, hB1⟩
set_option maxRecDepth 100000 in
set_option maxHeartbeats 8000000 in
theorem rks_hi (H W C H2 W2 C2 na nb K S P O Z Y : Int) (WA : Option Addr) (nW cW : Nat) (BA : Option Addr) (nB cB : Nat) (m1 s1 z1 m2 s2 z2 lo hi : Int) (kd : Int) (hk : 9 < kd) (w : World) :
    Calls Tryd.prog 14 #[.agg #[.int .i64 kd, .int .i64 na, .int .i64 nb, .int .i64 K, .int .i64 S, .int .i64 P, .int .i64 O, .int .i8 Z, .int .i8 Y, .slice WA nW cW, .slice BA nB cB, .int .i32 m1, .int .i64 s1, .int .i8 z1, .int .i32 m2, .int .i64 s2, .int .i8 z2, .int .i8 lo, .int .i8 hi], .agg #[.int .i64 H, .int .i64 W, .int .i64 C], .agg #[.int .i64 H2, .int .i64 W2, .int .i64 C2]] w fun r w' => r = .returned (.tuple #[.agg #[.int .i64 0, .int .i64 0, .int .i64 0], .int .i64 6]) ∧ Below w.heap.size w w' := by
  have k1 : (kd == 1) = false := by simp; omega
  have k2 : (kd == 2) = false := by simp; omega
  have k3 : (kd == 3) = false := by simp; omega
  have k4 : (kd == 4) = false := by simp; omega
  have k5 : (kd == 5) = false := by simp; omega
  have kl : decide (kd < 1) = false := by simp; omega
  have kh : decide (9 < kd) = true := by simpa using hk
  have HK := Lib.hid hk
  clear hk
  go_enter Tryd.func14, Tryd.ntmps14
  go_wp2_with fail
  refine bodyPost_ret (Kit.results_ct rfl _ _ (w.heap.size + 3) 0 [.int .i64 0, .int .i64 0, .int .i64 0] _ rfl (Kit.range_3 (by go_cell) (by go_cell) (by go_cell)) Tryd.underlying31 rfl (by kernel_rfl)) rfl ?_
  have hB1 : Below w.heap.size w ((((w.alloc (.cells #[.int .i64 kd, .int .i64 na, .int .i64 nb, .int .i64 K, .int .i64 S, .int .i64 P, .int .i64 O, .int .i8 Z, .int .i8 Y, .slice WA nW cW, .slice BA nB cB, .int .i32 m1, .int .i64 s1, .int .i8 z1, .int .i32 m2, .int .i64 s2, .int .i8 z2, .int .i8 lo, .int .i8 hi] 28)).alloc (.cells #[.int .i64 H, .int .i64 W, .int .i64 C] 31)).alloc (.cells #[.int .i64 H2, .int .i64 W2, .int .i64 C2] 31)).alloc (.cells #[.int .i64 0, .int .i64 0, .int .i64 0] 31)) := ((((Below.refl _ _).alloc (by first | exact Nat.le_refl _ | (simp; done) | (simp; omega) | omega) _).alloc (by first | exact Nat.le_refl _ | (simp; done) | (simp; omega) | omega) _).alloc (by first | exact Nat.le_refl _ | (simp; done) | (simp; omega) | omega) _).alloc (by first | exact Nat.le_refl _ | (simp; done) | (simp; omega) | omega) _
  exact ⟨rfl, hB1⟩
end Go.Proofs.YtamcdpkakdiggaaDoor.CKind
end
section
namespace Go.Proofs.YtamcdpkakdiggaaDoor.CKind
open Go Go.ChangeShapes Go.WideShapes Go.ChangeAt Go.RowKit Go.Deep
open Plain CSat CFix CShape CTensor CConv
set_option linter.unusedVariables false
set_option linter.unusedSimpArgs false
set_option maxRecDepth 100000 in
set_option maxHeartbeats 8000000 in
theorem rks6_no (H W C H2 W2 C2 na nb K S P O Z Y : Int) (WA : Option Addr) (nW cW : Nat) (BA : Option Addr) (nB cB : Nat) (m1 s1 z1 m2 s2 z2 lo hi : Int) (hs : shapeB H W C = false) (w : World) :
    Calls Tryd.prog 14 #[.agg #[.int .i64 6, .int .i64 na, .int .i64 nb, .int .i64 K, .int .i64 S, .int .i64 P, .int .i64 O, .int .i8 Z, .int .i8 Y, .slice WA nW cW, .slice BA nB cB, .int .i32 m1, .int .i64 s1, .int .i8 z1, .int .i32 m2, .int .i64 s2, .int .i8 z2, .int .i8 lo, .int .i8 hi], .agg #[.int .i64 H, .int .i64 W, .int .i64 C], .agg #[.int .i64 H2, .int .i64 W2, .int .i64 C2]] w fun r w' => r = .returned (.tuple #[.agg #[.int .i64 0, .int .i64 0, .int .i64 0], .int .i64 5]) ∧ Below w.heap.size w w' := by
  have HN := Lib.hid (elemsZ_no hs)
  clear hs
  go_enter Tryd.func14, Tryd.ntmps14
  go_wp2_with (go_at_call 36; (with_reducible refine (refElems_to H W C 0 HN.out _).mono ?_); rintro e1 w1 ⟨rfl, hb⟩; obtain ⟨hcc, hff⟩ := Kit.bcell hb; have hz : w.heap.size + 4 ≤ w1.heap.size := (by have := hb.size; simp at this; omega); have hz3 : w.heap.size + 3 < w1.heap.size := (by omega); have hz2 : w.heap.size + 2 < w1.heap.size := (by omega); have hz1 : w.heap.size + 1 < w1.heap.size := (by omega); have hz0 : w.heap.size < w1.heap.size := (by omega); have HB := Lib.hid hb; clear hb)
  refine bodyPost_ret (Kit.results_ct rfl _ _ (w.heap.size + 3) 0 [.int .i64 0, .int .i64 0, .int .i64 0] _ rfl (Kit.range_3 (by go_cell) (by go_cell) (by go_cell)) Tryd.underlying31 rfl (by kernel_rfl)) rfl ?_
  have hB1 : Below w.heap.size w w1 := Below.trans (((((Below.refl _ _).alloc (by first | exact Nat.le_refl _ | (simp; done) | (simp; omega) | omega) _).alloc (by first | exact Nat.le_refl _ | (simp; done) | (simp; omega) | omega) _).alloc (by first | exact Nat.le_refl _ | (simp; done) | (simp; omega) | omega) _).alloc (by first | exact Nat.le_refl _ | (simp; done) | (simp; omega) | omega) _) (HB.out.mono (by first | exact Nat.le_refl _ | (simp; done) | (simp; omega) | omega))
  exact ⟨rfl, (((hB1.setCell (p := ⟨w.heap.size + 3, 0, none⟩) (Nat.le_add_right _ _) _).setCell (p := ⟨w.heap.size + 3, 1, none⟩) (Nat.le_add_right _ _) _).setCell (p := ⟨w.heap.size + 3, 2, none⟩) (Nat.le_add_right _ _) _)⟩
set_option maxRecDepth 100000 in
set_option maxHeartbeats 8000000 in
theorem rks7_no (H W C H2 W2 C2 na nb K S P O Z Y : Int) (WA : Option Addr) (nW cW : Nat) (BA : Option Addr) (nB cB : Nat) (m1 s1 z1 m2 s2 z2 lo hi : Int) (hs : shapeB H W C = false) (w : World) :
    Calls Tryd.prog 14 #[.agg #[.int .i64 7, .int .i64 na, .int .i64 nb, .int .i64 K, .int .i64 S, .int .i64 P, .int .i64 O, .int .i8 Z, .int .i8 Y, .slice WA nW cW, .slice BA nB cB, .int .i32 m1, .int .i64 s1, .int .i8 z1, .int .i32 m2, .int .i64 s2, .int .i8 z2, .int .i8 lo, .int .i8 hi], .agg #[.int .i64 H, .int .i64 W, .int .i64 C], .agg #[.int .i64 H2, .int .i64 W2, .int .i64 C2]] w fun r w' => r = .returned (.tuple #[.agg #[.int .i64 0, .int .i64 0, .int .i64 0], .int .i64 5]) ∧ Below w.heap.size w w' := by
  have HN := Lib.hid (elemsZ_no hs)
  clear hs
  go_enter Tryd.func14, Tryd.ntmps14
  go_wp2_with (go_at_call 36; (with_reducible refine (refElems_to H W C 0 HN.out _).mono ?_); rintro e1 w1 ⟨rfl, hb⟩; obtain ⟨hcc, hff⟩ := Kit.bcell hb; have hz : w.heap.size + 4 ≤ w1.heap.size := (by have := hb.size; simp at this; omega); have hz3 : w.heap.size + 3 < w1.heap.size := (by omega); have hz2 : w.heap.size + 2 < w1.heap.size := (by omega); have hz1 : w.heap.size + 1 < w1.heap.size := (by omega); have hz0 : w.heap.size < w1.heap.size := (by omega); have HB := Lib.hid hb; clear hb)
  refine bodyPost_ret (Kit.results_ct rfl _ _ (w.heap.size + 3) 0 [.int .i64 0, .int .i64 0, .int .i64 0] _ rfl (Kit.range_3 (by go_cell) (by go_cell) (by go_cell)) Tryd.underlying31 rfl (by kernel_rfl)) rfl ?_
  have hB1 : Below w.heap.size w w1 := Below.trans (((((Below.refl _ _).alloc (by first | exact Nat.le_refl _ | (simp; done) | (simp; omega) | omega) _).alloc (by first | exact Nat.le_refl _ | (simp; done) | (simp; omega) | omega) _).alloc (by first | exact Nat.le_refl _ | (simp; done) | (simp; omega) | omega) _).alloc (by first | exact Nat.le_refl _ | (simp; done) | (simp; omega) | omega) _) (HB.out.mono (by first | exact Nat.le_refl _ | (simp; done) | (simp; omega) | omega))
  exact ⟨rfl, (((hB1.setCell (p := ⟨w.heap.size + 3, 0, none⟩) (Nat.le_add_right _ _) _).setCell (p := ⟨w.heap.size + 3, 1, none⟩) (Nat.le_add_right _ _) _).setCell (p := ⟨w.heap.size + 3, 2, none⟩) (Nat.le_add_right _ _) _)⟩
set_option maxRecDepth 100000 in
set_option maxHeartbeats 8000000 in
theorem rks6_ne (H W C H2 W2 C2 na nb K S P O Z Y : Int) (WA : Option Addr) (nW cW : Nat) (BA : Option Addr) (nB cB : Nat) (m1 s1 z1 m2 s2 z2 lo hi : Int) (hs : shapeB H W C = true) (hd : (H == H2 && (W == W2 && C == C2)) = false) (w : World) :
    Calls Tryd.prog 14 #[.agg #[.int .i64 6, .int .i64 na, .int .i64 nb, .int .i64 K, .int .i64 S, .int .i64 P, .int .i64 O, .int .i8 Z, .int .i8 Y, .slice WA nW cW, .slice BA nB cB, .int .i32 m1, .int .i64 s1, .int .i8 z1, .int .i32 m2, .int .i64 s2, .int .i8 z2, .int .i8 lo, .int .i8 hi], .agg #[.int .i64 H, .int .i64 W, .int .i64 C], .agg #[.int .i64 H2, .int .i64 W2, .int .i64 C2]] w fun r w' => r = .returned (.tuple #[.agg #[.int .i64 0, .int .i64 0, .int .i64 0], .int .i64 5]) ∧ Below w.heap.size w w' := by
  have HQ := eqShape H W C H2 W2 C2
  rw [hd] at HQ
  obtain ⟨n, hn⟩ : ∃ n, elemsZ H W C = n := ⟨_, rfl⟩
  have hn0 : (n == 0) = false := by
    rw [← hn]
    obtain ⟨q1, q2, q3, q4, q5, q6, -⟩ := shapeB_yes hs
    have := prod_bd q1 q2 q3 q4 q5 q6
    rw [elemsZ_yes hs]
    simp
    omega
  have HN := Lib.hid hn
  clear hn hs hd
  go_enter Tryd.func14, Tryd.ntmps14
  go_wp2_with (go_at_call 36; (with_reducible refine (refElems_to H W C n HN.out _).mono ?_); rintro e1 w1 ⟨rfl, hb⟩; obtain ⟨hcc, hff⟩ := Kit.bcell hb; have hz : w.heap.size + 4 ≤ w1.heap.size := (by have := hb.size; simp at this; omega); have hz3 : w.heap.size + 3 < w1.heap.size := (by omega); have hz2 : w.heap.size + 2 < w1.heap.size := (by omega); have hz1 : w.heap.size + 1 < w1.heap.size := (by omega); have hz0 : w.heap.size < w1.heap.size := (by omega); have HB := Lib.hid hb; clear hb)
  refine bodyPost_ret (Kit.results_ct rfl _ _ (w.heap.size + 3) 0 [.int .i64 0, .int .i64 0, .int .i64 0] _ rfl (Kit.range_3 (by go_cell) (by go_cell) (by go_cell)) Tryd.underlying31 rfl (by kernel_rfl)) rfl ?_
  have hB1 : Below w.heap.size w w1 := Below.trans (((((Below.refl _ _).alloc (by first | exact Nat.le_refl _ | (simp; done) | (simp; omega) | omega) _).alloc (by first | exact Nat.le_refl _ | (simp; done) | (simp; omega) | omega) _).alloc (by first | exact Nat.le_refl _ | (simp; done) | (simp; omega) | omega) _).alloc (by first | exact Nat.le_refl _ | (simp; done) | (simp; omega) | omega) _) (HB.out.mono (by first | exact Nat.le_refl _ | (simp; done) | (simp; omega) | omega))
  exact ⟨rfl, (((hB1.setCell (p := ⟨w.heap.size + 3, 0, none⟩) (Nat.le_add_right _ _) _).setCell (p := ⟨w.heap.size + 3, 1, none⟩) (Nat.le_add_right _ _) _).setCell (p := ⟨w.heap.size + 3, 2, none⟩) (Nat.le_add_right _ _) _)⟩
set_option maxRecDepth 100000 in
set_option maxHeartbeats 8000000 in
theorem rks6_eq (H W C H2 W2 C2 na nb K S P O Z Y : Int) (WA : Option Addr) (nW cW : Nat) (BA : Option Addr) (nB cB : Nat) (m1 s1 z1 m2 s2 z2 lo hi : Int) (hs : shapeB H W C = true) (hd : (H == H2 && (W == W2 && C == C2)) = true) (w : World) :
    Calls Tryd.prog 14 #[.agg #[.int .i64 6, .int .i64 na, .int .i64 nb, .int .i64 K, .int .i64 S, .int .i64 P, .int .i64 O, .int .i8 Z, .int .i8 Y, .slice WA nW cW, .slice BA nB cB, .int .i32 m1, .int .i64 s1, .int .i8 z1, .int .i32 m2, .int .i64 s2, .int .i8 z2, .int .i8 lo, .int .i8 hi], .agg #[.int .i64 H, .int .i64 W, .int .i64 C], .agg #[.int .i64 H2, .int .i64 W2, .int .i64 C2]] w fun r w' => r = .returned (.tuple #[.agg #[.int .i64 H, .int .i64 W, .int .i64 C], .int .i64 0]) ∧ Below w.heap.size w w' := by
  have HQ := eqShape H W C H2 W2 C2
  rw [hd] at HQ
  obtain ⟨n, hn⟩ : ∃ n, elemsZ H W C = n := ⟨_, rfl⟩
  have hn0 : (n == 0) = false := by
    rw [← hn]
    obtain ⟨q1, q2, q3, q4, q5, q6, -⟩ := shapeB_yes hs
    have := prod_bd q1 q2 q3 q4 q5 q6
    rw [elemsZ_yes hs]
    simp
    omega
  have HN := Lib.hid hn
  clear hn hs hd
  go_enter Tryd.func14, Tryd.ntmps14
  go_wp2_with (go_at_call 36; (with_reducible refine (refElems_to H W C n HN.out _).mono ?_); rintro e1 w1 ⟨rfl, hb⟩; obtain ⟨hcc, hff⟩ := Kit.bcell hb; have hz : w.heap.size + 4 ≤ w1.heap.size := (by have := hb.size; simp at this; omega); have hz3 : w.heap.size + 3 < w1.heap.size := (by omega); have hz2 : w.heap.size + 2 < w1.heap.size := (by omega); have hz1 : w.heap.size + 1 < w1.heap.size := (by omega); have hz0 : w.heap.size < w1.heap.size := (by omega); have HB := Lib.hid hb; clear hb)
  refine bodyPost_ret (Kit.results_ct rfl _ _ (w.heap.size + 3) 0 [.int .i64 H, .int .i64 W, .int .i64 C] _ rfl (Kit.range_3 (by go_cell) (by go_cell) (by go_cell)) Tryd.underlying31 rfl (by kernel_rfl)) rfl ?_
  have hB1 : Below w.heap.size w w1 := Below.trans (((((Below.refl _ _).alloc (by first | exact Nat.le_refl _ | (simp; done) | (simp; omega) | omega) _).alloc (by first | exact Nat.le_refl _ | (simp; done) | (simp; omega) | omega) _).alloc (by first | exact Nat.le_refl _ | (simp; done) | (simp; omega) | omega) _).alloc (by first | exact Nat.le_refl _ | (simp; done) | (simp; omega) | omega) _) (HB.out.mono (by first | exact Nat.le_refl _ | (simp; done) | (simp; omega) | omega))
  exact ⟨rfl, (((hB1.setCell (p := ⟨w.heap.size + 3, 0, none⟩) (Nat.le_add_right _ _) _).setCell (p := ⟨w.heap.size + 3, 1, none⟩) (Nat.le_add_right _ _) _).setCell (p := ⟨w.heap.size + 3, 2, none⟩) (Nat.le_add_right _ _) _)⟩
set_option maxRecDepth 100000 in
set_option maxHeartbeats 8000000 in
theorem rks7_yes (H W C H2 W2 C2 na nb K S P O Z Y : Int) (WA : Option Addr) (nW cW : Nat) (BA : Option Addr) (nB cB : Nat) (m1 s1 z1 m2 s2 z2 lo hi : Int) (hs : shapeB H W C = true) (w : World) :
    Calls Tryd.prog 14 #[.agg #[.int .i64 7, .int .i64 na, .int .i64 nb, .int .i64 K, .int .i64 S, .int .i64 P, .int .i64 O, .int .i8 Z, .int .i8 Y, .slice WA nW cW, .slice BA nB cB, .int .i32 m1, .int .i64 s1, .int .i8 z1, .int .i32 m2, .int .i64 s2, .int .i8 z2, .int .i8 lo, .int .i8 hi], .agg #[.int .i64 H, .int .i64 W, .int .i64 C], .agg #[.int .i64 H2, .int .i64 W2, .int .i64 C2]] w fun r w' => r = .returned (.tuple #[.agg #[.int .i64 H, .int .i64 W, .int .i64 C], .int .i64 0]) ∧ Below w.heap.size w w' := by
  obtain ⟨n, hn⟩ : ∃ n, elemsZ H W C = n := ⟨_, rfl⟩
  have hn0 : (n == 0) = false := by
    rw [← hn]
    obtain ⟨q1, q2, q3, q4, q5, q6, -⟩ := shapeB_yes hs
    have := prod_bd q1 q2 q3 q4 q5 q6
    rw [elemsZ_yes hs]
    simp
    omega
  have HN := Lib.hid hn
  clear hn hs
  go_enter Tryd.func14, Tryd.ntmps14
  go_wp2_with (go_at_call 36; (with_reducible refine (refElems_to H W C n HN.out _).mono ?_); rintro e1 w1 ⟨rfl, hb⟩; obtain ⟨hcc, hff⟩ := Kit.bcell hb; have hz : w.heap.size + 4 ≤ w1.heap.size := (by have := hb.size; simp at this; omega); have hz3 : w.heap.size + 3 < w1.heap.size := (by omega); have hz2 : w.heap.size + 2 < w1.heap.size := (by omega); have hz1 : w.heap.size + 1 < w1.heap.size := (by omega); have hz0 : w.heap.size < w1.heap.size := (by omega); have HB := Lib.hid hb; clear hb)
  refine bodyPost_ret (Kit.results_ct rfl _ _ (w.heap.size + 3) 0 [.int .i64 H, .int .i64 W, .int .i64 C] _ rfl (Kit.range_3 (by go_cell) (by go_cell) (by go_cell)) Tryd.underlying31 rfl (by kernel_rfl)) rfl ?_
  have hB1 : Below w.heap.size w w1 := Below.trans (((((Below.refl _ _).alloc (by first | exact Nat.le_refl _ | (simp; done) | (simp; omega) | omega) _).alloc (by first | exact Nat.le_refl _ | (simp; done) | (simp; omega) | omega) _).alloc (by first | exact Nat.le_refl _ | (simp; done) | (simp; omega) | omega) _).alloc (by first | exact Nat.le_refl _ | (simp; done) | (simp; omega) | omega) _) (HB.out.mono (by first | exact Nat.le_refl _ | (simp; done) | (simp; omega) | omega))
  exact ⟨rfl, (((hB1.setCell (p := ⟨w.heap.size + 3, 0, none⟩) (Nat.le_add_right _ _) _).setCell (p := ⟨w.heap.size + 3, 1, none⟩) (Nat.le_add_right _ _) _).setCell (p := ⟨w.heap.size + 3, 2, none⟩) (Nat.le_add_right _ _) _)⟩
end Go.Proofs.YtamcdpkakdiggaaDoor.CKind
end
