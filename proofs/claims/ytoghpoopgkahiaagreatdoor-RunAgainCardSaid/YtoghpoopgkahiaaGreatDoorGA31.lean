/- Texts of this seat, one behind the other: ConvBoth, DepthShape, KindOwn, BiasNum, PoolOf, ActOf, ActBothR, PadMove. -/
import Derived.BigQuiet
import Derived.Deep.CutRange
import Derived.Deep.RegionHeld3
import Derived.Laws.MakeOwn
import Derived.Laws.StructEq
import Derived.Test.YtoghpoopgkahiaaGreatDoorGA5
import Derived.Test.YtoghpoopgkahiaaGreatDoorGA7
import Derived.Test.YtoghpoopgkahiaaGreatDoorGA8
import Derived.Test.YtoghpoopgkahiaaGreatDoorGA9
import Derived.Test.YtoghpoopgkahiaaGreatDoorGA12
import Derived.Test.YtoghpoopgkahiaaGreatDoorGA22
import Derived.Test.YtoghpoopgkahiaaGreatDoorGA23
import Derived.Test.YtoghpoopgkahiaaGreatDoorGA24
import Derived.Test.YtoghpoopgkahiaaGreatDoorGA29
import Derived.Test.YtoghpoopgkahiaaGreatDoorGA30
section
namespace Go.Proofs.YtoghpoopgkahiaaGreatDoor.CConv
open Go Go.ChangeShapes Go.WideShapes Go.ChangeAt Go.RowKit
open Plain CSat CShape CTensor
set_option linter.unusedVariables false
theorem few_yes (H W C : Int) (A : Option Addr) (n c : Nat) (x0 x1 x2 x8 x11 x12 x13 x14 x15 x16 x17 x18 : Value) (K S P O Z : Int) (WA BA : Option Addr) (nW cW nB cB : Nat) (h1 : n ≤ 1024) (h2 : nW ≤ 2000) (h3 : nB ≤ 200) (w : World) :
    Calls Tryz.prog 6 #[.agg #[.int .i64 H, .int .i64 W, .int .i64 C, .slice A n c], .agg #[x0, x1, x2, .int .i64 K, .int .i64 S, .int .i64 P, .int .i64 O, .int .i8 Z, x8, .slice WA nW cW, .slice BA nB cB, x11, x12, x13, x14, x15, x16, x17, x18]] w fun e w' => e = .returned (.bool true) ∧ Below w.heap.size w w' := by
  have i1 : (n : Int) ≤ 1024 := by omega
  have i2 : (nW : Int) ≤ 2000 := by omega
  have i3 : (nB : Int) ≤ 200 := by omega
  go_enter Tryz.func6, Tryz.ntmps6
  go_wp2_with fail
  go_ret
  exact ⟨rfl, ((Below.refl _ _).alloc (Nat.le_refl _) _).alloc (by simp) _⟩
theorem few_no (H W C : Int) (A : Option Addr) (n c : Nat) (x0 x1 x2 x8 x11 x12 x13 x14 x15 x16 x17 x18 : Value) (K S P O Z : Int) (WA BA : Option Addr) (nW cW nB cB : Nat) (h : ¬ (n ≤ 1024 ∧ nW ≤ 2000 ∧ nB ≤ 200)) (w : World) :
    Calls Tryz.prog 6 #[.agg #[.int .i64 H, .int .i64 W, .int .i64 C, .slice A n c], .agg #[x0, x1, x2, .int .i64 K, .int .i64 S, .int .i64 P, .int .i64 O, .int .i8 Z, x8, .slice WA nW cW, .slice BA nB cB, x11, x12, x13, x14, x15, x16, x17, x18]] w fun e w' => e = .returned (.bool false) ∧ Below w.heap.size w w' := by
  rcases (show (1024 : Int) < n ∨ ((n : Int) ≤ 1024 ∧ (2000 : Int) < nW) ∨ ((n : Int) ≤ 1024 ∧ (nW : Int) ≤ 2000 ∧ (200 : Int) < nB) by omega) with i1 | ⟨i1, i2⟩ | ⟨i1, i2, i3⟩
  all_goals
    clear h
    go_enter Tryz.func6, Tryz.ntmps6
    go_wp2_with fail
    go_ret
    exact ⟨by first | rfl | exact congrArg (fun b => Ending.returned (Value.bool b)) (decide_eq_false (by omega)), ((Below.refl _ _).alloc (Nat.le_refl _) _).alloc (by simp) _⟩
end Go.Proofs.YtoghpoopgkahiaaGreatDoor.CConv
end
section
namespace Go.Proofs.YtoghpoopgkahiaaGreatDoor.CDepth
open Go Go.ChangeShapes Go.WideShapes Go.ChangeAt Go.RowKit
open Plain CSat CShape CTensor CConv
set_option linter.unusedVariables false
/-- the first error of a node's shape. -/
def depthE (H W C K S P : Int) (nW nB : Nat) : Int :=
  if slideE H W C K S P C ≠ 0 then slideE H W C K S P C else if (nW : Int) = C * K * K ∧ nW ≤ 16384 ∧ (nB : Int) = C then 0 else 9
def depthS (H W C K S P : Int) (nW nB : Nat) : Array Value :=
  if depthE H W C K S P nW nB = 0 then #[.int .i64 (stepsM H K S P), .int .i64 (stepsM W K S P), .int .i64 C] else #[.int .i64 0, .int .i64 0, .int .i64 0]
set_option maxHeartbeats 1000000 in
theorem dep_err (H W C : Int) (x0 x1 x2 x8 x11 x12 x13 x14 x15 x16 x17 x18 : Value) (K S P O Z : Int) (WA BA : Option Addr) (nW cW nB cB : Nat) (e : Int) (he : slideE H W C K S P C = e) (hn : e ≠ 0) (w : World) :
    Calls Tryz.prog 88 #[.agg #[.int .i64 H, .int .i64 W, .int .i64 C], .agg #[x0, x1, x2, .int .i64 K, .int .i64 S, .int .i64 P, .int .i64 O, .int .i8 Z, x8, .slice WA nW cW, .slice BA nB cB, x11, x12, x13, x14, x15, x16, x17, x18]] w fun e' w' => e' = .returned (.tuple #[.agg #[.int .i64 0, .int .i64 0, .int .i64 0], .int .i64 e]) ∧ Below w.heap.size w w' := by
  have hS : slideS H W C K S P C = #[.int .i64 0, .int .i64 0, .int .i64 0] := by unfold slideS; rw [he, if_neg hn]
  have hnb : (e != 0) = true := by simpa using hn
  have hnc : (e == 0) = false := by simpa using hn
  have HE := Lib.hid he
  have HS := Lib.hid hS
  clear he hS
  go_enter Tryz.func88, Tryz.ntmps88
  go_wp2_with (go_at_call 102; (refine (slide_to H W C K S P C e _ HE.out HS.out _).mono ?_); (rintro e' w1 ⟨rfl, hb⟩; obtain ⟨hcc, hff⟩ := Kit.bcell hb; have hz : w.heap.size + 3 ≤ w1.heap.size := (by have := hb.size; simp at this; omega); have hz2 : w.heap.size + 2 < w1.heap.size := (by omega); have hz1 : w.heap.size + 1 < w1.heap.size := (by omega); have hz0 : w.heap.size < w1.heap.size := (by omega); have HB := Lib.hid hb; clear hb))
  refine bodyPost_ret (Kit.results_ct rfl _ _ (w.heap.size + 2) 0 [.int .i64 0, .int .i64 0, .int .i64 0] _ rfl (Kit.range_3 (by go_cell) (by go_cell) (by go_cell)) Tryz.underlying30 rfl (by kernel_rfl)) rfl ?_
  have hB1 : Below w.heap.size w w1 := Below.trans ((((Below.refl _ _).alloc (Nat.le_refl _) _).alloc (by simp) _).alloc (by simp; omega) _) (HB.out.mono (by first | omega | (simp; done) | (simp; omega)))
  exact ⟨rfl, by exact (((hB1.setCell (p := ⟨w.heap.size + 2, 0, none⟩) (by simp) _).setCell (p := ⟨w.heap.size + 2, 1, none⟩) (by simp) _).setCell (p := ⟨w.heap.size + 2, 2, none⟩) (by simp) _).alloc (by simp; omega) _⟩
set_option maxHeartbeats 1000000 in
theorem dep_w1 (H W C : Int) (x0 x1 x2 x8 x11 x12 x13 x14 x15 x16 x17 x18 : Value) (K S P O Z : Int) (WA BA : Option Addr) (nW cW nB cB : Nat) (he : slideE H W C K S P C = 0) (hw : (nW : Int) ≠ C * K * K) (w : World) :
    Calls Tryz.prog 88 #[.agg #[.int .i64 H, .int .i64 W, .int .i64 C], .agg #[x0, x1, x2, .int .i64 K, .int .i64 S, .int .i64 P, .int .i64 O, .int .i8 Z, x8, .slice WA nW cW, .slice BA nB cB, x11, x12, x13, x14, x15, x16, x17, x18]] w fun e' w' => e' = .returned (.tuple #[.agg #[.int .i64 0, .int .i64 0, .int .i64 0], .int .i64 9]) ∧ Below w.heap.size w w' := by
  obtain ⟨hs, ha, hb2, hr1, hr2, hr⟩ := slide_ok he
  have hS : slideS H W C K S P C = #[.int .i64 (stepsM H K S P), .int .i64 (stepsM W K S P), .int .i64 C] := by unfold slideS; rw [he, if_pos rfl]
  obtain ⟨-, -, -, -, c1, c2, -⟩ := shapeB_yes hs
  obtain ⟨-, -, -, -, o1, o2, -⟩ := shapeB_yes hr
  obtain ⟨-, -, k1, k2, -⟩ := argsB_yes ha
  obtain ⟨p1, p2, p5, p6, -, -⟩ := weights_bd c1 c2 k1 (by omega) o1 o2
  generalize stepsM H K S P = m at hS ⊢
  generalize stepsM W K S P = m2 at hS ⊢
  obtain ⟨q, hq⟩ : ∃ q, C * K * K = q := ⟨_, rfl⟩
  rw [hq] at p5 p6
  rw [hq] at hw
  have hwb : ((nW : Int) != q) = true := by simpa using hw
  have hwc : ((nW : Int) == q) = false := by simpa using hw
  clear ha hb2 hr1 hr2 hr hs
  have HE := Lib.hid he
  have HS := Lib.hid hS
  clear he hS
  go_enter Tryz.func88, Tryz.ntmps88
  go_wp2_with (go_at_call 102; (refine (slide_to H W C K S P C 0 _ HE.out HS.out _).mono ?_); (rintro e' w1 ⟨rfl, hb⟩; obtain ⟨hcc, hff⟩ := Kit.bcell hb; have hz : w.heap.size + 3 ≤ w1.heap.size := (by have := hb.size; simp at this; omega); have hz2 : w.heap.size + 2 < w1.heap.size := (by omega); have hz1 : w.heap.size + 1 < w1.heap.size := (by omega); have hz0 : w.heap.size < w1.heap.size := (by omega); have HB := Lib.hid hb; clear hb))
  refine bodyPost_ret (Kit.results_ct rfl _ _ (w.heap.size + 2) 0 [.int .i64 0, .int .i64 0, .int .i64 0] _ rfl (Kit.range_3 (by go_cell) (by go_cell) (by go_cell)) Tryz.underlying30 rfl (by kernel_rfl)) rfl ?_
  have hB1 : Below w.heap.size w w1 := Below.trans ((((Below.refl _ _).alloc (Nat.le_refl _) _).alloc (by simp) _).alloc (by simp; omega) _) (HB.out.mono (by first | omega | (simp; done) | (simp; omega)))
  exact ⟨rfl, by exact (((hB1.setCell (p := ⟨w.heap.size + 2, 0, none⟩) (by simp) _).setCell (p := ⟨w.heap.size + 2, 1, none⟩) (by simp) _).setCell (p := ⟨w.heap.size + 2, 2, none⟩) (by simp) _).alloc (by simp; omega) _⟩
set_option maxHeartbeats 1000000 in
theorem dep_w2 (H W C : Int) (x0 x1 x2 x8 x11 x12 x13 x14 x15 x16 x17 x18 : Value) (K S P O Z : Int) (WA BA : Option Addr) (nW cW nB cB : Nat) (he : slideE H W C K S P C = 0) (hw : (nW : Int) = C * K * K) (hw2 : 16384 < nW) (w : World) :
    Calls Tryz.prog 88 #[.agg #[.int .i64 H, .int .i64 W, .int .i64 C], .agg #[x0, x1, x2, .int .i64 K, .int .i64 S, .int .i64 P, .int .i64 O, .int .i8 Z, x8, .slice WA nW cW, .slice BA nB cB, x11, x12, x13, x14, x15, x16, x17, x18]] w fun e' w' => e' = .returned (.tuple #[.agg #[.int .i64 0, .int .i64 0, .int .i64 0], .int .i64 9]) ∧ Below w.heap.size w w' := by
  obtain ⟨hs, ha, hb2, hr1, hr2, hr⟩ := slide_ok he
  have hS : slideS H W C K S P C = #[.int .i64 (stepsM H K S P), .int .i64 (stepsM W K S P), .int .i64 C] := by unfold slideS; rw [he, if_pos rfl]
  obtain ⟨-, -, -, -, c1, c2, -⟩ := shapeB_yes hs
  obtain ⟨-, -, -, -, o1, o2, -⟩ := shapeB_yes hr
  obtain ⟨-, -, k1, k2, -⟩ := argsB_yes ha
  obtain ⟨p1, p2, p5, p6, -, -⟩ := weights_bd c1 c2 k1 (by omega) o1 o2
  generalize stepsM H K S P = m at hS ⊢
  generalize stepsM W K S P = m2 at hS ⊢
  obtain ⟨q, hq⟩ : ∃ q, C * K * K = q := ⟨_, rfl⟩
  rw [hq] at p5 p6
  rw [hq] at hw
  subst hw
  have hw3 : (16384 : Int) < (nW : Int) := by omega
  clear ha hb2 hr1 hr2 hr hs
  have HE := Lib.hid he
  have HS := Lib.hid hS
  clear he hS
  go_enter Tryz.func88, Tryz.ntmps88
  go_wp2_with (go_at_call 102; (refine (slide_to H W C K S P C 0 _ HE.out HS.out _).mono ?_); (rintro e' w1 ⟨rfl, hb⟩; obtain ⟨hcc, hff⟩ := Kit.bcell hb; have hz : w.heap.size + 3 ≤ w1.heap.size := (by have := hb.size; simp at this; omega); have hz2 : w.heap.size + 2 < w1.heap.size := (by omega); have hz1 : w.heap.size + 1 < w1.heap.size := (by omega); have hz0 : w.heap.size < w1.heap.size := (by omega); have HB := Lib.hid hb; clear hb))
  refine bodyPost_ret (Kit.results_ct rfl _ _ (w.heap.size + 2) 0 [.int .i64 0, .int .i64 0, .int .i64 0] _ rfl (Kit.range_3 (by go_cell) (by go_cell) (by go_cell)) Tryz.underlying30 rfl (by kernel_rfl)) rfl ?_
  have hB1 : Below w.heap.size w w1 := Below.trans ((((Below.refl _ _).alloc (Nat.le_refl _) _).alloc (by simp) _).alloc (by simp; omega) _) (HB.out.mono (by first | omega | (simp; done) | (simp; omega)))
  exact ⟨rfl, by exact (((hB1.setCell (p := ⟨w.heap.size + 2, 0, none⟩) (by simp) _).setCell (p := ⟨w.heap.size + 2, 1, none⟩) (by simp) _).setCell (p := ⟨w.heap.size + 2, 2, none⟩) (by simp) _).alloc (by simp; omega) _⟩
set_option maxHeartbeats 1000000 in
theorem dep_w3 (H W C : Int) (x0 x1 x2 x8 x11 x12 x13 x14 x15 x16 x17 x18 : Value) (K S P O Z : Int) (WA BA : Option Addr) (nW cW nB cB : Nat) (he : slideE H W C K S P C = 0) (hw : (nW : Int) = C * K * K) (hw2 : nW ≤ 16384) (hb : (nB : Int) ≠ C) (w : World) :
    Calls Tryz.prog 88 #[.agg #[.int .i64 H, .int .i64 W, .int .i64 C], .agg #[x0, x1, x2, .int .i64 K, .int .i64 S, .int .i64 P, .int .i64 O, .int .i8 Z, x8, .slice WA nW cW, .slice BA nB cB, x11, x12, x13, x14, x15, x16, x17, x18]] w fun e' w' => e' = .returned (.tuple #[.agg #[.int .i64 0, .int .i64 0, .int .i64 0], .int .i64 9]) ∧ Below w.heap.size w w' := by
  obtain ⟨hs, ha, hb2, hr1, hr2, hr⟩ := slide_ok he
  have hS : slideS H W C K S P C = #[.int .i64 (stepsM H K S P), .int .i64 (stepsM W K S P), .int .i64 C] := by unfold slideS; rw [he, if_pos rfl]
  obtain ⟨-, -, -, -, c1, c2, -⟩ := shapeB_yes hs
  obtain ⟨-, -, -, -, o1, o2, -⟩ := shapeB_yes hr
  obtain ⟨-, -, k1, k2, -⟩ := argsB_yes ha
  obtain ⟨p1, p2, p5, p6, -, -⟩ := weights_bd c1 c2 k1 (by omega) o1 o2
  generalize stepsM H K S P = m at hS ⊢
  generalize stepsM W K S P = m2 at hS ⊢
  obtain ⟨q, hq⟩ : ∃ q, C * K * K = q := ⟨_, rfl⟩
  rw [hq] at p5 p6
  rw [hq] at hw
  subst hw
  have hw3 : (nW : Int) ≤ 16384 := by omega
  have hbb : ((nB : Int) != C) = true := by simpa using hb
  have hbc : ((nB : Int) == C) = false := by simpa using hb
  clear ha hb2 hr1 hr2 hr hs
  have HE := Lib.hid he
  have HS := Lib.hid hS
  clear he hS
  go_enter Tryz.func88, Tryz.ntmps88
  go_wp2_with (go_at_call 102; (refine (slide_to H W C K S P C 0 _ HE.out HS.out _).mono ?_); (rintro e' w1 ⟨rfl, hb⟩; obtain ⟨hcc, hff⟩ := Kit.bcell hb; have hz : w.heap.size + 3 ≤ w1.heap.size := (by have := hb.size; simp at this; omega); have hz2 : w.heap.size + 2 < w1.heap.size := (by omega); have hz1 : w.heap.size + 1 < w1.heap.size := (by omega); have hz0 : w.heap.size < w1.heap.size := (by omega); have HB := Lib.hid hb; clear hb))
  refine bodyPost_ret (Kit.results_ct rfl _ _ (w.heap.size + 2) 0 [.int .i64 0, .int .i64 0, .int .i64 0] _ rfl (Kit.range_3 (by go_cell) (by go_cell) (by go_cell)) Tryz.underlying30 rfl (by kernel_rfl)) rfl ?_
  have hB1 : Below w.heap.size w w1 := Below.trans ((((Below.refl _ _).alloc (Nat.le_refl _) _).alloc (by simp) _).alloc (by simp; omega) _) (HB.out.mono (by first | omega | (simp; done) | (simp; omega)))
  exact ⟨rfl, by exact (((hB1.setCell (p := ⟨w.heap.size + 2, 0, none⟩) (by simp) _).setCell (p := ⟨w.heap.size + 2, 1, none⟩) (by simp) _).setCell (p := ⟨w.heap.size + 2, 2, none⟩) (by simp) _).alloc (by simp; omega) _⟩
set_option maxHeartbeats 1000000 in
theorem dep_ok (H W C : Int) (x0 x1 x2 x8 x11 x12 x13 x14 x15 x16 x17 x18 : Value) (K S P O Z : Int) (WA BA : Option Addr) (nW cW nB cB : Nat) (he : slideE H W C K S P C = 0) (hw : (nW : Int) = C * K * K) (hw2 : nW ≤ 16384) (hb : (nB : Int) = C) (w : World) :
    Calls Tryz.prog 88 #[.agg #[.int .i64 H, .int .i64 W, .int .i64 C], .agg #[x0, x1, x2, .int .i64 K, .int .i64 S, .int .i64 P, .int .i64 O, .int .i8 Z, x8, .slice WA nW cW, .slice BA nB cB, x11, x12, x13, x14, x15, x16, x17, x18]] w fun e' w' => e' = .returned (.tuple #[.agg #[.int .i64 (stepsM H K S P), .int .i64 (stepsM W K S P), .int .i64 C], .int .i64 0]) ∧ Below w.heap.size w w' := by
  obtain ⟨hs, ha, hb2, hr1, hr2, hr⟩ := slide_ok he
  have hS : slideS H W C K S P C = #[.int .i64 (stepsM H K S P), .int .i64 (stepsM W K S P), .int .i64 C] := by unfold slideS; rw [he, if_pos rfl]
  obtain ⟨-, -, -, -, c1, c2, -⟩ := shapeB_yes hs
  obtain ⟨-, -, -, -, o1, o2, -⟩ := shapeB_yes hr
  obtain ⟨-, -, k1, k2, -⟩ := argsB_yes ha
  obtain ⟨p1, p2, p5, p6, -, -⟩ := weights_bd c1 c2 k1 (by omega) o1 o2
  generalize stepsM H K S P = m at hS ⊢
  generalize stepsM W K S P = m2 at hS ⊢
  obtain ⟨q, hq⟩ : ∃ q, C * K * K = q := ⟨_, rfl⟩
  rw [hq] at p5 p6
  rw [hq] at hw
  subst hw
  have hw3 : (nW : Int) ≤ 16384 := by omega
  have hbb : ((nB : Int) != C) = false := by simpa using hb
  clear ha hb2 hr1 hr2 hr hs
  have HE := Lib.hid he
  have HS := Lib.hid hS
  clear he hS
  go_enter Tryz.func88, Tryz.ntmps88
  go_wp2_with (go_at_call 102; (refine (slide_to H W C K S P C 0 _ HE.out HS.out _).mono ?_); (rintro e' w1 ⟨rfl, hb⟩; obtain ⟨hcc, hff⟩ := Kit.bcell hb; have hz : w.heap.size + 3 ≤ w1.heap.size := (by have := hb.size; simp at this; omega); have hz2 : w.heap.size + 2 < w1.heap.size := (by omega); have hz1 : w.heap.size + 1 < w1.heap.size := (by omega); have hz0 : w.heap.size < w1.heap.size := (by omega); have HB := Lib.hid hb; clear hb))
  refine bodyPost_ret (Kit.results_ct rfl _ _ (w.heap.size + 2) 0 [.int .i64 m, .int .i64 m2, .int .i64 C] _ rfl (Kit.range_3 (by go_cell) (by go_cell) (by go_cell)) Tryz.underlying30 rfl (by kernel_rfl)) rfl ?_
  have hB1 : Below w.heap.size w w1 := Below.trans ((((Below.refl _ _).alloc (Nat.le_refl _) _).alloc (by simp) _).alloc (by simp; omega) _) (HB.out.mono (by first | omega | (simp; done) | (simp; omega)))
  exact ⟨rfl, by exact (((hB1.setCell (p := ⟨w.heap.size + 2, 0, none⟩) (by simp) _).setCell (p := ⟨w.heap.size + 2, 1, none⟩) (by simp) _).setCell (p := ⟨w.heap.size + 2, 2, none⟩) (by simp) _).alloc (by simp; omega) _⟩
theorem dep_to (H W C : Int) (x0 x1 x2 x8 x11 x12 x13 x14 x15 x16 x17 x18 : Value) (K S P O Z : Int) (WA BA : Option Addr) (nW cW nB cB : Nat) (e : Int) (v : Array Value) (he : depthE H W C K S P nW nB = e) (hv : depthS H W C K S P nW nB = v) (w : World) :
    Calls Tryz.prog 88 #[.agg #[.int .i64 H, .int .i64 W, .int .i64 C], .agg #[x0, x1, x2, .int .i64 K, .int .i64 S, .int .i64 P, .int .i64 O, .int .i8 Z, x8, .slice WA nW cW, .slice BA nB cB, x11, x12, x13, x14, x15, x16, x17, x18]] w fun e' w' => e' = .returned (.tuple #[.agg v, .int .i64 e]) ∧ Below w.heap.size w w' := by
  subst hv
  unfold depthS
  rw [he]
  unfold depthE at he
  by_cases h1 : slideE H W C K S P C ≠ 0
  · rw [if_pos h1] at he
    rw [if_neg (by rw [← he]; exact h1)]
    exact dep_err H W C x0 x1 x2 x8 x11 x12 x13 x14 x15 x16 x17 x18 K S P O Z WA BA nW cW nB cB e he (by rw [← he]; exact h1) w
  · have h0 : slideE H W C K S P C = 0 := by omega
    rw [if_neg h1] at he
    by_cases h2 : (nW : Int) = C * K * K ∧ nW ≤ 16384 ∧ (nB : Int) = C
    · rw [if_pos h2] at he
      subst he
      rw [if_pos rfl]
      exact dep_ok H W C x0 x1 x2 x8 x11 x12 x13 x14 x15 x16 x17 x18 K S P O Z WA BA nW cW nB cB h0 h2.1 h2.2.1 h2.2.2 w
    · rw [if_neg h2] at he
      subst he
      rw [if_neg (by decide)]
      by_cases h3 : (nW : Int) = C * K * K
      · by_cases h4 : nW ≤ 16384
        · exact dep_w3 H W C x0 x1 x2 x8 x11 x12 x13 x14 x15 x16 x17 x18 K S P O Z WA BA nW cW nB cB h0 h3 h4 (fun h5 => h2 ⟨h3, h4, h5⟩) w
        · exact dep_w2 H W C x0 x1 x2 x8 x11 x12 x13 x14 x15 x16 x17 x18 K S P O Z WA BA nW cW nB cB h0 h3 (by omega) w
      · exact dep_w1 H W C x0 x1 x2 x8 x11 x12 x13 x14 x15 x16 x17 x18 K S P O Z WA BA nW cW nB cB h0 h3 w
end Go.Proofs.YtoghpoopgkahiaaGreatDoor.CDepth
end
section
namespace Go.Proofs.YtoghpoopgkahiaaGreatDoor.CKind
set_option maxRecDepth 100000
open Go Go.ChangeShapes Go.WideShapes Go.ChangeAt Go.RowKit Go.Deep
open Plain CSat CShape CTensor CConv
set_option linter.unusedVariables false
set_option linter.unusedSimpArgs false
theorem own_to (x : Nd) (h : 1 ≤ x.kd ∧ x.kd ≤ 9) (w : World) :
    Calls Tryz.prog 48 #[.agg x.val] w fun e w' => e = .returned (.agg (x.ownK x.kd).val) ∧ Below w.heap.size w w' := by
  have : x.kd = 1 ∨ x.kd = 2 ∨ x.kd = 3 ∨ x.kd = 4 ∨ x.kd = 5 ∨ x.kd = 6 ∨ x.kd = 7 ∨ x.kd = 8 ∨ x.kd = 9 := by omega
  rcases this with h | h | h | h | h | h | h | h | h
  · rw [h]; exact own_1 x h w
  · rw [h]; exact own_2 x h w
  · rw [h]; exact own_3 x h w
  · rw [h]; exact own_4 x h w
  · rw [h]; exact own_5 x h w
  · rw [h]; exact own_6 x h w
  · rw [h]; exact own_7 x h w
  · rw [h]; exact own_8 x h w
  · rw [h]; exact own_9 x h w
end Go.Proofs.YtoghpoopgkahiaaGreatDoor.CKind
end
section
namespace Go.Proofs.YtoghpoopgkahiaaGreatDoor.CConv
open Go Go.ChangeShapes Go.WideShapes Go.ChangeAt Go.RowKit
open Plain CSat CShape CTensor
set_option linter.unusedVariables false
theorem own_cells {w : World} {base : Nat} {e : TypeId} {n : Nat} {v : Value} {xs : List Value} (h : w.ownsRow base e 1 v n xs) (hn : 0 < n) :
    ∃ g cap, v = .slice (some ⟨g, 0, none⟩) n cap ∧ base ≤ g ∧ g < w.heap.size ∧ n ≤ cap ∧ cap ≤ maxLen ∧ (∀ j u, xs[j]? = some u → w.cell? ⟨g, j, none⟩ = some u) ∧ (∀ j, w.frozen? ⟨g, j, none⟩ = false) := by
  rcases h.2 with ⟨_, h0⟩ | ⟨g, cap, cur, rfl, hb, hh, hnc, hcm, hs, ht⟩
  · omega
  · refine ⟨g, cap, rfl, hb, (Array.getElem?_eq_some_iff.1 hh).1, hnc, hcm, fun j u hu => ?_, fun j => ?_⟩
    · rw [← ht] at hu
      unfold World.cell?
      rw [hh]
      have hj : j < n * 1 := by
        rcases Nat.lt_or_ge j (n * 1) with hlt | hge
        · exact hlt
        · rw [List.getElem?_eq_none (by simp; omega)] at hu; cases hu
      rw [List.getElem?_take_of_lt hj] at hu
      simpa using hu
    · unfold World.frozen?; rw [hh]; simp
end Go.Proofs.YtoghpoopgkahiaaGreatDoor.CConv
end
section
namespace Go.Proofs.YtoghpoopgkahiaaGreatDoor.CPool
open Go Go.ChangeShapes Go.WideShapes Go.ChangeAt Go.RowKit
open Plain CSat CShape CTensor CConv
set_option linter.unusedVariables false
/-- a tensor of the call's own, handed back with an error's number. -/
def MadeP (w : World) (H W C : Int) (n : Nat) (zs : List Int) (x : Value) (e : Ending) (w' : World) : Prop :=
  ∃ v, e = .returned (.tuple #[.agg #[.int .i64 H, .int .i64 W, .int .i64 C, v], x]) ∧ w'.ownsRow w.heap.size 22 1 v n (I8s zs) ∧ Below w.heap.size w w'
end Go.Proofs.YtoghpoopgkahiaaGreatDoor.CPool
end
section
namespace Go.Proofs.YtoghpoopgkahiaaGreatDoor.CAct
set_option maxRecDepth 100000
open Go Go.ChangeShapes Go.WideShapes Go.ChangeAt Go.RowKit Go.Deep
open Plain CSat CFix CShape CTensor CConv
set_option linter.unusedVariables false
set_option maxRecDepth 100000 in
set_option maxHeartbeats 4000000 in
theorem aof_yes (H W C : Int) (A : Option Addr) (n c : Nat) (zs : List Int) (hn : zs.length = n) (hn6 : n ≤ 1000000) (hz : I8b zs) (x0 x1 x2 : Value) (K S P O Z Y : Int) (WA BA : Option Addr) (nW cW nB cB : Nat) (m1 s1 z1 m2 s2 z2 lo hi : Int) (hnb : NBd Z Y m1 z1 m2 z2 lo hi) (h1 : tensB H W C n = true) (hq : rightB m1 s1 = true) (F : Nat → Int) (hF : ∀ k, F k = heldZ (zs.getD k 0 - Z) m1 s1 z1 lo hi) (w : World) (hr : Kit.Rd w w.heap.size A (I8s zs)) :
    Calls Tryz.prog 21 #[.agg #[.int .i64 H, .int .i64 W, .int .i64 C, .slice A n c], .agg #[x0, x1, x2, .int .i64 K, .int .i64 S, .int .i64 P, .int .i64 O, .int .i8 Z, .int .i8 Y, .slice WA nW cW, .slice BA nB cB, .int .i32 m1, .int .i64 s1, .int .i8 z1, .int .i32 m2, .int .i64 s2, .int .i8 z2, .int .i8 lo, .int .i8 hi]] w (MadeT w H W C n (rowL F n) (.int .i64 0)) := by
  have HT1 := Lib.hid h1
  have HQ := Lib.hid hq
  have HN := Lib.hid hn
  have HZ := Lib.hid hz
  have HNB := Lib.hid hnb
  have HF := Lib.hid hF
  have HRA := Lib.hid hr
  clear h1 hq hn hz hnb hF hr
  go_enter Tryz.func21, Tryz.ntmps21
  go_wp2_with (first
  | (go_at_call 17
     have hal : Below w.heap.size w (((w.alloc (.cells #[.int .i64 H, .int .i64 W, .int .i64 C, .slice A n c] 32)).alloc (.cells #[x0, x1, x2, .int .i64 K, .int .i64 S, .int .i64 P, .int .i64 O, .int .i8 Z, .int .i8 Y, .slice WA nW cW, .slice BA nB cB, .int .i32 m1, .int .i64 s1, .int .i8 z1, .int .i32 m2, .int .i64 s2, .int .i8 z2, .int .i8 lo, .int .i8 hi] 28)).alloc (.cells #[.int .i64 0, .int .i64 0, .int .i64 0, .slice none 0 0] 32)) := (((Below.refl _ _).alloc (by first | exact Nat.le_refl _ | (simp; done) | (simp; omega)) _).alloc (by first | exact Nat.le_refl _ | (simp; done) | (simp; omega)) _).alloc (by first | exact Nat.le_refl _ | (simp; done) | (simp; omega)) _
     refine (right_to H W C A n c true HT1.out _).mono ?_
     rintro e w1 ⟨rfl, hb⟩
     have hh : Below w.heap.size w w1 := hal.trans (hb.mono hal.size)
     have qTA := (boxNew H W C A n c 32) w
     try simp only [World.size_alloc] at qTA
     have TA := Lib.hid ((qTA.below (B' := w.heap.size + 1) (by omega) ((((Below.refl _ _).alloc (by first | exact Nat.le_refl _ | (simp; done) | (simp; omega)) _).alloc (by first | exact Nat.le_refl _ | (simp; done) | (simp; omega)) _).mono (by simp))).below (by first | (simp; done) | (simp; omega)) hb)
     have yTA : w.heap.size < w1.heap.size := by have := hb.size; simp at this; omega
     clear qTA
     have qTN := (NodeAt.new x0 x1 x2 (.int .i8 Y) (.int .i32 m1) (.int .i64 s1) (.int .i8 z1) (.int .i32 m2) (.int .i64 s2) (.int .i8 z2) (.int .i8 lo) (.int .i8 hi) K S P O Z WA BA nW cW nB cB 28) (w.alloc (.cells #[.int .i64 H, .int .i64 W, .int .i64 C, .slice A n c] 32))
     try simp only [World.size_alloc] at qTN
     have TN := Lib.hid ((qTN.below (B' := w.heap.size + 2) (by omega) (((Below.refl _ _).alloc (by first | exact Nat.le_refl _ | (simp; done) | (simp; omega)) _).mono (by simp))).below (by first | (simp; done) | (simp; omega)) hb)
     have yTN : w.heap.size + 1 < w1.heap.size := by have := hb.size; simp at this; omega
     clear qTN
     have qFR := (freshNew 32) ((w.alloc (.cells #[.int .i64 H, .int .i64 W, .int .i64 C, .slice A n c] 32)).alloc (.cells #[x0, x1, x2, .int .i64 K, .int .i64 S, .int .i64 P, .int .i64 O, .int .i8 Z, .int .i8 Y, .slice WA nW cW, .slice BA nB cB, .int .i32 m1, .int .i64 s1, .int .i8 z1, .int .i32 m2, .int .i64 s2, .int .i8 z2, .int .i8 lo, .int .i8 hi] 28))
     try simp only [World.size_alloc] at qFR
     have FR := Lib.hid (qFR.below (by first | (simp; done) | (simp; omega)) hb)
     have yFR : w.heap.size + 2 < w1.heap.size := by have := hb.size; simp at this; omega
     clear qFR
     replace HRA := Lib.hid ((HRA.out.below hh).more hh.size)
     have HBW : Hid (Below w.heap.size w w1) := Lib.hid hh
     obtain ⟨tap0, tap1, tap2, tap3⟩ := TA.out
     have n11 := TN.out.at 11 _ rfl
     have n12 := TN.out.at 12 _ rfl
     have n13 := TN.out.at 13 _ rfl
     clear hb hh hal)
  | (go_at_call 50
     have hal : Below w1.heap.size w1 w1 := Below.refl _ _
     refine (isRight_to _ _ _ _).mono ?_
     rintro e w2 ⟨rfl, hb⟩
     have hh : Below w1.heap.size w1 w2 := hal.trans (hb.mono hal.size)
     replace TA := Lib.hid (TA.out.below yTA hh)
     replace yTA := Nat.lt_of_lt_of_le yTA hh.size
     replace TN := Lib.hid (TN.out.below yTN hh)
     replace yTN := Nat.lt_of_lt_of_le yTN hh.size
     replace FR := Lib.hid (FR.out.below yFR hh)
     replace yFR := Nat.lt_of_lt_of_le yFR hh.size
     replace HRA := Lib.hid ((HRA.out.below hh).more hh.size)
     replace HBW := Lib.hid (HBW.out.trans (hh.mono HBW.out.size))
     clear tap0 tap1 tap2 tap3 n11 n12 n13
     rw [HQ.out]
     obtain ⟨tap0, tap1, tap2, tap3⟩ := TA.out
     have n11 := TN.out.at 11 _ rfl
     have n12 := TN.out.at 12 _ rfl
     have n13 := TN.out.at 13 _ rfl
     clear hb hh hal)
  | (go_at_call 60
     have HBW2 := HBW
     have YFR2 := Lib.hid yFR
     have hal : Below w2.heap.size w2 w2 := Below.refl _ _
     refine (each_of H W C A zs n c HN.out hn6 HZ.out (w.heap.size + 1) x0 x1 x2 K S P O Z Y WA BA nW cW nB cB m1 s1 z1 m2 s2 z2 lo hi HNB.out F HF.out _ TN.out yTN HRA.out).mono ?_
     rintro e w3 ⟨v3, rfl, ho3, hb⟩
     have hh : Below w2.heap.size w2 w3 := hal.trans (hb.mono hal.size)
     replace TA := Lib.hid (TA.out.below yTA hh)
     replace yTA := Nat.lt_of_lt_of_le yTA hh.size
     replace TN := Lib.hid (TN.out.below yTN hh)
     replace yTN := Nat.lt_of_lt_of_le yTN hh.size
     replace FR := Lib.hid (FR.out.below yFR hh)
     replace yFR := Nat.lt_of_lt_of_le yFR hh.size
     replace HRA := Lib.hid ((HRA.out.below hh).more hh.size)
     replace HBW := Lib.hid (HBW.out.trans (hh.mono HBW.out.size))
     clear tap0 tap1 tap2 tap3 n11 n12 n13
     obtain ⟨⟨z0, z1, z2, z3⟩, z4, z5, z6, z7⟩ := FR.out
     have HGE : Hid (w.heap.size ≤ w2.heap.size) := Lib.hid HBW2.out.size
     have HGT : Hid (w.heap.size + 2 < w2.heap.size) := Lib.hid YFR2.out
     obtain ⟨A3, c3, rfl, -, -, -⟩ := Kit.own_rd ho3
     have HO3 := Lib.hid ho3
     clear ho3
     obtain ⟨tap0, tap1, tap2, tap3⟩ := TA.out
     have n11 := TN.out.at 11 _ rfl
     have n12 := TN.out.at 12 _ rfl
     have n13 := TN.out.at 13 _ rfl
     clear hb hh hal))
  refine bodyPost_ret (Kit.results_ct rfl _ _ (w.heap.size + 2) 0 [.int .i64 H, .int .i64 W, .int .i64 C, .slice A3 n c3] _ rfl (range_4 (by go_cell) (by go_cell) (by go_cell) (by go_cell)) Tryz.underlying32 rfl (by kernel_rfl)) rfl ?_
  refine ⟨_, rfl, Kit.own_base (own_set4 HO3.out ?_) ?_, ?_⟩
  any_goals (first | exact HGE.out | exact HGT.out | omega | (simp; done) | (simp; omega))
  exact (((HBW.out.setCell (p := ⟨w.heap.size + 2, 0, none⟩) (by simp) _).setCell (p := ⟨w.heap.size + 2, 1, none⟩) (by simp) _).setCell (p := ⟨w.heap.size + 2, 2, none⟩) (by simp) _).setCell (p := ⟨w.heap.size + 2, 3, none⟩) (by simp) _
end Go.Proofs.YtoghpoopgkahiaaGreatDoor.CAct
end
section
namespace Go.Proofs.YtoghpoopgkahiaaGreatDoor.CAct
set_option maxRecDepth 100000
open Go Go.ChangeShapes Go.WideShapes Go.ChangeAt Go.RowKit Go.Deep
open Plain CSat CFix CShape CTensor CConv
set_option linter.unusedVariables false
theorem i8b_of {zs : List Int} (h : ∀ n ∈ zs, (Lit.int .i8 n).wf = true) : I8b zs := fun q => by
  rw [List.getD_eq_getElem?_getD]
  cases hq : zs[q]? with
  | none => simp
  | some x =>
    have hx := h x (List.mem_of_getElem? hq)
    have ⟨a, b⟩ : -128 ≤ x ∧ x ≤ 127 := by simpa [Lit.wf, IntKind.min, IntKind.max, IntKind.signed, IntKind.bits] using hx
    simpa using ⟨a, b⟩
end Go.Proofs.YtoghpoopgkahiaaGreatDoor.CAct
end
section
namespace Go.Proofs.YtoghpoopgkahiaaGreatDoor.CPad
set_option maxRecDepth 100000
open Go Go.ChangeShapes Go.WideShapes Go.ChangeAt Go.RowKit
open Plain CSat CShape CTensor
set_option linter.unusedVariables false
theorem BoxAt.newq (H W C : Int) (A : Option Addr) (n c : Nat) (T : TypeId) (w : World) : BoxAt w.heap.size H W C A n c (w.alloc (.cells #[.int .i64 H, .int .i64 W, .int .i64 C, .slice A n c] T)) := BoxAt.new H W C A n c T w
/-- the numbers of a list, one behind the other. -/
def rowL (F : Nat → Int) (k : Nat) : List Int := (List.range k).map F
end Go.Proofs.YtoghpoopgkahiaaGreatDoor.CPad
end
