/- Texts of this seat, one behind the other: ConvShape, ConvProd, ConvWin, ConvOf. -/
import Derived.IntWalk
import Derived.BigQuiet
import Derived.Handy
import Derived.Laws.MakeOwn
import Derived.Test.YtoghpoopgkahiaaGreatDoorGA5
import Derived.Test.YtoghpoopgkahiaaGreatDoorGA7
import Derived.Test.YtoghpoopgkahiaaGreatDoorGA8
section
namespace Go.Proofs.YtoghpoopgkahiaaGreatDoor.CConv
open Go Go.ChangeShapes Go.WideShapes Go.ChangeAt Go.RowKit
open Plain CSat CShape CTensor
set_option linter.unusedVariables false
/-- the first error of a node's shape. -/
def convE (H W C K S P O : Int) (nW nB : Nat) : Int :=
  if slideE H W C K S P O ≠ 0 then slideE H W C K S P O else if (nW : Int) = O * K * K * C ∧ nW ≤ 16384 ∧ (nB : Int) = O then 0 else 9
def convS (H W C K S P O : Int) (nW nB : Nat) : Array Value :=
  if convE H W C K S P O nW nB = 0 then #[.int .i64 (stepsM H K S P), .int .i64 (stepsM W K S P), .int .i64 O] else #[.int .i64 0, .int .i64 0, .int .i64 0]
theorem slide_ok {H W C K S P O : Int} (h : slideE H W C K S P O = 0) :
    shapeB H W C = true ∧ argsB H K S P = true ∧ argsB W K S P = true ∧ 0 ≤ H + 2 * P - K ∧ 0 ≤ W + 2 * P - K ∧ shapeB (stepsM H K S P) (stepsM W K S P) O = true := by
  unfold slideE at h
  by_cases h1 : shapeB H W C = false
  · rw [if_pos h1] at h; omega
  · rw [if_neg h1] at h
    by_cases h2 : stepsE H K S P ≠ 0
    · rw [if_pos h2] at h; exact absurd h h2
    · rw [if_neg h2] at h
      by_cases h3 : stepsE W K S P ≠ 0
      · rw [if_pos h3] at h; exact absurd h h3
      · rw [if_neg h3] at h
        by_cases h4 : shapeB (stepsM H K S P) (stepsM W K S P) O = false
        · rw [if_neg (by simp [h4])] at h; omega
        · have e1 : stepsE H K S P = 0 := by omega
          have e2 : stepsE W K S P = 0 := by omega
          unfold stepsE at e1 e2
          have a1 : argsB H K S P = true := by
            cases h : argsB H K S P
            · rw [h] at e1; simp at e1
            · rfl
          have a2 : argsB W K S P = true := by
            cases h : argsB W K S P
            · rw [h] at e2; simp at e2
            · rfl
          rw [if_pos a1] at e1
          rw [if_pos a2] at e2
          refine ⟨by simpa using h1, a1, a2, ?_, ?_, by simpa using h4⟩
          · by_cases h : H + 2 * P - K < 0
            · rw [if_pos h] at e1; omega
            · omega
          · by_cases h : W + 2 * P - K < 0
            · rw [if_pos h] at e2; omega
            · omega
theorem weights_bd {C K O : Int} (h1 : 1 ≤ C) (h2 : C ≤ 1024) (h3 : 1 ≤ K) (h4 : K ≤ 7) (h5 : 1 ≤ O) (h6 : O ≤ 1024) :
    0 ≤ O * K ∧ O * K ≤ 7168 ∧ 0 ≤ O * K * K ∧ O * K * K ≤ 50176 ∧ 0 ≤ O * K * K * C ∧ O * K * K * C ≤ 51380224 := by
  have e1 : 0 ≤ O * K := Int.mul_nonneg (by omega) (by omega)
  have e2 : O * K ≤ 1024 * 7 := Int.mul_le_mul h6 h4 (by omega) (by omega)
  have e3 : 0 ≤ O * K * K := Int.mul_nonneg e1 (by omega)
  have e4 : O * K * K ≤ 7168 * 7 := Int.mul_le_mul (by omega) h4 (by omega) (by omega)
  have e5 : 0 ≤ O * K * K * C := Int.mul_nonneg e3 (by omega)
  have e6 : O * K * K * C ≤ 50176 * 1024 := Int.mul_le_mul (by omega) h2 (by omega) (by omega)
  omega
set_option maxHeartbeats 1000000 in
theorem conv_err (H W C : Int) (x0 x1 x2 x8 x11 x12 x13 x14 x15 x16 x17 x18 : Value) (K S P O Z : Int) (WA BA : Option Addr) (nW cW nB cB : Nat) (e : Int) (he : slideE H W C K S P O = e) (hn : e ≠ 0) (w : World) :
    Calls Tryz.prog 80 #[.agg #[.int .i64 H, .int .i64 W, .int .i64 C], .agg #[x0, x1, x2, .int .i64 K, .int .i64 S, .int .i64 P, .int .i64 O, .int .i8 Z, x8, .slice WA nW cW, .slice BA nB cB, x11, x12, x13, x14, x15, x16, x17, x18]] w fun e' w' => e' = .returned (.tuple #[.agg #[.int .i64 0, .int .i64 0, .int .i64 0], .int .i64 e]) ∧ Below w.heap.size w w' := by
  have hS : slideS H W C K S P O = #[.int .i64 0, .int .i64 0, .int .i64 0] := by unfold slideS; rw [he, if_neg hn]
  have hnb : (e != 0) = true := by simpa using hn
  have hnc : (e == 0) = false := by simpa using hn
  have HE := Lib.hid he
  have HS := Lib.hid hS
  clear he hS
  go_enter Tryz.func80, Tryz.ntmps80
  go_wp2_with (go_at_call 102; (refine (slide_to H W C K S P O e _ HE.out HS.out _).mono ?_); (rintro e' w1 ⟨rfl, hb⟩; obtain ⟨hcc, hff⟩ := Kit.bcell hb; have hz : w.heap.size + 3 ≤ w1.heap.size := (by have := hb.size; simp at this; omega); have hz2 : w.heap.size + 2 < w1.heap.size := (by omega); have hz1 : w.heap.size + 1 < w1.heap.size := (by omega); have hz0 : w.heap.size < w1.heap.size := (by omega); have HB := Lib.hid hb; clear hb))
  refine bodyPost_ret (Kit.results_ct rfl _ _ (w.heap.size + 2) 0 [.int .i64 0, .int .i64 0, .int .i64 0] _ rfl (Kit.range_3 (by go_cell) (by go_cell) (by go_cell)) Tryz.underlying30 rfl (by kernel_rfl)) rfl ?_
  have hB1 : Below w.heap.size w w1 := Below.trans ((((Below.refl _ _).alloc (Nat.le_refl _) _).alloc (by simp) _).alloc (by simp; omega) _) (HB.out.mono (by first | omega | (simp; done) | (simp; omega)))
  exact ⟨rfl, by exact (((hB1.setCell (p := ⟨w.heap.size + 2, 0, none⟩) (by simp) _).setCell (p := ⟨w.heap.size + 2, 1, none⟩) (by simp) _).setCell (p := ⟨w.heap.size + 2, 2, none⟩) (by simp) _).alloc (by simp; omega) _⟩
set_option maxHeartbeats 1000000 in
theorem conv_w1 (H W C : Int) (x0 x1 x2 x8 x11 x12 x13 x14 x15 x16 x17 x18 : Value) (K S P O Z : Int) (WA BA : Option Addr) (nW cW nB cB : Nat) (he : slideE H W C K S P O = 0) (hw : (nW : Int) ≠ O * K * K * C) (w : World) :
    Calls Tryz.prog 80 #[.agg #[.int .i64 H, .int .i64 W, .int .i64 C], .agg #[x0, x1, x2, .int .i64 K, .int .i64 S, .int .i64 P, .int .i64 O, .int .i8 Z, x8, .slice WA nW cW, .slice BA nB cB, x11, x12, x13, x14, x15, x16, x17, x18]] w fun e' w' => e' = .returned (.tuple #[.agg #[.int .i64 0, .int .i64 0, .int .i64 0], .int .i64 9]) ∧ Below w.heap.size w w' := by
  obtain ⟨hs, ha, hb2, hr1, hr2, hr⟩ := slide_ok he
  have hS : slideS H W C K S P O = #[.int .i64 (stepsM H K S P), .int .i64 (stepsM W K S P), .int .i64 O] := by unfold slideS; rw [he, if_pos rfl]
  obtain ⟨-, -, -, -, c1, c2, -⟩ := shapeB_yes hs
  obtain ⟨-, -, -, -, o1, o2, -⟩ := shapeB_yes hr
  obtain ⟨-, -, k1, k2, -⟩ := argsB_yes ha
  obtain ⟨p1, p2, p3, p4, p5, p6⟩ := weights_bd c1 c2 k1 (by omega) o1 o2
  generalize stepsM H K S P = m at hS ⊢
  generalize stepsM W K S P = m2 at hS ⊢
  obtain ⟨q, hq⟩ : ∃ q, O * K * K * C = q := ⟨_, rfl⟩
  rw [hq] at p5 p6
  rw [hq] at hw
  have hwb : ((nW : Int) != q) = true := by simpa using hw
  have hwc : ((nW : Int) == q) = false := by simpa using hw
  clear ha hb2 hr1 hr2 hr hs
  have HE := Lib.hid he
  have HS := Lib.hid hS
  clear he hS
  go_enter Tryz.func80, Tryz.ntmps80
  go_wp2_with (go_at_call 102; (refine (slide_to H W C K S P O 0 _ HE.out HS.out _).mono ?_); (rintro e' w1 ⟨rfl, hb⟩; obtain ⟨hcc, hff⟩ := Kit.bcell hb; have hz : w.heap.size + 3 ≤ w1.heap.size := (by have := hb.size; simp at this; omega); have hz2 : w.heap.size + 2 < w1.heap.size := (by omega); have hz1 : w.heap.size + 1 < w1.heap.size := (by omega); have hz0 : w.heap.size < w1.heap.size := (by omega); have HB := Lib.hid hb; clear hb))
  refine bodyPost_ret (Kit.results_ct rfl _ _ (w.heap.size + 2) 0 [.int .i64 0, .int .i64 0, .int .i64 0] _ rfl (Kit.range_3 (by go_cell) (by go_cell) (by go_cell)) Tryz.underlying30 rfl (by kernel_rfl)) rfl ?_
  have hB1 : Below w.heap.size w w1 := Below.trans ((((Below.refl _ _).alloc (Nat.le_refl _) _).alloc (by simp) _).alloc (by simp; omega) _) (HB.out.mono (by first | omega | (simp; done) | (simp; omega)))
  exact ⟨rfl, by exact (((hB1.setCell (p := ⟨w.heap.size + 2, 0, none⟩) (by simp) _).setCell (p := ⟨w.heap.size + 2, 1, none⟩) (by simp) _).setCell (p := ⟨w.heap.size + 2, 2, none⟩) (by simp) _).alloc (by simp; omega) _⟩
set_option maxHeartbeats 1000000 in
theorem conv_w2 (H W C : Int) (x0 x1 x2 x8 x11 x12 x13 x14 x15 x16 x17 x18 : Value) (K S P O Z : Int) (WA BA : Option Addr) (nW cW nB cB : Nat) (he : slideE H W C K S P O = 0) (hw : (nW : Int) = O * K * K * C) (hw2 : 16384 < nW) (w : World) :
    Calls Tryz.prog 80 #[.agg #[.int .i64 H, .int .i64 W, .int .i64 C], .agg #[x0, x1, x2, .int .i64 K, .int .i64 S, .int .i64 P, .int .i64 O, .int .i8 Z, x8, .slice WA nW cW, .slice BA nB cB, x11, x12, x13, x14, x15, x16, x17, x18]] w fun e' w' => e' = .returned (.tuple #[.agg #[.int .i64 0, .int .i64 0, .int .i64 0], .int .i64 9]) ∧ Below w.heap.size w w' := by
  obtain ⟨hs, ha, hb2, hr1, hr2, hr⟩ := slide_ok he
  have hS : slideS H W C K S P O = #[.int .i64 (stepsM H K S P), .int .i64 (stepsM W K S P), .int .i64 O] := by unfold slideS; rw [he, if_pos rfl]
  obtain ⟨-, -, -, -, c1, c2, -⟩ := shapeB_yes hs
  obtain ⟨-, -, -, -, o1, o2, -⟩ := shapeB_yes hr
  obtain ⟨-, -, k1, k2, -⟩ := argsB_yes ha
  obtain ⟨p1, p2, p3, p4, p5, p6⟩ := weights_bd c1 c2 k1 (by omega) o1 o2
  generalize stepsM H K S P = m at hS ⊢
  generalize stepsM W K S P = m2 at hS ⊢
  obtain ⟨q, hq⟩ : ∃ q, O * K * K * C = q := ⟨_, rfl⟩
  rw [hq] at p5 p6
  rw [hq] at hw
  subst hw
  have hw3 : (16384 : Int) < (nW : Int) := by omega
  clear ha hb2 hr1 hr2 hr hs
  have HE := Lib.hid he
  have HS := Lib.hid hS
  clear he hS
  go_enter Tryz.func80, Tryz.ntmps80
  go_wp2_with (go_at_call 102; (refine (slide_to H W C K S P O 0 _ HE.out HS.out _).mono ?_); (rintro e' w1 ⟨rfl, hb⟩; obtain ⟨hcc, hff⟩ := Kit.bcell hb; have hz : w.heap.size + 3 ≤ w1.heap.size := (by have := hb.size; simp at this; omega); have hz2 : w.heap.size + 2 < w1.heap.size := (by omega); have hz1 : w.heap.size + 1 < w1.heap.size := (by omega); have hz0 : w.heap.size < w1.heap.size := (by omega); have HB := Lib.hid hb; clear hb))
  refine bodyPost_ret (Kit.results_ct rfl _ _ (w.heap.size + 2) 0 [.int .i64 0, .int .i64 0, .int .i64 0] _ rfl (Kit.range_3 (by go_cell) (by go_cell) (by go_cell)) Tryz.underlying30 rfl (by kernel_rfl)) rfl ?_
  have hB1 : Below w.heap.size w w1 := Below.trans ((((Below.refl _ _).alloc (Nat.le_refl _) _).alloc (by simp) _).alloc (by simp; omega) _) (HB.out.mono (by first | omega | (simp; done) | (simp; omega)))
  exact ⟨rfl, by exact (((hB1.setCell (p := ⟨w.heap.size + 2, 0, none⟩) (by simp) _).setCell (p := ⟨w.heap.size + 2, 1, none⟩) (by simp) _).setCell (p := ⟨w.heap.size + 2, 2, none⟩) (by simp) _).alloc (by simp; omega) _⟩
set_option maxHeartbeats 1000000 in
theorem conv_w3 (H W C : Int) (x0 x1 x2 x8 x11 x12 x13 x14 x15 x16 x17 x18 : Value) (K S P O Z : Int) (WA BA : Option Addr) (nW cW nB cB : Nat) (he : slideE H W C K S P O = 0) (hw : (nW : Int) = O * K * K * C) (hw2 : nW ≤ 16384) (hb : (nB : Int) ≠ O) (w : World) :
    Calls Tryz.prog 80 #[.agg #[.int .i64 H, .int .i64 W, .int .i64 C], .agg #[x0, x1, x2, .int .i64 K, .int .i64 S, .int .i64 P, .int .i64 O, .int .i8 Z, x8, .slice WA nW cW, .slice BA nB cB, x11, x12, x13, x14, x15, x16, x17, x18]] w fun e' w' => e' = .returned (.tuple #[.agg #[.int .i64 0, .int .i64 0, .int .i64 0], .int .i64 9]) ∧ Below w.heap.size w w' := by
  obtain ⟨hs, ha, hb2, hr1, hr2, hr⟩ := slide_ok he
  have hS : slideS H W C K S P O = #[.int .i64 (stepsM H K S P), .int .i64 (stepsM W K S P), .int .i64 O] := by unfold slideS; rw [he, if_pos rfl]
  obtain ⟨-, -, -, -, c1, c2, -⟩ := shapeB_yes hs
  obtain ⟨-, -, -, -, o1, o2, -⟩ := shapeB_yes hr
  obtain ⟨-, -, k1, k2, -⟩ := argsB_yes ha
  obtain ⟨p1, p2, p3, p4, p5, p6⟩ := weights_bd c1 c2 k1 (by omega) o1 o2
  generalize stepsM H K S P = m at hS ⊢
  generalize stepsM W K S P = m2 at hS ⊢
  obtain ⟨q, hq⟩ : ∃ q, O * K * K * C = q := ⟨_, rfl⟩
  rw [hq] at p5 p6
  rw [hq] at hw
  subst hw
  have hw3 : (nW : Int) ≤ 16384 := by omega
  have hbb : ((nB : Int) != O) = true := by simpa using hb
  have hbc : ((nB : Int) == O) = false := by simpa using hb
  clear ha hb2 hr1 hr2 hr hs
  have HE := Lib.hid he
  have HS := Lib.hid hS
  clear he hS
  go_enter Tryz.func80, Tryz.ntmps80
  go_wp2_with (go_at_call 102; (refine (slide_to H W C K S P O 0 _ HE.out HS.out _).mono ?_); (rintro e' w1 ⟨rfl, hb⟩; obtain ⟨hcc, hff⟩ := Kit.bcell hb; have hz : w.heap.size + 3 ≤ w1.heap.size := (by have := hb.size; simp at this; omega); have hz2 : w.heap.size + 2 < w1.heap.size := (by omega); have hz1 : w.heap.size + 1 < w1.heap.size := (by omega); have hz0 : w.heap.size < w1.heap.size := (by omega); have HB := Lib.hid hb; clear hb))
  refine bodyPost_ret (Kit.results_ct rfl _ _ (w.heap.size + 2) 0 [.int .i64 0, .int .i64 0, .int .i64 0] _ rfl (Kit.range_3 (by go_cell) (by go_cell) (by go_cell)) Tryz.underlying30 rfl (by kernel_rfl)) rfl ?_
  have hB1 : Below w.heap.size w w1 := Below.trans ((((Below.refl _ _).alloc (Nat.le_refl _) _).alloc (by simp) _).alloc (by simp; omega) _) (HB.out.mono (by first | omega | (simp; done) | (simp; omega)))
  exact ⟨rfl, by exact (((hB1.setCell (p := ⟨w.heap.size + 2, 0, none⟩) (by simp) _).setCell (p := ⟨w.heap.size + 2, 1, none⟩) (by simp) _).setCell (p := ⟨w.heap.size + 2, 2, none⟩) (by simp) _).alloc (by simp; omega) _⟩
set_option maxHeartbeats 1000000 in
theorem conv_ok (H W C : Int) (x0 x1 x2 x8 x11 x12 x13 x14 x15 x16 x17 x18 : Value) (K S P O Z : Int) (WA BA : Option Addr) (nW cW nB cB : Nat) (he : slideE H W C K S P O = 0) (hw : (nW : Int) = O * K * K * C) (hw2 : nW ≤ 16384) (hb : (nB : Int) = O) (w : World) :
    Calls Tryz.prog 80 #[.agg #[.int .i64 H, .int .i64 W, .int .i64 C], .agg #[x0, x1, x2, .int .i64 K, .int .i64 S, .int .i64 P, .int .i64 O, .int .i8 Z, x8, .slice WA nW cW, .slice BA nB cB, x11, x12, x13, x14, x15, x16, x17, x18]] w fun e' w' => e' = .returned (.tuple #[.agg #[.int .i64 (stepsM H K S P), .int .i64 (stepsM W K S P), .int .i64 O], .int .i64 0]) ∧ Below w.heap.size w w' := by
  obtain ⟨hs, ha, hb2, hr1, hr2, hr⟩ := slide_ok he
  have hS : slideS H W C K S P O = #[.int .i64 (stepsM H K S P), .int .i64 (stepsM W K S P), .int .i64 O] := by unfold slideS; rw [he, if_pos rfl]
  obtain ⟨-, -, -, -, c1, c2, -⟩ := shapeB_yes hs
  obtain ⟨-, -, -, -, o1, o2, -⟩ := shapeB_yes hr
  obtain ⟨-, -, k1, k2, -⟩ := argsB_yes ha
  obtain ⟨p1, p2, p3, p4, p5, p6⟩ := weights_bd c1 c2 k1 (by omega) o1 o2
  generalize stepsM H K S P = m at hS ⊢
  generalize stepsM W K S P = m2 at hS ⊢
  obtain ⟨q, hq⟩ : ∃ q, O * K * K * C = q := ⟨_, rfl⟩
  rw [hq] at p5 p6
  rw [hq] at hw
  subst hw
  have hw3 : (nW : Int) ≤ 16384 := by omega
  have hbb : ((nB : Int) != O) = false := by simpa using hb
  clear ha hb2 hr1 hr2 hr hs
  have HE := Lib.hid he
  have HS := Lib.hid hS
  clear he hS
  go_enter Tryz.func80, Tryz.ntmps80
  go_wp2_with (go_at_call 102; (refine (slide_to H W C K S P O 0 _ HE.out HS.out _).mono ?_); (rintro e' w1 ⟨rfl, hb⟩; obtain ⟨hcc, hff⟩ := Kit.bcell hb; have hz : w.heap.size + 3 ≤ w1.heap.size := (by have := hb.size; simp at this; omega); have hz2 : w.heap.size + 2 < w1.heap.size := (by omega); have hz1 : w.heap.size + 1 < w1.heap.size := (by omega); have hz0 : w.heap.size < w1.heap.size := (by omega); have HB := Lib.hid hb; clear hb))
  refine bodyPost_ret (Kit.results_ct rfl _ _ (w.heap.size + 2) 0 [.int .i64 m, .int .i64 m2, .int .i64 O] _ rfl (Kit.range_3 (by go_cell) (by go_cell) (by go_cell)) Tryz.underlying30 rfl (by kernel_rfl)) rfl ?_
  have hB1 : Below w.heap.size w w1 := Below.trans ((((Below.refl _ _).alloc (Nat.le_refl _) _).alloc (by simp) _).alloc (by simp; omega) _) (HB.out.mono (by first | omega | (simp; done) | (simp; omega)))
  exact ⟨rfl, by exact (((hB1.setCell (p := ⟨w.heap.size + 2, 0, none⟩) (by simp) _).setCell (p := ⟨w.heap.size + 2, 1, none⟩) (by simp) _).setCell (p := ⟨w.heap.size + 2, 2, none⟩) (by simp) _).alloc (by simp; omega) _⟩
theorem conv_to (H W C : Int) (x0 x1 x2 x8 x11 x12 x13 x14 x15 x16 x17 x18 : Value) (K S P O Z : Int) (WA BA : Option Addr) (nW cW nB cB : Nat) (e : Int) (v : Array Value) (he : convE H W C K S P O nW nB = e) (hv : convS H W C K S P O nW nB = v) (w : World) :
    Calls Tryz.prog 80 #[.agg #[.int .i64 H, .int .i64 W, .int .i64 C], .agg #[x0, x1, x2, .int .i64 K, .int .i64 S, .int .i64 P, .int .i64 O, .int .i8 Z, x8, .slice WA nW cW, .slice BA nB cB, x11, x12, x13, x14, x15, x16, x17, x18]] w fun e' w' => e' = .returned (.tuple #[.agg v, .int .i64 e]) ∧ Below w.heap.size w w' := by
  subst hv
  unfold convS
  rw [he]
  unfold convE at he
  by_cases h1 : slideE H W C K S P O ≠ 0
  · rw [if_pos h1] at he
    rw [if_neg (by rw [← he]; exact h1)]
    exact conv_err H W C x0 x1 x2 x8 x11 x12 x13 x14 x15 x16 x17 x18 K S P O Z WA BA nW cW nB cB e he (by rw [← he]; exact h1) w
  · have h0 : slideE H W C K S P O = 0 := by omega
    rw [if_neg h1] at he
    by_cases h2 : (nW : Int) = O * K * K * C ∧ nW ≤ 16384 ∧ (nB : Int) = O
    · rw [if_pos h2] at he
      subst he
      rw [if_pos rfl]
      exact conv_ok H W C x0 x1 x2 x8 x11 x12 x13 x14 x15 x16 x17 x18 K S P O Z WA BA nW cW nB cB h0 h2.1 h2.2.1 h2.2.2 w
    · rw [if_neg h2] at he
      subst he
      rw [if_neg (by decide)]
      by_cases h3 : (nW : Int) = O * K * K * C
      · by_cases h4 : nW ≤ 16384
        · exact conv_w3 H W C x0 x1 x2 x8 x11 x12 x13 x14 x15 x16 x17 x18 K S P O Z WA BA nW cW nB cB h0 h3 h4 (fun h5 => h2 ⟨h3, h4, h5⟩) w
        · exact conv_w2 H W C x0 x1 x2 x8 x11 x12 x13 x14 x15 x16 x17 x18 K S P O Z WA BA nW cW nB cB h0 h3 (by omega) w
      · exact conv_w1 H W C x0 x1 x2 x8 x11 x12 x13 x14 x15 x16 x17 x18 K S P O Z WA BA nW cW nB cB h0 h3 w
end Go.Proofs.YtoghpoopgkahiaaGreatDoor.CConv
end
section
namespace Go.Proofs.YtoghpoopgkahiaaGreatDoor.CConv
open Go Go.ChangeShapes Go.WideShapes Go.ChangeAt Go.RowKit
open Plain CSat CShape CTensor
set_option linter.unusedVariables false
theorem boxNew (H W C : Int) (A : Option Addr) (n c : Nat) (T : TypeId) (w : World) : BoxAt w.heap.size H W C A n c (w.alloc (.cells #[.int .i64 H, .int .i64 W, .int .i64 C, .slice A n c] T)) := BoxAt.new H W C A n c T w
/-- the sum of the first n. -/
def psum (G : Nat → Int) : Nat → Int
  | 0 => 0
  | n + 1 => psum G n + G n
theorem psum_bd {G : Nat → Int} {b : Int} {n : Nat} (h : ∀ k, k < n → -b ≤ G k ∧ G k ≤ b) : -(b * n) ≤ psum G n ∧ psum G n ≤ b * n := by
  induction n with
  | zero => simp [psum]
  | succ n ih =>
    have h1 := ih (fun k hk => h k (by omega))
    have h2 := h n (by omega)
    have e : b * ((n + 1 : Nat) : Int) = b * (n : Int) + b := by rw [show ((n + 1 : Nat) : Int) = (n : Int) + 1 by omega, Int.mul_add, Int.mul_one]
    rw [e]
    simp only [psum]
    omega
theorem psum_congr {G G' : Nat → Int} {n : Nat} (h : ∀ k, k < n → G k = G' k) : psum G n = psum G' n := by
  induction n with
  | zero => rfl
  | succ n ih => simp only [psum]; rw [ih (fun k hk => h k (by omega)), h n (by omega)]
theorem psum_zero {G : Nat → Int} {n : Nat} (h : ∀ k, k < n → G k = 0) : psum G n = 0 := by
  induction n with
  | zero => rfl
  | succ n ih => simp only [psum]; rw [ih (fun k hk => h k (by omega)), h n (by omega)]; rfl
theorem wrap32_add (a b : Int) : IntKind.i32.wrap (IntKind.i32.wrap a + b) = IntKind.i32.wrap (a + b) := by rw [IntKind.wrap_i32, IntKind.wrap_i32, IntKind.wrap_i32]; omega
theorem wrap32_add' (a b : Int) : IntKind.i32.wrap (a + IntKind.i32.wrap b) = IntKind.i32.wrap (a + b) := by rw [IntKind.wrap_i32, IntKind.wrap_i32, IntKind.wrap_i32]; omega
/-- a weight times a number above what stands for 0. -/
theorem term_bd {x y z : Int} (x1 : -128 ≤ x) (x2 : x ≤ 127) (y1 : -128 ≤ y) (y2 : y ≤ 127) (z1 : -128 ≤ z) (z2 : z ≤ 127) : -32640 ≤ y * (x - z) ∧ y * (x - z) ≤ 32640 := by
  have h1 : -255 ≤ x - z := by omega
  have h2 : x - z ≤ 255 := by omega
  generalize x - z = u at h1 h2
  have a1 : 0 ≤ (128 + y) * (255 - u) := Int.mul_nonneg (by omega) (by omega)
  have a2 : 0 ≤ (128 + y) * (255 + u) := Int.mul_nonneg (by omega) (by omega)
  have a3 : 0 ≤ (127 - y) * (255 - u) := Int.mul_nonneg (by omega) (by omega)
  have a4 : 0 ≤ (127 - y) * (255 + u) := Int.mul_nonneg (by omega) (by omega)
  simp only [Int.add_mul, Int.sub_mul, Int.mul_sub, Int.mul_add] at a1 a2 a3 a4
  omega
def I8b (zs : List Int) : Prop := ∀ q, -128 ≤ zs.getD q 0 ∧ zs.getD q 0 ≤ 127
/-- what one place adds for one channel. -/
def termF (zs ws : List Int) (st o : Nat) (Z : Int) (c : Nat) : Int := ws.getD (o + c) 0 * (zs.getD (st + c) 0 - Z)
theorem ints_getD {w : World} {B : Nat} {A : Option Addr} {k : IntKind} {zs : List Int} (h : Kit.Rd w B A (zs.map (.int k))) {j : Nat} (hj : j < zs.length) :
    ∃ b off, A = some ⟨b, off, none⟩ ∧ b < B ∧ ∀ i, i < zs.length → w.cell? ⟨b, off + i, none⟩ = some (.int k (zs.getD i 0)) := by
  obtain ⟨b, off, e, hb, hc⟩ := h.plain (by simp; omega)
  exact ⟨b, off, e, hb, fun i hi => hc i _ (by simp [List.getD_eq_getElem?_getD, List.getElem?_eq_getElem hi])⟩
end Go.Proofs.YtoghpoopgkahiaaGreatDoor.CConv
end
section
namespace Go.Proofs.YtoghpoopgkahiaaGreatDoor.CConv
open Go Go.ChangeShapes Go.WideShapes Go.ChangeAt Go.RowKit
open Plain CSat CShape CTensor
set_option linter.unusedVariables false
/-- the box of a node. -/
def NodeAt (B : Nat) (x0 x1 x2 x8 x11 x12 x13 x14 x15 x16 x17 x18 : Value) (K S P O Z : Int) (WA BA : Option Addr) (nW cW nB cB : Nat) (wd : World) : Prop := wd.rangeAt B 0 [x0, x1, x2, .int .i64 K, .int .i64 S, .int .i64 P, .int .i64 O, .int .i8 Z, x8, .slice WA nW cW, .slice BA nB cB, x11, x12, x13, x14, x15, x16, x17, x18]
theorem NodeAt.new (x0 x1 x2 x8 x11 x12 x13 x14 x15 x16 x17 x18 : Value) (K S P O Z : Int) (WA BA : Option Addr) (nW cW nB cB : Nat) (T : TypeId) (w : World) : NodeAt w.heap.size x0 x1 x2 x8 x11 x12 x13 x14 x15 x16 x17 x18 K S P O Z WA BA nW cW nB cB (w.alloc (.cells #[x0, x1, x2, .int .i64 K, .int .i64 S, .int .i64 P, .int .i64 O, .int .i8 Z, x8, .slice WA nW cW, .slice BA nB cB, x11, x12, x13, x14, x15, x16, x17, x18] T)) := fun j v hj => by
  rw [Nat.zero_add, Kit.new_cell]
  simpa using hj
theorem NodeAt.below {B B' : Nat} {x0 x1 x2 x8 x11 x12 x13 x14 x15 x16 x17 x18 : Value} {K S P O Z : Int} {WA BA : Option Addr} {nW cW nB cB : Nat} {w w' : World} (h : NodeAt B x0 x1 x2 x8 x11 x12 x13 x14 x15 x16 x17 x18 K S P O Z WA BA nW cW nB cB w) (hB : B < B') (hb : Below B' w w') : NodeAt B x0 x1 x2 x8 x11 x12 x13 x14 x15 x16 x17 x18 K S P O Z WA BA nW cW nB cB w' := fun j v hj =>
  (hb.cell (p := ⟨B, 0 + j, none⟩) hB).trans (h j v hj)
theorem NodeAt.at {B : Nat} {x0 x1 x2 x8 x11 x12 x13 x14 x15 x16 x17 x18 : Value} {K S P O Z : Int} {WA BA : Option Addr} {nW cW nB cB : Nat} {w : World} (h : NodeAt B x0 x1 x2 x8 x11 x12 x13 x14 x15 x16 x17 x18 K S P O Z WA BA nW cW nB cB w) (i : Nat) (v : Value) (hi : ([x0, x1, x2, .int .i64 K, .int .i64 S, .int .i64 P, .int .i64 O, .int .i8 Z, x8, .slice WA nW cW, .slice BA nB cB, x11, x12, x13, x14, x15, x16, x17, x18] : List Value)[i]? = some v) : w.cell? ⟨B, i, none⟩ = some v := by
  have := h i v hi
  rwa [Nat.zero_add] at this
/-- what one place of a window adds. -/
def placeF (zs ws : List Int) (H W C top left : Int) (d kk o : Nat) (Z : Int) (i j : Nat) : Int :=
  if 0 ≤ top + (i : Int) ∧ top + (i : Int) < H ∧ 0 ≤ left + (j : Int) ∧ left + (j : Int) < W then psum (termF zs ws (((top + (i : Int)) * W + (left + (j : Int))) * C).toNat (((o * kk + i) * kk + j) * d) Z) d else 0
def rowF (zs ws : List Int) (H W C top left : Int) (d kk o : Nat) (Z : Int) (i : Nat) : Int := psum (placeF zs ws H W C top left d kk o Z i) kk
def winF (zs ws : List Int) (H W C top left : Int) (d kk o : Nat) (Z : Int) : Int := psum (rowF zs ws H W C top left d kk o Z) kk
theorem drop_term (zs ws : List Int) (st o : Nat) (Z : Int) (d : Nat) : psum (termF zs (ws.drop o) st 0 Z) d = psum (termF zs ws st o Z) d :=
  psum_congr fun k _ => by simp [termF, List.getD_eq_getElem?_getD, List.getElem?_drop]
theorem drop_I8b {ws : List Int} (h : I8b ws) (o : Nat) : I8b (ws.drop o) := fun q => by
  have := h (o + q)
  rw [List.getD_eq_getElem?_getD, List.getElem?_drop, ← List.getD_eq_getElem?_getD]
  exact this
theorem i8s_drop (ws : List Int) (o : Nat) : (I8s ws).drop o = I8s (ws.drop o) := by simp [I8s, List.map_drop]
theorem place_le {a b c d i j k : Nat} (hi : i < a) (hj : j < b) (hk : k < c) : ((i * b + j) * c + k) * d + d ≤ a * b * c * d := by
  have e1 : (i + 1) * b ≤ a * b := Nat.mul_le_mul_right _ hi
  have e2 : (i * b + j + 1) * c ≤ a * b * c := Nat.mul_le_mul_right _ (by rw [Nat.add_mul, Nat.one_mul] at e1; omega)
  have e3 : ((i * b + j) * c + k + 1) * d ≤ a * b * c * d := Nat.mul_le_mul_right _ (by rw [Nat.add_mul _ 1 c, Nat.one_mul] at e2; omega)
  rw [Nat.add_mul _ 1 d, Nat.one_mul] at e3
  exact e3
end Go.Proofs.YtoghpoopgkahiaaGreatDoor.CConv
end
section
namespace Go.Proofs.YtoghpoopgkahiaaGreatDoor.CConv
open Go Go.ChangeShapes Go.WideShapes Go.ChangeAt Go.RowKit
open Plain CSat CShape CTensor
set_option linter.unusedVariables false
theorem info_i32 : (Tryz.prog.info? 21).map (fun i => (i.zero, i.size, i.bytes)) = some (some (.int .i32 0), 1, 4) := by kernel_rfl
theorem info_parts32 {P : Program} {t : TypeId} {z : Option Value} {s b : Nat} (h : (P.info? t).map (fun i => (i.zero, i.size, i.bytes)) = some (z, s, b)) : ∃ i, P.info? t = some i ∧ i.zero = z ∧ i.size = s ∧ i.bytes = b := by
  cases hi : P.info? t with
  | none => rw [hi] at h; cases h
  | some i => rw [hi] at h; simp at h; exact ⟨i, rfl, h.1, h.2.1, h.2.2⟩
def I32v (zs : List Int) : List Value := zs.map (.int .i32)
def rowL (F : Nat → Int) (k : Nat) : List Int := (List.range k).map F
theorem rowL_len (F : Nat → Int) (k : Nat) : (rowL F k).length = k := by simp [rowL]
theorem rowL_succ (F : Nat → Int) (k : Nat) (x : Int) (h : F k = x) : I32v (rowL F k) ++ [.int .i32 x] = I32v (rowL F (k + 1)) := by
  simp [I32v, rowL, List.range_succ, h]
def gridF (b d : Nat) (G : Nat → Nat → Nat → Int) (i : Nat) : Int := G (i / d / b) (i / d % b) (i % d)
theorem grid_at (b d : Nat) (G : Nat → Nat → Nat → Int) {i j k : Nat} (hj : j < b) (hk : k < d) : gridF b d G ((i * b + j) * d + k) = G i j k := by
  unfold gridF
  have h1 : ((i * b + j) * d + k) / d = i * b + j := by rw [Nat.mul_comm, Nat.mul_add_div (by omega), Nat.div_eq_of_lt hk]; rfl
  have h2 : ((i * b + j) * d + k) % d = k := by rw [Nat.mul_comm, Nat.mul_add_mod, Nat.mod_eq_of_lt hk]
  have h3 : (i * b + j) / b = i := by rw [Nat.mul_comm, Nat.mul_add_div (by omega), Nat.div_eq_of_lt hj]; rfl
  have h4 : (i * b + j) % b = j := by rw [Nat.mul_comm, Nat.mul_add_mod, Nat.mod_eq_of_lt hj]
  rw [h1, h2, h3, h4]
theorem at_lt {a b d i j k : Nat} (hi : i < a) (hj : j < b) (hk : k < d) : (i * b + j) * d + k < a * b * d := by
  have e1 : (i + 1) * b ≤ a * b := Nat.mul_le_mul_right _ hi
  have e2 : (i * b + j + 1) * d ≤ a * b * d := Nat.mul_le_mul_right _ (by rw [Nat.add_mul, Nat.one_mul] at e1; omega)
  rw [Nat.add_mul _ 1 d, Nat.one_mul] at e2
  omega
/-- one sum, of 32 bits. -/
def sumF (zs ws bs : List Int) (H W C S P : Int) (d kk : Nat) (Z : Int) (h v o : Nat) : Int :=
  IntKind.i32.wrap (bs.getD o 0 + winF zs ws H W C ((h : Int) * S - P) ((v : Int) * S - P) d kk o Z)
/-- sums of the call's own, handed back with an error's number. -/
def MadeA (w : World) (H W C : Int) (n : Nat) (zs : List Int) (x : Value) (e : Ending) (w' : World) : Prop :=
  ∃ v, e = .returned (.tuple #[.agg #[.int .i64 H, .int .i64 W, .int .i64 C, v], x]) ∧ w'.ownsRow w.heap.size 21 1 v n (I32v zs) ∧ Below w.heap.size w w'
def ShapeAt (B : Nat) (H W C : Int) (wd : World) : Prop :=
  wd.cell? ⟨B, 0, none⟩ = some (.int .i64 H) ∧ wd.cell? ⟨B, 1, none⟩ = some (.int .i64 W) ∧ wd.cell? ⟨B, 2, none⟩ = some (.int .i64 C)
theorem ShapeAt.below {B B' : Nat} {H W C : Int} {w w' : World} (h : ShapeAt B H W C w) (hB : B < B') (hb : Below B' w w') : ShapeAt B H W C w' :=
  ⟨(hb.cell (p := ⟨B, 0, none⟩) hB).trans h.1, (hb.cell (p := ⟨B, 1, none⟩) hB).trans h.2.1, (hb.cell (p := ⟨B, 2, none⟩) hB).trans h.2.2⟩
theorem freshNew (T : TypeId) (w : World) : FreshT w.heap.size (w.alloc (.cells #[.int .i64 0, .int .i64 0, .int .i64 0, .slice none 0 0] T)) := FreshT.new T w _ rfl
theorem shapeNew (H W C : Int) (T : TypeId) (w : World) : ShapeAt w.heap.size H W C (w.alloc (.cells #[.int .i64 H, .int .i64 W, .int .i64 C] T)) := ⟨Kit.new_cell _ _ _ _, Kit.new_cell _ _ _ _, Kit.new_cell _ _ _ _⟩
theorem convE_ok {H W C K S P O : Int} {nW nB : Nat} (h : convE H W C K S P O nW nB = 0) : slideE H W C K S P O = 0 ∧ (nW : Int) = O * K * K * C ∧ nW ≤ 16384 ∧ (nB : Int) = O := by
  unfold convE at h
  by_cases h1 : slideE H W C K S P O ≠ 0
  · rw [if_pos h1] at h; exact absurd h h1
  · rw [if_neg h1] at h
    by_cases h2 : (nW : Int) = O * K * K * C ∧ nW ≤ 16384 ∧ (nB : Int) = O
    · exact ⟨by omega, h2⟩
    · rw [if_neg h2] at h; omega
/-- what is held of the calls' memory while the sums are made. -/
def OfAt (w : World) (H W C : Int) (A : Option Addr) (n c : Nat) (x0 x1 x2 x8 x11 x12 x13 x14 x15 x16 x17 x18 : Value) (K S P O Z : Int) (WA BA : Option Addr) (nW cW nB cB : Nat) (X Y U : Int) (g6 : Nat) (wr : World) : Prop :=
  BoxAt w.heap.size H W C A n c wr ∧ NodeAt (w.heap.size + 1) x0 x1 x2 x8 x11 x12 x13 x14 x15 x16 x17 x18 K S P O Z WA BA nW cW nB cB wr ∧ FreshT (w.heap.size + 2) wr ∧ ShapeAt g6 X Y U wr ∧ Below w.heap.size w wr ∧ g6 + 1 ≤ wr.heap.size
theorem OfAt.below {w : World} {H W C : Int} {A : Option Addr} {n c : Nat} {x0 x1 x2 x8 x11 x12 x13 x14 x15 x16 x17 x18 : Value} {K S P O Z : Int} {WA BA : Option Addr} {nW cW nB cB : Nat} {X Y U : Int} {g6 : Nat} {w1 w2 : World} {B' : Nat} (h : OfAt w H W C A n c x0 x1 x2 x8 x11 x12 x13 x14 x15 x16 x17 x18 K S P O Z WA BA nW cW nB cB X Y U g6 w1) (h6 : w.heap.size + 3 ≤ g6) (hB : g6 < B') (hb : Below B' w1 w2) : OfAt w H W C A n c x0 x1 x2 x8 x11 x12 x13 x14 x15 x16 x17 x18 K S P O Z WA BA nW cW nB cB X Y U g6 w2 := by
  obtain ⟨a1, a2, a3, a4, a5, a6⟩ := h
  exact ⟨a1.below (by omega) hb, a2.below (by omega) hb, a3.below (by omega) hb, a4.below hB hb, a5.trans (hb.mono (by omega)), Nat.le_trans a6 hb.size⟩
theorem own_set4 {w : World} {base g : Nat} {e : TypeId} {size n : Nat} {v : Value} {xs : List Value} {x y z u : Value} (h : w.ownsRow base e size v n xs) (hg : g < base) : ((((w.setCell ⟨g, 0, none⟩ x).setCell ⟨g, 1, none⟩ y).setCell ⟨g, 2, none⟩ z).setCell ⟨g, 3, none⟩ u).ownsRow base e size v n xs :=
  own_set (own_set (own_set (own_set h _ _ hg) _ _ hg) _ _ hg) _ _ hg
end Go.Proofs.YtoghpoopgkahiaaGreatDoor.CConv
end
