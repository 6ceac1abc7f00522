/- Layer 14 (four): the contracts of the code's sums and products, place by place. -/
import Derived.Test.YtceejjliboiciaaFourTurn
import Derived.Deep.RegionHeld3
namespace Go.Proofs.Ytceejjliboiciaa.CFour
open Go Go.ChangeShapes Go.WideShapes Go.ChangeAt Go.RowKit
open FloatNum
set_option linter.unusedVariables false


set_option maxHeartbeats 4000000 in
theorem plus_to (X Y : Nat → Value) (p q : Nat → G) (A B : Nat) (hAB : A + B < 2 ^ 53) (hX : ∀ i, i < 4 → IsC (X i) (p i)) (hY : ∀ i, i < 4 → IsC (Y i) (q i)) (hp : ∀ i, Bd A (p i)) (hq : ∀ i, Bd B (q i)) (w : World) :
    Calls Try.prog 63 #[agg4 X, agg4 Y] w fun e' w' => (∃ S, e' = .returned (agg4 S) ∧ ∀ i, i < 4 → IsC (S i) (gadd (p i) (q i))) ∧ Below w.heap.size w w' := by
  have HX := Lib.hid hX
  have HY := Lib.hid hY
  have HP := Lib.hid hp
  have HQ := Lib.hid hq
  have HAB := Lib.hid hAB
  clear hX hY hp hq hAB
  go_enter Try.func63, Try.ntmps63
  go_wp2_with fail
  go_loopw [7] (fun u wr => ∃ (k : Nat) (S : Nat → Value), k ≤ 4 ∧ u = .int .i64 k ∧ Hid (FillR (fun i => gadd (p i) (q i)) k S) ∧ Hid (Four (w.heap.size + 1 + 1 + 1) S wr) ∧ Hid (Four (w.heap.size + 1 + 1) (fun _ => z0) wr) ∧ Hid (Four w.heap.size X wr) ∧ Hid (Four (w.heap.size + 1) Y wr) ∧ Hid (Below w.heap.size w wr)) (fun u _ => 4 - (intOf u).toNat)
  case atStart =>
    have h0 := (Four.box w X 101).below ((((Below.refl _ _).alloc (Nat.le_refl _) (.cells #[Y 0, Y 1, Y 2, Y 3] 101)).alloc (by simp) (.cells #[z0, z0, z0, z0] 101)).alloc (by simp) (.cells #[z0, z0, z0, z0] 101)) (by simp)
    have h1 := (Four.box (w.alloc (.cells #[X 0, X 1, X 2, X 3] 101)) Y 101).below (((Below.refl _ _).alloc (Nat.le_refl _) (.cells #[z0, z0, z0, z0] 101)).alloc (by simp) (.cells #[z0, z0, z0, z0] 101)) (by simp)
    have h2 := (Four.new ((w.alloc (.cells #[X 0, X 1, X 2, X 3] 101)).alloc (.cells #[Y 0, Y 1, Y 2, Y 3] 101)) z0 101).below ((Below.refl _ _).alloc (Nat.le_refl _) (.cells #[z0, z0, z0, z0] 101)) (by simp)
    have h3 := Four.new (((w.alloc (.cells #[X 0, X 1, X 2, X 3] 101)).alloc (.cells #[Y 0, Y 1, Y 2, Y 3] 101)).alloc (.cells #[z0, z0, z0, z0] 101)) z0 101
    have e1 : (w.alloc (.cells #[X 0, X 1, X 2, X 3] 101)).heap.size = w.heap.size + 1 := by simp
    have e2 : ((w.alloc (.cells #[X 0, X 1, X 2, X 3] 101)).alloc (.cells #[Y 0, Y 1, Y 2, Y 3] 101)).heap.size = w.heap.size + 1 + 1 := by simp
    have e3 : (((w.alloc (.cells #[X 0, X 1, X 2, X 3] 101)).alloc (.cells #[Y 0, Y 1, Y 2, Y 3] 101)).alloc (.cells #[z0, z0, z0, z0] 101)).heap.size = w.heap.size + 1 + 1 + 1 := by simp
    rw [e1] at h1
    rw [e2] at h2
    rw [e3] at h3
    exact ⟨0, fun _ => z0, by omega, rfl, Lib.hid (FillR.start _), Lib.hid h3, Lib.hid h2, Lib.hid h0, Lib.hid h1, Lib.hid (((((Below.refl _ _).alloc (Nat.le_refl _) _).alloc (by simp) _).alloc (by simp; omega) _).alloc (by simp; omega) _)⟩
  case round =>
    obtain ⟨k, S, hk, rfl, hS, hF, hR, hU, hV, hBw⟩ := hrel
    by_cases hlt : k < 4
    · obtain ⟨x, hx1, hx2⟩ := IsC.add (P := Try.prog) (HX.out k hlt) (HY.out k hlt) (HP.out k) (HQ.out k) HAB.out
      have HT := Lib.hid (hS.out.step hx2)
      have HG := Lib.hid (hF.out.set hlt x)
      have HR1 := Lib.hid (hR.out.other (g' := w.heap.size + 1 + 1 + 1) (k := k) x (by omega))
      have HU1 := Lib.hid (hU.out.other (g' := w.heap.size + 1 + 1 + 1) (k := k) x (by omega))
      have HV1 := Lib.hid (hV.out.other (g' := w.heap.size + 1 + 1 + 1) (k := k) x (by omega))
      have HB1 := Lib.hid (hBw.out.setCell (p := ⟨w.heap.size + 1 + 1 + 1, k, none⟩) (by show w.heap.size ≤ w.heap.size + 1 + 1 + 1; omega) x)
      obtain ⟨xa, xb, rfl, -⟩ := hx2
      have hst := st_c xa xb
      have c0 := hU.out.1 0 (by omega)
      have c1 := hU.out.1 1 (by omega)
      have c2 := hU.out.1 2 (by omega)
      have c3 := hU.out.1 3 (by omega)
      have d0 := hV.out.1 0 (by omega)
      have d1 := hV.out.1 1 (by omega)
      have d2 := hV.out.1 2 (by omega)
      have d3 := hV.out.1 3 (by omega)
      have e0 := hF.out.1 0 (by omega)
      have e1 := hF.out.1 1 (by omega)
      have e2 := hF.out.1 2 (by omega)
      have e3 := hF.out.1 3 (by omega)
      have f0 := hF.out.2.1 0 (by omega)
      have f1 := hF.out.2.1 1 (by omega)
      have f2 := hF.out.2.1 2 (by omega)
      have f3 := hF.out.2.1 3 (by omega)
      obtain rfl | rfl | rfl | rfl := lt4 hlt
      all_goals go_wp2
      · go_region_held3 (fun W => W.cell? ⟨w.heap.size, 0, none⟩ = some (X 0) ∧ W.cell? ⟨w.heap.size + 1, 0, none⟩ = some (Y 0)) (first | exact ⟨HU1.out.1 0 (by omega), HV1.out.1 0 (by omega)⟩ | (go_keep; done)) (fail)
        go_wp2
        go_roundw
        case rel => exact ⟨_, _, by omega, by go_num, HT, Lib.hid HG.out.drew, Lib.hid HR1.out.drew, Lib.hid HU1.out.drew, Lib.hid HV1.out.drew, Lib.hid HB1.out.drew⟩
        case measure => simp [intOf]
      · go_region_held3 (fun W => W.cell? ⟨w.heap.size, 1, none⟩ = some (X 1) ∧ W.cell? ⟨w.heap.size + 1, 1, none⟩ = some (Y 1)) (first | exact ⟨HU1.out.1 1 (by omega), HV1.out.1 1 (by omega)⟩ | (go_keep; done)) (fail)
        go_wp2
        go_roundw
        case rel => exact ⟨_, _, by omega, by go_num, HT, Lib.hid HG.out.drew, Lib.hid HR1.out.drew, Lib.hid HU1.out.drew, Lib.hid HV1.out.drew, Lib.hid HB1.out.drew⟩
        case measure => simp [intOf]
      · go_region_held3 (fun W => W.cell? ⟨w.heap.size, 2, none⟩ = some (X 2) ∧ W.cell? ⟨w.heap.size + 1, 2, none⟩ = some (Y 2)) (first | exact ⟨HU1.out.1 2 (by omega), HV1.out.1 2 (by omega)⟩ | (go_keep; done)) (fail)
        go_wp2
        go_roundw
        case rel => exact ⟨_, _, by omega, by go_num, HT, Lib.hid HG.out.drew, Lib.hid HR1.out.drew, Lib.hid HU1.out.drew, Lib.hid HV1.out.drew, Lib.hid HB1.out.drew⟩
        case measure => simp [intOf]
      · go_region_held3 (fun W => W.cell? ⟨w.heap.size, 3, none⟩ = some (X 3) ∧ W.cell? ⟨w.heap.size + 1, 3, none⟩ = some (Y 3)) (first | exact ⟨HU1.out.1 3 (by omega), HV1.out.1 3 (by omega)⟩ | (go_keep; done)) (fail)
        go_wp2
        go_roundw
        case rel => exact ⟨_, _, by omega, by go_num, HT, Lib.hid HG.out.drew, Lib.hid HR1.out.drew, Lib.hid HU1.out.drew, Lib.hid HV1.out.drew, Lib.hid HB1.out.drew⟩
        case measure => simp [intOf]
    · have hk4 : k = 4 := by omega
      subst hk4
      have hAll : ∀ i, i < 4 → IsC (S i) (gadd (p i) (q i)) := fun i (hi : i < 4) => hS.out.all (i := i) hi
      have c0 := hF.out.1 0 (by omega)
      have c1 := hF.out.1 1 (by omega)
      have c2 := hF.out.1 2 (by omega)
      have c3 := hF.out.1 3 (by omega)
      have d0 := hR.out.1 0 (by omega)
      have d1 := hR.out.1 1 (by omega)
      have d2 := hR.out.1 2 (by omega)
      have d3 := hR.out.1 3 (by omega)
      have f0 := hR.out.2.1 0 (by omega)
      have f1 := hR.out.2.1 1 (by omega)
      have f2 := hR.out.2.1 2 (by omega)
      have f3 := hR.out.2.1 3 (by omega)
      clear hlt hk
      obtain ⟨a0, b0, s0, -⟩ := hAll (0 : Nat) (by omega)
      obtain ⟨a1, b1, s1, -⟩ := hAll (1 : Nat) (by omega)
      obtain ⟨a2, b2, s2, -⟩ := hAll (2 : Nat) (by omega)
      obtain ⟨a3, b3, s3, -⟩ := hAll (3 : Nat) (by omega)
      have t0 := st_c a0 b0
      have t1 := st_c a1 b1
      have t2 := st_c a2 b2
      have t3 := st_c a3 b3
      have HA := Lib.hid hAll
      clear hAll
      have HS0 := Lib.hid s0
      have HS1 := Lib.hid s1
      have HS2 := Lib.hid s2
      have HS3 := Lib.hid s3
      go_wp2
      refine bodyPost_ret (Kit.results_c rfl _ _ (w.heap.size + 1 + 1) 0 [.complex .f64 a0 b0, .complex .f64 a1 b1, .complex .f64 a2 b2, .complex .f64 a3 b3] _ rfl (range_4 (by go_cell) (by go_cell) (by go_cell) (by go_cell)) Try.underlying101 rfl (by kernel_rfl)) rfl ?_
      refine ⟨⟨S, ?_, HA.out⟩, ?_⟩
      · unfold agg4
        rw [HS0.out, HS1.out, HS2.out, HS3.out]
      · have := hBw.out
        go_grown

set_option maxHeartbeats 4000000 in
theorem times_to (X Y : Nat → Value) (p q : Nat → G) (A B : Nat) (hA : A < 2 ^ 53) (hB : B < 2 ^ 53) (hAB : A * B + A * B < 2 ^ 53) (hX : ∀ i, i < 4 → IsC (X i) (p i)) (hY : ∀ i, i < 4 → IsC (Y i) (q i)) (hp : ∀ i, Bd A (p i)) (hq : ∀ i, Bd B (q i)) (w : World) :
    Calls Try.prog 64 #[agg4 X, agg4 Y] w fun e' w' => (∃ S, e' = .returned (agg4 S) ∧ ∀ i, i < 4 → IsC (S i) (gmul (p i) (q i))) ∧ Below w.heap.size w w' := by
  have HX := Lib.hid hX
  have HY := Lib.hid hY
  have HP := Lib.hid hp
  have HQ := Lib.hid hq
  have HAB := Lib.hid hAB
  clear hX hY hp hq hAB
  go_enter Try.func64, Try.ntmps64
  go_wp2_with fail
  go_loopw [7] (fun u wr => ∃ (k : Nat) (S : Nat → Value), k ≤ 4 ∧ u = .int .i64 k ∧ Hid (FillR (fun i => gmul (p i) (q i)) k S) ∧ Hid (Four (w.heap.size + 1 + 1 + 1) S wr) ∧ Hid (Four (w.heap.size + 1 + 1) (fun _ => z0) wr) ∧ Hid (Four w.heap.size X wr) ∧ Hid (Four (w.heap.size + 1) Y wr) ∧ Hid (Below w.heap.size w wr)) (fun u _ => 4 - (intOf u).toNat)
  case atStart =>
    have h0 := (Four.box w X 101).below ((((Below.refl _ _).alloc (Nat.le_refl _) (.cells #[Y 0, Y 1, Y 2, Y 3] 101)).alloc (by simp) (.cells #[z0, z0, z0, z0] 101)).alloc (by simp) (.cells #[z0, z0, z0, z0] 101)) (by simp)
    have h1 := (Four.box (w.alloc (.cells #[X 0, X 1, X 2, X 3] 101)) Y 101).below (((Below.refl _ _).alloc (Nat.le_refl _) (.cells #[z0, z0, z0, z0] 101)).alloc (by simp) (.cells #[z0, z0, z0, z0] 101)) (by simp)
    have h2 := (Four.new ((w.alloc (.cells #[X 0, X 1, X 2, X 3] 101)).alloc (.cells #[Y 0, Y 1, Y 2, Y 3] 101)) z0 101).below ((Below.refl _ _).alloc (Nat.le_refl _) (.cells #[z0, z0, z0, z0] 101)) (by simp)
    have h3 := Four.new (((w.alloc (.cells #[X 0, X 1, X 2, X 3] 101)).alloc (.cells #[Y 0, Y 1, Y 2, Y 3] 101)).alloc (.cells #[z0, z0, z0, z0] 101)) z0 101
    have e1 : (w.alloc (.cells #[X 0, X 1, X 2, X 3] 101)).heap.size = w.heap.size + 1 := by simp
    have e2 : ((w.alloc (.cells #[X 0, X 1, X 2, X 3] 101)).alloc (.cells #[Y 0, Y 1, Y 2, Y 3] 101)).heap.size = w.heap.size + 1 + 1 := by simp
    have e3 : (((w.alloc (.cells #[X 0, X 1, X 2, X 3] 101)).alloc (.cells #[Y 0, Y 1, Y 2, Y 3] 101)).alloc (.cells #[z0, z0, z0, z0] 101)).heap.size = w.heap.size + 1 + 1 + 1 := by simp
    rw [e1] at h1
    rw [e2] at h2
    rw [e3] at h3
    exact ⟨0, fun _ => z0, by omega, rfl, Lib.hid (FillR.start _), Lib.hid h3, Lib.hid h2, Lib.hid h0, Lib.hid h1, Lib.hid (((((Below.refl _ _).alloc (Nat.le_refl _) _).alloc (by simp) _).alloc (by simp; omega) _).alloc (by simp; omega) _)⟩
  case round =>
    obtain ⟨k, S, hk, rfl, hS, hF, hR, hU, hV, hBw⟩ := hrel
    by_cases hlt : k < 4
    · obtain ⟨x, hx1, hx2⟩ := IsC.mul (P := Try.prog) (HX.out k hlt) (HY.out k hlt) (HP.out k) (HQ.out k) hA hB HAB.out
      have HT := Lib.hid (hS.out.step hx2)
      have HG := Lib.hid (hF.out.set hlt x)
      have HR1 := Lib.hid (hR.out.other (g' := w.heap.size + 1 + 1 + 1) (k := k) x (by omega))
      have HU1 := Lib.hid (hU.out.other (g' := w.heap.size + 1 + 1 + 1) (k := k) x (by omega))
      have HV1 := Lib.hid (hV.out.other (g' := w.heap.size + 1 + 1 + 1) (k := k) x (by omega))
      have HB1 := Lib.hid (hBw.out.setCell (p := ⟨w.heap.size + 1 + 1 + 1, k, none⟩) (by show w.heap.size ≤ w.heap.size + 1 + 1 + 1; omega) x)
      obtain ⟨xa, xb, rfl, -⟩ := hx2
      have hst := st_c xa xb
      have c0 := hU.out.1 0 (by omega)
      have c1 := hU.out.1 1 (by omega)
      have c2 := hU.out.1 2 (by omega)
      have c3 := hU.out.1 3 (by omega)
      have d0 := hV.out.1 0 (by omega)
      have d1 := hV.out.1 1 (by omega)
      have d2 := hV.out.1 2 (by omega)
      have d3 := hV.out.1 3 (by omega)
      have e0 := hF.out.1 0 (by omega)
      have e1 := hF.out.1 1 (by omega)
      have e2 := hF.out.1 2 (by omega)
      have e3 := hF.out.1 3 (by omega)
      have f0 := hF.out.2.1 0 (by omega)
      have f1 := hF.out.2.1 1 (by omega)
      have f2 := hF.out.2.1 2 (by omega)
      have f3 := hF.out.2.1 3 (by omega)
      obtain rfl | rfl | rfl | rfl := lt4 hlt
      all_goals go_wp2
      · go_region_held3 (fun W => W.cell? ⟨w.heap.size, 0, none⟩ = some (X 0) ∧ W.cell? ⟨w.heap.size + 1, 0, none⟩ = some (Y 0)) (first | exact ⟨HU1.out.1 0 (by omega), HV1.out.1 0 (by omega)⟩ | (go_keep; done)) (fail)
        go_wp2
        go_roundw
        case rel => exact ⟨_, _, by omega, by go_num, HT, Lib.hid HG.out.drew, Lib.hid HR1.out.drew, Lib.hid HU1.out.drew, Lib.hid HV1.out.drew, Lib.hid HB1.out.drew⟩
        case measure => simp [intOf]
      · go_region_held3 (fun W => W.cell? ⟨w.heap.size, 1, none⟩ = some (X 1) ∧ W.cell? ⟨w.heap.size + 1, 1, none⟩ = some (Y 1)) (first | exact ⟨HU1.out.1 1 (by omega), HV1.out.1 1 (by omega)⟩ | (go_keep; done)) (fail)
        go_wp2
        go_roundw
        case rel => exact ⟨_, _, by omega, by go_num, HT, Lib.hid HG.out.drew, Lib.hid HR1.out.drew, Lib.hid HU1.out.drew, Lib.hid HV1.out.drew, Lib.hid HB1.out.drew⟩
        case measure => simp [intOf]
      · go_region_held3 (fun W => W.cell? ⟨w.heap.size, 2, none⟩ = some (X 2) ∧ W.cell? ⟨w.heap.size + 1, 2, none⟩ = some (Y 2)) (first | exact ⟨HU1.out.1 2 (by omega), HV1.out.1 2 (by omega)⟩ | (go_keep; done)) (fail)
        go_wp2
        go_roundw
        case rel => exact ⟨_, _, by omega, by go_num, HT, Lib.hid HG.out.drew, Lib.hid HR1.out.drew, Lib.hid HU1.out.drew, Lib.hid HV1.out.drew, Lib.hid HB1.out.drew⟩
        case measure => simp [intOf]
      · go_region_held3 (fun W => W.cell? ⟨w.heap.size, 3, none⟩ = some (X 3) ∧ W.cell? ⟨w.heap.size + 1, 3, none⟩ = some (Y 3)) (first | exact ⟨HU1.out.1 3 (by omega), HV1.out.1 3 (by omega)⟩ | (go_keep; done)) (fail)
        go_wp2
        go_roundw
        case rel => exact ⟨_, _, by omega, by go_num, HT, Lib.hid HG.out.drew, Lib.hid HR1.out.drew, Lib.hid HU1.out.drew, Lib.hid HV1.out.drew, Lib.hid HB1.out.drew⟩
        case measure => simp [intOf]
    · have hk4 : k = 4 := by omega
      subst hk4
      have hAll : ∀ i, i < 4 → IsC (S i) (gmul (p i) (q i)) := fun i (hi : i < 4) => hS.out.all (i := i) hi
      have c0 := hF.out.1 0 (by omega)
      have c1 := hF.out.1 1 (by omega)
      have c2 := hF.out.1 2 (by omega)
      have c3 := hF.out.1 3 (by omega)
      have d0 := hR.out.1 0 (by omega)
      have d1 := hR.out.1 1 (by omega)
      have d2 := hR.out.1 2 (by omega)
      have d3 := hR.out.1 3 (by omega)
      have f0 := hR.out.2.1 0 (by omega)
      have f1 := hR.out.2.1 1 (by omega)
      have f2 := hR.out.2.1 2 (by omega)
      have f3 := hR.out.2.1 3 (by omega)
      clear hlt hk
      obtain ⟨a0, b0, s0, -⟩ := hAll (0 : Nat) (by omega)
      obtain ⟨a1, b1, s1, -⟩ := hAll (1 : Nat) (by omega)
      obtain ⟨a2, b2, s2, -⟩ := hAll (2 : Nat) (by omega)
      obtain ⟨a3, b3, s3, -⟩ := hAll (3 : Nat) (by omega)
      have t0 := st_c a0 b0
      have t1 := st_c a1 b1
      have t2 := st_c a2 b2
      have t3 := st_c a3 b3
      have HA := Lib.hid hAll
      clear hAll
      have HS0 := Lib.hid s0
      have HS1 := Lib.hid s1
      have HS2 := Lib.hid s2
      have HS3 := Lib.hid s3
      go_wp2
      refine bodyPost_ret (Kit.results_c rfl _ _ (w.heap.size + 1 + 1) 0 [.complex .f64 a0 b0, .complex .f64 a1 b1, .complex .f64 a2 b2, .complex .f64 a3 b3] _ rfl (range_4 (by go_cell) (by go_cell) (by go_cell) (by go_cell)) Try.underlying101 rfl (by kernel_rfl)) rfl ?_
      refine ⟨⟨S, ?_, HA.out⟩, ?_⟩
      · unfold agg4
        rw [HS0.out, HS1.out, HS2.out, HS3.out]
      · have := hBw.out
        go_grown
end Go.Proofs.Ytceejjliboiciaa.CFour
