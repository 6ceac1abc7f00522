/- Texts of this seat, one behind the other: KindShD, KindShape, KindShV. -/
import Derived.Deep.CutRange
import Derived.Test.YtamcdpkakdiggaaDoorGK3
import Derived.Test.YtamcdpkakdiggaaDoorGK7
import Derived.Test.YtamcdpkakdiggaaDoorGK9
section
namespace Go.Proofs.YtamcdpkakdiggaaDoor.CKind
open Go Go.ChangeShapes Go.WideShapes Go.ChangeAt Go.RowKit Go.Deep
open Plain CSat CFix CShape CTensor CConv
set_option linter.unusedVariables false
set_option linter.unusedSimpArgs false
set_option maxRecDepth 100000 in
set_option maxHeartbeats 8000000 in
theorem rks8_no (H W C H2 W2 C2 na nb K S P O Z Y : Int) (WA : Option Addr) (nW cW : Nat) (BA : Option Addr) (nB cB : Nat) (m1 s1 z1 m2 s2 z2 lo hi : Int) (hs : shapeB H W C = false) (w : World) :
    Calls Tryd.prog 14 #[.agg #[.int .i64 8, .int .i64 na, .int .i64 nb, .int .i64 K, .int .i64 S, .int .i64 P, .int .i64 O, .int .i8 Z, .int .i8 Y, .slice WA nW cW, .slice BA nB cB, .int .i32 m1, .int .i64 s1, .int .i8 z1, .int .i32 m2, .int .i64 s2, .int .i8 z2, .int .i8 lo, .int .i8 hi], .agg #[.int .i64 H, .int .i64 W, .int .i64 C], .agg #[.int .i64 H2, .int .i64 W2, .int .i64 C2]] w fun r w' => r = .returned (.tuple #[.agg #[.int .i64 0, .int .i64 0, .int .i64 0], .int .i64 5]) ∧ Below w.heap.size w w' := by
  have HN := Lib.hid (elemsZ_no hs)
  clear hs
  have HB : Hid (Below w.heap.size w ((((w.alloc (.cells #[.int .i64 8, .int .i64 na, .int .i64 nb, .int .i64 K, .int .i64 S, .int .i64 P, .int .i64 O, .int .i8 Z, .int .i8 Y, .slice WA nW cW, .slice BA nB cB, .int .i32 m1, .int .i64 s1, .int .i8 z1, .int .i32 m2, .int .i64 s2, .int .i8 z2, .int .i8 lo, .int .i8 hi] 28)).alloc (.cells #[.int .i64 H, .int .i64 W, .int .i64 C] 31)).alloc (.cells #[.int .i64 H2, .int .i64 W2, .int .i64 C2] 31)).alloc (.cells #[.int .i64 0, .int .i64 0, .int .i64 0] 31))) := Lib.hid (((((Below.refl _ _).alloc (by first | exact Nat.le_refl _ | (simp; done) | (simp; omega) | omega) _).alloc (by first | exact Nat.le_refl _ | (simp; done) | (simp; omega) | omega) _).alloc (by first | exact Nat.le_refl _ | (simp; done) | (simp; omega) | omega) _).alloc (by first | exact Nat.le_refl _ | (simp; done) | (simp; omega) | omega) _)
  go_enter Tryd.func14, Tryd.ntmps14
  go_wp2_with (go_at_call 36; (with_reducible refine (refElems_to H W C 0 HN.out _).mono ?_); rintro e1 w1 ⟨rfl, hb⟩; obtain ⟨hcc, hff⟩ := Kit.bcell hb; have hz3 : w.heap.size + 3 < w1.heap.size := (by have := hb.size; (try simp at this); omega); have hz2 : w.heap.size + 2 < w1.heap.size := (by omega); have hz1 : w.heap.size + 1 < w1.heap.size := (by omega); have hz0 : w.heap.size < w1.heap.size := (by omega); (first | (replace HB := Lib.hid (HB.out.trans (hb.mono HB.out.size))) | (replace HB := Lib.hid ((HB.out.alloc HB.out.size _).trans (hb.mono (by have := HB.out.size; simp; omega))))); clear hb)
  refine bodyPost_ret (Kit.results_ct rfl _ _ (w.heap.size + 3) 0 [.int .i64 0, .int .i64 0, .int .i64 0] _ rfl (Kit.range_3 (by go_cell) (by go_cell) (by go_cell)) Tryd.underlying31 rfl (by kernel_rfl)) rfl ?_
  exact ⟨rfl, (((HB.out.setCell (p := ⟨w.heap.size + 3, 0, none⟩) (Nat.le_add_right _ _) _).setCell (p := ⟨w.heap.size + 3, 1, none⟩) (Nat.le_add_right _ _) _).setCell (p := ⟨w.heap.size + 3, 2, none⟩) (Nat.le_add_right _ _) _)⟩
set_option maxRecDepth 100000 in
set_option maxHeartbeats 8000000 in
theorem rks9_no (H W C H2 W2 C2 na nb K S P O Z Y : Int) (WA : Option Addr) (nW cW : Nat) (BA : Option Addr) (nB cB : Nat) (m1 s1 z1 m2 s2 z2 lo hi : Int) (hs : shapeB H W C = false) (w : World) :
    Calls Tryd.prog 14 #[.agg #[.int .i64 9, .int .i64 na, .int .i64 nb, .int .i64 K, .int .i64 S, .int .i64 P, .int .i64 O, .int .i8 Z, .int .i8 Y, .slice WA nW cW, .slice BA nB cB, .int .i32 m1, .int .i64 s1, .int .i8 z1, .int .i32 m2, .int .i64 s2, .int .i8 z2, .int .i8 lo, .int .i8 hi], .agg #[.int .i64 H, .int .i64 W, .int .i64 C], .agg #[.int .i64 H2, .int .i64 W2, .int .i64 C2]] w fun r w' => r = .returned (.tuple #[.agg #[.int .i64 0, .int .i64 0, .int .i64 0], .int .i64 5]) ∧ Below w.heap.size w w' := by
  have HN := Lib.hid (elemsZ_no hs)
  clear hs
  have HB : Hid (Below w.heap.size w ((((w.alloc (.cells #[.int .i64 9, .int .i64 na, .int .i64 nb, .int .i64 K, .int .i64 S, .int .i64 P, .int .i64 O, .int .i8 Z, .int .i8 Y, .slice WA nW cW, .slice BA nB cB, .int .i32 m1, .int .i64 s1, .int .i8 z1, .int .i32 m2, .int .i64 s2, .int .i8 z2, .int .i8 lo, .int .i8 hi] 28)).alloc (.cells #[.int .i64 H, .int .i64 W, .int .i64 C] 31)).alloc (.cells #[.int .i64 H2, .int .i64 W2, .int .i64 C2] 31)).alloc (.cells #[.int .i64 0, .int .i64 0, .int .i64 0] 31))) := Lib.hid (((((Below.refl _ _).alloc (by first | exact Nat.le_refl _ | (simp; done) | (simp; omega) | omega) _).alloc (by first | exact Nat.le_refl _ | (simp; done) | (simp; omega) | omega) _).alloc (by first | exact Nat.le_refl _ | (simp; done) | (simp; omega) | omega) _).alloc (by first | exact Nat.le_refl _ | (simp; done) | (simp; omega) | omega) _)
  go_enter Tryd.func14, Tryd.ntmps14
  go_wp2_with (go_at_call 36; (with_reducible refine (refElems_to H W C 0 HN.out _).mono ?_); rintro e1 w1 ⟨rfl, hb⟩; obtain ⟨hcc, hff⟩ := Kit.bcell hb; have hz3 : w.heap.size + 3 < w1.heap.size := (by have := hb.size; (try simp at this); omega); have hz2 : w.heap.size + 2 < w1.heap.size := (by omega); have hz1 : w.heap.size + 1 < w1.heap.size := (by omega); have hz0 : w.heap.size < w1.heap.size := (by omega); (first | (replace HB := Lib.hid (HB.out.trans (hb.mono HB.out.size))) | (replace HB := Lib.hid ((HB.out.alloc HB.out.size _).trans (hb.mono (by have := HB.out.size; simp; omega))))); clear hb)
  refine bodyPost_ret (Kit.results_ct rfl _ _ (w.heap.size + 3) 0 [.int .i64 0, .int .i64 0, .int .i64 0] _ rfl (Kit.range_3 (by go_cell) (by go_cell) (by go_cell)) Tryd.underlying31 rfl (by kernel_rfl)) rfl ?_
  exact ⟨rfl, (((HB.out.setCell (p := ⟨w.heap.size + 3, 0, none⟩) (Nat.le_add_right _ _) _).setCell (p := ⟨w.heap.size + 3, 1, none⟩) (Nat.le_add_right _ _) _).setCell (p := ⟨w.heap.size + 3, 2, none⟩) (Nat.le_add_right _ _) _)⟩
set_option maxRecDepth 100000 in
set_option maxHeartbeats 8000000 in
theorem rks9_yes (H W C H2 W2 C2 na nb K S P O Z Y : Int) (WA : Option Addr) (nW cW : Nat) (BA : Option Addr) (nB cB : Nat) (m1 s1 z1 m2 s2 z2 lo hi : Int) (n : Int) (hs : shapeB H W C = true) (hn : elemsZ H W C = n) (w : World) :
    Calls Tryd.prog 14 #[.agg #[.int .i64 9, .int .i64 na, .int .i64 nb, .int .i64 K, .int .i64 S, .int .i64 P, .int .i64 O, .int .i8 Z, .int .i8 Y, .slice WA nW cW, .slice BA nB cB, .int .i32 m1, .int .i64 s1, .int .i8 z1, .int .i32 m2, .int .i64 s2, .int .i8 z2, .int .i8 lo, .int .i8 hi], .agg #[.int .i64 H, .int .i64 W, .int .i64 C], .agg #[.int .i64 H2, .int .i64 W2, .int .i64 C2]] w fun r w' => r = .returned (.tuple #[.agg #[.int .i64 1, .int .i64 1, .int .i64 n], .int .i64 0]) ∧ Below w.heap.size w w' := by
  obtain ⟨q1, q2, q3, q4, q5, q6, -⟩ := shapeB_yes hs
  have hn0 : (n == 0) = false := by
    rw [← hn]
    have := prod_bd q1 q2 q3 q4 q5 q6
    rw [elemsZ_yes hs]
    simp
    omega
  have HN := Lib.hid hn
  clear hn hs
  have HB : Hid (Below w.heap.size w ((((w.alloc (.cells #[.int .i64 9, .int .i64 na, .int .i64 nb, .int .i64 K, .int .i64 S, .int .i64 P, .int .i64 O, .int .i8 Z, .int .i8 Y, .slice WA nW cW, .slice BA nB cB, .int .i32 m1, .int .i64 s1, .int .i8 z1, .int .i32 m2, .int .i64 s2, .int .i8 z2, .int .i8 lo, .int .i8 hi] 28)).alloc (.cells #[.int .i64 H, .int .i64 W, .int .i64 C] 31)).alloc (.cells #[.int .i64 H2, .int .i64 W2, .int .i64 C2] 31)).alloc (.cells #[.int .i64 0, .int .i64 0, .int .i64 0] 31))) := Lib.hid (((((Below.refl _ _).alloc (by first | exact Nat.le_refl _ | (simp; done) | (simp; omega) | omega) _).alloc (by first | exact Nat.le_refl _ | (simp; done) | (simp; omega) | omega) _).alloc (by first | exact Nat.le_refl _ | (simp; done) | (simp; omega) | omega) _).alloc (by first | exact Nat.le_refl _ | (simp; done) | (simp; omega) | omega) _)
  go_enter Tryd.func14, Tryd.ntmps14
  go_wp2_with (go_at_call 36; (with_reducible refine (refElems_to H W C n HN.out _).mono ?_); rintro e1 w1 ⟨rfl, hb⟩; obtain ⟨hcc, hff⟩ := Kit.bcell hb; have hz3 : w.heap.size + 3 < w1.heap.size := (by have := hb.size; (try simp at this); omega); have hz2 : w.heap.size + 2 < w1.heap.size := (by omega); have hz1 : w.heap.size + 1 < w1.heap.size := (by omega); have hz0 : w.heap.size < w1.heap.size := (by omega); (first | (replace HB := Lib.hid (HB.out.trans (hb.mono HB.out.size))) | (replace HB := Lib.hid ((HB.out.alloc HB.out.size _).trans (hb.mono (by have := HB.out.size; simp; omega))))); clear hb)
  refine bodyPost_ret (Kit.results_ct rfl _ _ (w.heap.size + 3) 0 [.int .i64 1, .int .i64 1, .int .i64 n] _ rfl (Kit.range_3 (by go_cell) (by go_cell) (by go_cell)) Tryd.underlying31 rfl (by kernel_rfl)) rfl ?_
  exact ⟨rfl, (((HB.out.setCell (p := ⟨w.heap.size + 3, 0, none⟩) (Nat.le_add_right _ _) _).setCell (p := ⟨w.heap.size + 3, 1, none⟩) (Nat.le_add_right _ _) _).setCell (p := ⟨w.heap.size + 3, 2, none⟩) (Nat.le_add_right _ _) _)⟩
set_option maxRecDepth 100000 in
set_option maxHeartbeats 8000000 in
theorem rks8_lo (H W C H2 W2 C2 na nb K S P O Z Y : Int) (WA : Option Addr) (nW cW : Nat) (BA : Option Addr) (nB cB : Nat) (m1 s1 z1 m2 s2 z2 lo hi : Int) (hs : shapeB H W C = true) (hp : P < 0) (w : World) :
    Calls Tryd.prog 14 #[.agg #[.int .i64 8, .int .i64 na, .int .i64 nb, .int .i64 K, .int .i64 S, .int .i64 P, .int .i64 O, .int .i8 Z, .int .i8 Y, .slice WA nW cW, .slice BA nB cB, .int .i32 m1, .int .i64 s1, .int .i8 z1, .int .i32 m2, .int .i64 s2, .int .i8 z2, .int .i8 lo, .int .i8 hi], .agg #[.int .i64 H, .int .i64 W, .int .i64 C], .agg #[.int .i64 H2, .int .i64 W2, .int .i64 C2]] w fun r w' => r = .returned (.tuple #[.agg #[.int .i64 0, .int .i64 0, .int .i64 0], .int .i64 2]) ∧ Below w.heap.size w w' := by
  obtain ⟨n, hn⟩ : ∃ n, elemsZ H W C = n := ⟨_, rfl⟩
  obtain ⟨q1, q2, q3, q4, q5, q6, -⟩ := shapeB_yes hs
  have hn0 : (n == 0) = false := by
    rw [← hn]
    have := prod_bd q1 q2 q3 q4 q5 q6
    rw [elemsZ_yes hs]
    simp
    omega
  have HN := Lib.hid hn
  clear hn hs
  have kp : decide (P < 0) = true := by simpa using hp
  have HP := Lib.hid hp
  clear hp q1 q2 q3 q4 q5 q6
  have HB : Hid (Below w.heap.size w ((((w.alloc (.cells #[.int .i64 8, .int .i64 na, .int .i64 nb, .int .i64 K, .int .i64 S, .int .i64 P, .int .i64 O, .int .i8 Z, .int .i8 Y, .slice WA nW cW, .slice BA nB cB, .int .i32 m1, .int .i64 s1, .int .i8 z1, .int .i32 m2, .int .i64 s2, .int .i8 z2, .int .i8 lo, .int .i8 hi] 28)).alloc (.cells #[.int .i64 H, .int .i64 W, .int .i64 C] 31)).alloc (.cells #[.int .i64 H2, .int .i64 W2, .int .i64 C2] 31)).alloc (.cells #[.int .i64 0, .int .i64 0, .int .i64 0] 31))) := Lib.hid (((((Below.refl _ _).alloc (by first | exact Nat.le_refl _ | (simp; done) | (simp; omega) | omega) _).alloc (by first | exact Nat.le_refl _ | (simp; done) | (simp; omega) | omega) _).alloc (by first | exact Nat.le_refl _ | (simp; done) | (simp; omega) | omega) _).alloc (by first | exact Nat.le_refl _ | (simp; done) | (simp; omega) | omega) _)
  go_enter Tryd.func14, Tryd.ntmps14
  go_wp2_with (go_at_call 36; (with_reducible refine (refElems_to H W C n HN.out _).mono ?_); rintro e1 w1 ⟨rfl, hb⟩; obtain ⟨hcc, hff⟩ := Kit.bcell hb; have hz3 : w.heap.size + 3 < w1.heap.size := (by have := hb.size; (try simp at this); omega); have hz2 : w.heap.size + 2 < w1.heap.size := (by omega); have hz1 : w.heap.size + 1 < w1.heap.size := (by omega); have hz0 : w.heap.size < w1.heap.size := (by omega); (first | (replace HB := Lib.hid (HB.out.trans (hb.mono HB.out.size))) | (replace HB := Lib.hid ((HB.out.alloc HB.out.size _).trans (hb.mono (by have := HB.out.size; simp; omega))))); clear hb)
  refine bodyPost_ret (Kit.results_ct rfl _ _ (w.heap.size + 3) 0 [.int .i64 0, .int .i64 0, .int .i64 0] _ rfl (Kit.range_3 (by go_cell) (by go_cell) (by go_cell)) Tryd.underlying31 rfl (by kernel_rfl)) rfl ?_
  exact ⟨rfl, (((HB.out.setCell (p := ⟨w.heap.size + 3, 0, none⟩) (Nat.le_add_right _ _) _).setCell (p := ⟨w.heap.size + 3, 1, none⟩) (Nat.le_add_right _ _) _).setCell (p := ⟨w.heap.size + 3, 2, none⟩) (Nat.le_add_right _ _) _)⟩
set_option maxRecDepth 100000 in
set_option maxHeartbeats 8000000 in
theorem rks8_hi (H W C H2 W2 C2 na nb K S P O Z Y : Int) (WA : Option Addr) (nW cW : Nat) (BA : Option Addr) (nB cB : Nat) (m1 s1 z1 m2 s2 z2 lo hi : Int) (hs : shapeB H W C = true) (hp : 4 < P) (w : World) :
    Calls Tryd.prog 14 #[.agg #[.int .i64 8, .int .i64 na, .int .i64 nb, .int .i64 K, .int .i64 S, .int .i64 P, .int .i64 O, .int .i8 Z, .int .i8 Y, .slice WA nW cW, .slice BA nB cB, .int .i32 m1, .int .i64 s1, .int .i8 z1, .int .i32 m2, .int .i64 s2, .int .i8 z2, .int .i8 lo, .int .i8 hi], .agg #[.int .i64 H, .int .i64 W, .int .i64 C], .agg #[.int .i64 H2, .int .i64 W2, .int .i64 C2]] w fun r w' => r = .returned (.tuple #[.agg #[.int .i64 0, .int .i64 0, .int .i64 0], .int .i64 2]) ∧ Below w.heap.size w w' := by
  obtain ⟨n, hn⟩ : ∃ n, elemsZ H W C = n := ⟨_, rfl⟩
  obtain ⟨q1, q2, q3, q4, q5, q6, -⟩ := shapeB_yes hs
  have hn0 : (n == 0) = false := by
    rw [← hn]
    have := prod_bd q1 q2 q3 q4 q5 q6
    rw [elemsZ_yes hs]
    simp
    omega
  have HN := Lib.hid hn
  clear hn hs
  have kp : decide (P < 0) = false := by simp; omega
  have kp2 : decide (4 < P) = true := by simpa using hp
  have HP := Lib.hid hp
  clear hp q1 q2 q3 q4 q5 q6
  have HB : Hid (Below w.heap.size w ((((w.alloc (.cells #[.int .i64 8, .int .i64 na, .int .i64 nb, .int .i64 K, .int .i64 S, .int .i64 P, .int .i64 O, .int .i8 Z, .int .i8 Y, .slice WA nW cW, .slice BA nB cB, .int .i32 m1, .int .i64 s1, .int .i8 z1, .int .i32 m2, .int .i64 s2, .int .i8 z2, .int .i8 lo, .int .i8 hi] 28)).alloc (.cells #[.int .i64 H, .int .i64 W, .int .i64 C] 31)).alloc (.cells #[.int .i64 H2, .int .i64 W2, .int .i64 C2] 31)).alloc (.cells #[.int .i64 0, .int .i64 0, .int .i64 0] 31))) := Lib.hid (((((Below.refl _ _).alloc (by first | exact Nat.le_refl _ | (simp; done) | (simp; omega) | omega) _).alloc (by first | exact Nat.le_refl _ | (simp; done) | (simp; omega) | omega) _).alloc (by first | exact Nat.le_refl _ | (simp; done) | (simp; omega) | omega) _).alloc (by first | exact Nat.le_refl _ | (simp; done) | (simp; omega) | omega) _)
  go_enter Tryd.func14, Tryd.ntmps14
  go_wp2_with (go_at_call 36; (with_reducible refine (refElems_to H W C n HN.out _).mono ?_); rintro e1 w1 ⟨rfl, hb⟩; obtain ⟨hcc, hff⟩ := Kit.bcell hb; have hz3 : w.heap.size + 3 < w1.heap.size := (by have := hb.size; (try simp at this); omega); have hz2 : w.heap.size + 2 < w1.heap.size := (by omega); have hz1 : w.heap.size + 1 < w1.heap.size := (by omega); have hz0 : w.heap.size < w1.heap.size := (by omega); (first | (replace HB := Lib.hid (HB.out.trans (hb.mono HB.out.size))) | (replace HB := Lib.hid ((HB.out.alloc HB.out.size _).trans (hb.mono (by have := HB.out.size; simp; omega))))); clear hb)
  refine bodyPost_ret (Kit.results_ct rfl _ _ (w.heap.size + 3) 0 [.int .i64 0, .int .i64 0, .int .i64 0] _ rfl (Kit.range_3 (by go_cell) (by go_cell) (by go_cell)) Tryd.underlying31 rfl (by kernel_rfl)) rfl ?_
  exact ⟨rfl, (((HB.out.setCell (p := ⟨w.heap.size + 3, 0, none⟩) (Nat.le_add_right _ _) _).setCell (p := ⟨w.heap.size + 3, 1, none⟩) (Nat.le_add_right _ _) _).setCell (p := ⟨w.heap.size + 3, 2, none⟩) (Nat.le_add_right _ _) _)⟩
set_option maxRecDepth 100000 in
set_option maxHeartbeats 8000000 in
theorem rks8_bad (H W C H2 W2 C2 na nb K S P O Z Y : Int) (WA : Option Addr) (nW cW : Nat) (BA : Option Addr) (nB cB : Nat) (m1 s1 z1 m2 s2 z2 lo hi : Int) (hs : shapeB H W C = true) (p1 : 0 ≤ P) (p2 : P ≤ 4) (ht : shapeB (H + 2 * P) (W + 2 * P) C = false) (w : World) :
    Calls Tryd.prog 14 #[.agg #[.int .i64 8, .int .i64 na, .int .i64 nb, .int .i64 K, .int .i64 S, .int .i64 P, .int .i64 O, .int .i8 Z, .int .i8 Y, .slice WA nW cW, .slice BA nB cB, .int .i32 m1, .int .i64 s1, .int .i8 z1, .int .i32 m2, .int .i64 s2, .int .i8 z2, .int .i8 lo, .int .i8 hi], .agg #[.int .i64 H, .int .i64 W, .int .i64 C], .agg #[.int .i64 H2, .int .i64 W2, .int .i64 C2]] w fun r w' => r = .returned (.tuple #[.agg #[.int .i64 0, .int .i64 0, .int .i64 0], .int .i64 5]) ∧ Below w.heap.size w w' := by
  obtain ⟨n, hn⟩ : ∃ n, elemsZ H W C = n := ⟨_, rfl⟩
  obtain ⟨q1, q2, q3, q4, q5, q6, -⟩ := shapeB_yes hs
  have hn0 : (n == 0) = false := by
    rw [← hn]
    have := prod_bd q1 q2 q3 q4 q5 q6
    rw [elemsZ_yes hs]
    simp
    omega
  have HN := Lib.hid hn
  clear hn hs
  have kp : decide (P < 0) = false := by simp; omega
  have kp2 : decide (4 < P) = false := by simp; omega
  have f1 : IntKind.i64.wrap (2 * P) = 2 * P := IntWalk.i64_in _ (by omega)
  have f2 : IntKind.i64.wrap (H + 2 * P) = H + 2 * P := IntWalk.i64_in _ (by omega)
  have f3 : IntKind.i64.wrap (W + 2 * P) = W + 2 * P := IntWalk.i64_in _ (by omega)
  obtain ⟨n2, hn2⟩ : ∃ n, elemsZ (H + 2 * P) (W + 2 * P) C = n := ⟨_, rfl⟩
  obtain ⟨H', hH⟩ : ∃ a, H + 2 * P = a := ⟨_, rfl⟩
  obtain ⟨W', hW⟩ : ∃ a, W + 2 * P = a := ⟨_, rfl⟩
  have hm0 : n2 = 0 := by rw [← hn2]; exact elemsZ_no ht
  subst hm0
  rw [hH] at f2 hn2 ht
  rw [hW] at f3 hn2 ht
  have HN2 := Lib.hid hn2
  have HP := Lib.hid (And.intro p1 p2)
  have g2 : IntKind.i64.wrap (H + 2 * P) = H' := by rw [hH]; exact f2
  have g3 : IntKind.i64.wrap (W + 2 * P) = W' := by rw [hW]; exact f3
  have HH := Lib.hid (And.intro hH hW)
  clear f2 f3 hn2 ht hH hW q1 q2 q3 q4 q5 q6 p1 p2
  have HB : Hid (Below w.heap.size w ((((w.alloc (.cells #[.int .i64 8, .int .i64 na, .int .i64 nb, .int .i64 K, .int .i64 S, .int .i64 P, .int .i64 O, .int .i8 Z, .int .i8 Y, .slice WA nW cW, .slice BA nB cB, .int .i32 m1, .int .i64 s1, .int .i8 z1, .int .i32 m2, .int .i64 s2, .int .i8 z2, .int .i8 lo, .int .i8 hi] 28)).alloc (.cells #[.int .i64 H, .int .i64 W, .int .i64 C] 31)).alloc (.cells #[.int .i64 H2, .int .i64 W2, .int .i64 C2] 31)).alloc (.cells #[.int .i64 0, .int .i64 0, .int .i64 0] 31))) := Lib.hid (((((Below.refl _ _).alloc (by first | exact Nat.le_refl _ | (simp; done) | (simp; omega) | omega) _).alloc (by first | exact Nat.le_refl _ | (simp; done) | (simp; omega) | omega) _).alloc (by first | exact Nat.le_refl _ | (simp; done) | (simp; omega) | omega) _).alloc (by first | exact Nat.le_refl _ | (simp; done) | (simp; omega) | omega) _)
  go_enter Tryd.func14, Tryd.ntmps14
  go_wp2_with (first
    | (go_at_call 36; (with_reducible refine (refElems_to H W C n HN.out _).mono ?_); rintro e1 w1 ⟨rfl, hb⟩; obtain ⟨hcc, hff⟩ := Kit.bcell hb; have hz3 : w.heap.size + 3 < w1.heap.size := (by have := hb.size; (try simp at this); omega); have hz2 : w.heap.size + 2 < w1.heap.size := (by omega); have hz1 : w.heap.size + 1 < w1.heap.size := (by omega); have hz0 : w.heap.size < w1.heap.size := (by omega); (first | (replace HB := Lib.hid (HB.out.trans (hb.mono HB.out.size))) | (replace HB := Lib.hid ((HB.out.alloc HB.out.size _).trans (hb.mono (by have := HB.out.size; simp; omega))))); clear hb)
    | (go_at_call 36; (with_reducible refine (refElems_to H' W' C _ HN2.out _).mono ?_); rintro e1 w1 ⟨rfl, hb⟩; obtain ⟨hcc, hff⟩ := Kit.bcell hb; have hz3 : w.heap.size + 3 < w1.heap.size := (by have := hb.size; (try simp at this); omega); have hz2 : w.heap.size + 2 < w1.heap.size := (by omega); have hz1 : w.heap.size + 1 < w1.heap.size := (by omega); have hz0 : w.heap.size < w1.heap.size := (by omega); (first | (replace HB := Lib.hid (HB.out.trans (hb.mono HB.out.size))) | (replace HB := Lib.hid ((HB.out.alloc HB.out.size _).trans (hb.mono (by have := HB.out.size; simp; omega))))); clear hb))
  refine bodyPost_ret (Kit.results_ct rfl _ _ (w.heap.size + 3) 0 [.int .i64 0, .int .i64 0, .int .i64 0] _ rfl (Kit.range_3 (by go_cell) (by go_cell) (by go_cell)) Tryd.underlying31 rfl (by kernel_rfl)) rfl ?_
  exact ⟨rfl, (((HB.out.setCell (p := ⟨w.heap.size + 3, 0, none⟩) (Nat.le_add_right _ _) _).setCell (p := ⟨w.heap.size + 3, 1, none⟩) (Nat.le_add_right _ _) _).setCell (p := ⟨w.heap.size + 3, 2, none⟩) (Nat.le_add_right _ _) _)⟩
set_option maxRecDepth 100000 in
set_option maxHeartbeats 8000000 in
theorem rks8_ok (H W C H2 W2 C2 na nb K S P O Z Y : Int) (WA : Option Addr) (nW cW : Nat) (BA : Option Addr) (nB cB : Nat) (m1 s1 z1 m2 s2 z2 lo hi : Int) (hs : shapeB H W C = true) (p1 : 0 ≤ P) (p2 : P ≤ 4) (ht : shapeB (H + 2 * P) (W + 2 * P) C = true) (w : World) :
    Calls Tryd.prog 14 #[.agg #[.int .i64 8, .int .i64 na, .int .i64 nb, .int .i64 K, .int .i64 S, .int .i64 P, .int .i64 O, .int .i8 Z, .int .i8 Y, .slice WA nW cW, .slice BA nB cB, .int .i32 m1, .int .i64 s1, .int .i8 z1, .int .i32 m2, .int .i64 s2, .int .i8 z2, .int .i8 lo, .int .i8 hi], .agg #[.int .i64 H, .int .i64 W, .int .i64 C], .agg #[.int .i64 H2, .int .i64 W2, .int .i64 C2]] w fun r w' => r = .returned (.tuple #[.agg #[.int .i64 (H + 2 * P), .int .i64 (W + 2 * P), .int .i64 C], .int .i64 0]) ∧ Below w.heap.size w w' := by
  obtain ⟨n, hn⟩ : ∃ n, elemsZ H W C = n := ⟨_, rfl⟩
  obtain ⟨q1, q2, q3, q4, q5, q6, -⟩ := shapeB_yes hs
  have hn0 : (n == 0) = false := by
    rw [← hn]
    have := prod_bd q1 q2 q3 q4 q5 q6
    rw [elemsZ_yes hs]
    simp
    omega
  have HN := Lib.hid hn
  clear hn hs
  have kp : decide (P < 0) = false := by simp; omega
  have kp2 : decide (4 < P) = false := by simp; omega
  have f1 : IntKind.i64.wrap (2 * P) = 2 * P := IntWalk.i64_in _ (by omega)
  have f2 : IntKind.i64.wrap (H + 2 * P) = H + 2 * P := IntWalk.i64_in _ (by omega)
  have f3 : IntKind.i64.wrap (W + 2 * P) = W + 2 * P := IntWalk.i64_in _ (by omega)
  obtain ⟨n2, hn2⟩ : ∃ n, elemsZ (H + 2 * P) (W + 2 * P) C = n := ⟨_, rfl⟩
  obtain ⟨H', hH⟩ : ∃ a, H + 2 * P = a := ⟨_, rfl⟩
  obtain ⟨W', hW⟩ : ∃ a, W + 2 * P = a := ⟨_, rfl⟩
  have hm0 : (n2 == 0) = false := by
    rw [← hn2]
    obtain ⟨r1, r2, r3, r4, r5, r6, -⟩ := shapeB_yes ht
    have := prod_bd r1 r2 r3 r4 r5 r6
    rw [elemsZ_yes ht]
    simp
    omega
  rw [hH] at f2 hn2 ht ⊢
  rw [hW] at f3 hn2 ht ⊢
  have HN2 := Lib.hid hn2
  have HP := Lib.hid (And.intro p1 p2)
  have g2 : IntKind.i64.wrap (H + 2 * P) = H' := by rw [hH]; exact f2
  have g3 : IntKind.i64.wrap (W + 2 * P) = W' := by rw [hW]; exact f3
  have HH := Lib.hid (And.intro hH hW)
  clear f2 f3 hn2 ht hH hW q1 q2 q3 q4 q5 q6 p1 p2
  have HB : Hid (Below w.heap.size w ((((w.alloc (.cells #[.int .i64 8, .int .i64 na, .int .i64 nb, .int .i64 K, .int .i64 S, .int .i64 P, .int .i64 O, .int .i8 Z, .int .i8 Y, .slice WA nW cW, .slice BA nB cB, .int .i32 m1, .int .i64 s1, .int .i8 z1, .int .i32 m2, .int .i64 s2, .int .i8 z2, .int .i8 lo, .int .i8 hi] 28)).alloc (.cells #[.int .i64 H, .int .i64 W, .int .i64 C] 31)).alloc (.cells #[.int .i64 H2, .int .i64 W2, .int .i64 C2] 31)).alloc (.cells #[.int .i64 0, .int .i64 0, .int .i64 0] 31))) := Lib.hid (((((Below.refl _ _).alloc (by first | exact Nat.le_refl _ | (simp; done) | (simp; omega) | omega) _).alloc (by first | exact Nat.le_refl _ | (simp; done) | (simp; omega) | omega) _).alloc (by first | exact Nat.le_refl _ | (simp; done) | (simp; omega) | omega) _).alloc (by first | exact Nat.le_refl _ | (simp; done) | (simp; omega) | omega) _)
  go_enter Tryd.func14, Tryd.ntmps14
  go_wp2_with (first
    | (go_at_call 36; (with_reducible refine (refElems_to H W C n HN.out _).mono ?_); rintro e1 w1 ⟨rfl, hb⟩; obtain ⟨hcc, hff⟩ := Kit.bcell hb; have hz3 : w.heap.size + 3 < w1.heap.size := (by have := hb.size; (try simp at this); omega); have hz2 : w.heap.size + 2 < w1.heap.size := (by omega); have hz1 : w.heap.size + 1 < w1.heap.size := (by omega); have hz0 : w.heap.size < w1.heap.size := (by omega); (first | (replace HB := Lib.hid (HB.out.trans (hb.mono HB.out.size))) | (replace HB := Lib.hid ((HB.out.alloc HB.out.size _).trans (hb.mono (by have := HB.out.size; simp; omega))))); clear hb)
    | (go_at_call 36; (with_reducible refine (refElems_to H' W' C _ HN2.out _).mono ?_); rintro e1 w1 ⟨rfl, hb⟩; obtain ⟨hcc, hff⟩ := Kit.bcell hb; have hz3 : w.heap.size + 3 < w1.heap.size := (by have := hb.size; (try simp at this); omega); have hz2 : w.heap.size + 2 < w1.heap.size := (by omega); have hz1 : w.heap.size + 1 < w1.heap.size := (by omega); have hz0 : w.heap.size < w1.heap.size := (by omega); (first | (replace HB := Lib.hid (HB.out.trans (hb.mono HB.out.size))) | (replace HB := Lib.hid ((HB.out.alloc HB.out.size _).trans (hb.mono (by have := HB.out.size; simp; omega))))); clear hb))
  refine bodyPost_ret (Kit.results_ct rfl _ _ (w.heap.size + 3) 0 [.int .i64 H', .int .i64 W', .int .i64 C] _ rfl (Kit.range_3 (by go_cell) (by go_cell) (by go_cell)) Tryd.underlying31 rfl (by kernel_rfl)) rfl ?_
  exact ⟨rfl, (((HB.out.setCell (p := ⟨w.heap.size + 3, 0, none⟩) (Nat.le_add_right _ _) _).setCell (p := ⟨w.heap.size + 3, 1, none⟩) (Nat.le_add_right _ _) _).setCell (p := ⟨w.heap.size + 3, 2, none⟩) (Nat.le_add_right _ _) _)⟩
end Go.Proofs.YtamcdpkakdiggaaDoor.CKind
end
section
namespace Go.Proofs.YtamcdpkakdiggaaDoor.CKind
open Go Go.ChangeShapes Go.WideShapes Go.ChangeAt Go.RowKit Go.Deep
open Plain CSat CFix CShape CTensor CConv CDense CDepth
set_option linter.unusedVariables false
set_option linter.unusedSimpArgs false
/-- why a node makes no shape (0: it makes one). -/
def Nd.shE (x : Nd) (H W C H2 W2 C2 : Int) : Int :=
  if x.kd = 1 then convE H W C x.K x.S x.P x.O x.nW x.nB else if x.kd = 2 then depthE H W C x.K x.S x.P x.nW x.nB else if x.kd = 3 then denseE H W C x.O x.nW x.nB else if x.kd = 4 ∨ x.kd = 5 then slideE H W C x.K x.S x.P C
  else if x.kd < 1 ∨ 9 < x.kd then 6 else if shapeB H W C = false then 5 else if x.kd = 6 ∧ (H == H2 && (W == W2 && C == C2)) = false then 5 else if x.kd = 8 then (if x.P < 0 ∨ 4 < x.P then 2 else if shapeB (H + 2 * x.P) (W + 2 * x.P) C = false then 5 else 0) else 0
/-- the shape that a node makes. -/
def Nd.shV (x : Nd) (H W C H2 W2 C2 : Int) : Array Value :=
  if x.kd = 1 then convS H W C x.K x.S x.P x.O x.nW x.nB else if x.kd = 2 then depthS H W C x.K x.S x.P x.nW x.nB else if x.kd = 3 then denseS H W C x.O x.nW x.nB else if x.kd = 4 ∨ x.kd = 5 then slideS H W C x.K x.S x.P C
  else if x.shE H W C H2 W2 C2 ≠ 0 then #[.int .i64 0, .int .i64 0, .int .i64 0] else if x.kd = 9 then #[.int .i64 1, .int .i64 1, .int .i64 (elemsZ H W C)] else if x.kd = 8 then #[.int .i64 (H + 2 * x.P), .int .i64 (W + 2 * x.P), .int .i64 C] else #[.int .i64 H, .int .i64 W, .int .i64 C]
theorem Nd.sh_three (x : Nd) (H W C H2 W2 C2 : Int) : ∃ u0 u1 u2, x.shV H W C H2 W2 C2 = #[.int .i64 u0, .int .i64 u1, .int .i64 u2] := by
  unfold Nd.shV convS depthS denseS slideS
  repeat' split
  all_goals exact ⟨_, _, _, rfl⟩
/-- what a call of Shape tells. -/
def ShapeIs (f : FuncId) (x : Nd) : Prop := ∀ (H W C H2 W2 C2 e u0 u1 u2 : Int) (_ : x.shE H W C H2 W2 C2 = e) (_ : x.shV H W C H2 W2 C2 = #[.int .i64 u0, .int .i64 u1, .int .i64 u2]) (w : World),
  Calls Tryd.prog f #[.agg x.val, .agg #[.int .i64 H, .int .i64 W, .int .i64 C], .agg #[.int .i64 H2, .int .i64 W2, .int .i64 C2]] w fun r w' => r = .returned (.tuple #[.agg #[.int .i64 u0, .int .i64 u1, .int .i64 u2], .int .i64 e]) ∧ Below w.heap.size w w'
theorem three_inj {a b c d e f : Int} (h : (#[.int .i64 a, .int .i64 b, .int .i64 c] : Array Value) = #[.int .i64 d, .int .i64 e, .int .i64 f]) : a = d ∧ b = e ∧ c = f := by simpa using h
set_option maxRecDepth 100000 in
set_option maxHeartbeats 8000000 in
theorem refShape_to (x : Nd) : ShapeIs 14 x := by
  intro H W C H2 W2 C2 e u0 u1 u2 he hv w
  obtain ⟨kd, na, nb, K, S, P, O, Z, Y, WA, nW, cW, BA, nB, cB, m1, s1, z1, m2, s2, z2, lo, hi⟩ := x
  unfold Nd.val
  by_cases h1 : kd < 1
  · have e6 : (⟨kd, na, nb, K, S, P, O, Z, Y, WA, nW, cW, BA, nB, cB, m1, s1, z1, m2, s2, z2, lo, hi⟩ : Nd).shE H W C H2 W2 C2 = 6 := by
      simp only [Nd.shE, show ¬ kd = 1 by omega, show ¬ kd = 2 by omega, show ¬ kd = 3 by omega, show ¬ kd = 4 by omega, show ¬ kd = 5 by omega, h1, if_false, false_or, true_or, if_true]
    unfold Nd.shV at hv
    rw [e6] at he hv
    subst he
    simp only [show ¬ kd = 1 by omega, show ¬ kd = 2 by omega, show ¬ kd = 3 by omega, show ¬ kd = 4 by omega, show ¬ kd = 5 by omega, if_false, false_or] at hv
    obtain ⟨rfl, rfl, rfl⟩ := three_inj hv
    exact rks_lo H W C H2 W2 C2 na nb K S P O Z Y WA nW cW BA nB cB m1 s1 z1 m2 s2 z2 lo hi kd h1 w
  by_cases h9 : 9 < kd
  · have e6 : (⟨kd, na, nb, K, S, P, O, Z, Y, WA, nW, cW, BA, nB, cB, m1, s1, z1, m2, s2, z2, lo, hi⟩ : Nd).shE H W C H2 W2 C2 = 6 := by
      simp only [Nd.shE, show ¬ kd = 1 by omega, show ¬ kd = 2 by omega, show ¬ kd = 3 by omega, show ¬ kd = 4 by omega, show ¬ kd = 5 by omega, h9, if_false, false_or, or_true, if_true]
    unfold Nd.shV at hv
    rw [e6] at he hv
    subst he
    simp only [show ¬ kd = 1 by omega, show ¬ kd = 2 by omega, show ¬ kd = 3 by omega, show ¬ kd = 4 by omega, show ¬ kd = 5 by omega, if_false, false_or] at hv
    obtain ⟨rfl, rfl, rfl⟩ := three_inj hv
    exact rks_hi H W C H2 W2 C2 na nb K S P O Z Y WA nW cW BA nB cB m1 s1 z1 m2 s2 z2 lo hi kd h9 w
  have hk : kd = 1 ∨ kd = 2 ∨ kd = 3 ∨ kd = 4 ∨ kd = 5 ∨ kd = 6 ∨ kd = 7 ∨ kd = 8 ∨ kd = 9 := by omega
  clear h1 h9
  rcases hk with rfl | rfl | rfl | rfl | rfl | rfl | rfl | rfl | rfl
  · exact rks1 H W C H2 W2 C2 na nb K S P O Z Y WA nW cW BA nB cB m1 s1 z1 m2 s2 z2 lo hi e u0 u1 u2 he hv w
  · exact rks2 H W C H2 W2 C2 na nb K S P O Z Y WA nW cW BA nB cB m1 s1 z1 m2 s2 z2 lo hi e u0 u1 u2 he hv w
  · exact rks3 H W C H2 W2 C2 na nb K S P O Z Y WA nW cW BA nB cB m1 s1 z1 m2 s2 z2 lo hi e u0 u1 u2 he hv w
  · exact rks4 H W C H2 W2 C2 na nb K S P O Z Y WA nW cW BA nB cB m1 s1 z1 m2 s2 z2 lo hi e u0 u1 u2 he hv w
  · exact rks5 H W C H2 W2 C2 na nb K S P O Z Y WA nW cW BA nB cB m1 s1 z1 m2 s2 z2 lo hi e u0 u1 u2 he hv w
  · cases hs : shapeB H W C
    · have ez : (⟨6, na, nb, K, S, P, O, Z, Y, WA, nW, cW, BA, nB, cB, m1, s1, z1, m2, s2, z2, lo, hi⟩ : Nd).shE H W C H2 W2 C2 = 5 := by simp [Nd.shE, hs]
      unfold Nd.shV at hv
      rw [ez] at he hv
      subst he
      simp only [show ¬ (6 : Int) = 1 by omega, show ¬ (6 : Int) = 2 by omega, show ¬ (6 : Int) = 3 by omega, show ¬ (6 : Int) = 4 by omega, show ¬ (6 : Int) = 5 by omega, ne_eq, not_true_eq_false, not_false_eq_true, if_false, if_true, false_or, or_false, show ¬ (0 : Int) ≠ 0 by omega, show (2 : Int) ≠ 0 by omega, show (5 : Int) ≠ 0 by omega, show ¬ (6 : Int) = 8 by omega, show ¬ (6 : Int) = 9 by omega] at hv
      obtain ⟨rfl, rfl, rfl⟩ := three_inj hv
      exact rks6_no H W C H2 W2 C2 na nb K S P O Z Y WA nW cW BA nB cB m1 s1 z1 m2 s2 z2 lo hi hs w
    · cases hd : (H == H2 && (W == W2 && C == C2))
      · have ez : (⟨6, na, nb, K, S, P, O, Z, Y, WA, nW, cW, BA, nB, cB, m1, s1, z1, m2, s2, z2, lo, hi⟩ : Nd).shE H W C H2 W2 C2 = 5 := by simp [Nd.shE, hs, hd]
        unfold Nd.shV at hv
        rw [ez] at he hv
        subst he
        simp only [show ¬ (6 : Int) = 1 by omega, show ¬ (6 : Int) = 2 by omega, show ¬ (6 : Int) = 3 by omega, show ¬ (6 : Int) = 4 by omega, show ¬ (6 : Int) = 5 by omega, ne_eq, not_true_eq_false, not_false_eq_true, if_false, if_true, false_or, or_false, show ¬ (0 : Int) ≠ 0 by omega, show (2 : Int) ≠ 0 by omega, show (5 : Int) ≠ 0 by omega, show ¬ (6 : Int) = 8 by omega, show ¬ (6 : Int) = 9 by omega] at hv
        obtain ⟨rfl, rfl, rfl⟩ := three_inj hv
        exact rks6_ne H W C H2 W2 C2 na nb K S P O Z Y WA nW cW BA nB cB m1 s1 z1 m2 s2 z2 lo hi hs hd w
      · have ez : (⟨6, na, nb, K, S, P, O, Z, Y, WA, nW, cW, BA, nB, cB, m1, s1, z1, m2, s2, z2, lo, hi⟩ : Nd).shE H W C H2 W2 C2 = 0 := by simp [Nd.shE, hs, hd]
        unfold Nd.shV at hv
        rw [ez] at he hv
        subst he
        simp only [show ¬ (6 : Int) = 1 by omega, show ¬ (6 : Int) = 2 by omega, show ¬ (6 : Int) = 3 by omega, show ¬ (6 : Int) = 4 by omega, show ¬ (6 : Int) = 5 by omega, ne_eq, not_true_eq_false, not_false_eq_true, if_false, if_true, false_or, or_false, show ¬ (0 : Int) ≠ 0 by omega, show (2 : Int) ≠ 0 by omega, show (5 : Int) ≠ 0 by omega, show ¬ (6 : Int) = 8 by omega, show ¬ (6 : Int) = 9 by omega] at hv
        obtain ⟨rfl, rfl, rfl⟩ := three_inj hv
        exact rks6_eq H W C H2 W2 C2 na nb K S P O Z Y WA nW cW BA nB cB m1 s1 z1 m2 s2 z2 lo hi hs hd w
  · cases hs : shapeB H W C
    · have ez : (⟨7, na, nb, K, S, P, O, Z, Y, WA, nW, cW, BA, nB, cB, m1, s1, z1, m2, s2, z2, lo, hi⟩ : Nd).shE H W C H2 W2 C2 = 5 := by simp [Nd.shE, hs]
      unfold Nd.shV at hv
      rw [ez] at he hv
      subst he
      simp only [show ¬ (7 : Int) = 1 by omega, show ¬ (7 : Int) = 2 by omega, show ¬ (7 : Int) = 3 by omega, show ¬ (7 : Int) = 4 by omega, show ¬ (7 : Int) = 5 by omega, ne_eq, not_true_eq_false, not_false_eq_true, if_false, if_true, false_or, or_false, show ¬ (0 : Int) ≠ 0 by omega, show (2 : Int) ≠ 0 by omega, show (5 : Int) ≠ 0 by omega, show ¬ (7 : Int) = 8 by omega, show ¬ (7 : Int) = 9 by omega] at hv
      obtain ⟨rfl, rfl, rfl⟩ := three_inj hv
      exact rks7_no H W C H2 W2 C2 na nb K S P O Z Y WA nW cW BA nB cB m1 s1 z1 m2 s2 z2 lo hi hs w
    · have ez : (⟨7, na, nb, K, S, P, O, Z, Y, WA, nW, cW, BA, nB, cB, m1, s1, z1, m2, s2, z2, lo, hi⟩ : Nd).shE H W C H2 W2 C2 = 0 := by simp [Nd.shE, hs]
      unfold Nd.shV at hv
      rw [ez] at he hv
      subst he
      simp only [show ¬ (7 : Int) = 1 by omega, show ¬ (7 : Int) = 2 by omega, show ¬ (7 : Int) = 3 by omega, show ¬ (7 : Int) = 4 by omega, show ¬ (7 : Int) = 5 by omega, ne_eq, not_true_eq_false, not_false_eq_true, if_false, if_true, false_or, or_false, show ¬ (0 : Int) ≠ 0 by omega, show (2 : Int) ≠ 0 by omega, show (5 : Int) ≠ 0 by omega, show ¬ (7 : Int) = 8 by omega, show ¬ (7 : Int) = 9 by omega] at hv
      obtain ⟨rfl, rfl, rfl⟩ := three_inj hv
      exact rks7_yes H W C H2 W2 C2 na nb K S P O Z Y WA nW cW BA nB cB m1 s1 z1 m2 s2 z2 lo hi hs w
  · cases hs : shapeB H W C
    · have ez : (⟨8, na, nb, K, S, P, O, Z, Y, WA, nW, cW, BA, nB, cB, m1, s1, z1, m2, s2, z2, lo, hi⟩ : Nd).shE H W C H2 W2 C2 = 5 := by simp [Nd.shE, hs]
      unfold Nd.shV at hv
      rw [ez] at he hv
      subst he
      simp only [show ¬ (8 : Int) = 1 by omega, show ¬ (8 : Int) = 2 by omega, show ¬ (8 : Int) = 3 by omega, show ¬ (8 : Int) = 4 by omega, show ¬ (8 : Int) = 5 by omega, ne_eq, not_true_eq_false, not_false_eq_true, if_false, if_true, false_or, or_false, show ¬ (0 : Int) ≠ 0 by omega, show (2 : Int) ≠ 0 by omega, show (5 : Int) ≠ 0 by omega, show ¬ (8 : Int) = 9 by omega] at hv
      obtain ⟨rfl, rfl, rfl⟩ := three_inj hv
      exact rks8_no H W C H2 W2 C2 na nb K S P O Z Y WA nW cW BA nB cB m1 s1 z1 m2 s2 z2 lo hi hs w
    · by_cases p1 : P < 0
      · have ez : (⟨8, na, nb, K, S, P, O, Z, Y, WA, nW, cW, BA, nB, cB, m1, s1, z1, m2, s2, z2, lo, hi⟩ : Nd).shE H W C H2 W2 C2 = 2 := by simp [Nd.shE, hs, p1]
        unfold Nd.shV at hv
        rw [ez] at he hv
        subst he
        simp only [show ¬ (8 : Int) = 1 by omega, show ¬ (8 : Int) = 2 by omega, show ¬ (8 : Int) = 3 by omega, show ¬ (8 : Int) = 4 by omega, show ¬ (8 : Int) = 5 by omega, ne_eq, not_true_eq_false, not_false_eq_true, if_false, if_true, false_or, or_false, show ¬ (0 : Int) ≠ 0 by omega, show (2 : Int) ≠ 0 by omega, show (5 : Int) ≠ 0 by omega, show ¬ (8 : Int) = 9 by omega] at hv
        obtain ⟨rfl, rfl, rfl⟩ := three_inj hv
        exact rks8_lo H W C H2 W2 C2 na nb K S P O Z Y WA nW cW BA nB cB m1 s1 z1 m2 s2 z2 lo hi hs p1 w
      by_cases p2 : 4 < P
      · have ez : (⟨8, na, nb, K, S, P, O, Z, Y, WA, nW, cW, BA, nB, cB, m1, s1, z1, m2, s2, z2, lo, hi⟩ : Nd).shE H W C H2 W2 C2 = 2 := by simp [Nd.shE, hs, p2]
        unfold Nd.shV at hv
        rw [ez] at he hv
        subst he
        simp only [show ¬ (8 : Int) = 1 by omega, show ¬ (8 : Int) = 2 by omega, show ¬ (8 : Int) = 3 by omega, show ¬ (8 : Int) = 4 by omega, show ¬ (8 : Int) = 5 by omega, ne_eq, not_true_eq_false, not_false_eq_true, if_false, if_true, false_or, or_false, show ¬ (0 : Int) ≠ 0 by omega, show (2 : Int) ≠ 0 by omega, show (5 : Int) ≠ 0 by omega, show ¬ (8 : Int) = 9 by omega] at hv
        obtain ⟨rfl, rfl, rfl⟩ := three_inj hv
        exact rks8_hi H W C H2 W2 C2 na nb K S P O Z Y WA nW cW BA nB cB m1 s1 z1 m2 s2 z2 lo hi hs p2 w
      cases ht : shapeB (H + 2 * P) (W + 2 * P) C
      · have ez : (⟨8, na, nb, K, S, P, O, Z, Y, WA, nW, cW, BA, nB, cB, m1, s1, z1, m2, s2, z2, lo, hi⟩ : Nd).shE H W C H2 W2 C2 = 5 := by simp [Nd.shE, hs, p1, p2, ht]
        unfold Nd.shV at hv
        rw [ez] at he hv
        subst he
        simp only [show ¬ (8 : Int) = 1 by omega, show ¬ (8 : Int) = 2 by omega, show ¬ (8 : Int) = 3 by omega, show ¬ (8 : Int) = 4 by omega, show ¬ (8 : Int) = 5 by omega, ne_eq, not_true_eq_false, not_false_eq_true, if_false, if_true, false_or, or_false, show ¬ (0 : Int) ≠ 0 by omega, show (2 : Int) ≠ 0 by omega, show (5 : Int) ≠ 0 by omega, show ¬ (8 : Int) = 9 by omega] at hv
        obtain ⟨rfl, rfl, rfl⟩ := three_inj hv
        exact rks8_bad H W C H2 W2 C2 na nb K S P O Z Y WA nW cW BA nB cB m1 s1 z1 m2 s2 z2 lo hi hs (by omega) (by omega) ht w
      · have ez : (⟨8, na, nb, K, S, P, O, Z, Y, WA, nW, cW, BA, nB, cB, m1, s1, z1, m2, s2, z2, lo, hi⟩ : Nd).shE H W C H2 W2 C2 = 0 := by simp [Nd.shE, hs, p1, p2, ht]
        unfold Nd.shV at hv
        rw [ez] at he hv
        subst he
        simp only [show ¬ (8 : Int) = 1 by omega, show ¬ (8 : Int) = 2 by omega, show ¬ (8 : Int) = 3 by omega, show ¬ (8 : Int) = 4 by omega, show ¬ (8 : Int) = 5 by omega, ne_eq, not_true_eq_false, not_false_eq_true, if_false, if_true, false_or, or_false, show ¬ (0 : Int) ≠ 0 by omega, show (2 : Int) ≠ 0 by omega, show (5 : Int) ≠ 0 by omega, show ¬ (8 : Int) = 9 by omega] at hv
        obtain ⟨rfl, rfl, rfl⟩ := three_inj hv
        exact rks8_ok H W C H2 W2 C2 na nb K S P O Z Y WA nW cW BA nB cB m1 s1 z1 m2 s2 z2 lo hi hs (by omega) (by omega) ht w
  · cases hs : shapeB H W C
    · have ez : (⟨9, na, nb, K, S, P, O, Z, Y, WA, nW, cW, BA, nB, cB, m1, s1, z1, m2, s2, z2, lo, hi⟩ : Nd).shE H W C H2 W2 C2 = 5 := by simp [Nd.shE, hs]
      unfold Nd.shV at hv
      rw [ez] at he hv
      subst he
      simp only [show ¬ (9 : Int) = 1 by omega, show ¬ (9 : Int) = 2 by omega, show ¬ (9 : Int) = 3 by omega, show ¬ (9 : Int) = 4 by omega, show ¬ (9 : Int) = 5 by omega, ne_eq, not_true_eq_false, not_false_eq_true, if_false, if_true, false_or, or_false, show ¬ (0 : Int) ≠ 0 by omega, show (2 : Int) ≠ 0 by omega, show (5 : Int) ≠ 0 by omega, show ¬ (9 : Int) = 8 by omega] at hv
      obtain ⟨rfl, rfl, rfl⟩ := three_inj hv
      exact rks9_no H W C H2 W2 C2 na nb K S P O Z Y WA nW cW BA nB cB m1 s1 z1 m2 s2 z2 lo hi hs w
    · have ez : (⟨9, na, nb, K, S, P, O, Z, Y, WA, nW, cW, BA, nB, cB, m1, s1, z1, m2, s2, z2, lo, hi⟩ : Nd).shE H W C H2 W2 C2 = 0 := by simp [Nd.shE, hs]
      unfold Nd.shV at hv
      rw [ez] at he hv
      subst he
      simp only [show ¬ (9 : Int) = 1 by omega, show ¬ (9 : Int) = 2 by omega, show ¬ (9 : Int) = 3 by omega, show ¬ (9 : Int) = 4 by omega, show ¬ (9 : Int) = 5 by omega, ne_eq, not_true_eq_false, not_false_eq_true, if_false, if_true, false_or, or_false, show ¬ (0 : Int) ≠ 0 by omega, show (2 : Int) ≠ 0 by omega, show (5 : Int) ≠ 0 by omega, show ¬ (9 : Int) = 8 by omega] at hv
      obtain ⟨rfl, rfl, rfl⟩ := three_inj hv
      exact rks9_yes H W C H2 W2 C2 na nb K S P O Z Y WA nW cW BA nB cB m1 s1 z1 m2 s2 z2 lo hi _ hs rfl w
end Go.Proofs.YtamcdpkakdiggaaDoor.CKind
end
section
namespace Go.Proofs.YtamcdpkakdiggaaDoor.CKind
open Go Go.ChangeShapes Go.WideShapes Go.ChangeAt Go.RowKit Go.Deep
open Plain CSat CShape CTensor CConv CDense CDepth
set_option linter.unusedVariables false
set_option linter.unusedSimpArgs false
theorem valid_to (H W C e u0 u1 u2 : Int) (b : Bool) (hb : shapeB H W C = b) (he : (if b = true then (0 : Int) else 5) = e) (hv : (if b = true then (#[.int .i64 H, .int .i64 W, .int .i64 C] : Array Value) else #[.int .i64 0, .int .i64 0, .int .i64 0]) = #[.int .i64 u0, .int .i64 u1, .int .i64 u2]) (w : World) :
    Calls Tryd.prog 29 #[.agg #[.int .i64 H, .int .i64 W, .int .i64 C]] w fun r w' => r = .returned (.tuple #[.agg #[.int .i64 u0, .int .i64 u1, .int .i64 u2], .int .i64 e]) ∧ Below w.heap.size w w' := by
  have HR := Lib.hid (right_to H W C b hb)
  have HB : Hid (Below w.heap.size w ((w.alloc (.cells #[.int .i64 H, .int .i64 W, .int .i64 C] 31)).alloc (.cells #[.int .i64 0, .int .i64 0, .int .i64 0] 31))) := Lib.hid (((Below.refl _ _).alloc (by first | exact Nat.le_refl _ | (simp; done) | (simp; omega) | omega) _).alloc (by first | exact Nat.le_refl _ | (simp; done) | (simp; omega) | omega) _)
  clear hb
  cases b
  all_goals
    simp only [if_true, if_false, Bool.false_eq_true] at he hv
    obtain ⟨rfl, rfl, rfl⟩ := three_inj hv
    subst he
    clear hv
    go_enter Tryd.func29, Tryd.ntmps29
    go_wp2_with (go_at_call 43; (with_reducible refine (HR.out _).mono ?_); rintro e1 w1 ⟨rfl, hb⟩; obtain ⟨hcc, hff⟩ := Kit.bcell hb; have hz1 : w.heap.size + 1 < w1.heap.size := (by have := hb.size; simp at this; omega); (replace HB := Lib.hid (HB.out.trans (hb.mono HB.out.size))); clear hb)
  · refine bodyPost_ret (Kit.results_ct rfl _ _ (w.heap.size + 1) 0 [.int .i64 0, .int .i64 0, .int .i64 0] _ rfl (Kit.range_3 (by go_cell) (by go_cell) (by go_cell)) Tryd.underlying31 rfl (by kernel_rfl)) rfl ?_
    exact ⟨rfl, ((HB.out.setCell (p := ⟨w.heap.size + 1, 0, none⟩) (Nat.le_succ _) _).setCell (p := ⟨w.heap.size + 1, 1, none⟩) (Nat.le_succ _) _).setCell (p := ⟨w.heap.size + 1, 2, none⟩) (Nat.le_succ _) _⟩
  · refine bodyPost_ret (Kit.results_ct rfl _ _ (w.heap.size + 1) 0 [.int .i64 H, .int .i64 W, .int .i64 C] _ rfl (Kit.range_3 (by go_cell) (by go_cell) (by go_cell)) Tryd.underlying31 rfl (by kernel_rfl)) rfl ?_
    exact ⟨rfl, ((HB.out.setCell (p := ⟨w.heap.size + 1, 0, none⟩) (Nat.le_succ _) _).setCell (p := ⟨w.heap.size + 1, 1, none⟩) (Nat.le_succ _) _).setCell (p := ⟨w.heap.size + 1, 2, none⟩) (Nat.le_succ _) _⟩
theorem shape_in {H W C : Int} (h : shapeB H W C = true) : 1 ≤ H ∧ H ≤ 16 ∧ 1 ≤ W ∧ W ≤ 16 := by
  obtain ⟨a1, a2, a3, a4, _, _, _⟩ := shapeB_yes h
  exact ⟨a1, a2, a3, a4⟩
set_option maxRecDepth 100000 in
theorem widened_to (H W C P e u0 u1 u2 : Int) (he : (if shapeB H W C = false then (5 : Int) else if P < 0 ∨ 4 < P then 2 else if shapeB (H + 2 * P) (W + 2 * P) C = false then 5 else 0) = e) (hv : (if e ≠ 0 then (#[.int .i64 0, .int .i64 0, .int .i64 0] : Array Value) else #[.int .i64 (H + 2 * P), .int .i64 (W + 2 * P), .int .i64 C]) = #[.int .i64 u0, .int .i64 u1, .int .i64 u2]) (w : World) :
    Calls Tryd.prog 30 #[.agg #[.int .i64 H, .int .i64 W, .int .i64 C], .int .i64 P] w fun r w' => r = .returned (.tuple #[.agg #[.int .i64 u0, .int .i64 u1, .int .i64 u2], .int .i64 e]) ∧ Below w.heap.size w w' := by
  have HB : Hid (Below w.heap.size w ((w.alloc (.cells #[.int .i64 H, .int .i64 W, .int .i64 C] 31)).alloc (.cells #[.int .i64 0, .int .i64 0, .int .i64 0] 31))) := Lib.hid (((Below.refl _ _).alloc (by first | exact Nat.le_refl _ | (simp; done) | (simp; omega) | omega) _).alloc (by first | exact Nat.le_refl _ | (simp; done) | (simp; omega) | omega) _)
  cases hs : shapeB H W C
  · have HR := Lib.hid (right_to H W C false hs)
    rw [if_pos hs] at he
    subst he
    rw [if_pos (by decide)] at hv
    obtain ⟨rfl, rfl, rfl⟩ := three_inj hv
    clear hv hs
    go_enter Tryd.func30, Tryd.ntmps30
    go_wp2_with (go_at_call 43; (with_reducible refine (HR.out _).mono ?_); rintro e1 w1 ⟨rfl, hb⟩; obtain ⟨hcc, hff⟩ := Kit.bcell hb; have hz1 : w.heap.size + 1 < w1.heap.size := (by have := hb.size; simp at this; omega); (replace HB := Lib.hid (HB.out.trans (hb.mono HB.out.size))); clear hb)
    refine bodyPost_ret (Kit.results_ct rfl _ _ (w.heap.size + 1) 0 [.int .i64 0, .int .i64 0, .int .i64 0] _ rfl (Kit.range_3 (by go_cell) (by go_cell) (by go_cell)) Tryd.underlying31 rfl (by kernel_rfl)) rfl ?_
    exact ⟨rfl, ((HB.out.setCell (p := ⟨w.heap.size + 1, 0, none⟩) (Nat.le_succ _) _).setCell (p := ⟨w.heap.size + 1, 1, none⟩) (Nat.le_succ _) _).setCell (p := ⟨w.heap.size + 1, 2, none⟩) (Nat.le_succ _) _⟩
  · have HR := Lib.hid (right_to H W C true hs)
    obtain ⟨a1, a2, a3, a4⟩ := shape_in hs
    rw [if_neg (by simp [hs])] at he
    clear hs
    by_cases hp : P < 0 ∨ 4 < P
    · rw [if_pos hp] at he
      subst he
      rw [if_pos (by decide)] at hv
      obtain ⟨rfl, rfl, rfl⟩ := three_inj hv
      clear hv a1 a2 a3 a4
      rcases (show P < 0 ∨ (¬ P < 0 ∧ 4 < P) by omega) with hq | ⟨hq, hq2⟩
      all_goals
        clear hp
        go_enter Tryd.func30, Tryd.ntmps30
        go_wp2_with (go_at_call 43; (with_reducible refine (HR.out _).mono ?_); rintro e1 w1 ⟨rfl, hb⟩; obtain ⟨hcc, hff⟩ := Kit.bcell hb; have hz1 : w.heap.size + 1 < w1.heap.size := (by have := hb.size; simp at this; omega); (replace HB := Lib.hid (HB.out.trans (hb.mono HB.out.size))); clear hb)
        refine bodyPost_ret (Kit.results_ct rfl _ _ (w.heap.size + 1) 0 [.int .i64 0, .int .i64 0, .int .i64 0] _ rfl (Kit.range_3 (by go_cell) (by go_cell) (by go_cell)) Tryd.underlying31 rfl (by kernel_rfl)) rfl ?_
        exact ⟨rfl, ((HB.out.setCell (p := ⟨w.heap.size + 1, 0, none⟩) (Nat.le_succ _) _).setCell (p := ⟨w.heap.size + 1, 1, none⟩) (Nat.le_succ _) _).setCell (p := ⟨w.heap.size + 1, 2, none⟩) (Nat.le_succ _) _⟩
    · rw [if_neg hp] at he
      have p1 : ¬ P < 0 := by omega
      have p2 : ¬ 4 < P := by omega
      have i1 : IntKind.i64.wrap (2 * P) = 2 * P := IntWalk.i64_in _ (by omega)
      have i2 : IntKind.i64.wrap (H + 2 * P) = H + 2 * P := IntWalk.i64_in _ (by omega)
      have i3 : IntKind.i64.wrap (W + 2 * P) = W + 2 * P := IntWalk.i64_in _ (by omega)
      clear hp a1 a2 a3 a4
      have hva : (if shapeB (H + 2 * P) (W + 2 * P) C = true then (0 : Int) else 5) = e := by
        rw [← he]; cases shapeB (H + 2 * P) (W + 2 * P) C <;> rfl
      have hvv : (if shapeB (H + 2 * P) (W + 2 * P) C = true then (#[.int .i64 (H + 2 * P), .int .i64 (W + 2 * P), .int .i64 C] : Array Value) else #[.int .i64 0, .int .i64 0, .int .i64 0]) = #[.int .i64 u0, .int .i64 u1, .int .i64 u2] := by
        rw [← hv, ← he]; cases shapeB (H + 2 * P) (W + 2 * P) C <;> simp
      have HV := Lib.hid (valid_to (H + 2 * P) (W + 2 * P) C e u0 u1 u2 _ rfl hva hvv)
      clear he hv hva hvv
      go_enter Tryd.func30, Tryd.ntmps30
      go_wp2_with (first
        | (go_at_call 43; (with_reducible refine (HR.out _).mono ?_); rintro e1 w1 ⟨rfl, hb⟩; obtain ⟨hcc, hff⟩ := Kit.bcell hb; have hz1 : w.heap.size + 1 < w1.heap.size := (by have := hb.size; simp at this; omega); (replace HB := Lib.hid (HB.out.trans (hb.mono HB.out.size))); clear hb)
        | (go_at_call 29; (with_reducible refine (HV.out _).mono ?_); rintro e1 w2 ⟨rfl, hb⟩; obtain ⟨hcd, hfd⟩ := Kit.bcell hb; have hz2 : w.heap.size + 1 < w2.heap.size := (Nat.lt_of_lt_of_le hz1 hb.size); (replace HB := Lib.hid (HB.out.trans (hb.mono HB.out.size))); clear hb))
      refine bodyPost_ret (Kit.results_ct rfl _ _ (w.heap.size + 1) 0 [.int .i64 u0, .int .i64 u1, .int .i64 u2] _ rfl (Kit.range_3 (by go_cell) (by go_cell) (by go_cell)) Tryd.underlying31 rfl (by kernel_rfl)) rfl ?_
      exact ⟨rfl, ((HB.out.setCell (p := ⟨w.heap.size + 1, 0, none⟩) (Nat.le_succ _) _).setCell (p := ⟨w.heap.size + 1, 1, none⟩) (Nat.le_succ _) _).setCell (p := ⟨w.heap.size + 1, 2, none⟩) (Nat.le_succ _) _⟩
end Go.Proofs.YtamcdpkakdiggaaDoor.CKind
end
