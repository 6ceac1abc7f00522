/- Texts of this seat, one behind the other: ShapeRef, ShapeRefTwo, Tensor, TensorTwo, ConvShape, ConvWin, KindNd. -/
import Derived.OrdersHeld
import Derived.Deep.RegionHeld3
import Derived.Lib.SliceRun
import Derived.Laws.StructEq
import Derived.IntWalk
import Derived.BigQuiet
import Derived.Handy
import Derived.Deep.CutRange
import Derived.Test.YtamcdpkakdiggaaDoorGK1
section
namespace Go.Proofs.YtamcdpkakdiggaaDoor.CShape
open Go Go.ChangeShapes Go.WideShapes Go.ChangeAt Go.RowKit
open Plain CSat
set_option linter.unusedVariables false
theorem refElems_yes (h w c n : Int) (h1 : 1 ≤ h) (h2 : h ≤ 16) (h3 : 1 ≤ w) (h4 : w ≤ 16) (h5 : 1 ≤ c) (h6 : c ≤ 1024) (hn : h * w * c = n) (hn1 : n ≤ 1024) (W : World) :
    Calls Tryd.prog 36 #[.agg #[.int .i64 h, .int .i64 w, .int .i64 c]] W fun e w' => e = .returned (.int .i64 n) ∧ Below W.heap.size W w' := by
  have hb := prod_bd h1 h2 h3 h4 h5 h6
  obtain ⟨b1, b2⟩ := hb
  have a1 : 1 ≤ h * w := Int.mul_le_mul h1 h3 (by omega) (by omega)
  have a2 : h * w ≤ 256 := Int.mul_le_mul h2 h4 (by omega) (by omega)
  subst hn
  go_enter Tryd.func36, Tryd.ntmps36
  go_wp2
  go_ret
  exact ⟨rfl, (Below.refl _ _).alloc (Nat.le_refl _) _⟩
theorem refElems_many (h w c n : Int) (h1 : 1 ≤ h) (h2 : h ≤ 16) (h3 : 1 ≤ w) (h4 : w ≤ 16) (h5 : 1 ≤ c) (h6 : c ≤ 1024) (hn : h * w * c = n) (hn1 : 1024 < n) (W : World) :
    Calls Tryd.prog 36 #[.agg #[.int .i64 h, .int .i64 w, .int .i64 c]] W fun e w' => e = .returned (.int .i64 0) ∧ Below W.heap.size W w' := by
  have hb := prod_bd h1 h2 h3 h4 h5 h6
  obtain ⟨b1, b2⟩ := hb
  have a1 : 1 ≤ h * w := Int.mul_le_mul h1 h3 (by omega) (by omega)
  have a2 : h * w ≤ 256 := Int.mul_le_mul h2 h4 (by omega) (by omega)
  subst hn
  go_enter Tryd.func36, Tryd.ntmps36
  go_wp2
  go_ret
  exact ⟨rfl, (Below.refl _ _).alloc (Nat.le_refl _) _⟩
theorem refElems_out (h w c : Int) (hw : h < 1 ∨ (1 ≤ h ∧ 16 < h) ∨ (1 ≤ h ∧ h ≤ 16 ∧ w < 1) ∨ (1 ≤ h ∧ h ≤ 16 ∧ 1 ≤ w ∧ 16 < w) ∨ (1 ≤ h ∧ h ≤ 16 ∧ 1 ≤ w ∧ w ≤ 16 ∧ c < 1) ∨ (1 ≤ h ∧ h ≤ 16 ∧ 1 ≤ w ∧ w ≤ 16 ∧ 1 ≤ c ∧ 1024 < c)) (W : World) :
    Calls Tryd.prog 36 #[.agg #[.int .i64 h, .int .i64 w, .int .i64 c]] W fun e w' => e = .returned (.int .i64 0) ∧ Below W.heap.size W w' := by
  rcases hw with h1 | ⟨h1, h2⟩ | ⟨h1, h2, h3⟩ | ⟨h1, h2, h3, h4⟩ | ⟨h1, h2, h3, h4, h5⟩ | ⟨h1, h2, h3, h4, h5, h6⟩
  all_goals
    go_enter Tryd.func36, Tryd.ntmps36
    go_wp2
    go_ret
    exact ⟨rfl, (Below.refl _ _).alloc (Nat.le_refl _) _⟩
theorem refElems_to (h w c n : Int) (hn : elemsZ h w c = n) (W : World) :
    Calls Tryd.prog 36 #[.agg #[.int .i64 h, .int .i64 w, .int .i64 c]] W fun e w' => e = .returned (.int .i64 n) ∧ Below W.heap.size W w' := by
  cases hs : shapeB h w c
  · rw [elemsZ_no hs] at hn
    subst hn
    by_cases hi : 1 ≤ h ∧ h ≤ 16 ∧ 1 ≤ w ∧ w ≤ 16 ∧ 1 ≤ c ∧ c ≤ 1024
    · obtain ⟨a1, a2, a3, a4, a5, a6⟩ := hi
      exact refElems_many h w c _ a1 a2 a3 a4 a5 a6 rfl (by simp [shapeB] at hs; omega) W
    · exact refElems_out h w c (by omega) W
  · obtain ⟨a1, a2, a3, a4, a5, a6, a7⟩ := shapeB_yes hs
    rw [elemsZ_yes hs] at hn
    exact refElems_yes h w c n a1 a2 a3 a4 a5 a6 hn (hn ▸ a7) W
theorem elemsZ_some {h w c : Int} (hs : shapeB h w c = true) : ∃ n, elemsZ h w c = n ∧ 1 ≤ n ∧ n ≤ 1024 := by
  refine ⟨_, rfl, ?_, (elemsZ_bd h w c).2⟩
  have := elemsZ_pos h w c
  rw [hs] at this
  simp at this; omega
set_option maxHeartbeats 2000000 in
theorem refSteps_arg (n k s p : Int) (h : argsB n k s p = false) (w : World) :
    Calls Tryd.prog 47 #[.int .i64 n, .int .i64 k, .int .i64 s, .int .i64 p] w fun e w' => e = .returned (.tuple #[.int .i64 0, .int .i64 2]) ∧ w = w' := by
  have h0 : n < 1 ∨ (1 ≤ n ∧ 1024 < n) ∨ (1 ≤ n ∧ n ≤ 1024 ∧ k < 1) ∨ (1 ≤ n ∧ n ≤ 1024 ∧ 1 ≤ k ∧ 5 < k) ∨ (1 ≤ n ∧ n ≤ 1024 ∧ 1 ≤ k ∧ k ≤ 5 ∧ s < 1) ∨ (1 ≤ n ∧ n ≤ 1024 ∧ 1 ≤ k ∧ k ≤ 5 ∧ 1 ≤ s ∧ 4 < s) ∨
    (1 ≤ n ∧ n ≤ 1024 ∧ 1 ≤ k ∧ k ≤ 5 ∧ 1 ≤ s ∧ s ≤ 4 ∧ p < 0) ∨ (1 ≤ n ∧ n ≤ 1024 ∧ 1 ≤ k ∧ k ≤ 5 ∧ 1 ≤ s ∧ s ≤ 4 ∧ 0 ≤ p ∧ 4 < p) ∨ (1 ≤ n ∧ n ≤ 1024 ∧ 1 ≤ k ∧ k ≤ 5 ∧ 1 ≤ s ∧ s ≤ 4 ∧ 0 ≤ p ∧ p ≤ 4 ∧ k ≤ p) := by
    have := argsB_no h; omega
  clear h
  rcases h0 with h1 | ⟨h1, h2⟩ | ⟨h1, h2, h3⟩ | ⟨h1, h2, h3, h4⟩ | ⟨h1, h2, h3, h4, h5⟩ | ⟨h1, h2, h3, h4, h5, h6⟩ | ⟨h1, h2, h3, h4, h5, h6, h7⟩ | ⟨h1, h2, h3, h4, h5, h6, h7, h8⟩ | ⟨h1, h2, h3, h4, h5, h6, h7, h8, h9⟩
  all_goals
    go_enter Tryd.func47, Tryd.ntmps47
    go_wp2
    go_ret2
    exact ⟨rfl, rfl⟩
theorem refSteps_in (n k s p m e : Int) (h : argsB n k s p = true) (hm : (if n + 2 * p - k < 0 then 0 else (n + 2 * p - k) / s + 1) = m) (he : (if n + 2 * p - k < 0 then 5 else 0) = e) (w : World) :
    Calls Tryd.prog 47 #[.int .i64 n, .int .i64 k, .int .i64 s, .int .i64 p] w fun e' w' => e' = .returned (.tuple #[.int .i64 m, .int .i64 e]) ∧ w = w' := by
  obtain ⟨h1, h2, h3, h4, h5, h6, h7, h8, h9⟩ := argsB_yes h
  clear h
  have hs : s = 1 ∨ s = 2 ∨ s = 3 ∨ s = 4 := by omega
  have key : ∀ i : Int, 0 ≤ i → i ≤ m → (i < m ∧ i * s ≤ n + 2 * p - k ∨ i = m ∧ ¬ i * s ≤ n + 2 * p - k) := by
    intro i hi hl
    rcases hs with rfl | rfl | rfl | rfl <;> omega
  have key2 : m = 0 ∧ e = 5 ∨ 1 ≤ m ∧ ¬ m = 0 ∧ e = 0 := by
    rcases hs with rfl | rfl | rfl | rfl <;> omega
  have hm0 : 0 ≤ m := by omega
  have hm9 : m ≤ 2000 := by rcases hs with rfl | rfl | rfl | rfl <;> omega
  have KEY := Lib.hid key
  have KEY2 := Lib.hid key2
  clear hm he key key2 hs
  go_enter Tryd.func47, Tryd.ntmps47
  go_wp2
  go_loop [10, 11] (fun c t => ∃ (i a : Int), 0 ≤ i ∧ i ≤ m ∧ c = .int .i64 i ∧ t = .int .i64 a ∧ 0 ≤ a + p ∧ a ≤ 20000 ∧ Hid (a = -p + i * s)) (fun c _ => (m - intOf c).toNat)
  case atStart => exact ⟨0, -p, by omega, by omega, rfl, rfl, by omega, by omega, Lib.hid (by omega)⟩
  case round =>
    obtain ⟨i, a, hi0, him, rfl, rfl, ha1, ha2, ha⟩ := hrel
    rcases KEY.out i hi0 him with ⟨q1, q2⟩ | ⟨q1, q2⟩
    · have ht : a + k ≤ n + p := by have := ha.out; omega
      clear q2
      go_wp2
      go_round
      case rel => exact ⟨i + 1, a + s, by omega, by omega, by go_num, by go_num, by omega, by omega, Lib.hid (by have := ha.out; rw [Int.add_mul]; omega)⟩
      case measure => simp [intOf]; omega
    · have ht : ¬ (a + k ≤ n + p) := by have := ha.out; omega
      clear q2
      subst q1
      rcases KEY2.out with ⟨r1, r2⟩ | ⟨r1, r2, r3⟩
      · subst r1 r2
        go_wp2
        go_ret2
        exact ⟨rfl, rfl⟩
      · subst r3
        go_wp2
        go_ret2
        exact ⟨rfl, rfl⟩
theorem refSteps_to (n k s p m e : Int) (hm : stepsM n k s p = m) (he : stepsE n k s p = e) (w : World) :
    Calls Tryd.prog 47 #[.int .i64 n, .int .i64 k, .int .i64 s, .int .i64 p] w fun r w' => r = .returned (.tuple #[.int .i64 m, .int .i64 e]) ∧ w = w' := by
  unfold stepsM at hm
  unfold stepsE at he
  cases h : argsB n k s p
  · rw [if_neg (by simp [h])] at hm he
    subst hm he
    exact refSteps_arg n k s p h w
  · rw [if_pos h] at hm he
    exact refSteps_in n k s p m e h hm he w
end Go.Proofs.YtamcdpkakdiggaaDoor.CShape
end
section
namespace Go.Proofs.YtamcdpkakdiggaaDoor.CShape
open Go Go.ChangeShapes Go.WideShapes Go.ChangeAt Go.RowKit
open Plain CSat
set_option linter.unusedVariables false
theorem refSlide_wrong (H W C k s p o : Int) (hs : shapeB H W C = false) (wd : World) :
    Calls Tryd.prog 35 #[.agg #[.int .i64 H, .int .i64 W, .int .i64 C], .int .i64 k, .int .i64 s, .int .i64 p, .int .i64 o] wd fun e w' => e = .returned (.tuple #[.agg #[.int .i64 0, .int .i64 0, .int .i64 0], .int .i64 5]) ∧ Below wd.heap.size wd w' := by
  have HS := Lib.hid (elemsZ_no hs)
  clear hs
  go_enter Tryd.func35, Tryd.ntmps35
  go_wp2_with (go_at_call 36; refine (refElems_to _ _ _ 0 HS.out _).mono ?_; rintro e w1 ⟨rfl, hb⟩; obtain ⟨hc, hf⟩ := Kit.bcell hb)
  have hs1 : wd.heap.size + 1 < w1.heap.size := by have := hb.size; simp at this; omega
  have hB : Below wd.heap.size wd w1 := (((Below.refl _ _).alloc (Nat.le_refl _) _).alloc (by simp) _).trans (hb.mono (by simp; omega))
  refine bodyPost_ret (Kit.results_ct rfl _ _ (wd.heap.size + 1) 0 [.int .i64 0, .int .i64 0, .int .i64 0] _ rfl (Kit.range_3 (by go_cell) (by go_cell) (by go_cell)) Tryd.underlying31 rfl (by kernel_rfl)) rfl ?_
  exact ⟨rfl, by go_grown⟩
theorem refSlide_one (H W C k s p o m e1 : Int) (hs : shapeB H W C = true) (hm : stepsM H k s p = m) (he : stepsE H k s p = e1) (hn : e1 ≠ 0) (wd : World) :
    Calls Tryd.prog 35 #[.agg #[.int .i64 H, .int .i64 W, .int .i64 C], .int .i64 k, .int .i64 s, .int .i64 p, .int .i64 o] wd fun e w' => e = .returned (.tuple #[.agg #[.int .i64 0, .int .i64 0, .int .i64 0], .int .i64 e1]) ∧ Below wd.heap.size wd w' := by
  obtain ⟨n, hn0, hn1, hn2⟩ := elemsZ_some hs
  have HS := Lib.hid hn0
  have HM := Lib.hid hm
  have HE := Lib.hid he
  clear hs hn0 hm he
  go_enter Tryd.func35, Tryd.ntmps35
  go_wp2_with (first
    | (go_at_call 36; refine (refElems_to _ _ _ n HS.out _).mono ?_; rintro e w1 ⟨rfl, hb⟩; obtain ⟨hc, hf⟩ := Kit.bcell hb)
    | (go_at_call 47; refine (refSteps_to _ _ _ _ m e1 HM.out HE.out _).mono ?_; rintro e w' ⟨rfl, rfl⟩))
  have hs1 : wd.heap.size + 1 < w1.heap.size := by have := hb.size; simp at this; omega
  have hB : Below wd.heap.size wd w1 := (((Below.refl _ _).alloc (Nat.le_refl _) _).alloc (by simp) _).trans (hb.mono (by simp; omega))
  refine bodyPost_ret (Kit.results_ct rfl _ _ (wd.heap.size + 1) 0 [.int .i64 0, .int .i64 0, .int .i64 0] _ rfl (Kit.range_3 (by go_cell) (by go_cell) (by go_cell)) Tryd.underlying31 rfl (by kernel_rfl)) rfl ?_
  exact ⟨rfl, by go_grown⟩
theorem refSlide_two (H W C k s p o m m2 e2 : Int) (hs : shapeB H W C = true) (hm : stepsM H k s p = m) (he : stepsE H k s p = 0) (hm2 : stepsM W k s p = m2) (he2 : stepsE W k s p = e2) (hn : e2 ≠ 0) (wd : World) :
    Calls Tryd.prog 35 #[.agg #[.int .i64 H, .int .i64 W, .int .i64 C], .int .i64 k, .int .i64 s, .int .i64 p, .int .i64 o] wd fun e w' => e = .returned (.tuple #[.agg #[.int .i64 0, .int .i64 0, .int .i64 0], .int .i64 e2]) ∧ Below wd.heap.size wd w' := by
  obtain ⟨n, hn0, hn1, hn2⟩ := elemsZ_some hs
  have HS := Lib.hid hn0
  have HM := Lib.hid hm
  have HE := Lib.hid he
  have HM2 := Lib.hid hm2
  have HE2 := Lib.hid he2
  clear hs hn0 hm he hm2 he2
  go_enter Tryd.func35, Tryd.ntmps35
  go_wp2_with (first
    | (go_at_call 36; ((with_reducible refine (refElems_to H W C n HS.out _).mono ?_); rintro e w1 ⟨rfl, hb⟩; obtain ⟨hc, hf⟩ := Kit.bcell hb))
    | (go_at_call 47; ((with_reducible refine (refSteps_to H k s p m 0 HM.out HE.out _).mono ?_); rintro e w' ⟨rfl, rfl⟩))
    | (go_at_call 47; ((with_reducible refine (refSteps_to W k s p m2 e2 HM2.out HE2.out _).mono ?_); rintro e w' ⟨rfl, rfl⟩)))
  have hs1 : wd.heap.size + 1 < w1.heap.size := by have := hb.size; simp at this; omega
  have hB : Below wd.heap.size wd w1 := (((Below.refl _ _).alloc (Nat.le_refl _) _).alloc (by simp) _).trans (hb.mono (by simp; omega))
  refine bodyPost_ret (Kit.results_ct rfl _ _ (wd.heap.size + 1) 0 [.int .i64 0, .int .i64 0, .int .i64 0] _ rfl (Kit.range_3 (by go_cell) (by go_cell) (by go_cell)) Tryd.underlying31 rfl (by kernel_rfl)) rfl ?_
  exact ⟨rfl, by go_grown⟩
theorem refSlide_bad (H W C k s p o m m2 : Int) (hs : shapeB H W C = true) (hm : stepsM H k s p = m) (he : stepsE H k s p = 0) (hm2 : stepsM W k s p = m2) (he2 : stepsE W k s p = 0) (hr : shapeB m m2 o = false) (wd : World) :
    Calls Tryd.prog 35 #[.agg #[.int .i64 H, .int .i64 W, .int .i64 C], .int .i64 k, .int .i64 s, .int .i64 p, .int .i64 o] wd fun e w' => e = .returned (.tuple #[.agg #[.int .i64 0, .int .i64 0, .int .i64 0], .int .i64 5]) ∧ Below wd.heap.size wd w' := by
  obtain ⟨n, hn0, hn1, hn2⟩ := elemsZ_some hs
  have HS := Lib.hid hn0
  have HM := Lib.hid hm
  have HE := Lib.hid he
  have HM2 := Lib.hid hm2
  have HE2 := Lib.hid he2
  have HR := Lib.hid (elemsZ_no hr)
  clear hs hn0 hm he hm2 he2 hr
  go_enter Tryd.func35, Tryd.ntmps35
  go_wp2_with (first
    | (go_at_call 36; ((with_reducible refine (refElems_to H W C n HS.out _).mono ?_); rintro e w1 ⟨rfl, hb⟩; obtain ⟨hc, hf⟩ := Kit.bcell hb))
    | (go_at_call 47; ((with_reducible refine (refSteps_to H k s p m 0 HM.out HE.out _).mono ?_); rintro e w' ⟨rfl, rfl⟩))
    | (go_at_call 47; ((with_reducible refine (refSteps_to W k s p m2 0 HM2.out HE2.out _).mono ?_); rintro e w' ⟨rfl, rfl⟩))
    | (go_at_call 36; ((with_reducible refine (refElems_to m m2 o 0 HR.out _).mono ?_); (rintro e w2 ⟨rfl, hb2⟩; have hs1 : wd.heap.size + 1 < w1.heap.size := (by have := hb.size; simp at this; omega); have d0 : w2.cell? ⟨wd.heap.size + 1, 0, none⟩ = some (.int .i64 0) := (hb2.cell (p := ⟨wd.heap.size + 1, 0, none⟩) (by simp; omega)).trans (by go_cell); have d1 : w2.cell? ⟨wd.heap.size + 1, 1, none⟩ = some (.int .i64 0) := (hb2.cell (p := ⟨wd.heap.size + 1, 1, none⟩) (by simp; omega)).trans (by go_cell); have d2 : w2.cell? ⟨wd.heap.size + 1, 2, none⟩ = some (.int .i64 0) := (hb2.cell (p := ⟨wd.heap.size + 1, 2, none⟩) (by simp; omega)).trans (by go_cell); have g0 : w2.frozen? ⟨wd.heap.size + 1, 0, none⟩ = false := (hb2.frozen (p := ⟨wd.heap.size + 1, 0, none⟩) (by simp; omega)).trans (by go_cell); have g1 : w2.frozen? ⟨wd.heap.size + 1, 1, none⟩ = false := (hb2.frozen (p := ⟨wd.heap.size + 1, 1, none⟩) (by simp; omega)).trans (by go_cell); have g2 : w2.frozen? ⟨wd.heap.size + 1, 2, none⟩ = false := (hb2.frozen (p := ⟨wd.heap.size + 1, 2, none⟩) (by simp; omega)).trans (by go_cell); have c0 : w2.cell? ⟨w1.heap.size, 0, none⟩ = some (.int .i64 m) := (hb2.cell (p := ⟨w1.heap.size, 0, none⟩) (by simp)).trans (by go_cell); have c1 : w2.cell? ⟨w1.heap.size, 1, none⟩ = some (.int .i64 m2) := (hb2.cell (p := ⟨w1.heap.size, 1, none⟩) (by simp)).trans (by go_cell); have c2 : w2.cell? ⟨w1.heap.size, 2, none⟩ = some (.int .i64 o) := (hb2.cell (p := ⟨w1.heap.size, 2, none⟩) (by simp)).trans (by go_cell); clear hc hf))))
  have hs2 : w1.heap.size < w2.heap.size := by have := hb2.size; simp at this; omega
  have hB : Below wd.heap.size wd w1 := (((Below.refl _ _).alloc (Nat.le_refl _) _).alloc (by simp) _).trans (hb.mono (by simp; omega))
  have hB2 : Below wd.heap.size wd w2 := (by go_grown : Below wd.heap.size wd _).trans (hb2.mono (by simp; omega))
  refine bodyPost_ret (Kit.results_ct rfl _ _ (wd.heap.size + 1) 0 [.int .i64 0, .int .i64 0, .int .i64 0] _ rfl (Kit.range_3 (by go_cell) (by go_cell) (by go_cell)) Tryd.underlying31 rfl (by kernel_rfl)) rfl ?_
  exact ⟨rfl, by go_grown⟩
theorem refSlide_good (H W C k s p o m m2 : Int) (hs : shapeB H W C = true) (hm : stepsM H k s p = m) (he : stepsE H k s p = 0) (hm2 : stepsM W k s p = m2) (he2 : stepsE W k s p = 0) (hr : shapeB m m2 o = true) (wd : World) :
    Calls Tryd.prog 35 #[.agg #[.int .i64 H, .int .i64 W, .int .i64 C], .int .i64 k, .int .i64 s, .int .i64 p, .int .i64 o] wd fun e w' => e = .returned (.tuple #[.agg #[.int .i64 m, .int .i64 m2, .int .i64 o], .int .i64 0]) ∧ Below wd.heap.size wd w' := by
  obtain ⟨n, hn0, hn1, hn2⟩ := elemsZ_some hs
  have HS := Lib.hid hn0
  have HM := Lib.hid hm
  have HE := Lib.hid he
  have HM2 := Lib.hid hm2
  have HE2 := Lib.hid he2
  obtain ⟨n2, hq0, hq1, hq2⟩ := elemsZ_some hr
  have HR := Lib.hid hq0
  clear hq0 hs hn0 hm he hm2 he2 hr
  go_enter Tryd.func35, Tryd.ntmps35
  go_wp2_with (first
    | (go_at_call 36; ((with_reducible refine (refElems_to H W C n HS.out _).mono ?_); rintro e w1 ⟨rfl, hb⟩; obtain ⟨hc, hf⟩ := Kit.bcell hb))
    | (go_at_call 47; ((with_reducible refine (refSteps_to H k s p m 0 HM.out HE.out _).mono ?_); rintro e w' ⟨rfl, rfl⟩))
    | (go_at_call 47; ((with_reducible refine (refSteps_to W k s p m2 0 HM2.out HE2.out _).mono ?_); rintro e w' ⟨rfl, rfl⟩))
    | (go_at_call 36; ((with_reducible refine (refElems_to m m2 o n2 HR.out _).mono ?_); (rintro e w2 ⟨rfl, hb2⟩; have hs1 : wd.heap.size + 1 < w1.heap.size := (by have := hb.size; simp at this; omega); have d0 : w2.cell? ⟨wd.heap.size + 1, 0, none⟩ = some (.int .i64 0) := (hb2.cell (p := ⟨wd.heap.size + 1, 0, none⟩) (by simp; omega)).trans (by go_cell); have d1 : w2.cell? ⟨wd.heap.size + 1, 1, none⟩ = some (.int .i64 0) := (hb2.cell (p := ⟨wd.heap.size + 1, 1, none⟩) (by simp; omega)).trans (by go_cell); have d2 : w2.cell? ⟨wd.heap.size + 1, 2, none⟩ = some (.int .i64 0) := (hb2.cell (p := ⟨wd.heap.size + 1, 2, none⟩) (by simp; omega)).trans (by go_cell); have g0 : w2.frozen? ⟨wd.heap.size + 1, 0, none⟩ = false := (hb2.frozen (p := ⟨wd.heap.size + 1, 0, none⟩) (by simp; omega)).trans (by go_cell); have g1 : w2.frozen? ⟨wd.heap.size + 1, 1, none⟩ = false := (hb2.frozen (p := ⟨wd.heap.size + 1, 1, none⟩) (by simp; omega)).trans (by go_cell); have g2 : w2.frozen? ⟨wd.heap.size + 1, 2, none⟩ = false := (hb2.frozen (p := ⟨wd.heap.size + 1, 2, none⟩) (by simp; omega)).trans (by go_cell); have c0 : w2.cell? ⟨w1.heap.size, 0, none⟩ = some (.int .i64 m) := (hb2.cell (p := ⟨w1.heap.size, 0, none⟩) (by simp)).trans (by go_cell); have c1 : w2.cell? ⟨w1.heap.size, 1, none⟩ = some (.int .i64 m2) := (hb2.cell (p := ⟨w1.heap.size, 1, none⟩) (by simp)).trans (by go_cell); have c2 : w2.cell? ⟨w1.heap.size, 2, none⟩ = some (.int .i64 o) := (hb2.cell (p := ⟨w1.heap.size, 2, none⟩) (by simp)).trans (by go_cell); clear hc hf))))
  have hs2 : w1.heap.size < w2.heap.size := by have := hb2.size; simp at this; omega
  have hB : Below wd.heap.size wd w1 := (((Below.refl _ _).alloc (Nat.le_refl _) _).alloc (by simp) _).trans (hb.mono (by simp; omega))
  have hB2 : Below wd.heap.size wd w2 := (by go_grown : Below wd.heap.size wd _).trans (hb2.mono (by simp; omega))
  refine bodyPost_ret (Kit.results_ct rfl _ _ (wd.heap.size + 1) 0 [.int .i64 m, .int .i64 m2, .int .i64 o] _ rfl (Kit.range_3 (by go_cell) (by go_cell) (by go_cell)) Tryd.underlying31 rfl (by kernel_rfl)) rfl ?_
  exact ⟨rfl, by go_grown⟩
theorem refSlide_to (H W C k s p o e : Int) (v : Array Value) (he : slideE H W C k s p o = e) (hv : slideS H W C k s p o = v) (wd : World) :
    Calls Tryd.prog 35 #[.agg #[.int .i64 H, .int .i64 W, .int .i64 C], .int .i64 k, .int .i64 s, .int .i64 p, .int .i64 o] wd fun r w' => r = .returned (.tuple #[.agg v, .int .i64 e]) ∧ Below wd.heap.size wd w' := by
  subst hv
  unfold slideS
  rw [he]
  unfold slideE at he
  cases hs : shapeB H W C
  · rw [if_pos hs] at he
    subst he
    exact refSlide_wrong H W C k s p o hs wd
  · rw [if_neg (by simp [hs])] at he
    by_cases h1 : stepsE H k s p = 0
    · rw [if_neg (by simp [h1])] at he
      by_cases h2 : stepsE W k s p = 0
      · rw [if_neg (by simp [h2])] at he
        cases hr : shapeB (stepsM H k s p) (stepsM W k s p) o
        · rw [if_neg (by simp [hr])] at he
          subst he
          exact refSlide_bad H W C k s p o _ _ hs rfl h1 rfl h2 hr wd
        · rw [if_pos hr] at he
          subst he
          exact refSlide_good H W C k s p o _ _ hs rfl h1 rfl h2 hr wd
      · rw [if_pos h2] at he
        subst he
        rw [if_neg h2]
        exact refSlide_two H W C k s p o _ _ _ hs rfl h1 rfl rfl h2 wd
    · rw [if_pos h1] at he
      subst he
      rw [if_neg h1]
      exact refSlide_one H W C k s p o _ _ hs rfl rfl h1 wd
end Go.Proofs.YtamcdpkakdiggaaDoor.CShape
end
section
namespace Go.Proofs.YtamcdpkakdiggaaDoor.CTensor
open Go Go.ChangeShapes Go.WideShapes Go.ChangeAt Go.RowKit
open Plain CSat CShape
set_option linter.unusedVariables false
def I8s (zs : List Int) : List Value := zs.map (.int .i8)
/-- what is handed back: a list of the call's own; nothing that was there has turned. -/
def Owned (w : World) (n : Nat) (xs : List Value) (e : Ending) (w' : World) : Prop :=
  ∃ v, e = .returned v ∧ w'.ownsRow w.heap.size 22 1 v n xs ∧ Below w.heap.size w w'
theorem info_i8 : (Tryd.prog.info? 22).map (fun i => (i.zero, i.size, i.bytes)) = some (some (.int .i8 0), 1, 1) := by kernel_rfl
theorem sclone (A : Option Addr) (zs : List Int) (n c : Nat) (hn : zs.length = n) (hl : n ≤ 1000000) {B : Nat} (w : World) (hB : B ≤ w.heap.size) (hr : Kit.Rd w B A (zs.map (.int .i8))) :
    Calls Tryd.prog 37 #[.slice A n c] w (Owned w n (I8s zs)) := by
  have HN := Lib.hid hn
  have HR := Lib.hid hr
  have qn : ∀ (w : World) (a : Option Addr) (n c n' c' : Nat), (binOp .eql 23 (.slice a n c) (.slice none n' c')).run Tryd.prog w = .ok (.bool a.isNone) w := fun w a n c n' c' => Lib.run_eql_slice_nil w _ _ a n c n' c' Tryd.underlying23
  cases A with
  | none =>
    have hz : zs = [] := by
      cases zs with
      | nil => rfl
      | cons z zs => obtain ⟨b, off, h, _⟩ := hr.plain (by simp); cases h
    subst hz
    have h0 : n = 0 := by simpa using hn.symm
    subst h0
    clear hn hr HN HR
    go_enter Tryd.func37, Tryd.ntmps37
    go_wp2
    go_ret
    exact ⟨_, rfl, ⟨by simp [I8s], .inl ⟨rfl, rfl⟩⟩, Below.refl _ _⟩
  | some ad =>
    clear hn hr
    go_enter Tryd.func37, Tryd.ntmps37
    obtain ⟨i0, hi0, hi1, hi2, hi3⟩ := info_parts info_i8
    go_wp2_with (at_builtin; refine Kit.wpList_append_rd _ rfl (.tmp 5) (.tmp 6) _ rfl w.heap.size 22 i0 (.int .i8 0) 1 1 Tryd.underlying23 hi0 hi1 hi2 hi3 rfl (by decide) (.slice (some ⟨_, 0, none⟩) 0 0) 0 [] rfl (World.ownsRow_lit _ #[] 0 (Nat.le_refl _) (Nat.zero_le _) rfl) _ _ n _ (I8s zs) rfl (by simp [I8s, HN.out]) (HR.out.alloc hB _) (Kit.ints_one .i8 zs) (by unfold maxLen; omega) (by omega) (by simp) ?_; intro v1 w1 hown1 hg1 hat1; replace hown1 : w1.ownsRow w.heap.size 22 1 v1 n (I8s zs) := (by simpa using hown1); have HO := Lib.hid hown1; have HX := Lib.hid (((Below.refl _ w).alloc (Nat.le_refl _) (.cells #[] 22)).grown hg1 (by simp) (fun q hq => by simp [Value.ownBlock] at hq; omega)); clear hown1 hg1 hat1)
    go_ret
    exact ⟨_, rfl, HO.out, HX.out⟩
/-- the box of a tensor, in whatever world. -/
def BoxAt (B : Nat) (H W C : Int) (A : Option Addr) (n c : Nat) (wd : World) : Prop :=
  wd.cell? ⟨B, 0, none⟩ = some (.int .i64 H) ∧ wd.cell? ⟨B, 1, none⟩ = some (.int .i64 W) ∧ wd.cell? ⟨B, 2, none⟩ = some (.int .i64 C) ∧ wd.cell? ⟨B, 3, none⟩ = some (.slice A n c)
theorem BoxAt.new (H W C : Int) (A : Option Addr) (n c : Nat) (T : TypeId) (w : World) : BoxAt w.heap.size H W C A n c (w.alloc (.cells #[.int .i64 H, .int .i64 W, .int .i64 C, .slice A n c] T)).drew :=
  ⟨Kit.new_cell _ _ _ _, Kit.new_cell _ _ _ _, Kit.new_cell _ _ _ _, Kit.new_cell _ _ _ _⟩
theorem BoxAt.below {B B' : Nat} {H W C : Int} {A : Option Addr} {n c : Nat} {w w' : World} (h : BoxAt B H W C A n c w) (hB : B < B') (hb : Below B' w w') : BoxAt B H W C A n c w' :=
  ⟨(hb.cell (p := ⟨B, 0, none⟩) hB).trans h.1, (hb.cell (p := ⟨B, 1, none⟩) hB).trans h.2.1, (hb.cell (p := ⟨B, 2, none⟩) hB).trans h.2.2.1, (hb.cell (p := ⟨B, 3, none⟩) hB).trans h.2.2.2⟩
end Go.Proofs.YtamcdpkakdiggaaDoor.CTensor
end
section
namespace Go.Proofs.YtamcdpkakdiggaaDoor.CTensor
open Go Go.ChangeShapes Go.WideShapes Go.ChangeAt Go.RowKit
open Plain CSat CShape
set_option linter.unusedVariables false
/-- a block for a tensor, as it is made. -/
def FreshT (B : Nat) (wd : World) : Prop :=
  (wd.cell? ⟨B, 0, none⟩ = some (.int .i64 0) ∧ wd.cell? ⟨B, 1, none⟩ = some (.int .i64 0) ∧ wd.cell? ⟨B, 2, none⟩ = some (.int .i64 0) ∧ wd.cell? ⟨B, 3, none⟩ = some (.slice none 0 0)) ∧
  wd.frozen? ⟨B, 0, none⟩ = false ∧ wd.frozen? ⟨B, 1, none⟩ = false ∧ wd.frozen? ⟨B, 2, none⟩ = false ∧ wd.frozen? ⟨B, 3, none⟩ = false
theorem FreshT.new (T : TypeId) (w : World) (B : Nat) (hB : B = w.heap.size) : FreshT B (w.alloc (.cells #[.int .i64 0, .int .i64 0, .int .i64 0, .slice none 0 0] T)) := by
  subst hB
  exact ⟨⟨Kit.new_cell _ _ _ _, Kit.new_cell _ _ _ _, Kit.new_cell _ _ _ _, Kit.new_cell _ _ _ _⟩, World.frozen?_alloc_at _ _ _ _ rfl, World.frozen?_alloc_at _ _ _ _ rfl, World.frozen?_alloc_at _ _ _ _ rfl, World.frozen?_alloc_at _ _ _ _ rfl⟩
theorem FreshT.below {B B' : Nat} {w w' : World} (h : FreshT B w) (hB : B < B') (hb : Below B' w w') : FreshT B w' := by
  obtain ⟨⟨h1, h2, h3, h4⟩, h5, h6, h7, h8⟩ := h
  exact ⟨⟨(hb.cell (p := ⟨B, 0, none⟩) hB).trans h1, (hb.cell (p := ⟨B, 1, none⟩) hB).trans h2, (hb.cell (p := ⟨B, 2, none⟩) hB).trans h3, (hb.cell (p := ⟨B, 3, none⟩) hB).trans h4⟩,
    (hb.frozen (p := ⟨B, 0, none⟩) hB).trans h5, (hb.frozen (p := ⟨B, 1, none⟩) hB).trans h6, (hb.frozen (p := ⟨B, 2, none⟩) hB).trans h7, (hb.frozen (p := ⟨B, 3, none⟩) hB).trans h8⟩
end Go.Proofs.YtamcdpkakdiggaaDoor.CTensor
end
section
namespace Go.Proofs.YtamcdpkakdiggaaDoor.CConv
open Go Go.ChangeShapes Go.WideShapes Go.ChangeAt Go.RowKit
open Plain CSat CShape CTensor
set_option linter.unusedVariables false
/-- the first error of a node's shape. -/
def convE (H W C K S P O : Int) (nW nB : Nat) : Int :=
  if slideE H W C K S P O ≠ 0 then slideE H W C K S P O else if (nW : Int) = O * K * K * C ∧ nW ≤ 16384 ∧ (nB : Int) = O then 0 else 9
def convS (H W C K S P O : Int) (nW nB : Nat) : Array Value :=
  if convE H W C K S P O nW nB = 0 then #[.int .i64 (stepsM H K S P), .int .i64 (stepsM W K S P), .int .i64 O] else #[.int .i64 0, .int .i64 0, .int .i64 0]
theorem slide_ok {H W C K S P O : Int} (h : slideE H W C K S P O = 0) :
    shapeB H W C = true ∧ argsB H K S P = true ∧ argsB W K S P = true ∧ 0 ≤ H + 2 * P - K ∧ 0 ≤ W + 2 * P - K ∧ shapeB (stepsM H K S P) (stepsM W K S P) O = true := by
  unfold slideE at h
  by_cases h1 : shapeB H W C = false
  · rw [if_pos h1] at h; omega
  · rw [if_neg h1] at h
    by_cases h2 : stepsE H K S P ≠ 0
    · rw [if_pos h2] at h; exact absurd h h2
    · rw [if_neg h2] at h
      by_cases h3 : stepsE W K S P ≠ 0
      · rw [if_pos h3] at h; exact absurd h h3
      · rw [if_neg h3] at h
        by_cases h4 : shapeB (stepsM H K S P) (stepsM W K S P) O = false
        · rw [if_neg (by simp [h4])] at h; omega
        · have e1 : stepsE H K S P = 0 := by omega
          have e2 : stepsE W K S P = 0 := by omega
          unfold stepsE at e1 e2
          have a1 : argsB H K S P = true := by
            cases h : argsB H K S P
            · rw [h] at e1; simp at e1
            · rfl
          have a2 : argsB W K S P = true := by
            cases h : argsB W K S P
            · rw [h] at e2; simp at e2
            · rfl
          rw [if_pos a1] at e1
          rw [if_pos a2] at e2
          refine ⟨by simpa using h1, a1, a2, ?_, ?_, by simpa using h4⟩
          · by_cases h : H + 2 * P - K < 0
            · rw [if_pos h] at e1; omega
            · omega
          · by_cases h : W + 2 * P - K < 0
            · rw [if_pos h] at e2; omega
            · omega
theorem weights_bd {C K O : Int} (h1 : 1 ≤ C) (h2 : C ≤ 1024) (h3 : 1 ≤ K) (h4 : K ≤ 7) (h5 : 1 ≤ O) (h6 : O ≤ 1024) :
    0 ≤ O * K ∧ O * K ≤ 7168 ∧ 0 ≤ O * K * K ∧ O * K * K ≤ 50176 ∧ 0 ≤ O * K * K * C ∧ O * K * K * C ≤ 51380224 := by
  have e1 : 0 ≤ O * K := Int.mul_nonneg (by omega) (by omega)
  have e2 : O * K ≤ 1024 * 7 := Int.mul_le_mul h6 h4 (by omega) (by omega)
  have e3 : 0 ≤ O * K * K := Int.mul_nonneg e1 (by omega)
  have e4 : O * K * K ≤ 7168 * 7 := Int.mul_le_mul (by omega) h4 (by omega) (by omega)
  have e5 : 0 ≤ O * K * K * C := Int.mul_nonneg e3 (by omega)
  have e6 : O * K * K * C ≤ 50176 * 1024 := Int.mul_le_mul (by omega) h2 (by omega) (by omega)
  omega
set_option maxHeartbeats 1000000 in
theorem conv_err (H W C : Int) (x0 x1 x2 x8 x11 x12 x13 x14 x15 x16 x17 x18 : Value) (K S P O Z : Int) (WA BA : Option Addr) (nW cW nB cB : Nat) (e : Int) (he : slideE H W C K S P O = e) (hn : e ≠ 0) (w : World) :
    Calls Tryd.prog 25 #[.agg #[.int .i64 H, .int .i64 W, .int .i64 C], .agg #[x0, x1, x2, .int .i64 K, .int .i64 S, .int .i64 P, .int .i64 O, .int .i8 Z, x8, .slice WA nW cW, .slice BA nB cB, x11, x12, x13, x14, x15, x16, x17, x18]] w fun e' w' => e' = .returned (.tuple #[.agg #[.int .i64 0, .int .i64 0, .int .i64 0], .int .i64 e]) ∧ Below w.heap.size w w' := by
  have hS : slideS H W C K S P O = #[.int .i64 0, .int .i64 0, .int .i64 0] := by unfold slideS; rw [he, if_neg hn]
  have hnb : (e != 0) = true := by simpa using hn
  have hnc : (e == 0) = false := by simpa using hn
  have HE := Lib.hid he
  have HS := Lib.hid hS
  clear he hS
  go_enter Tryd.func25, Tryd.ntmps25
  go_wp2_with (go_at_call 28; (refine (slide_to H W C K S P O e _ HE.out HS.out _).mono ?_); (rintro e' w1 ⟨rfl, hb⟩; obtain ⟨hcc, hff⟩ := Kit.bcell hb; have hz : w.heap.size + 3 ≤ w1.heap.size := (by have := hb.size; simp at this; omega); have hz2 : w.heap.size + 2 < w1.heap.size := (by omega); have hz1 : w.heap.size + 1 < w1.heap.size := (by omega); have hz0 : w.heap.size < w1.heap.size := (by omega); have HB := Lib.hid hb; clear hb))
  refine bodyPost_ret (Kit.results_ct rfl _ _ (w.heap.size + 2) 0 [.int .i64 0, .int .i64 0, .int .i64 0] _ rfl (Kit.range_3 (by go_cell) (by go_cell) (by go_cell)) Tryd.underlying31 rfl (by kernel_rfl)) rfl ?_
  have hB1 : Below w.heap.size w w1 := Below.trans ((((Below.refl _ _).alloc (Nat.le_refl _) _).alloc (by simp) _).alloc (by simp; omega) _) (HB.out.mono (by first | omega | (simp; done) | (simp; omega)))
  exact ⟨rfl, by exact (((hB1.setCell (p := ⟨w.heap.size + 2, 0, none⟩) (by simp) _).setCell (p := ⟨w.heap.size + 2, 1, none⟩) (by simp) _).setCell (p := ⟨w.heap.size + 2, 2, none⟩) (by simp) _).alloc (by simp; omega) _⟩
set_option maxHeartbeats 1000000 in
theorem conv_w1 (H W C : Int) (x0 x1 x2 x8 x11 x12 x13 x14 x15 x16 x17 x18 : Value) (K S P O Z : Int) (WA BA : Option Addr) (nW cW nB cB : Nat) (he : slideE H W C K S P O = 0) (hw : (nW : Int) ≠ O * K * K * C) (w : World) :
    Calls Tryd.prog 25 #[.agg #[.int .i64 H, .int .i64 W, .int .i64 C], .agg #[x0, x1, x2, .int .i64 K, .int .i64 S, .int .i64 P, .int .i64 O, .int .i8 Z, x8, .slice WA nW cW, .slice BA nB cB, x11, x12, x13, x14, x15, x16, x17, x18]] w fun e' w' => e' = .returned (.tuple #[.agg #[.int .i64 0, .int .i64 0, .int .i64 0], .int .i64 9]) ∧ Below w.heap.size w w' := by
  obtain ⟨hs, ha, hb2, hr1, hr2, hr⟩ := slide_ok he
  have hS : slideS H W C K S P O = #[.int .i64 (stepsM H K S P), .int .i64 (stepsM W K S P), .int .i64 O] := by unfold slideS; rw [he, if_pos rfl]
  obtain ⟨-, -, -, -, c1, c2, -⟩ := shapeB_yes hs
  obtain ⟨-, -, -, -, o1, o2, -⟩ := shapeB_yes hr
  obtain ⟨-, -, k1, k2, -⟩ := argsB_yes ha
  obtain ⟨p1, p2, p3, p4, p5, p6⟩ := weights_bd c1 c2 k1 (by omega) o1 o2
  generalize stepsM H K S P = m at hS ⊢
  generalize stepsM W K S P = m2 at hS ⊢
  obtain ⟨q, hq⟩ : ∃ q, O * K * K * C = q := ⟨_, rfl⟩
  rw [hq] at p5 p6
  rw [hq] at hw
  have hwb : ((nW : Int) != q) = true := by simpa using hw
  have hwc : ((nW : Int) == q) = false := by simpa using hw
  clear ha hb2 hr1 hr2 hr hs
  have HE := Lib.hid he
  have HS := Lib.hid hS
  clear he hS
  go_enter Tryd.func25, Tryd.ntmps25
  go_wp2_with (go_at_call 28; (refine (slide_to H W C K S P O 0 _ HE.out HS.out _).mono ?_); (rintro e' w1 ⟨rfl, hb⟩; obtain ⟨hcc, hff⟩ := Kit.bcell hb; have hz : w.heap.size + 3 ≤ w1.heap.size := (by have := hb.size; simp at this; omega); have hz2 : w.heap.size + 2 < w1.heap.size := (by omega); have hz1 : w.heap.size + 1 < w1.heap.size := (by omega); have hz0 : w.heap.size < w1.heap.size := (by omega); have HB := Lib.hid hb; clear hb))
  refine bodyPost_ret (Kit.results_ct rfl _ _ (w.heap.size + 2) 0 [.int .i64 0, .int .i64 0, .int .i64 0] _ rfl (Kit.range_3 (by go_cell) (by go_cell) (by go_cell)) Tryd.underlying31 rfl (by kernel_rfl)) rfl ?_
  have hB1 : Below w.heap.size w w1 := Below.trans ((((Below.refl _ _).alloc (Nat.le_refl _) _).alloc (by simp) _).alloc (by simp; omega) _) (HB.out.mono (by first | omega | (simp; done) | (simp; omega)))
  exact ⟨rfl, by exact (((hB1.setCell (p := ⟨w.heap.size + 2, 0, none⟩) (by simp) _).setCell (p := ⟨w.heap.size + 2, 1, none⟩) (by simp) _).setCell (p := ⟨w.heap.size + 2, 2, none⟩) (by simp) _).alloc (by simp; omega) _⟩
set_option maxHeartbeats 1000000 in
theorem conv_w2 (H W C : Int) (x0 x1 x2 x8 x11 x12 x13 x14 x15 x16 x17 x18 : Value) (K S P O Z : Int) (WA BA : Option Addr) (nW cW nB cB : Nat) (he : slideE H W C K S P O = 0) (hw : (nW : Int) = O * K * K * C) (hw2 : 16384 < nW) (w : World) :
    Calls Tryd.prog 25 #[.agg #[.int .i64 H, .int .i64 W, .int .i64 C], .agg #[x0, x1, x2, .int .i64 K, .int .i64 S, .int .i64 P, .int .i64 O, .int .i8 Z, x8, .slice WA nW cW, .slice BA nB cB, x11, x12, x13, x14, x15, x16, x17, x18]] w fun e' w' => e' = .returned (.tuple #[.agg #[.int .i64 0, .int .i64 0, .int .i64 0], .int .i64 9]) ∧ Below w.heap.size w w' := by
  obtain ⟨hs, ha, hb2, hr1, hr2, hr⟩ := slide_ok he
  have hS : slideS H W C K S P O = #[.int .i64 (stepsM H K S P), .int .i64 (stepsM W K S P), .int .i64 O] := by unfold slideS; rw [he, if_pos rfl]
  obtain ⟨-, -, -, -, c1, c2, -⟩ := shapeB_yes hs
  obtain ⟨-, -, -, -, o1, o2, -⟩ := shapeB_yes hr
  obtain ⟨-, -, k1, k2, -⟩ := argsB_yes ha
  obtain ⟨p1, p2, p3, p4, p5, p6⟩ := weights_bd c1 c2 k1 (by omega) o1 o2
  generalize stepsM H K S P = m at hS ⊢
  generalize stepsM W K S P = m2 at hS ⊢
  obtain ⟨q, hq⟩ : ∃ q, O * K * K * C = q := ⟨_, rfl⟩
  rw [hq] at p5 p6
  rw [hq] at hw
  subst hw
  have hw3 : (16384 : Int) < (nW : Int) := by omega
  clear ha hb2 hr1 hr2 hr hs
  have HE := Lib.hid he
  have HS := Lib.hid hS
  clear he hS
  go_enter Tryd.func25, Tryd.ntmps25
  go_wp2_with (go_at_call 28; (refine (slide_to H W C K S P O 0 _ HE.out HS.out _).mono ?_); (rintro e' w1 ⟨rfl, hb⟩; obtain ⟨hcc, hff⟩ := Kit.bcell hb; have hz : w.heap.size + 3 ≤ w1.heap.size := (by have := hb.size; simp at this; omega); have hz2 : w.heap.size + 2 < w1.heap.size := (by omega); have hz1 : w.heap.size + 1 < w1.heap.size := (by omega); have hz0 : w.heap.size < w1.heap.size := (by omega); have HB := Lib.hid hb; clear hb))
  refine bodyPost_ret (Kit.results_ct rfl _ _ (w.heap.size + 2) 0 [.int .i64 0, .int .i64 0, .int .i64 0] _ rfl (Kit.range_3 (by go_cell) (by go_cell) (by go_cell)) Tryd.underlying31 rfl (by kernel_rfl)) rfl ?_
  have hB1 : Below w.heap.size w w1 := Below.trans ((((Below.refl _ _).alloc (Nat.le_refl _) _).alloc (by simp) _).alloc (by simp; omega) _) (HB.out.mono (by first | omega | (simp; done) | (simp; omega)))
  exact ⟨rfl, by exact (((hB1.setCell (p := ⟨w.heap.size + 2, 0, none⟩) (by simp) _).setCell (p := ⟨w.heap.size + 2, 1, none⟩) (by simp) _).setCell (p := ⟨w.heap.size + 2, 2, none⟩) (by simp) _).alloc (by simp; omega) _⟩
set_option maxHeartbeats 1000000 in
theorem conv_w3 (H W C : Int) (x0 x1 x2 x8 x11 x12 x13 x14 x15 x16 x17 x18 : Value) (K S P O Z : Int) (WA BA : Option Addr) (nW cW nB cB : Nat) (he : slideE H W C K S P O = 0) (hw : (nW : Int) = O * K * K * C) (hw2 : nW ≤ 16384) (hb : (nB : Int) ≠ O) (w : World) :
    Calls Tryd.prog 25 #[.agg #[.int .i64 H, .int .i64 W, .int .i64 C], .agg #[x0, x1, x2, .int .i64 K, .int .i64 S, .int .i64 P, .int .i64 O, .int .i8 Z, x8, .slice WA nW cW, .slice BA nB cB, x11, x12, x13, x14, x15, x16, x17, x18]] w fun e' w' => e' = .returned (.tuple #[.agg #[.int .i64 0, .int .i64 0, .int .i64 0], .int .i64 9]) ∧ Below w.heap.size w w' := by
  obtain ⟨hs, ha, hb2, hr1, hr2, hr⟩ := slide_ok he
  have hS : slideS H W C K S P O = #[.int .i64 (stepsM H K S P), .int .i64 (stepsM W K S P), .int .i64 O] := by unfold slideS; rw [he, if_pos rfl]
  obtain ⟨-, -, -, -, c1, c2, -⟩ := shapeB_yes hs
  obtain ⟨-, -, -, -, o1, o2, -⟩ := shapeB_yes hr
  obtain ⟨-, -, k1, k2, -⟩ := argsB_yes ha
  obtain ⟨p1, p2, p3, p4, p5, p6⟩ := weights_bd c1 c2 k1 (by omega) o1 o2
  generalize stepsM H K S P = m at hS ⊢
  generalize stepsM W K S P = m2 at hS ⊢
  obtain ⟨q, hq⟩ : ∃ q, O * K * K * C = q := ⟨_, rfl⟩
  rw [hq] at p5 p6
  rw [hq] at hw
  subst hw
  have hw3 : (nW : Int) ≤ 16384 := by omega
  have hbb : ((nB : Int) != O) = true := by simpa using hb
  have hbc : ((nB : Int) == O) = false := by simpa using hb
  clear ha hb2 hr1 hr2 hr hs
  have HE := Lib.hid he
  have HS := Lib.hid hS
  clear he hS
  go_enter Tryd.func25, Tryd.ntmps25
  go_wp2_with (go_at_call 28; (refine (slide_to H W C K S P O 0 _ HE.out HS.out _).mono ?_); (rintro e' w1 ⟨rfl, hb⟩; obtain ⟨hcc, hff⟩ := Kit.bcell hb; have hz : w.heap.size + 3 ≤ w1.heap.size := (by have := hb.size; simp at this; omega); have hz2 : w.heap.size + 2 < w1.heap.size := (by omega); have hz1 : w.heap.size + 1 < w1.heap.size := (by omega); have hz0 : w.heap.size < w1.heap.size := (by omega); have HB := Lib.hid hb; clear hb))
  refine bodyPost_ret (Kit.results_ct rfl _ _ (w.heap.size + 2) 0 [.int .i64 0, .int .i64 0, .int .i64 0] _ rfl (Kit.range_3 (by go_cell) (by go_cell) (by go_cell)) Tryd.underlying31 rfl (by kernel_rfl)) rfl ?_
  have hB1 : Below w.heap.size w w1 := Below.trans ((((Below.refl _ _).alloc (Nat.le_refl _) _).alloc (by simp) _).alloc (by simp; omega) _) (HB.out.mono (by first | omega | (simp; done) | (simp; omega)))
  exact ⟨rfl, by exact (((hB1.setCell (p := ⟨w.heap.size + 2, 0, none⟩) (by simp) _).setCell (p := ⟨w.heap.size + 2, 1, none⟩) (by simp) _).setCell (p := ⟨w.heap.size + 2, 2, none⟩) (by simp) _).alloc (by simp; omega) _⟩
set_option maxHeartbeats 1000000 in
theorem conv_ok (H W C : Int) (x0 x1 x2 x8 x11 x12 x13 x14 x15 x16 x17 x18 : Value) (K S P O Z : Int) (WA BA : Option Addr) (nW cW nB cB : Nat) (he : slideE H W C K S P O = 0) (hw : (nW : Int) = O * K * K * C) (hw2 : nW ≤ 16384) (hb : (nB : Int) = O) (w : World) :
    Calls Tryd.prog 25 #[.agg #[.int .i64 H, .int .i64 W, .int .i64 C], .agg #[x0, x1, x2, .int .i64 K, .int .i64 S, .int .i64 P, .int .i64 O, .int .i8 Z, x8, .slice WA nW cW, .slice BA nB cB, x11, x12, x13, x14, x15, x16, x17, x18]] w fun e' w' => e' = .returned (.tuple #[.agg #[.int .i64 (stepsM H K S P), .int .i64 (stepsM W K S P), .int .i64 O], .int .i64 0]) ∧ Below w.heap.size w w' := by
  obtain ⟨hs, ha, hb2, hr1, hr2, hr⟩ := slide_ok he
  have hS : slideS H W C K S P O = #[.int .i64 (stepsM H K S P), .int .i64 (stepsM W K S P), .int .i64 O] := by unfold slideS; rw [he, if_pos rfl]
  obtain ⟨-, -, -, -, c1, c2, -⟩ := shapeB_yes hs
  obtain ⟨-, -, -, -, o1, o2, -⟩ := shapeB_yes hr
  obtain ⟨-, -, k1, k2, -⟩ := argsB_yes ha
  obtain ⟨p1, p2, p3, p4, p5, p6⟩ := weights_bd c1 c2 k1 (by omega) o1 o2
  generalize stepsM H K S P = m at hS ⊢
  generalize stepsM W K S P = m2 at hS ⊢
  obtain ⟨q, hq⟩ : ∃ q, O * K * K * C = q := ⟨_, rfl⟩
  rw [hq] at p5 p6
  rw [hq] at hw
  subst hw
  have hw3 : (nW : Int) ≤ 16384 := by omega
  have hbb : ((nB : Int) != O) = false := by simpa using hb
  clear ha hb2 hr1 hr2 hr hs
  have HE := Lib.hid he
  have HS := Lib.hid hS
  clear he hS
  go_enter Tryd.func25, Tryd.ntmps25
  go_wp2_with (go_at_call 28; (refine (slide_to H W C K S P O 0 _ HE.out HS.out _).mono ?_); (rintro e' w1 ⟨rfl, hb⟩; obtain ⟨hcc, hff⟩ := Kit.bcell hb; have hz : w.heap.size + 3 ≤ w1.heap.size := (by have := hb.size; simp at this; omega); have hz2 : w.heap.size + 2 < w1.heap.size := (by omega); have hz1 : w.heap.size + 1 < w1.heap.size := (by omega); have hz0 : w.heap.size < w1.heap.size := (by omega); have HB := Lib.hid hb; clear hb))
  refine bodyPost_ret (Kit.results_ct rfl _ _ (w.heap.size + 2) 0 [.int .i64 m, .int .i64 m2, .int .i64 O] _ rfl (Kit.range_3 (by go_cell) (by go_cell) (by go_cell)) Tryd.underlying31 rfl (by kernel_rfl)) rfl ?_
  have hB1 : Below w.heap.size w w1 := Below.trans ((((Below.refl _ _).alloc (Nat.le_refl _) _).alloc (by simp) _).alloc (by simp; omega) _) (HB.out.mono (by first | omega | (simp; done) | (simp; omega)))
  exact ⟨rfl, by exact (((hB1.setCell (p := ⟨w.heap.size + 2, 0, none⟩) (by simp) _).setCell (p := ⟨w.heap.size + 2, 1, none⟩) (by simp) _).setCell (p := ⟨w.heap.size + 2, 2, none⟩) (by simp) _).alloc (by simp; omega) _⟩
theorem conv_to (H W C : Int) (x0 x1 x2 x8 x11 x12 x13 x14 x15 x16 x17 x18 : Value) (K S P O Z : Int) (WA BA : Option Addr) (nW cW nB cB : Nat) (e : Int) (v : Array Value) (he : convE H W C K S P O nW nB = e) (hv : convS H W C K S P O nW nB = v) (w : World) :
    Calls Tryd.prog 25 #[.agg #[.int .i64 H, .int .i64 W, .int .i64 C], .agg #[x0, x1, x2, .int .i64 K, .int .i64 S, .int .i64 P, .int .i64 O, .int .i8 Z, x8, .slice WA nW cW, .slice BA nB cB, x11, x12, x13, x14, x15, x16, x17, x18]] w fun e' w' => e' = .returned (.tuple #[.agg v, .int .i64 e]) ∧ Below w.heap.size w w' := by
  subst hv
  unfold convS
  rw [he]
  unfold convE at he
  by_cases h1 : slideE H W C K S P O ≠ 0
  · rw [if_pos h1] at he
    rw [if_neg (by rw [← he]; exact h1)]
    exact conv_err H W C x0 x1 x2 x8 x11 x12 x13 x14 x15 x16 x17 x18 K S P O Z WA BA nW cW nB cB e he (by rw [← he]; exact h1) w
  · have h0 : slideE H W C K S P O = 0 := by omega
    rw [if_neg h1] at he
    by_cases h2 : (nW : Int) = O * K * K * C ∧ nW ≤ 16384 ∧ (nB : Int) = O
    · rw [if_pos h2] at he
      subst he
      rw [if_pos rfl]
      exact conv_ok H W C x0 x1 x2 x8 x11 x12 x13 x14 x15 x16 x17 x18 K S P O Z WA BA nW cW nB cB h0 h2.1 h2.2.1 h2.2.2 w
    · rw [if_neg h2] at he
      subst he
      rw [if_neg (by decide)]
      by_cases h3 : (nW : Int) = O * K * K * C
      · by_cases h4 : nW ≤ 16384
        · exact conv_w3 H W C x0 x1 x2 x8 x11 x12 x13 x14 x15 x16 x17 x18 K S P O Z WA BA nW cW nB cB h0 h3 h4 (fun h5 => h2 ⟨h3, h4, h5⟩) w
        · exact conv_w2 H W C x0 x1 x2 x8 x11 x12 x13 x14 x15 x16 x17 x18 K S P O Z WA BA nW cW nB cB h0 h3 (by omega) w
      · exact conv_w1 H W C x0 x1 x2 x8 x11 x12 x13 x14 x15 x16 x17 x18 K S P O Z WA BA nW cW nB cB h0 h3 w
set_option maxHeartbeats 1000000 in
theorem refConv_err (H W C : Int) (x0 x1 x2 x8 x11 x12 x13 x14 x15 x16 x17 x18 : Value) (K S P O Z : Int) (WA BA : Option Addr) (nW cW nB cB : Nat) (e : Int) (he : slideE H W C K S P O = e) (hn : e ≠ 0) (w : World) :
    Calls Tryd.prog 32 #[.agg #[.int .i64 H, .int .i64 W, .int .i64 C], .agg #[x0, x1, x2, .int .i64 K, .int .i64 S, .int .i64 P, .int .i64 O, .int .i8 Z, x8, .slice WA nW cW, .slice BA nB cB, x11, x12, x13, x14, x15, x16, x17, x18]] w fun e' w' => e' = .returned (.tuple #[.agg #[.int .i64 0, .int .i64 0, .int .i64 0], .int .i64 e]) ∧ Below w.heap.size w w' := by
  have hS : slideS H W C K S P O = #[.int .i64 0, .int .i64 0, .int .i64 0] := by unfold slideS; rw [he, if_neg hn]
  have hnb : (e != 0) = true := by simpa using hn
  have hnc : (e == 0) = false := by simpa using hn
  have HE := Lib.hid he
  have HS := Lib.hid hS
  clear he hS
  go_enter Tryd.func32, Tryd.ntmps32
  go_wp2_with (go_at_call 35; (refine (refSlide_to H W C K S P O e _ HE.out HS.out _).mono ?_); (rintro e' w1 ⟨rfl, hb⟩; obtain ⟨hcc, hff⟩ := Kit.bcell hb; have hz : w.heap.size + 3 ≤ w1.heap.size := (by have := hb.size; simp at this; omega); have hz2 : w.heap.size + 2 < w1.heap.size := (by omega); have hz1 : w.heap.size + 1 < w1.heap.size := (by omega); have hz0 : w.heap.size < w1.heap.size := (by omega); have HB := Lib.hid hb; clear hb))
  refine bodyPost_ret (Kit.results_ct rfl _ _ (w.heap.size + 2) 0 [.int .i64 0, .int .i64 0, .int .i64 0] _ rfl (Kit.range_3 (by go_cell) (by go_cell) (by go_cell)) Tryd.underlying31 rfl (by kernel_rfl)) rfl ?_
  have hB1 : Below w.heap.size w w1 := Below.trans ((((Below.refl _ _).alloc (Nat.le_refl _) _).alloc (by simp) _).alloc (by simp; omega) _) (HB.out.mono (by first | omega | (simp; done) | (simp; omega)))
  exact ⟨rfl, by exact (((hB1.setCell (p := ⟨w.heap.size + 2, 0, none⟩) (by simp) _).setCell (p := ⟨w.heap.size + 2, 1, none⟩) (by simp) _).setCell (p := ⟨w.heap.size + 2, 2, none⟩) (by simp) _).alloc (by simp; omega) _⟩
set_option maxHeartbeats 1000000 in
theorem refConv_w1 (H W C : Int) (x0 x1 x2 x8 x11 x12 x13 x14 x15 x16 x17 x18 : Value) (K S P O Z : Int) (WA BA : Option Addr) (nW cW nB cB : Nat) (he : slideE H W C K S P O = 0) (hw : (nW : Int) ≠ O * K * K * C) (w : World) :
    Calls Tryd.prog 32 #[.agg #[.int .i64 H, .int .i64 W, .int .i64 C], .agg #[x0, x1, x2, .int .i64 K, .int .i64 S, .int .i64 P, .int .i64 O, .int .i8 Z, x8, .slice WA nW cW, .slice BA nB cB, x11, x12, x13, x14, x15, x16, x17, x18]] w fun e' w' => e' = .returned (.tuple #[.agg #[.int .i64 0, .int .i64 0, .int .i64 0], .int .i64 9]) ∧ Below w.heap.size w w' := by
  obtain ⟨hs, ha, hb2, hr1, hr2, hr⟩ := slide_ok he
  have hS : slideS H W C K S P O = #[.int .i64 (stepsM H K S P), .int .i64 (stepsM W K S P), .int .i64 O] := by unfold slideS; rw [he, if_pos rfl]
  obtain ⟨-, -, -, -, c1, c2, -⟩ := shapeB_yes hs
  obtain ⟨-, -, -, -, o1, o2, -⟩ := shapeB_yes hr
  obtain ⟨-, -, k1, k2, -⟩ := argsB_yes ha
  obtain ⟨p1, p2, p3, p4, p5, p6⟩ := weights_bd c1 c2 k1 (by omega) o1 o2
  generalize stepsM H K S P = m at hS ⊢
  generalize stepsM W K S P = m2 at hS ⊢
  obtain ⟨q, hq⟩ : ∃ q, O * K * K * C = q := ⟨_, rfl⟩
  rw [hq] at p5 p6
  rw [hq] at hw
  have hwb : ((nW : Int) != q) = true := by simpa using hw
  have hwc : ((nW : Int) == q) = false := by simpa using hw
  clear ha hb2 hr1 hr2 hr hs
  have HE := Lib.hid he
  have HS := Lib.hid hS
  clear he hS
  go_enter Tryd.func32, Tryd.ntmps32
  go_wp2_with (go_at_call 35; (refine (refSlide_to H W C K S P O 0 _ HE.out HS.out _).mono ?_); (rintro e' w1 ⟨rfl, hb⟩; obtain ⟨hcc, hff⟩ := Kit.bcell hb; have hz : w.heap.size + 3 ≤ w1.heap.size := (by have := hb.size; simp at this; omega); have hz2 : w.heap.size + 2 < w1.heap.size := (by omega); have hz1 : w.heap.size + 1 < w1.heap.size := (by omega); have hz0 : w.heap.size < w1.heap.size := (by omega); have HB := Lib.hid hb; clear hb))
  refine bodyPost_ret (Kit.results_ct rfl _ _ (w.heap.size + 2) 0 [.int .i64 0, .int .i64 0, .int .i64 0] _ rfl (Kit.range_3 (by go_cell) (by go_cell) (by go_cell)) Tryd.underlying31 rfl (by kernel_rfl)) rfl ?_
  have hB1 : Below w.heap.size w w1 := Below.trans ((((Below.refl _ _).alloc (Nat.le_refl _) _).alloc (by simp) _).alloc (by simp; omega) _) (HB.out.mono (by first | omega | (simp; done) | (simp; omega)))
  exact ⟨rfl, by exact (((hB1.setCell (p := ⟨w.heap.size + 2, 0, none⟩) (by simp) _).setCell (p := ⟨w.heap.size + 2, 1, none⟩) (by simp) _).setCell (p := ⟨w.heap.size + 2, 2, none⟩) (by simp) _).alloc (by simp; omega) _⟩
set_option maxHeartbeats 1000000 in
theorem refConv_w2 (H W C : Int) (x0 x1 x2 x8 x11 x12 x13 x14 x15 x16 x17 x18 : Value) (K S P O Z : Int) (WA BA : Option Addr) (nW cW nB cB : Nat) (he : slideE H W C K S P O = 0) (hw : (nW : Int) = O * K * K * C) (hw2 : 16384 < nW) (w : World) :
    Calls Tryd.prog 32 #[.agg #[.int .i64 H, .int .i64 W, .int .i64 C], .agg #[x0, x1, x2, .int .i64 K, .int .i64 S, .int .i64 P, .int .i64 O, .int .i8 Z, x8, .slice WA nW cW, .slice BA nB cB, x11, x12, x13, x14, x15, x16, x17, x18]] w fun e' w' => e' = .returned (.tuple #[.agg #[.int .i64 0, .int .i64 0, .int .i64 0], .int .i64 9]) ∧ Below w.heap.size w w' := by
  obtain ⟨hs, ha, hb2, hr1, hr2, hr⟩ := slide_ok he
  have hS : slideS H W C K S P O = #[.int .i64 (stepsM H K S P), .int .i64 (stepsM W K S P), .int .i64 O] := by unfold slideS; rw [he, if_pos rfl]
  obtain ⟨-, -, -, -, c1, c2, -⟩ := shapeB_yes hs
  obtain ⟨-, -, -, -, o1, o2, -⟩ := shapeB_yes hr
  obtain ⟨-, -, k1, k2, -⟩ := argsB_yes ha
  obtain ⟨p1, p2, p3, p4, p5, p6⟩ := weights_bd c1 c2 k1 (by omega) o1 o2
  generalize stepsM H K S P = m at hS ⊢
  generalize stepsM W K S P = m2 at hS ⊢
  obtain ⟨q, hq⟩ : ∃ q, O * K * K * C = q := ⟨_, rfl⟩
  rw [hq] at p5 p6
  rw [hq] at hw
  subst hw
  have hw3 : (16384 : Int) < (nW : Int) := by omega
  clear ha hb2 hr1 hr2 hr hs
  have HE := Lib.hid he
  have HS := Lib.hid hS
  clear he hS
  go_enter Tryd.func32, Tryd.ntmps32
  go_wp2_with (go_at_call 35; (refine (refSlide_to H W C K S P O 0 _ HE.out HS.out _).mono ?_); (rintro e' w1 ⟨rfl, hb⟩; obtain ⟨hcc, hff⟩ := Kit.bcell hb; have hz : w.heap.size + 3 ≤ w1.heap.size := (by have := hb.size; simp at this; omega); have hz2 : w.heap.size + 2 < w1.heap.size := (by omega); have hz1 : w.heap.size + 1 < w1.heap.size := (by omega); have hz0 : w.heap.size < w1.heap.size := (by omega); have HB := Lib.hid hb; clear hb))
  refine bodyPost_ret (Kit.results_ct rfl _ _ (w.heap.size + 2) 0 [.int .i64 0, .int .i64 0, .int .i64 0] _ rfl (Kit.range_3 (by go_cell) (by go_cell) (by go_cell)) Tryd.underlying31 rfl (by kernel_rfl)) rfl ?_
  have hB1 : Below w.heap.size w w1 := Below.trans ((((Below.refl _ _).alloc (Nat.le_refl _) _).alloc (by simp) _).alloc (by simp; omega) _) (HB.out.mono (by first | omega | (simp; done) | (simp; omega)))
  exact ⟨rfl, by exact (((hB1.setCell (p := ⟨w.heap.size + 2, 0, none⟩) (by simp) _).setCell (p := ⟨w.heap.size + 2, 1, none⟩) (by simp) _).setCell (p := ⟨w.heap.size + 2, 2, none⟩) (by simp) _).alloc (by simp; omega) _⟩
set_option maxHeartbeats 1000000 in
theorem refConv_w3 (H W C : Int) (x0 x1 x2 x8 x11 x12 x13 x14 x15 x16 x17 x18 : Value) (K S P O Z : Int) (WA BA : Option Addr) (nW cW nB cB : Nat) (he : slideE H W C K S P O = 0) (hw : (nW : Int) = O * K * K * C) (hw2 : nW ≤ 16384) (hb : (nB : Int) ≠ O) (w : World) :
    Calls Tryd.prog 32 #[.agg #[.int .i64 H, .int .i64 W, .int .i64 C], .agg #[x0, x1, x2, .int .i64 K, .int .i64 S, .int .i64 P, .int .i64 O, .int .i8 Z, x8, .slice WA nW cW, .slice BA nB cB, x11, x12, x13, x14, x15, x16, x17, x18]] w fun e' w' => e' = .returned (.tuple #[.agg #[.int .i64 0, .int .i64 0, .int .i64 0], .int .i64 9]) ∧ Below w.heap.size w w' := by
  obtain ⟨hs, ha, hb2, hr1, hr2, hr⟩ := slide_ok he
  have hS : slideS H W C K S P O = #[.int .i64 (stepsM H K S P), .int .i64 (stepsM W K S P), .int .i64 O] := by unfold slideS; rw [he, if_pos rfl]
  obtain ⟨-, -, -, -, c1, c2, -⟩ := shapeB_yes hs
  obtain ⟨-, -, -, -, o1, o2, -⟩ := shapeB_yes hr
  obtain ⟨-, -, k1, k2, -⟩ := argsB_yes ha
  obtain ⟨p1, p2, p3, p4, p5, p6⟩ := weights_bd c1 c2 k1 (by omega) o1 o2
  generalize stepsM H K S P = m at hS ⊢
  generalize stepsM W K S P = m2 at hS ⊢
  obtain ⟨q, hq⟩ : ∃ q, O * K * K * C = q := ⟨_, rfl⟩
  rw [hq] at p5 p6
  rw [hq] at hw
  subst hw
  have hw3 : (nW : Int) ≤ 16384 := by omega
  have hbb : ((nB : Int) != O) = true := by simpa using hb
  have hbc : ((nB : Int) == O) = false := by simpa using hb
  clear ha hb2 hr1 hr2 hr hs
  have HE := Lib.hid he
  have HS := Lib.hid hS
  clear he hS
  go_enter Tryd.func32, Tryd.ntmps32
  go_wp2_with (go_at_call 35; (refine (refSlide_to H W C K S P O 0 _ HE.out HS.out _).mono ?_); (rintro e' w1 ⟨rfl, hb⟩; obtain ⟨hcc, hff⟩ := Kit.bcell hb; have hz : w.heap.size + 3 ≤ w1.heap.size := (by have := hb.size; simp at this; omega); have hz2 : w.heap.size + 2 < w1.heap.size := (by omega); have hz1 : w.heap.size + 1 < w1.heap.size := (by omega); have hz0 : w.heap.size < w1.heap.size := (by omega); have HB := Lib.hid hb; clear hb))
  refine bodyPost_ret (Kit.results_ct rfl _ _ (w.heap.size + 2) 0 [.int .i64 0, .int .i64 0, .int .i64 0] _ rfl (Kit.range_3 (by go_cell) (by go_cell) (by go_cell)) Tryd.underlying31 rfl (by kernel_rfl)) rfl ?_
  have hB1 : Below w.heap.size w w1 := Below.trans ((((Below.refl _ _).alloc (Nat.le_refl _) _).alloc (by simp) _).alloc (by simp; omega) _) (HB.out.mono (by first | omega | (simp; done) | (simp; omega)))
  exact ⟨rfl, by exact (((hB1.setCell (p := ⟨w.heap.size + 2, 0, none⟩) (by simp) _).setCell (p := ⟨w.heap.size + 2, 1, none⟩) (by simp) _).setCell (p := ⟨w.heap.size + 2, 2, none⟩) (by simp) _).alloc (by simp; omega) _⟩
set_option maxHeartbeats 1000000 in
theorem refConv_ok (H W C : Int) (x0 x1 x2 x8 x11 x12 x13 x14 x15 x16 x17 x18 : Value) (K S P O Z : Int) (WA BA : Option Addr) (nW cW nB cB : Nat) (he : slideE H W C K S P O = 0) (hw : (nW : Int) = O * K * K * C) (hw2 : nW ≤ 16384) (hb : (nB : Int) = O) (w : World) :
    Calls Tryd.prog 32 #[.agg #[.int .i64 H, .int .i64 W, .int .i64 C], .agg #[x0, x1, x2, .int .i64 K, .int .i64 S, .int .i64 P, .int .i64 O, .int .i8 Z, x8, .slice WA nW cW, .slice BA nB cB, x11, x12, x13, x14, x15, x16, x17, x18]] w fun e' w' => e' = .returned (.tuple #[.agg #[.int .i64 (stepsM H K S P), .int .i64 (stepsM W K S P), .int .i64 O], .int .i64 0]) ∧ Below w.heap.size w w' := by
  obtain ⟨hs, ha, hb2, hr1, hr2, hr⟩ := slide_ok he
  have hS : slideS H W C K S P O = #[.int .i64 (stepsM H K S P), .int .i64 (stepsM W K S P), .int .i64 O] := by unfold slideS; rw [he, if_pos rfl]
  obtain ⟨-, -, -, -, c1, c2, -⟩ := shapeB_yes hs
  obtain ⟨-, -, -, -, o1, o2, -⟩ := shapeB_yes hr
  obtain ⟨-, -, k1, k2, -⟩ := argsB_yes ha
  obtain ⟨p1, p2, p3, p4, p5, p6⟩ := weights_bd c1 c2 k1 (by omega) o1 o2
  generalize stepsM H K S P = m at hS ⊢
  generalize stepsM W K S P = m2 at hS ⊢
  obtain ⟨q, hq⟩ : ∃ q, O * K * K * C = q := ⟨_, rfl⟩
  rw [hq] at p5 p6
  rw [hq] at hw
  subst hw
  have hw3 : (nW : Int) ≤ 16384 := by omega
  have hbb : ((nB : Int) != O) = false := by simpa using hb
  clear ha hb2 hr1 hr2 hr hs
  have HE := Lib.hid he
  have HS := Lib.hid hS
  clear he hS
  go_enter Tryd.func32, Tryd.ntmps32
  go_wp2_with (go_at_call 35; (refine (refSlide_to H W C K S P O 0 _ HE.out HS.out _).mono ?_); (rintro e' w1 ⟨rfl, hb⟩; obtain ⟨hcc, hff⟩ := Kit.bcell hb; have hz : w.heap.size + 3 ≤ w1.heap.size := (by have := hb.size; simp at this; omega); have hz2 : w.heap.size + 2 < w1.heap.size := (by omega); have hz1 : w.heap.size + 1 < w1.heap.size := (by omega); have hz0 : w.heap.size < w1.heap.size := (by omega); have HB := Lib.hid hb; clear hb))
  refine bodyPost_ret (Kit.results_ct rfl _ _ (w.heap.size + 2) 0 [.int .i64 m, .int .i64 m2, .int .i64 O] _ rfl (Kit.range_3 (by go_cell) (by go_cell) (by go_cell)) Tryd.underlying31 rfl (by kernel_rfl)) rfl ?_
  have hB1 : Below w.heap.size w w1 := Below.trans ((((Below.refl _ _).alloc (Nat.le_refl _) _).alloc (by simp) _).alloc (by simp; omega) _) (HB.out.mono (by first | omega | (simp; done) | (simp; omega)))
  exact ⟨rfl, by exact (((hB1.setCell (p := ⟨w.heap.size + 2, 0, none⟩) (by simp) _).setCell (p := ⟨w.heap.size + 2, 1, none⟩) (by simp) _).setCell (p := ⟨w.heap.size + 2, 2, none⟩) (by simp) _).alloc (by simp; omega) _⟩
theorem refConv_to (H W C : Int) (x0 x1 x2 x8 x11 x12 x13 x14 x15 x16 x17 x18 : Value) (K S P O Z : Int) (WA BA : Option Addr) (nW cW nB cB : Nat) (e : Int) (v : Array Value) (he : convE H W C K S P O nW nB = e) (hv : convS H W C K S P O nW nB = v) (w : World) :
    Calls Tryd.prog 32 #[.agg #[.int .i64 H, .int .i64 W, .int .i64 C], .agg #[x0, x1, x2, .int .i64 K, .int .i64 S, .int .i64 P, .int .i64 O, .int .i8 Z, x8, .slice WA nW cW, .slice BA nB cB, x11, x12, x13, x14, x15, x16, x17, x18]] w fun e' w' => e' = .returned (.tuple #[.agg v, .int .i64 e]) ∧ Below w.heap.size w w' := by
  subst hv
  unfold convS
  rw [he]
  unfold convE at he
  by_cases h1 : slideE H W C K S P O ≠ 0
  · rw [if_pos h1] at he
    rw [if_neg (by rw [← he]; exact h1)]
    exact refConv_err H W C x0 x1 x2 x8 x11 x12 x13 x14 x15 x16 x17 x18 K S P O Z WA BA nW cW nB cB e he (by rw [← he]; exact h1) w
  · have h0 : slideE H W C K S P O = 0 := by omega
    rw [if_neg h1] at he
    by_cases h2 : (nW : Int) = O * K * K * C ∧ nW ≤ 16384 ∧ (nB : Int) = O
    · rw [if_pos h2] at he
      subst he
      rw [if_pos rfl]
      exact refConv_ok H W C x0 x1 x2 x8 x11 x12 x13 x14 x15 x16 x17 x18 K S P O Z WA BA nW cW nB cB h0 h2.1 h2.2.1 h2.2.2 w
    · rw [if_neg h2] at he
      subst he
      rw [if_neg (by decide)]
      by_cases h3 : (nW : Int) = O * K * K * C
      · by_cases h4 : nW ≤ 16384
        · exact refConv_w3 H W C x0 x1 x2 x8 x11 x12 x13 x14 x15 x16 x17 x18 K S P O Z WA BA nW cW nB cB h0 h3 h4 (fun h5 => h2 ⟨h3, h4, h5⟩) w
        · exact refConv_w2 H W C x0 x1 x2 x8 x11 x12 x13 x14 x15 x16 x17 x18 K S P O Z WA BA nW cW nB cB h0 h3 (by omega) w
      · exact refConv_w1 H W C x0 x1 x2 x8 x11 x12 x13 x14 x15 x16 x17 x18 K S P O Z WA BA nW cW nB cB h0 h3 w
end Go.Proofs.YtamcdpkakdiggaaDoor.CConv
end
section
namespace Go.Proofs.YtamcdpkakdiggaaDoor.CConv
open Go Go.ChangeShapes Go.WideShapes Go.ChangeAt Go.RowKit
open Plain CSat CShape CTensor
set_option linter.unusedVariables false
/-- the box of a node. -/
def NodeAt (B : Nat) (x0 x1 x2 x8 x11 x12 x13 x14 x15 x16 x17 x18 : Value) (K S P O Z : Int) (WA BA : Option Addr) (nW cW nB cB : Nat) (wd : World) : Prop := wd.rangeAt B 0 [x0, x1, x2, .int .i64 K, .int .i64 S, .int .i64 P, .int .i64 O, .int .i8 Z, x8, .slice WA nW cW, .slice BA nB cB, x11, x12, x13, x14, x15, x16, x17, x18]
theorem NodeAt.new (x0 x1 x2 x8 x11 x12 x13 x14 x15 x16 x17 x18 : Value) (K S P O Z : Int) (WA BA : Option Addr) (nW cW nB cB : Nat) (T : TypeId) (w : World) : NodeAt w.heap.size x0 x1 x2 x8 x11 x12 x13 x14 x15 x16 x17 x18 K S P O Z WA BA nW cW nB cB (w.alloc (.cells #[x0, x1, x2, .int .i64 K, .int .i64 S, .int .i64 P, .int .i64 O, .int .i8 Z, x8, .slice WA nW cW, .slice BA nB cB, x11, x12, x13, x14, x15, x16, x17, x18] T)) := fun j v hj => by
  rw [Nat.zero_add, Kit.new_cell]
  simpa using hj
theorem NodeAt.below {B B' : Nat} {x0 x1 x2 x8 x11 x12 x13 x14 x15 x16 x17 x18 : Value} {K S P O Z : Int} {WA BA : Option Addr} {nW cW nB cB : Nat} {w w' : World} (h : NodeAt B x0 x1 x2 x8 x11 x12 x13 x14 x15 x16 x17 x18 K S P O Z WA BA nW cW nB cB w) (hB : B < B') (hb : Below B' w w') : NodeAt B x0 x1 x2 x8 x11 x12 x13 x14 x15 x16 x17 x18 K S P O Z WA BA nW cW nB cB w' := fun j v hj =>
  (hb.cell (p := ⟨B, 0 + j, none⟩) hB).trans (h j v hj)
theorem NodeAt.at {B : Nat} {x0 x1 x2 x8 x11 x12 x13 x14 x15 x16 x17 x18 : Value} {K S P O Z : Int} {WA BA : Option Addr} {nW cW nB cB : Nat} {w : World} (h : NodeAt B x0 x1 x2 x8 x11 x12 x13 x14 x15 x16 x17 x18 K S P O Z WA BA nW cW nB cB w) (i : Nat) (v : Value) (hi : ([x0, x1, x2, .int .i64 K, .int .i64 S, .int .i64 P, .int .i64 O, .int .i8 Z, x8, .slice WA nW cW, .slice BA nB cB, x11, x12, x13, x14, x15, x16, x17, x18] : List Value)[i]? = some v) : w.cell? ⟨B, i, none⟩ = some v := by
  have := h i v hi
  rwa [Nat.zero_add] at this
theorem NodeAt.load {B : Nat} {x0 x1 x2 x8 x11 x12 x13 x14 x15 x16 x17 x18 : Value} {K S P O Z : Int} {WA BA : Option Addr} {nW cW nB cB : Nat} {w : World} (h : NodeAt B x0 x1 x2 x8 x11 x12 x13 x14 x15 x16 x17 x18 K S P O Z WA BA nW cW nB cB w) : (Instr.loadAt 28 (.pointer (some ⟨B, 0, none⟩))).run Tryd.prog w = .ok (.agg #[x0, x1, x2, .int .i64 K, .int .i64 S, .int .i64 P, .int .i64 O, .int .i8 Z, x8, .slice WA nW cW, .slice BA nB cB, x11, x12, x13, x14, x15, x16, x17, x18]) w :=
  run_loadAt_mid w B 0 _ [x0, x1, x2, .int .i64 K, .int .i64 S, .int .i64 P, .int .i64 O, .int .i8 Z, x8, .slice WA nW cW, .slice BA nB cB, x11, x12, x13, x14, x15, x16, x17, x18] _ h Tryd.underlying28 rfl (by kernel_rfl)
end Go.Proofs.YtamcdpkakdiggaaDoor.CConv
end
section
namespace Go.Proofs.YtamcdpkakdiggaaDoor.CKind
open Go Go.ChangeShapes Go.WideShapes Go.ChangeAt Go.RowKit Go.Deep
open Plain CSat CShape CTensor CConv
set_option linter.unusedVariables false
/-- the fields of a node. -/
structure Nd where
  (kd na nb K S P O Z Y : Int)
  (WA : Option Addr)
  (nW cW : Nat)
  (BA : Option Addr)
  (nB cB : Nat)
  (m1 s1 z1 m2 s2 z2 lo hi : Int)
def Nd.val (x : Nd) : Array Value := #[.int .i64 x.kd, .int .i64 x.na, .int .i64 x.nb, .int .i64 x.K, .int .i64 x.S, .int .i64 x.P, .int .i64 x.O, .int .i8 x.Z, .int .i8 x.Y, .slice x.WA x.nW x.cW, .slice x.BA x.nB x.cB, .int .i32 x.m1, .int .i64 x.s1, .int .i8 x.z1, .int .i32 x.m2, .int .i64 x.s2, .int .i8 x.z2, .int .i8 x.lo, .int .i8 x.hi]
def scaledB (k : Int) : Bool := k == 1 || k == 2 || k == 3 || k == 6 || k == 7
def sumsB (k : Int) : Bool := k == 1 || k == 2 || k == 3
def slidesB (k : Int) : Bool := k == 1 || k == 2 || k == 4 || k == 5
/-- is something told that a kind does not tell? -/
def Nd.moreB (x : Nd) : Bool :=
  (!sumsB x.kd && (decide (0 < x.nW) || decide (0 < x.nB))) || (x.kd != 1 && x.kd != 3 && x.O != 0) || (!slidesB x.kd && (x.K != 0 || x.S != 0)) || (!slidesB x.kd && x.kd != 8 && x.P != 0) ||
  (x.kd != 6 && (x.nb != 0 || x.Y != 0 || x.m2 != 0 || x.s2 != 0)) || x.z2 != 0 || (!scaledB x.kd && (x.m1 != 0 || x.s1 != 0 || x.z1 != 0 || x.lo != 0 || x.hi != 0)) || (!scaledB x.kd && x.kd != 8 && x.Z != 0)
set_option maxRecDepth 100000 in
set_option maxHeartbeats 2000000 in
theorem refScaled_to (k : Int) (w : World) : Calls Tryd.prog 23 #[.int .i64 k] w fun e w' => e = .returned (.bool (scaledB k)) ∧ w = w' := by
  go_enter Tryd.func23, Tryd.ntmps23
  go_wp2_with fail
  all_goals go_ret
  all_goals exact ⟨by simp_all [scaledB], rfl⟩
/-- what a call of More tells. -/
def MoreIs (x : Nd) : Prop := ∀ w : World, Calls Tryd.prog 17 #[.agg x.val] w fun e w' => e = .returned (.bool x.moreB) ∧ Below w.heap.size w w'
/-- the box of a node. -/
def NdAt (g : Nat) (x : Nd) (w : World) : Prop := w.rangeAt g 0 x.val.toList
theorem NdAt.at {g : Nat} {x : Nd} {w : World} (h : NdAt g x w) (i : Nat) (v : Value) (hi : x.val.toList[i]? = some v) : w.cell? ⟨g, i, none⟩ = some v := by
  have := h i v hi
  rwa [Nat.zero_add] at this
theorem NdAt.below {g B : Nat} {x : Nd} {w w' : World} (h : NdAt g x w) (hB : g < B) (hb : Below B w w') : NdAt g x w' := fun j v hj => (hb.cell (p := ⟨g, 0 + j, none⟩) hB).trans (h j v hj)
theorem NdAt.new (x : Nd) (T : TypeId) (w : World) : NdAt w.heap.size x (w.alloc (.cells x.val T)) := fun j v hj => by
  rw [Nat.zero_add, Kit.new_cell]
  simpa using hj
end Go.Proofs.YtamcdpkakdiggaaDoor.CKind
end
