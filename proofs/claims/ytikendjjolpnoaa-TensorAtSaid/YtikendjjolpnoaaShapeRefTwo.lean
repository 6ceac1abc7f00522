/- Contracts of the document's own answers of layer 4 (shape), the second part: a place that is counted, the shape of a window, and the fixed calls. -/
import Derived.Test.YtikendjjolpnoaaShapeRef
namespace Go.Proofs.Ytikendjjolpnoaa.CShape
open Go Go.ChangeShapes Go.WideShapes Go.ChangeAt Go.RowKit
open Plain CSat
set_option linter.unusedVariables false

/-- within the sides? -/
def sides (H W C h w c : Int) : Prop := 0 ≤ h ∧ h < H ∧ 0 ≤ w ∧ w < W ∧ 0 ≤ c ∧ c < C
/-- not yet behind it? -/
def ahead2 (i k h w : Int) : Prop := i < h ∨ i = h ∧ k ≤ w
def ahead3 (i k j h w c : Int) : Prop := i < h ∨ i = h ∧ k < w ∨ i = h ∧ k = w ∧ j ≤ c

theorem refIndex_right (H W C h w c r : Int) (hs : shapeB H W C = true) (hr : sides H W C h w c → (h * W + w) * C + c = r) (hn : ¬ sides H W C h w c → r = -1) (wd : World) :
    Calls Try.prog 20 #[.agg #[.int .i64 H, .int .i64 W, .int .i64 C], .int .i64 h, .int .i64 w, .int .i64 c] wd fun e w' => e = .returned (.int .i64 r) ∧ Below wd.heap.size wd w' := by
  obtain ⟨n, hn0, hn1, hn2⟩ := elemsZ_some hs
  obtain ⟨a1, a2, a3, a4, a5, a6, a7⟩ := shapeB_yes hs
  have HN := Lib.hid hn0
  have HS := Lib.hid hs
  have HR := Lib.hid hr
  have HF := Lib.hid hn
  clear hn0 hs hr hn a7
  go_enter Try.func20, Try.ntmps20
  go_wp2_with (go_at_call 15; refine (refElems_to _ _ _ _ HN.out _).mono ?_; rintro e w1 ⟨rfl, hb⟩)
  have hB : Below wd.heap.size wd w1 := ((Below.refl _ _).alloc (Nat.le_refl _) _).trans (hb.mono (by simp))
  obtain ⟨hc, hf⟩ := Kit.bcell hb
  have c0 : w1.cell? ⟨wd.heap.size, 0, none⟩ = some (.int .i64 H) := by go_cell
  have c1 : w1.cell? ⟨wd.heap.size, 1, none⟩ = some (.int .i64 W) := by go_cell
  have c2 : w1.cell? ⟨wd.heap.size, 2, none⟩ = some (.int .i64 C) := by go_cell
  have HB := Lib.hid hB
  clear hc hf hb hB
  go_loop [9, 10, 11, 12] (fun x i _ _ => ∃ (i0 x0 : Int), 0 ≤ i0 ∧ i0 ≤ H ∧ i = .int .i64 i0 ∧ x = .int .i64 x0 ∧ Hid (x0 = i0 * W * C) ∧ Hid (sides H W C h w c → i0 ≤ h)) (fun _ i _ _ => (H - intOf i).toNat)
  case atStart => exact ⟨0, 0, by omega, by omega, rfl, rfl, Lib.hid (by simp), Lib.hid (fun h => h.1)⟩
  case round =>
    obtain ⟨i0, x0, hi1, hi2, rfl, rfl, hx, hd⟩ := hrel
    by_cases hlt : i0 < H
    · go_wp2
      go_loop [9, 11, 12] (fun x k _ => ∃ (k0 x1 : Int), 0 ≤ k0 ∧ k0 ≤ W ∧ k = .int .i64 k0 ∧ x = .int .i64 x1 ∧ Hid (x1 = (i0 * W + k0) * C) ∧ Hid (sides H W C h w c → ahead2 i0 k0 h w)) (fun _ k _ => (W - intOf k).toNat)
      case atStart => exact ⟨0, x0, by omega, by omega, rfl, rfl, Lib.hid (by rw [hx.out]; simp), Lib.hid (fun q => by have := hd.out q; have := q.2.2.1; unfold ahead2; omega)⟩
      case round =>
        obtain ⟨k0, x1, hk1, hk2, rfl, rfl, hx1, hd1⟩ := hrel
        by_cases hlk : k0 < W
        · go_wp2
          go_loop [9, 12] (fun x j => ∃ (j0 x2 : Int), 0 ≤ j0 ∧ j0 ≤ C ∧ j = .int .i64 j0 ∧ x = .int .i64 x2 ∧ Hid (x2 = (i0 * W + k0) * C + j0) ∧ Hid (sides H W C h w c → ahead3 i0 k0 j0 h w c)) (fun _ j => (C - intOf j).toNat)
          case atStart => exact ⟨0, x1, by omega, by omega, rfl, rfl, Lib.hid (by rw [hx1.out]; simp), Lib.hid (fun q => by have h1 := hd1.out q; have := q.2.2.2.2.1; unfold ahead2 at h1; unfold ahead3; omega)⟩
          case round =>
            obtain ⟨j0, x2, hj1, hj2, rfl, rfl, hx2, hd2⟩ := hrel
            by_cases hlj : j0 < C
            · have hbd := at_bd HS.out hi1 hlt hk1 hlk hj1 hlj
              have x1b : 0 ≤ x2 := by rw [hx2.out]; omega
              have x2b : x2 ≤ 1024 := by rw [hx2.out]; omega
              clear hbd
              by_cases hit : i0 = h ∧ k0 = w ∧ j0 = c
              · have e : r = x2 := by
                  obtain ⟨e1, e2, e3⟩ := hit
                  rw [hx2.out, e1, e2, e3]
                  exact (HR.out ⟨by omega, by omega, by omega, by omega, by omega, by omega⟩).symm
                subst e
                obtain ⟨e1, e2, e3⟩ := hit
                go_wp2
                go_ret
                exact ⟨rfl, HB.out⟩
              · have hd3 : Hid (sides H W C h w c → ahead3 i0 k0 (j0 + 1) h w c) := Lib.hid (fun q => by have h1 := hd2.out q; unfold ahead3 at h1 ⊢; omega)
                have hx3 : Hid (x2 + 1 = (i0 * W + k0) * C + (j0 + 1)) := Lib.hid (by have := hx2.out; omega)
                have t3 : ¬ i0 = h ∨ i0 = h ∧ ¬ k0 = w ∨ i0 = h ∧ k0 = w ∧ ¬ j0 = c := by omega
                clear hit
                rcases t3 with t1 | ⟨rfl, t2⟩ | ⟨rfl, rfl, t3⟩
                all_goals
                  go_wp2
                  go_round
                  case rel => first | exact ⟨j0 + 1, x2 + 1, by omega, by omega, by go_num, by go_num, hx3, hd3⟩ | exact ⟨_, _, _, ⟨j0 + 1, by omega, by omega, by go_num, x2 + 1, by go_num, hx3, hd3⟩, rfl, rfl, rfl⟩ | exact ⟨_, _, _, ⟨j0 + 1, x2 + 1, by omega, by omega, by go_num, by go_num, hx3, hd3⟩, rfl, rfl, rfl⟩
                  case measure => simp [intOf]; omega
            · have hje : j0 = C := by omega
              subst hje
              have hx3 : Hid (x2 = (i0 * W + (k0 + 1)) * j0) := Lib.hid (by have := hx2.out; rw [← Int.add_assoc, Int.add_mul (i0 * W + k0), Int.one_mul]; exact this)
              have hd3 : Hid (sides H W j0 h w c → ahead2 i0 (k0 + 1) h w) := Lib.hid (fun q => by have h1 := hd2.out q; have := q.2.2.2.2.2; unfold ahead3 at h1; unfold ahead2; omega)
              go_wp2
              go_round
              case rel => first | exact ⟨k0 + 1, x2, by omega, by omega, by go_num, by go_num, hx3, hd3⟩ | exact ⟨_, _, _, ⟨k0 + 1, by omega, by omega, by go_num, x2, by go_num, hx3, hd3⟩, rfl, rfl, rfl⟩ | exact ⟨_, _, _, ⟨k0 + 1, x2, by omega, by omega, by go_num, by go_num, hx3, hd3⟩, rfl, rfl, rfl⟩
              case measure => simp [intOf]; omega
        · have hke : k0 = W := by omega
          subst hke
          have hx3 : Hid (x1 = (i0 + 1) * k0 * C) := Lib.hid (by have := hx1.out; rw [Int.add_mul, Int.one_mul]; exact this)
          have hd3 : Hid (sides H k0 C h w c → i0 + 1 ≤ h) := Lib.hid (fun q => by have h1 := hd1.out q; have := q.2.2.2.1; unfold ahead2 at h1; omega)
          go_wp2
          go_round
          case rel => first | exact ⟨i0 + 1, x1, by omega, by omega, by go_num, by go_num, hx3, hd3⟩ | exact ⟨_, _, _, ⟨i0 + 1, by omega, by omega, by go_num, x1, by go_num, hx3, hd3⟩, rfl, rfl, rfl⟩ | exact ⟨_, _, _, ⟨i0 + 1, x1, by omega, by omega, by go_num, by go_num, hx3, hd3⟩, rfl, rfl, rfl⟩
          case measure => simp [intOf]; omega
    · have hie : i0 = H := by omega
      have e : r = -1 := HF.out (fun q => by have := hd.out q; have := q.2.1; omega)
      subst e
      subst hie
      go_wp2
      go_ret
      exact ⟨rfl, HB.out⟩
/-- the position, or none. -/
def indexZ (H W C h w c z : Int) : Int := if inB H W C h w c then (h * W + w) * C + c else z
theorem indexZ_yes {H W C h w c z : Int} (hs : inB H W C h w c = true) : indexZ H W C h w c z = (h * W + w) * C + c := by unfold indexZ; rw [if_pos hs]
theorem indexZ_no {H W C h w c z : Int} (hs : inB H W C h w c = false) : indexZ H W C h w c z = z := by unfold indexZ; rw [if_neg (by simp [hs])]
theorem index_to (H W C h w c r : Int) (b : Bool) (hs : inB H W C h w c = b) (hr : indexZ H W C h w c 0 = r) (wd : World) :
    Calls Try.prog 52 #[.agg #[.int .i64 H, .int .i64 W, .int .i64 C], .int .i64 h, .int .i64 w, .int .i64 c] wd fun e w' => e = .returned (.tuple #[.int .i64 r, .bool b]) ∧ Below wd.heap.size wd w' := by
  subst hr
  cases b
  · rw [indexZ_no hs]; exact index_no H W C h w c hs wd
  · rw [indexZ_yes hs]
    simp only [inB, Bool.and_eq_true, decide_eq_true_eq] at hs
    obtain ⟨h0, h1, h2, h3, h4, h5, h6⟩ := hs
    exact index_yes H W C h w c _ h0 h1 h2 h3 h4 h5 h6 rfl wd
theorem refIndex_to (H W C h w c r : Int) (hr : indexZ H W C h w c (-1) = r) (wd : World) :
    Calls Try.prog 20 #[.agg #[.int .i64 H, .int .i64 W, .int .i64 C], .int .i64 h, .int .i64 w, .int .i64 c] wd fun e w' => e = .returned (.int .i64 r) ∧ Below wd.heap.size wd w' := by
  subst hr
  cases hv : shapeB H W C
  · rw [indexZ_no (by simp [inB, hv])]
    exact refIndex_wrong H W C h w c hv wd
  · have he : (inB H W C h w c = true) ↔ sides H W C h w c := by simp [inB, hv, sides]
    exact refIndex_right H W C h w c _ hv (fun q => (indexZ_yes (he.2 q)).symm) (fun q => indexZ_no (by rw [← Bool.not_eq_true]; exact fun x => q (he.1 x))) wd

end Go.Proofs.Ytikendjjolpnoaa.CShape
