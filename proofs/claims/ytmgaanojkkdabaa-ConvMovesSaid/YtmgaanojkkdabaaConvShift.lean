/- Layer 10: a tensor without its first rows makes the same sums, one row farther on (numbers alone). -/
import Derived.Test.YtmgaanojkkdabaaConvOf
namespace Go.Proofs.Ytmgaanojkkdabaa.CConv
open Go Go.ChangeShapes Go.WideShapes Go.ChangeAt Go.RowKit
open Plain CSat CShape CTensor
set_option linter.unusedVariables false

theorem getD_drop (zs : List Int) (s q : Nat) : (zs.drop s).getD q 0 = zs.getD (s + q) 0 := by
  rw [List.getD_eq_getElem?_getD, List.getElem?_drop, ← List.getD_eq_getElem?_getD]
theorem termF_shift (zs ws : List Int) (st o s : Nat) (Z : Int) (c : Nat) : termF (zs.drop s) ws st o Z c = termF zs ws (s + st) o Z c := by
  unfold termF
  rw [getD_drop, Nat.add_assoc]
theorem placeF_shift (zs ws : List Int) {H W C S top left : Int} (d kk o : Nat) (Z : Int) (i j s : Nat) (hs : S * W * C = (s : Int)) (hS : 1 ≤ S) (hW : 0 ≤ W) (hC : 0 ≤ C) (ht : 0 ≤ top) :
    placeF (zs.drop s) ws (H - S) W C top left d kk o Z i j = placeF zs ws H W C (top + S) left d kk o Z i j := by
  unfold placeF
  by_cases h : 0 ≤ top + (i : Int) ∧ top + (i : Int) < H - S ∧ 0 ≤ left + (j : Int) ∧ left + (j : Int) < W
  · obtain ⟨h1, h2, h3, h4⟩ := h
    rw [if_pos ⟨h1, h2, h3, h4⟩, if_pos ⟨by omega, by omega, h3, h4⟩]
    have hp : 0 ≤ ((top + (i : Int)) * W + (left + (j : Int))) * C := Int.mul_nonneg (by have := Int.mul_nonneg h1 hW; omega) hC
    have e : ((top + S + (i : Int)) * W + (left + (j : Int))) * C = (s : Int) + ((top + (i : Int)) * W + (left + (j : Int))) * C := by
      rw [← hs, show top + S + (i : Int) = S + (top + (i : Int)) by omega, Int.add_mul S, Int.add_assoc, Int.add_mul (S * W)]
    rw [e]
    have e2 : ((s : Int) + ((top + (i : Int)) * W + (left + (j : Int))) * C).toNat = s + (((top + (i : Int)) * W + (left + (j : Int))) * C).toNat := by omega
    rw [e2]
    exact psum_congr fun k _ => termF_shift zs ws _ _ s Z k
  · rw [if_neg h, if_neg (fun h2 => h ⟨by omega, by omega, h2.2.2.1, h2.2.2.2⟩)]
theorem winF_shift (zs ws : List Int) {H W C S top left : Int} (d kk o : Nat) (Z : Int) (s : Nat) (hs : S * W * C = (s : Int)) (hS : 1 ≤ S) (hW : 0 ≤ W) (hC : 0 ≤ C) (ht : 0 ≤ top) :
    winF (zs.drop s) ws (H - S) W C top left d kk o Z = winF zs ws H W C (top + S) left d kk o Z := by
  unfold winF
  exact psum_congr fun i _ => by
    unfold rowF
    exact psum_congr fun j _ => placeF_shift zs ws d kk o Z i j s hs hS hW hC ht
/-- one row farther on. -/
theorem sumF_shift (zs ws bs : List Int) {H W C S P : Int} (d kk : Nat) (Z : Int) (h v o s : Nat) (hs : S * W * C = (s : Int)) (hS : 1 ≤ S) (hW : 0 ≤ W) (hC : 0 ≤ C) (ht : P ≤ (h : Int) * S) :
    sumF (zs.drop s) ws bs (H - S) W C S P d kk Z h v o = sumF zs ws bs H W C S P d kk Z (h + 1) v o := by
  unfold sumF
  rw [winF_shift zs ws d kk o Z s hs hS hW hC (by omega)]
  have e : (h : Int) * S - P + S = ((h + 1 : Nat) : Int) * S - P := by
    rw [show ((h + 1 : Nat) : Int) = (h : Int) + 1 by omega, Int.add_mul, Int.one_mul]; omega
  rw [e]
theorem grid_line (b d : Nat) (G : Nat → Nat → Nat → Int) {h i : Nat} (hi : i < b * d) : gridF b d G (h * (b * d) + i) = G h (i / d) (i % d) := by
  have hd : 0 < d := by
    rcases Nat.eq_zero_or_pos d with e | e
    · subst e; simp at hi
    · exact e
  have h1 : i / d < b := Nat.div_lt_of_lt_mul (by rw [Nat.mul_comm]; exact hi)
  have h2 : i % d < d := Nat.mod_lt _ hd
  have e : h * (b * d) + i = (h * b + i / d) * d + i % d := by
    have := Nat.div_add_mod i d
    rw [Nat.add_mul, Nat.mul_assoc, Nat.mul_comm (i / d) d]; omega
  rw [e, grid_at b d G h1 h2]
/-- a window has one place more where there are as many rows more as its step. -/
theorem stepsM_shift {H K S P : Int} (ha : argsB H K S P = true) (h1 : 1 ≤ H - S) (h0 : 0 ≤ H - S + 2 * P - K) : argsB (H - S) K S P = true ∧ stepsM H K S P = stepsM (H - S) K S P + 1 := by
  obtain ⟨a1, a2, a3, a4, a5, a6, a7, a8, a9⟩ := argsB_yes ha
  have hb : argsB (H - S) K S P = true := by
    simp only [argsB, decide_eq_true_eq]; omega
  refine ⟨hb, ?_⟩
  unfold stepsM
  rw [if_pos ha, if_pos hb, if_neg (by omega), if_neg (by omega)]
  have e : H + 2 * P - K = (H - S + 2 * P - K) + S := by omega
  rw [e, Int.add_ediv_of_dvd_right (Int.dvd_refl S), Int.ediv_self (by omega)]
/-- the rows that are left are a tensor. -/
theorem tens_drop {H W C S : Int} {n s : Nat} (ht : tensB H W C n = true) (hS : 1 ≤ S) (hH : S < H) (hs : S * W * C = (s : Int)) : tensB (H - S) W C (n - s) = true ∧ s < n := by
  simp only [tensB, Bool.and_eq_true, decide_eq_true_eq] at ht ⊢
  obtain ⟨h1, h2⟩ := ht
  obtain ⟨a1, a2, a3, a4, a5, a6, a7⟩ := shapeB_yes h1
  have hWC : 0 < W * C := Int.mul_pos (by omega) (by omega)
  have e1 : H * W * C = H * (W * C) := Int.mul_assoc _ _ _
  have e2 : S * W * C = S * (W * C) := Int.mul_assoc _ _ _
  have e3 : (H - S) * W * C = H * (W * C) - S * (W * C) := by rw [Int.mul_assoc, Int.sub_mul]
  have e4 : 0 < (H - S) * (W * C) := Int.mul_pos (by omega) hWC
  rw [Int.sub_mul] at e4
  have e5 : 0 < S * (W * C) := Int.mul_pos (by omega) hWC
  refine ⟨⟨?_, ?_⟩, by omega⟩
  · simp only [shapeB, decide_eq_true_eq]
    exact ⟨by omega, by omega, a3, a4, a5, a6, by omega⟩
  · omega
end Go.Proofs.Ytmgaanojkkdabaa.CConv
