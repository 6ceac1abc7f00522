/- LowerAlone: one channel of a node alone: its weights, its bias, its sums. -/
import Derived.Test.YtoobpjdbdikbiaaLowerBoth
import Derived.Test.YtoobpjdbdikbiaaBiasNum
namespace Go.Proofs.Ytoobpjdbdikbiaa.CLower
open Go Go.ChangeShapes Go.WideShapes Go.ChangeAt Go.RowKit
open Plain CSat CShape CTensor CConv
set_option linter.unusedVariables false

theorem part_at (ws : List Int) (p n k : Nat) (hk : k < n) : ((ws.drop p).take n).getD k 0 = ws.getD (p + k) 0 := by
  rw [List.getD_eq_getElem?_getD, List.getD_eq_getElem?_getD, List.getElem?_take_of_lt hk, List.getElem?_drop]
theorem part_I8b {ws : List Int} (h : I8b ws) (p n : Nat) : I8b ((ws.drop p).take n) := fun q => by
  by_cases hq : q < n
  · rw [part_at ws p n q hq]; exact h _
  · rw [List.getD_eq_getElem?_getD, List.getElem?_eq_none (by simp; omega)]; decide
theorem part_I8s (ws : List Int) (p n : Nat) : I8s ((ws.drop p).take n) = ((I8s ws).drop p).take n := by
  unfold I8s; rw [List.map_take, List.map_drop]
/-- the window of one channel, by its own weights. -/
theorem win_alone (zs ws : List Int) (H W C top left : Int) (d kk o : Nat) (Z : Int) (wd : Nat) (hwd : kk * kk * d = wd) :
    winF zs ((ws.drop (o * wd)).take wd) H W C top left d kk 0 Z = winF zs ws H W C top left d kk o Z := by
  unfold winF
  refine psum_congr fun i hi => ?_
  unfold rowF
  refine psum_congr fun j hj => ?_
  unfold placeF
  split
  · refine psum_congr fun q hq => ?_
    unfold termF
    have h1 : ((0 * kk + i) * kk + j) * d + q < wd := by
      have a1 : i * kk + j < kk * kk := by
        have := Nat.mul_le_mul_right kk (show i + 1 ≤ kk by omega)
        rw [Nat.add_mul, Nat.one_mul] at this; omega
      have a2 := Nat.mul_le_mul_right d (show i * kk + j + 1 ≤ kk * kk by omega)
      rw [Nat.add_mul, Nat.one_mul, hwd] at a2
      rw [Nat.zero_mul, Nat.zero_add]; omega
    have h2 : o * wd + (((0 * kk + i) * kk + j) * d + q) = ((o * kk + i) * kk + j) * d + q := by
      rw [← hwd]
      simp only [Nat.add_mul, Nat.zero_mul, Nat.zero_add, ← Nat.mul_assoc]
      omega
    rw [part_at ws _ _ _ h1, h2]
  · rfl
theorem grid_alone (zs ws bs : List Int) (H W C S P : Int) (d kk : Nat) (Z : Int) (b oo o wd : Nat) (hwd : kk * kk * d = wd) (ho : o < oo) (i : Nat) :
    gridF b 1 (sumF zs ((ws.drop (o * wd)).take wd) [bs.getD o 0] H W C S P d kk Z) i = gridF b oo (sumF zs ws bs H W C S P d kk Z) (i * oo + o) := by
  unfold gridF
  have h1 : (i * oo + o) / oo = i := by rw [Nat.mul_comm, Nat.mul_add_div (by omega), Nat.div_eq_of_lt ho]; rfl
  have h2 : (i * oo + o) % oo = o := by rw [Nat.mul_comm, Nat.mul_add_mod, Nat.mod_eq_of_lt ho]
  rw [h1, h2, Nat.div_one, Nat.mod_one]
  unfold sumF
  rw [win_alone zs ws H W C _ _ d kk o Z wd hwd]
  rfl
theorem conv_alone {H W C K S P O : Int} {nW nB wd : Nat} (h : convE H W C K S P O nW nB = 0) (hw : (wd : Int) = K * K * C) : convE H W C K S P 1 wd 1 = 0 := by
  obtain ⟨h1, h2, h3, h4⟩ := convE_ok h
  have h5 := slide_one h1
  obtain ⟨-, -, -, -, hO1, -, -⟩ := shapeB_yes (slide_ok h1).2.2.2.2.2
  have h6 : wd ≤ 16384 := by
    have : (1 : Int) * (K * K * C) ≤ O * (K * K * C) := Int.mul_le_mul_of_nonneg_right (by omega) (by rw [← hw]; omega)
    rw [← hw] at this
    have e : (nW : Int) = O * (wd : Int) := by rw [h2, hw]; simp [Int.mul_assoc]
    omega
  unfold convE
  rw [h5]
  have e1 : (wd : Int) = 1 * K * K * C := by rw [hw, Int.one_mul]
  simp [e1]
  omega
theorem rd_part {w : World} {B g off : Nat} {xs : List Value} (h : Kit.Rd w B (some ⟨g, off, none⟩) xs) (p n : Nat) : Kit.Rd w B (some ⟨g, off + p, none⟩) ((xs.drop p).take n) := fun j v hj => by
  have hj2 : xs[p + j]? = some v := by
    rcases Nat.lt_or_ge j n with hlt | hge
    · rw [List.getElem?_take_of_lt hlt, List.getElem?_drop] at hj; exact hj
    · rw [List.getElem?_eq_none (by simp; omega)] at hj; cases hj
  obtain ⟨ad, e, hb, hc⟩ := h (p + j) v hj2
  cases e
  refine ⟨_, rfl, hb, ?_⟩
  rw [← hc]
  congr 1
  unfold Addr.add
  split
  · rename_i e; subst e
    split
    · rename_i e2
      have h0 : p = 0 := by omega
      subst h0
      rfl
    · simp
  · split
    · omega
    · simp [Nat.add_assoc]
theorem bias_one (bs : List Int) (o : Nat) (h : o < bs.length) : ((I32v bs).drop o).take 1 = I32v [bs.getD o 0] := by
  unfold I32v
  rw [← List.map_drop, ← List.map_take, List.getD_eq_getElem?_getD, List.getElem?_eq_getElem h, List.drop_eq_getElem_cons h]
  rfl
end Go.Proofs.Ytoobpjdbdikbiaa.CLower
