/- Layer 9: what is cropped, and moved back, is as it was. -/
import Derived.Test.YtgoonenkcikkaaaPadBoth
namespace Go.Proofs.Ytgoonenkcikkaaa.CPad
open Go Go.ChangeShapes Go.WideShapes Go.ChangeAt Go.RowKit
open Plain CSat CShape CTensor
set_option linter.unusedVariables false

theorem parts_at (b d q : Nat) : (q / d / b * b + q / d % b) * d + q % d = q := by
  rw [Nat.mul_comm (q / d / b) b, Nat.div_add_mod, Nat.mul_comm (q / d) d, Nat.div_add_mod]
theorem parts_lt {a b d q : Nat} (h : q < a * b * d) : q / d / b < a ∧ q / d % b < b ∧ q % d < d := by
  have hd : 0 < d := by rcases Nat.eq_zero_or_pos d with e | e; · subst e; simp at h
                        · exact e
  have hb : 0 < b := by rcases Nat.eq_zero_or_pos b with e | e; · subst e; simp at h
                        · exact e
  refine ⟨?_, Nat.mod_lt _ hb, Nat.mod_lt _ hd⟩
  rw [Nat.div_div_eq_div_mul]
  refine Nat.div_lt_of_lt_mul ?_
  rw [Nat.mul_comm d b, Nat.mul_comm (b * d) a, ← Nat.mul_assoc]; exact h
theorem rowL_get (F : Nat → Int) (m q : Nat) (h : q < m) : (rowL F m).getD q 0 = F q := by simp [rowL, List.getD_eq_getElem?_getD, h]
theorem rowL_self (zs : List Int) : rowL (fun q => zs.getD q 0) zs.length = zs := by
  apply List.ext_getElem?
  intro q
  by_cases h : q < zs.length
  · simp [rowL, h, List.getD_eq_getElem?_getD]
  · rw [List.getElem?_eq_none (by simp [rowL]; omega), List.getElem?_eq_none (by omega)]
/-- a number within a list laid by a rule. -/
theorem pix_row (F : Nat → Int) {a b d i j k : Nat} (z : Int) (hi : i < a) (hj : j < b) (hk : k < d) : pixZ (rowL F (a * b * d)) (a : Int) (b : Int) (d : Int) (i : Int) (j : Int) (k : Int) z = F ((i * b + j) * d + k) := by
  unfold pixZ
  rw [if_pos ⟨by omega, by omega, by omega, by omega⟩]
  have e : (((i : Int) * (b : Int) + (j : Int)) * (d : Int) + (k : Int)).toNat = (i * b + j) * d + k := by
    have : ((i : Int) * (b : Int) + (j : Int)) * (d : Int) + (k : Int) = (((i * b + j) * d + k : Nat) : Int) := by simp
    rw [this, Int.toNat_natCast]
  rw [e, rowL_get _ _ _ (at_lt hi hj hk)]
theorem pix_in' (zs : List Int) {a b d i j k : Nat} (z : Int) (hi : i < a) (hj : j < b) : pixZ zs (a : Int) (b : Int) (d : Int) (i : Int) (j : Int) (k : Int) z = zs.getD ((i * b + j) * d + k) 0 := by
  unfold pixZ
  rw [if_pos ⟨by omega, by omega, by omega, by omega⟩]
  have e : (((i : Int) * (b : Int) + (j : Int)) * (d : Int) + (k : Int)).toNat = (i * b + j) * d + k := by
    have : ((i : Int) * (b : Int) + (j : Int)) * (d : Int) + (k : Int) = (((i * b + j) * d + k : Nat) : Int) := by simp
    rw [this, Int.toNat_natCast]
  rw [e]
theorem pix_not (zs : List Int) {H W C h v k : Int} (z : Int) (hn : ¬ (0 ≤ h ∧ h < H ∧ 0 ≤ v ∧ v < W)) : pixZ zs H W C h v k z = z := by unfold pixZ; rw [if_neg hn]
/-- forth by h and v, and back. -/
def backF (zs : List Int) (a b d : Nat) (h v z : Int) : Nat → Int :=
  gridF b d (fun i j k => pixZ (rowL (gridF b d (fun i j k => pixZ zs a b d ((i : Int) - h) ((j : Int) - v) (k : Int) z)) (a * b * d)) a b d ((i : Int) - -h) ((j : Int) - -v) (k : Int) z)
theorem back_stays (zs : List Int) {a b d q : Nat} (h v z : Int) (hq : q < a * b * d) (h1 : 0 ≤ ((q / d / b : Nat) : Int) + h) (h2 : ((q / d / b : Nat) : Int) + h < a) (h3 : 0 ≤ ((q / d % b : Nat) : Int) + v) (h4 : ((q / d % b : Nat) : Int) + v < b) :
    backF zs a b d h v z q = zs.getD q 0 := by
  obtain ⟨p1, p2, p3⟩ := parts_lt hq
  obtain ⟨i, hi⟩ : ∃ i : Nat, ((q / d / b : Nat) : Int) - -h = (i : Int) := ⟨(((q / d / b : Nat) : Int) - -h).toNat, by omega⟩
  obtain ⟨j, hj⟩ : ∃ j : Nat, ((q / d % b : Nat) : Int) - -v = (j : Int) := ⟨(((q / d % b : Nat) : Int) - -v).toNat, by omega⟩
  have e1 : backF zs a b d h v z q = pixZ (rowL (gridF b d (fun i j k => pixZ zs a b d ((i : Int) - h) ((j : Int) - v) (k : Int) z)) (a * b * d)) a b d (((q / d / b : Nat) : Int) - -h) (((q / d % b : Nat) : Int) - -v) ((q % d : Nat) : Int) z := rfl
  rw [e1, hi, hj, pix_row _ z (by omega) (by omega) p3, grid_at b d _ (by omega) p3]
  have e2 : (i : Int) - h = ((q / d / b : Nat) : Int) := by omega
  have e3 : (j : Int) - v = ((q / d % b : Nat) : Int) := by omega
  rw [e2, e3, pix_in' zs z p1 p2, parts_at]
theorem back_goes (zs : List Int) {a b d q : Nat} (h v z : Int) (hn : ¬ (0 ≤ ((q / d / b : Nat) : Int) + h ∧ ((q / d / b : Nat) : Int) + h < a ∧ 0 ≤ ((q / d % b : Nat) : Int) + v ∧ ((q / d % b : Nat) : Int) + v < b)) :
    backF zs a b d h v z q = z := by
  have e1 : backF zs a b d h v z q = pixZ (rowL (gridF b d (fun i j k => pixZ zs a b d ((i : Int) - h) ((j : Int) - v) (k : Int) z)) (a * b * d)) a b d (((q / d / b : Nat) : Int) - -h) (((q / d % b : Nat) : Int) - -v) ((q % d : Nat) : Int) z := rfl
  rw [e1, pix_not]
  intro hh
  exact hn ⟨by omega, by omega, by omega, by omega⟩
/-- what was laid around is cropped. -/
theorem crop_back (H W C : Int) (A1 : Option Addr) (zs : List Int) (n c1 : Nat) (hn : zs.length = n) (ht : tensB H W C n = true) (p z : Int) (p0 : 0 ≤ p) (p4 : p ≤ 4) (hs : shapeB (H + 2 * p) (W + 2 * p) C = true)
    (a b a1 b1 d : Nat) (ha : H = (a : Int)) (hb : W = (b : Int)) (hd : C = (d : Int)) (hm : a * b * d = n) (ha1 : H + 2 * p = (a1 : Int)) (hb1 : W + 2 * p = (b1 : Int)) (hc : a1 * b1 * d ≤ c1) (w : World)
    (hr : Kit.Rd w w.heap.size A1 (I8s (rowL (gridF b1 d (fun i j k => pixZ zs H W C ((i : Int) - p) ((j : Int) - p) (k : Int) z)) (a1 * b1 * d)))) :
    Calls Try.prog 8 #[.agg #[.int .i64 (H + 2 * p), .int .i64 (W + 2 * p), .int .i64 C, .slice A1 (a1 * b1 * d) c1], .int .i64 p] w (Made w H W C n zs (.int .i64 0)) := by
  have hs0 : shapeB H W C = true := by simp only [tensB, Bool.and_eq_true] at ht; exact ht.1
  obtain ⟨g1, g2, g3, g4, g5, g6, g7⟩ := shapeB_yes hs0
  obtain ⟨k1, k2, k3, k4, k5, k6, k7⟩ := shapeB_yes hs
  have e1 : H + 2 * p + 2 * (-p) = H := by omega
  have e2 : W + 2 * p + 2 * (-p) = W := by omega
  have ht1 : tensB (H + 2 * p) (W + 2 * p) C (a1 * b1 * d) = true := by
    simp only [tensB, Bool.and_eq_true, decide_eq_true_eq]
    exact ⟨hs, by rw [ha1, hb1, hd]; simp⟩
  obtain ⟨pn, hpn⟩ : ∃ pn : Nat, p = (pn : Int) := ⟨p.toNat, by omega⟩
  have h := crop_yes (H + 2 * p) (W + 2 * p) C A1 (rowL (gridF b1 d (fun i j k => pixZ zs H W C ((i : Int) - p) ((j : Int) - p) (k : Int) z)) (a1 * b1 * d)) (a1 * b1 * d) c1 p (rowL_len _ _) hc ht1 p0 p4 (by rw [e1, e2]; exact hs0) a b d (by rw [e1]; exact ha) (by rw [e2]; exact hb) hd n hm (fun q => zs.getD q 0) (fun i j k hi hj hk => ?_) w (Nat.le_refl _) hr
  · rw [e1, e2] at h
    have e3 : rowL (fun q => zs.getD q 0) n = zs := by rw [← hn]; exact rowL_self zs
    rw [e3] at h
    exact h
  · rw [IntWalk.i64_in _ (by omega), IntWalk.i64_in _ (by omega)]
    have f1 : (i : Int) - -p = ((i + pn : Nat) : Int) := by omega
    have f2 : (j : Int) - -p = ((j + pn : Nat) : Int) := by omega
    rw [f1, f2, ha1, hb1, hd, pix_row _ 0 (by omega) (by omega) hk, grid_at b1 d _ (by omega) hk]
    have f3 : ((i + pn : Nat) : Int) - p = (i : Int) := by omega
    have f4 : ((j + pn : Nat) : Int) - p = (j : Int) := by omega
    rw [f3, f4, ha, hb, pix_in' zs z hi hj]
/-- the box of a pair. -/
def PairAt (B : Nat) (x y : Int) (wd : World) : Prop := wd.cell? ⟨B, 0, none⟩ = some (.int .i8 x) ∧ wd.cell? ⟨B, 1, none⟩ = some (.int .i8 y)
theorem PairAt.new (x y : Int) (T : TypeId) (w : World) : PairAt w.heap.size x y (w.alloc (.cells #[.int .i8 x, .int .i8 y] T)) := ⟨Kit.new_cell _ _ _ _, Kit.new_cell _ _ _ _⟩
theorem PairAt.below {B B' : Nat} {x y : Int} {w w' : World} (h : PairAt B x y w) (hB : B < B') (hb : Below B' w w') : PairAt B x y w' := ⟨(hb.cell (p := ⟨B, 0, none⟩) hB).trans h.1, (hb.cell (p := ⟨B, 1, none⟩) hB).trans h.2⟩
end Go.Proofs.Ytgoonenkcikkaaa.CPad
