/- Plain facts on a row that is twice another one, and on rows one behind the other. -/
import Derived.Test.YtbegabagokapoaaWheelKnown
namespace Go.Proofs.Ytbegabagokapoaa.CWheel
open Go Go.ChangeShapes Go.WideShapes Go.ChangeAt Go.RowKit
open FloatNum CFour
set_option linter.unusedVariables false
abbrev I16v (zs : List Int) : List Value := zs.map (.int .i16)
theorem info_i16 : (Try.prog.info? 25).map (fun i => (i.zero, i.size, i.bytes)) = some (some (.int .i16 0), 1, 2) := by kernel_rfl
/-- half of a row's numbers, towards 0. -/
def hf (xs : List Int) (i : Nat) : Int := (xs.getD i 0).tdiv 2
def tw (xs : List Int) (i : Nat) : Int := hf xs i + hf xs i
theorem hf_in {xs : List Int} (h : ∀ v ∈ xs, (Lit.int .i16 v).wf = true) (i : Nat) : -16384 ≤ hf xs i ∧ hf xs i ≤ 16384 := by
  have := getD_in h i
  unfold In16 at this
  unfold hf
  rcases Int.le_total 0 (xs.getD i 0) with h0 | h0
  · rw [Int.tdiv_eq_ediv_of_nonneg h0]; omega
  · have e : (xs.getD i 0).tdiv 2 = -((-(xs.getD i 0)) / 2) := by
      rw [← Int.tdiv_eq_ediv_of_nonneg (by omega), Int.neg_tdiv, Int.neg_neg]
    rw [e]; omega
theorem wf16 {n : Int} (h1 : -32768 ≤ n) (h2 : n ≤ 32767) : (Lit.int .i16 n).wf = true := WalkArith.wf_i16 ⟨h1, h2⟩
theorem hf_hi {xs : List Int} (h : ∀ v ∈ xs, (Lit.int .i16 v).wf = true) (i : Nat) : hf xs i ≤ 16383 := by
  have := getD_in h i
  unfold In16 at this
  unfold hf
  rcases Int.le_total 0 (xs.getD i 0) with h0 | h0
  · rw [Int.tdiv_eq_ediv_of_nonneg h0]; omega
  · have e : (xs.getD i 0).tdiv 2 = -((-(xs.getD i 0)) / 2) := by
      rw [← Int.tdiv_eq_ediv_of_nonneg (by omega), Int.neg_tdiv, Int.neg_neg]
    rw [e]; omega
theorem nums_wf {F : Nat → Int} {n : Nat} (h : ∀ i, -32768 ≤ F i ∧ F i ≤ 32767) : ∀ v ∈ nums F n, (Lit.int .i16 v).wf = true := by
  intro v hv
  obtain ⟨i, _, rfl⟩ := List.mem_map.1 hv
  exact wf16 (h i).1 (h i).2
theorem twice_slide (xs : List Int) (x y z : Int) (n : Nat) {i : Nat} (hi : i + 2 < n) : slideF (nums (tw xs) n) x y z i = 2 * slideF (nums (hf xs) n) x y z i := by
  rw [slide_at, slide_at, nums_getD _ (by omega), nums_getD _ (by omega), nums_getD _ (by omega), nums_getD _ (by omega), nums_getD _ (by omega), nums_getD _ (by omega)]
  unfold tw
  simp only [Int.add_mul, Int.mul_add]
  omega
theorem join_left (xs ys : List Int) (x y z : Int) {i : Nat} (hi : i + 2 < xs.length) : slideF (xs ++ ys) x y z i = slideF xs x y z i := by
  have e : ∀ j, j < xs.length → (xs ++ ys).getD j 0 = xs.getD j 0 := fun j hj => by
    rw [List.getD_eq_getElem?_getD, List.getElem?_append_left hj, List.getD_eq_getElem?_getD]
  rw [slide_at, slide_at, e _ (by omega), e _ (by omega), e _ hi]
theorem join_right (xs ys : List Int) (x y z : Int) (i : Nat) : slideF (xs ++ ys) x y z (xs.length + i) = slideF ys x y z i := by
  have e : ∀ j, (xs ++ ys).getD (xs.length + j) 0 = ys.getD j 0 := fun j => by
    rw [List.getD_eq_getElem?_getD, List.getElem?_append_right (by omega), List.getD_eq_getElem?_getD, Nat.add_sub_cancel_left]
  rw [slide_at, slide_at, e, Nat.add_assoc, e, Nat.add_assoc, e]
theorem nums_congr {F G : Nat → Int} {n : Nat} (h : ∀ i, i < n → F i = G i) : nums F n = nums G n := by
  unfold nums
  exact List.map_congr_left (fun i hi => h i (by simpa using hi))
theorem nums_take (F : Nat → Int) {n k : Nat} (h : k ≤ n) : (nums F n).take k = nums F k := by
  unfold nums
  rw [← List.map_take, List.take_range, Nat.min_eq_left h]
theorem nums_drop (F : Nat → Int) {n k : Nat} : (nums F n).drop k = nums (fun i => F (k + i)) (n - k) := by
  apply List.ext_getElem?
  intro i
  rw [List.getElem?_drop]
  rcases Nat.lt_or_ge i (n - k) with h | h
  · rw [nums_at _ (by omega), nums_at _ h]
  · rw [List.getElem?_eq_none (by rw [nums_len]; omega), List.getElem?_eq_none (by rw [nums_len]; omega)]
theorem all_left (xs ys : List Int) (x y z : Int) (N M : Nat) (hN : xs.length = N) (hM : ys.length = M) : (nums (slideF (xs ++ ys) x y z) (N + M - 2)).take (N - 2) = nums (slideF xs x y z) (N - 2) := by
  rw [nums_take _ (by omega)]
  exact nums_congr fun i hi => join_left xs ys x y z (by omega)
theorem all_right (xs ys : List Int) (x y z : Int) (N M : Nat) (hN : xs.length = N) (hM : ys.length = M) : (nums (slideF (xs ++ ys) x y z) (N + M - 2)).drop (N + M - 2 - (M - 2)) = nums (slideF ys x y z) (M - 2) := by
  rw [nums_drop, show N + M - 2 - (N + M - 2 - (M - 2)) = M - 2 by omega]
  refine nums_congr fun i hi => ?_
  rw [show N + M - 2 - (M - 2) = xs.length by omega]
  exact join_right xs ys x y z i
theorem row_rd2 {w : World} {B : Nat} {A : Option Addr} {xs : List Int} {k : IntKind} (h : Kit.Rd w B A (xs.map (.int k))) {i : Nat} (hi : i < xs.length) : ∃ b o, A = some ⟨b, o, none⟩ ∧ b < B ∧ w.cell? ⟨b, o + i, none⟩ = some (.int k (xs.getD i 0)) := by
  obtain ⟨b, o, rfl, hb, hc⟩ := h.plain (by simp; omega)
  exact ⟨b, o, rfl, hb, rd_at h hi⟩
theorem own_empty (w : World) (T : TypeId) (size : Nat) : (w.alloc (.cells #[] T)).ownsRow w.heap.size T size (.slice (some ⟨w.heap.size, 0, none⟩) 0 0) 0 [] :=
  ⟨by simp, .inr ⟨w.heap.size, 0, #[], rfl, Nat.le_refl _, heap_alloc_new w _, Nat.le_refl _, Nat.zero_le _, by simp, by simp⟩⟩
theorem row_len {F : Nat → Int} {n : Nat} : (nums F n).length = n := nums_len F n
theorem app_wf {xs ys : List Int} (h1 : ∀ v ∈ xs, (Lit.int .i16 v).wf = true) (h2 : ∀ v ∈ ys, (Lit.int .i16 v).wf = true) : ∀ v ∈ xs ++ ys, (Lit.int .i16 v).wf = true := fun v hv => (List.mem_append.1 hv).elim (h1 v) (h2 v)
end Go.Proofs.Ytbegabagokapoaa.CWheel
