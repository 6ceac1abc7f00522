/- Rows of numbers that are laid line by line (layer 9's build). -/
import Derived.Test.YtgoonenkcikkaaaPadCode
import Derived.Test.YtgoonenkcikkaaaPadMove
namespace Go.Proofs.Ytgoonenkcikkaaa.CPad
open Go Go.ChangeShapes Go.WideShapes Go.ChangeAt Go.RowKit
open Plain CSat CShape CTensor
set_option linter.unusedVariables false

/-- an owned row, and what lies behind it up to its block's end. -/
theorem own_heap {w : World} {base : Nat} {e : TypeId} {g n cap : Nat} {xs : List Value} (h : w.ownsRow base e 1 (.slice (some ⟨g, 0, none⟩) n cap) n xs) :
    ∃ rest : List Value, w.heap[g]? = some (.cells (xs ++ rest).toArray e (0, 0)) ∧ base ≤ g ∧ n ≤ cap ∧ cap ≤ maxLen ∧ (xs ++ rest).length = cap ∧ xs.length = n := by
  rcases h.2 with ⟨h', _⟩ | ⟨g', cap', cur, h', hb, hg, hnc, hcm, hcs, htake⟩
  · simp at h'
  · simp only [Value.slice.injEq, Option.some.injEq, Addr.mk.injEq, and_true, true_and] at h'
    obtain ⟨rfl, rfl⟩ := h'
    have hx : xs.length = n := by simpa using h.1
    refine ⟨cur.toList.drop n, ?_, hb, hnc, hcm, ?_, hx⟩
    · rw [Nat.mul_one] at htake
      rw [← htake, List.take_append_drop]; exact hg
    · rw [Nat.mul_one] at htake hcs
      rw [← htake, List.take_append_drop, Array.length_toList, hcs]
theorem own_of_heap {w : World} {base : Nat} {e : TypeId} {g n cap : Nat} {xs rest : List Value} (hg : w.heap[g]? = some (.cells (xs ++ rest).toArray e (0, 0))) (hb : base ≤ g) (hnc : n ≤ cap) (hcm : cap ≤ maxLen) (hl : (xs ++ rest).length = cap) (hx : xs.length = n) :
    w.ownsRow base e 1 (.slice (some ⟨g, 0, none⟩) n cap) n xs := by
  refine ⟨by simpa using hx, .inr ⟨g, cap, _, rfl, hb, hg, hnc, hcm, ?_, ?_⟩⟩
  · rw [Nat.mul_one, List.size_toArray]; exact hl
  · rw [Nat.mul_one]; show (xs ++ rest).take n = xs
    rw [← hx]; simp
theorem splice_front {xs rest cs : List Value} {o : Nat} (h : o + cs.length ≤ xs.length) : splice (xs ++ rest) o cs = splice xs o cs ++ rest := by
  unfold splice
  rw [List.take_append_of_le_length (by omega), List.drop_append_of_le_length h]
  simp
/-- q numbers, and zeros behind them. -/
def dataL (F : Nat → Int) (m q : Nat) : List Value := I8s (rowL F q) ++ List.replicate (m - q) (.int .i8 0)
theorem dataL_len (F : Nat → Int) {m q : Nat} (h : q ≤ m) : (dataL F m q).length = m := by simp [dataL, I8s, rowL]; omega
theorem dataL_zero (F : Nat → Int) (m : Nat) : dataL F m 0 = I8s (List.replicate m 0) := by simp [dataL, I8s, rowL]
theorem dataL_all (F : Nat → Int) (m : Nat) : dataL F m m = I8s (rowL F m) := by simp [dataL]
theorem rowL_add (F : Nat → Int) (q l : Nat) (ys : List Int) (hl : ys.length = l) (hy : ∀ j, j < l → ys[j]? = some (F (q + j))) : rowL F (q + l) = rowL F q ++ ys := by
  apply List.ext_getElem?
  intro j
  by_cases hj : j < q
  · rw [List.getElem?_append_left (by simpa [rowL] using hj)]
    simp [rowL, hj, show j < q + l by omega]
  · rw [List.getElem?_append_right (by simpa [rowL] using Nat.le_of_not_lt hj)]
    rw [show (rowL F q).length = q by simp [rowL]]
    by_cases h2 : j - q < l
    · rw [hy _ h2]
      simp [rowL, show j < q + l by omega, show q + (j - q) = j by omega]
    · have e1 : (rowL F (q + l))[j]? = none := by simp [rowL]; omega
      rw [e1, List.getElem?_eq_none (by omega)]
theorem dataL_splice (F : Nat → Int) {m q l : Nat} (ys : List Int) (hl : ys.length = l) (hy : ∀ j, j < l → ys[j]? = some (F (q + j))) (h : q + l ≤ m) : splice (dataL F m q) q (I8s ys) = dataL F m (q + l) := by
  unfold splice dataL
  rw [rowL_add F q l ys hl hy]
  rw [List.take_left' (by simp [I8s, rowL]), List.drop_append, List.drop_eq_nil_of_le (by simp [I8s, rowL])]
  simp only [I8s, List.length_map, List.map_append, List.append_assoc, List.nil_append]
  rw [show (rowL F q).length = q by simp [rowL], hl, List.drop_replicate]
  congr 3
  omega
/-- a line's numbers with one more. -/
theorem line_set {F : Nat → Int} {q l i : Nat} {ys : List Int} {x : Int} (hl : ys.length = l) (hy : ∀ j, j < i → ys[j]? = some (F (q + j))) (hi : i < l) (hx : F (q + i) = x) :
    (ys.set i x).length = l ∧ ∀ j, j < i + 1 → (ys.set i x)[j]? = some (F (q + j)) := by
  refine ⟨by simpa using hl, fun j hj => ?_⟩
  rw [List.getElem?_set]
  by_cases e : i = j
  · subst e
    rw [if_pos rfl, if_pos (by omega), hx]
  · rw [if_neg e]
    exact hy j (by omega)
theorem I8s_set (ys : List Int) (i : Nat) (x : Int) : (I8s ys).set i (.int .i8 x) = I8s (ys.set i x) := by simp [I8s, List.map_set]
theorem own_nonempty {w : World} {base : Nat} {e : TypeId} {n : Nat} {v : Value} {xs : List Value} (h : w.ownsRow base e 1 v n xs) (hn : 0 < n) : ∃ g cap, v = .slice (some ⟨g, 0, none⟩) n cap ∧ n ≤ cap ∧ cap ≤ maxLen ∧ base ≤ g ∧ g < w.heap.size := by
  rcases h.2 with ⟨_, h0⟩ | ⟨g, cap, cur, h', hb, hg, hnc, hcm, _, _⟩
  · omega
  · refine ⟨g, cap, h', hnc, hcm, hb, ?_⟩
    rcases Nat.lt_or_ge g w.heap.size with hlt | hge
    · exact hlt
    · rw [Array.getElem?_eq_none hge] at hg; cases hg
end Go.Proofs.Ytgoonenkcikkaaa.CPad
