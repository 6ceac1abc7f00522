/- ConvBias: a bias that is raised, weights that are 0: what becomes of the sums; one cell of a node that is set. -/
import Derived.Test.YtceejjliboiciaaNodeCopy
import Derived.Test.YtceejjliboiciaaConvBoth
namespace Go.Proofs.Ytceejjliboiciaa.CConv
open Go Go.ChangeShapes Go.WideShapes Go.ChangeAt Go.RowKit
open Plain CSat CShape CTensor
set_option linter.unusedVariables false

theorem rowL_getD (F : Nat → Int) {n i : Nat} (h : i < n) : (rowL F n).getD i 0 = F i := by
  rw [List.getD_eq_getElem?_getD]; simp [rowL, h]
theorem getD_set (bs : List Int) {o : Nat} (ho : o < bs.length) (y : Int) (c : Nat) : (bs.set o y).getD c 0 = if c = o then y else bs.getD c 0 := by
  rw [List.getD_eq_getElem?_getD, List.getElem?_set]
  by_cases e : o = c
  · subst e; simp [ho]
  · rw [if_neg e, if_neg (fun h => e h.symm), List.getD_eq_getElem?_getD]
theorem bias_raised (zs ws bs : List Int) (H W C S P : Int) (d kk : Nat) (Z : Int) (b oo o : Nat) (ho : o < bs.length) (y : Int) (i : Nat) :
    gridF b oo (sumF zs ws (bs.set o (IntKind.i32.wrap (bs.getD o 0 + y))) H W C S P d kk Z) i = if i % oo = o then IntKind.i32.wrap (gridF b oo (sumF zs ws bs H W C S P d kk Z) i + y) else gridF b oo (sumF zs ws bs H W C S P d kk Z) i := by
  unfold gridF sumF
  rw [getD_set bs ho]
  by_cases e : i % oo = o
  · rw [if_pos e, if_pos e, wrap32_add, wrap32_add, e]
    congr 1; omega
  · rw [if_neg e, if_neg e]
theorem zeros_getD (n k : Nat) : (List.replicate n (0 : Int)).getD k 0 = 0 := by
  rw [List.getD_eq_getElem?_getD]
  by_cases h : k < n
  · simp [h]
  · rw [List.getElem?_eq_none (by simp; omega)]; rfl
theorem zeros_I8b (n : Nat) : I8b (List.replicate n 0) := fun q => by rw [zeros_getD]; omega
theorem zeros_win (zs : List Int) (n : Nat) (H W C top left : Int) (d kk o : Nat) (Z : Int) : winF zs (List.replicate n 0) H W C top left d kk o Z = 0 := by
  unfold winF
  refine psum_zero fun i _ => ?_
  unfold rowF
  refine psum_zero fun j _ => ?_
  unfold placeF
  split
  · refine psum_zero fun c _ => ?_
    unfold termF
    rw [zeros_getD, Int.zero_mul]
  · rfl
theorem bias_alone (zs bs : List Int) (n : Nat) (H W C S P : Int) (d kk : Nat) (Z : Int) (b oo : Nat) (hb : ∀ q, -2147483648 ≤ bs.getD q 0 ∧ bs.getD q 0 ≤ 2147483647) (i : Nat) :
    gridF b oo (sumF zs (List.replicate n 0) bs H W C S P d kk Z) i = bs.getD (i % oo) 0 := by
  unfold gridF sumF
  rw [zeros_win, Int.add_zero]
  have := hb (i % oo)
  rw [IntKind.wrap_i32]; omega

theorem range_set {w : World} {g i : Nat} {cs : List Value} (h : w.rangeAt g 0 cs) (hi : i < cs.length) (u : Value) : (w.setCell ⟨g, i, none⟩ u).rangeAt g 0 (cs.set i u) := by
  intro j v hj
  rw [Nat.zero_add]
  rw [List.getElem?_set] at hj
  by_cases e : i = j
  · subst e
    rw [if_pos rfl, if_pos hi] at hj
    cases hj
    refine World.cell?_setCell_same' _ _ _ ?_
    have := h i cs[i] (List.getElem?_eq_getElem hi)
    rw [Nat.zero_add] at this
    rw [this]; rfl
  · rw [if_neg e] at hj
    rw [World.cell?_setCell_other _ _ _ _ (by intro q; cases q; exact e rfl)]
    have := h j v hj
    rwa [Nat.zero_add] at this
theorem there_set {w : World} {g n : Nat} (h : w.there g 0 n) (p : Addr) (u : Value) (hp : (w.cell? p).isSome = true) : (w.setCell p u).there g 0 n := fun j hj => by
  refine ⟨?_, by rw [World.frozen?_setCell]; exact (h j hj).2⟩
  by_cases e : p = ⟨g, 0 + j, none⟩
  · subst e
    rw [World.cell?_setCell_same' _ _ _ hp]; rfl
  · rw [World.cell?_setCell_other w p ⟨g, 0 + j, none⟩ u (by first | exact e | exact fun q => e q.symm)]; exact (h j hj).1
theorem NodeAt.oth {w : World} {g g' i : Nat} {x0 x1 x2 x8 x11 x12 x13 x14 x15 x16 x17 x18 : Value} {K S P O Z : Int} {WA BA : Option Addr} {nW cW nB cB : Nat}
    (h : NodeAt g x0 x1 x2 x8 x11 x12 x13 x14 x15 x16 x17 x18 K S P O Z WA BA nW cW nB cB w) (hg : g ≠ g') (u : Value) : NodeAt g x0 x1 x2 x8 x11 x12 x13 x14 x15 x16 x17 x18 K S P O Z WA BA nW cW nB cB (w.setCell ⟨g', i, none⟩ u) := fun j v hj => by
  rw [World.cell?_setCell_other _ _ _ _ (by intro q; cases q; exact hg rfl)]
  exact h j v hj
theorem NodeAt.set9 {w : World} {g : Nat} {x0 x1 x2 x8 x11 x12 x13 x14 x15 x16 x17 x18 : Value} {K S P O Z : Int} {WA BA : Option Addr} {nW cW nB cB : Nat}
    (h : NodeAt g x0 x1 x2 x8 x11 x12 x13 x14 x15 x16 x17 x18 K S P O Z WA BA nW cW nB cB w) (A : Option Addr) (n c : Nat) : NodeAt g x0 x1 x2 x8 x11 x12 x13 x14 x15 x16 x17 x18 K S P O Z A BA n c nB cB (w.setCell ⟨g, 9, none⟩ (.slice A n c)) :=
  range_set (i := 9) h (show 9 < 19 by decide) _
theorem NodeAt.set10 {w : World} {g : Nat} {x0 x1 x2 x8 x11 x12 x13 x14 x15 x16 x17 x18 : Value} {K S P O Z : Int} {WA BA : Option Addr} {nW cW nB cB : Nat}
    (h : NodeAt g x0 x1 x2 x8 x11 x12 x13 x14 x15 x16 x17 x18 K S P O Z WA BA nW cW nB cB w) (A : Option Addr) (n c : Nat) : NodeAt g x0 x1 x2 x8 x11 x12 x13 x14 x15 x16 x17 x18 K S P O Z WA A nW cW n c (w.setCell ⟨g, 10, none⟩ (.slice A n c)) :=
  range_set (i := 10) h (show 10 < 19 by decide) _
theorem NodeAt.set6 {w : World} {g : Nat} {x0 x1 x2 x8 x11 x12 x13 x14 x15 x16 x17 x18 : Value} {K S P O Z : Int} {WA BA : Option Addr} {nW cW nB cB : Nat}
    (h : NodeAt g x0 x1 x2 x8 x11 x12 x13 x14 x15 x16 x17 x18 K S P O Z WA BA nW cW nB cB w) (U : Int) : NodeAt g x0 x1 x2 x8 x11 x12 x13 x14 x15 x16 x17 x18 K S P U Z WA BA nW cW nB cB (w.setCell ⟨g, 6, none⟩ (.int .i64 U)) :=
  range_set (i := 6) h (show 6 < 19 by decide) _
theorem there_at {w : World} {g n : Nat} (h : w.there g 0 n) {i : Nat} (hi : i < n) : w.frozen? ⟨g, i, none⟩ = false := by
  have := (h i hi).2
  rwa [Nat.zero_add] at this
theorem rd_oth {w : World} {B g off : Nat} {xs : List Value} {q : Addr} (h : Kit.Rd w B (some ⟨g, off, none⟩) xs) (hg : g ≠ q.block) (u : Value) : Kit.Rd (w.setCell q u) B (some ⟨g, off, none⟩) xs := fun j v hj => by
  obtain ⟨ad, e, hb, hc⟩ := h j v hj
  cases e
  refine ⟨_, rfl, hb, ?_⟩
  rw [World.cell?_setCell_other w q _ u (by
    intro e
    have := congrArg Addr.block e
    rw [Kit.add_block] at this
    first | exact hg this | exact hg this.symm)]
  exact hc
theorem own_empty32 (w : World) (T : TypeId) : (w.alloc (.cells #[] T)).ownsRow w.heap.size T 1 (.slice (some ⟨w.heap.size, 0, none⟩) 0 0) 0 [] :=
  ⟨rfl, .inr ⟨w.heap.size, 0, #[], rfl, Nat.le_refl _, Go.heap_alloc_new w _, Nat.le_refl _, Nat.zero_le _, rfl, rfl⟩⟩
theorem own_cells {w : World} {base : Nat} {e : TypeId} {n : Nat} {v : Value} {xs : List Value} (h : w.ownsRow base e 1 v n xs) (hn : 0 < n) :
    ∃ g cap, v = .slice (some ⟨g, 0, none⟩) n cap ∧ base ≤ g ∧ g < w.heap.size ∧ n ≤ cap ∧ cap ≤ maxLen ∧ (∀ j u, xs[j]? = some u → w.cell? ⟨g, j, none⟩ = some u) ∧ (∀ j, w.frozen? ⟨g, j, none⟩ = false) := by
  rcases h.2 with ⟨_, h0⟩ | ⟨g, cap, cur, rfl, hb, hh, hnc, hcm, hs, ht⟩
  · omega
  · refine ⟨g, cap, rfl, hb, (Array.getElem?_eq_some_iff.1 hh).1, hnc, hcm, fun j u hu => ?_, fun j => ?_⟩
    · rw [← ht] at hu
      unfold World.cell?
      rw [hh]
      have hj : j < n * 1 := by
        rcases Nat.lt_or_ge j (n * 1) with hlt | hge
        · exact hlt
        · rw [List.getElem?_eq_none (by simp; omega)] at hu; cases hu
      rw [List.getElem?_take_of_lt hj] at hu
      simpa using hu
    · unfold World.frozen?; rw [hh]; simp
theorem rd_set {w : World} {g B p : Nat} {xs : List Value} (u : Value) (hB : g < B) (h : ∀ j x, xs[j]? = some x → w.cell? ⟨g, j, none⟩ = some x) : Kit.Rd (w.setCell ⟨g, p, none⟩ u) B (some ⟨g, 0, none⟩) (xs.set p u) := by
  intro j x hx
  refine ⟨_, rfl, hB, ?_⟩
  have e : (⟨g, 0, none⟩ : Addr).add j = ⟨g, j, none⟩ := by
    unfold Addr.add; split
    · rename_i h; subst h; rfl
    · simp
  rw [e]
  by_cases hj : p = j
  · subst hj
    obtain ⟨hl, hx2⟩ := List.getElem?_eq_some_iff.1 hx
    rw [List.length_set] at hl
    rw [List.getElem_set_self] at hx2
    subst hx2
    exact World.cell?_setCell_same _ _ _ (h p _ (List.getElem?_eq_getElem hl))
  · rw [List.getElem?_set_ne hj] at hx
    rw [World.cell?_setCell_other _ _ _ _ (fun e => hj (by injection e))]
    exact h j x hx
end Go.Proofs.Ytceejjliboiciaa.CConv
