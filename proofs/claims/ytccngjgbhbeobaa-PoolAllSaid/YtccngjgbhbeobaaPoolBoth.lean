/- Layer 19 (pool): code and document beside one another. -/
import Derived.Test.YtccngjgbhbeobaaPoolEachMax
import Derived.Test.YtccngjgbhbeobaaPoolEachAvg
import Derived.Test.YtccngjgbhbeobaaPoolMost
namespace Go.Proofs.Ytccngjgbhbeobaa.CPool
open Go Go.ChangeShapes Go.WideShapes Go.ChangeAt Go.RowKit
open Plain CSat CShape CTensor CConv
set_option linter.unusedVariables false

set_option maxHeartbeats 2000000 in
theorem max_mk (H W C : Int) (A : Option Addr) (zs : List Int) (n c : Nat) (x0 x1 x2 x8 x11 x12 x13 x14 x15 x16 x17 x18 : Value) (K S P O Z : Int) (WA BA : Option Addr) (nW cW nB cB : Nat) (X Y U : Int) (m : Nat) (xs : List Int) (er : Int)
    (hE : ∀ w : World, Kit.Rd w w.heap.size A (I8s zs) → Calls Try.prog 18 #[.agg #[.int .i64 H, .int .i64 W, .int .i64 C, .slice A n c], .agg #[x0, x1, x2, .int .i64 K, .int .i64 S, .int .i64 P, .int .i64 O, .int .i8 Z, x8, .slice WA nW cW, .slice BA nB cB, x11, x12, x13, x14, x15, x16, x17, x18], .func (.func 19) #[] #[]] w (MadeP w X Y U m xs (.int .i64 er))) (w : World) (hr : Kit.Rd w w.heap.size A (I8s zs)) :
    Calls Try.prog 10 #[.agg #[.int .i64 H, .int .i64 W, .int .i64 C, .slice A n c], .agg #[x0, x1, x2, .int .i64 K, .int .i64 S, .int .i64 P, .int .i64 O, .int .i8 Z, x8, .slice WA nW cW, .slice BA nB cB, x11, x12, x13, x14, x15, x16, x17, x18]] w (MadeP w X Y U m xs (.int .i64 er)) := by
  have HE := Lib.hid hE
  have HR := Lib.hid hr
  clear hE hr
  have TN0 : Hid (NodeAt (w.heap.size + 1) x0 x1 x2 x8 x11 x12 x13 x14 x15 x16 x17 x18 K S P O Z WA BA nW cW nB cB (((w.alloc (.cells #[.int .i64 H, .int .i64 W, .int .i64 C, .slice A n c] 29)).alloc (.cells #[x0, x1, x2, .int .i64 K, .int .i64 S, .int .i64 P, .int .i64 O, .int .i8 Z, x8, .slice WA nW cW, .slice BA nB cB, x11, x12, x13, x14, x15, x16, x17, x18] 35)).alloc (.cells #[.int .i64 0, .int .i64 0, .int .i64 0, .slice none 0 0] 29))) := by
    have h := NodeAt.new x0 x1 x2 x8 x11 x12 x13 x14 x15 x16 x17 x18 K S P O Z WA BA nW cW nB cB 35 (w.alloc (.cells #[.int .i64 H, .int .i64 W, .int .i64 C, .slice A n c] 29))
    rw [World.size_alloc] at h
    exact Lib.hid (h.below (B' := w.heap.size + 2) (by omega) ((Below.refl _ _).alloc (by simp) _))
  go_enter Try.func10, Try.ntmps10
  go_wp2_with (first
    | (go_at_call 18
       have hal : Below w.heap.size w (((w.alloc (.cells #[.int .i64 H, .int .i64 W, .int .i64 C, .slice A n c] 29)).alloc (.cells #[x0, x1, x2, .int .i64 K, .int .i64 S, .int .i64 P, .int .i64 O, .int .i8 Z, x8, .slice WA nW cW, .slice BA nB cB, x11, x12, x13, x14, x15, x16, x17, x18] 35)).alloc (.cells #[.int .i64 0, .int .i64 0, .int .i64 0, .slice none 0 0] 29)) := (((Below.refl _ _).alloc (by first | exact Nat.le_refl _ | (simp; done) | (simp; omega)) _).alloc (by first | exact Nat.le_refl _ | (simp; done) | (simp; omega)) _).alloc (by first | exact Nat.le_refl _ | (simp; done) | (simp; omega)) _
       refine (HE.out _ ((HR.out.below hal).more hal.size)).mono ?_
       rintro e w1 ⟨v, rfl, ho, hb⟩
       have hh : Below w.heap.size w w1 := hal.trans (hb.mono hal.size)
       have qTB := (boxNew H W C A n c 29) w
       try simp only [World.size_alloc] at qTB
       have TB := Lib.hid ((qTB.below (B' := w.heap.size + 1) (by omega) ((((Below.refl _ _).alloc (by first | exact Nat.le_refl _ | (simp; done) | (simp; omega)) _).alloc (by first | exact Nat.le_refl _ | (simp; done) | (simp; omega)) _).mono (by simp))).below (by first | (simp; done) | (simp; omega)) hb)
       have yTB : w.heap.size < w1.heap.size := by have := hb.size; simp at this; omega
       clear qTB
       have qTN := (NodeAt.new x0 x1 x2 x8 x11 x12 x13 x14 x15 x16 x17 x18 K S P O Z WA BA nW cW nB cB 35) (w.alloc (.cells #[.int .i64 H, .int .i64 W, .int .i64 C, .slice A n c] 29))
       try simp only [World.size_alloc] at qTN
       have TN := Lib.hid ((qTN.below (B' := w.heap.size + 2) (by omega) (((Below.refl _ _).alloc (by first | exact Nat.le_refl _ | (simp; done) | (simp; omega)) _).mono (by simp))).below (by first | (simp; done) | (simp; omega)) hb)
       have yTN : w.heap.size + 1 < w1.heap.size := by have := hb.size; simp at this; omega
       clear qTN
       have qFR := (freshNew 29) ((w.alloc (.cells #[.int .i64 H, .int .i64 W, .int .i64 C, .slice A n c] 29)).alloc (.cells #[x0, x1, x2, .int .i64 K, .int .i64 S, .int .i64 P, .int .i64 O, .int .i8 Z, x8, .slice WA nW cW, .slice BA nB cB, x11, x12, x13, x14, x15, x16, x17, x18] 35))
       try simp only [World.size_alloc] at qFR
       have FR := Lib.hid (qFR.below (by first | (simp; done) | (simp; omega)) hb)
       have yFR : w.heap.size + 2 < w1.heap.size := by have := hb.size; simp at this; omega
       clear qFR
       replace HR := Lib.hid ((HR.out.below hh).more hh.size)
       have HBW : Hid (Below w.heap.size w w1) := Lib.hid hh
       have HO := Lib.hid ho
       obtain ⟨A2, c2, rfl, -, -, -⟩ := Kit.own_rd ho
       have hal9 := hal.size
       clear ho
       obtain ⟨⟨z0, z1, z2, z3⟩, z4, z5, z6, z7⟩ := FR.out
       obtain ⟨tbp0, tbp1, tbp2, tbp3⟩ := TB.out
       clear hb hh hal)
    | (refine wpList_load_mid rfl 35 (.tmp 3) rfl (w.heap.size + 1) 0 rfl [x0, x1, x2, .int .i64 K, .int .i64 S, .int .i64 P, .int .i64 O, .int .i8 Z, x8, .slice WA nW cW, .slice BA nB cB, x11, x12, x13, x14, x15, x16, x17, x18] _ TN0.out Try.underlying35 rfl (by kernel_rfl) ?_))
  simp only [World.size_alloc] at hal9
  refine bodyPost_ret (Kit.results_ct rfl _ _ (w.heap.size + 2) 0 [.int .i64 X, .int .i64 Y, .int .i64 U, .slice A2 m c2] _ rfl (range_4 (by go_cell) (by go_cell) (by go_cell) (by go_cell)) Try.underlying29 rfl (by kernel_rfl)) rfl ?_
  refine ⟨_, rfl, Kit.own_base (own_set4 HO.out ?_) ?_, ?_⟩
  any_goals (first | omega | (simp; done) | (simp; omega))
  exact (((HBW.out.setCell (p := ⟨w.heap.size + 2, 0, none⟩) (by simp) _).setCell (p := ⟨w.heap.size + 2, 1, none⟩) (by simp) _).setCell (p := ⟨w.heap.size + 2, 2, none⟩) (by simp) _).setCell (p := ⟨w.heap.size + 2, 3, none⟩) (by simp) _
set_option maxHeartbeats 2000000 in
theorem mean_mk (H W C : Int) (A : Option Addr) (zs : List Int) (n c : Nat) (x0 x1 x2 x8 x11 x12 x13 x14 x15 x16 x17 x18 : Value) (K S P O Z : Int) (WA BA : Option Addr) (nW cW nB cB : Nat) (X Y U : Int) (m : Nat) (xs : List Int) (er : Int)
    (hE : ∀ w : World, Kit.Rd w w.heap.size A (I8s zs) → Calls Try.prog 18 #[.agg #[.int .i64 H, .int .i64 W, .int .i64 C, .slice A n c], .agg #[x0, x1, x2, .int .i64 K, .int .i64 S, .int .i64 P, .int .i64 O, .int .i8 Z, x8, .slice WA nW cW, .slice BA nB cB, x11, x12, x13, x14, x15, x16, x17, x18], .func (.func 20) #[] #[]] w (MadeP w X Y U m xs (.int .i64 er))) (w : World) (hr : Kit.Rd w w.heap.size A (I8s zs)) :
    Calls Try.prog 11 #[.agg #[.int .i64 H, .int .i64 W, .int .i64 C, .slice A n c], .agg #[x0, x1, x2, .int .i64 K, .int .i64 S, .int .i64 P, .int .i64 O, .int .i8 Z, x8, .slice WA nW cW, .slice BA nB cB, x11, x12, x13, x14, x15, x16, x17, x18]] w (MadeP w X Y U m xs (.int .i64 er)) := by
  have HE := Lib.hid hE
  have HR := Lib.hid hr
  clear hE hr
  have TN0 : Hid (NodeAt (w.heap.size + 1) x0 x1 x2 x8 x11 x12 x13 x14 x15 x16 x17 x18 K S P O Z WA BA nW cW nB cB (((w.alloc (.cells #[.int .i64 H, .int .i64 W, .int .i64 C, .slice A n c] 29)).alloc (.cells #[x0, x1, x2, .int .i64 K, .int .i64 S, .int .i64 P, .int .i64 O, .int .i8 Z, x8, .slice WA nW cW, .slice BA nB cB, x11, x12, x13, x14, x15, x16, x17, x18] 35)).alloc (.cells #[.int .i64 0, .int .i64 0, .int .i64 0, .slice none 0 0] 29))) := by
    have h := NodeAt.new x0 x1 x2 x8 x11 x12 x13 x14 x15 x16 x17 x18 K S P O Z WA BA nW cW nB cB 35 (w.alloc (.cells #[.int .i64 H, .int .i64 W, .int .i64 C, .slice A n c] 29))
    rw [World.size_alloc] at h
    exact Lib.hid (h.below (B' := w.heap.size + 2) (by omega) ((Below.refl _ _).alloc (by simp) _))
  go_enter Try.func11, Try.ntmps11
  go_wp2_with (first
    | (go_at_call 18
       have hal : Below w.heap.size w (((w.alloc (.cells #[.int .i64 H, .int .i64 W, .int .i64 C, .slice A n c] 29)).alloc (.cells #[x0, x1, x2, .int .i64 K, .int .i64 S, .int .i64 P, .int .i64 O, .int .i8 Z, x8, .slice WA nW cW, .slice BA nB cB, x11, x12, x13, x14, x15, x16, x17, x18] 35)).alloc (.cells #[.int .i64 0, .int .i64 0, .int .i64 0, .slice none 0 0] 29)) := (((Below.refl _ _).alloc (by first | exact Nat.le_refl _ | (simp; done) | (simp; omega)) _).alloc (by first | exact Nat.le_refl _ | (simp; done) | (simp; omega)) _).alloc (by first | exact Nat.le_refl _ | (simp; done) | (simp; omega)) _
       refine (HE.out _ ((HR.out.below hal).more hal.size)).mono ?_
       rintro e w1 ⟨v, rfl, ho, hb⟩
       have hh : Below w.heap.size w w1 := hal.trans (hb.mono hal.size)
       have qTB := (boxNew H W C A n c 29) w
       try simp only [World.size_alloc] at qTB
       have TB := Lib.hid ((qTB.below (B' := w.heap.size + 1) (by omega) ((((Below.refl _ _).alloc (by first | exact Nat.le_refl _ | (simp; done) | (simp; omega)) _).alloc (by first | exact Nat.le_refl _ | (simp; done) | (simp; omega)) _).mono (by simp))).below (by first | (simp; done) | (simp; omega)) hb)
       have yTB : w.heap.size < w1.heap.size := by have := hb.size; simp at this; omega
       clear qTB
       have qTN := (NodeAt.new x0 x1 x2 x8 x11 x12 x13 x14 x15 x16 x17 x18 K S P O Z WA BA nW cW nB cB 35) (w.alloc (.cells #[.int .i64 H, .int .i64 W, .int .i64 C, .slice A n c] 29))
       try simp only [World.size_alloc] at qTN
       have TN := Lib.hid ((qTN.below (B' := w.heap.size + 2) (by omega) (((Below.refl _ _).alloc (by first | exact Nat.le_refl _ | (simp; done) | (simp; omega)) _).mono (by simp))).below (by first | (simp; done) | (simp; omega)) hb)
       have yTN : w.heap.size + 1 < w1.heap.size := by have := hb.size; simp at this; omega
       clear qTN
       have qFR := (freshNew 29) ((w.alloc (.cells #[.int .i64 H, .int .i64 W, .int .i64 C, .slice A n c] 29)).alloc (.cells #[x0, x1, x2, .int .i64 K, .int .i64 S, .int .i64 P, .int .i64 O, .int .i8 Z, x8, .slice WA nW cW, .slice BA nB cB, x11, x12, x13, x14, x15, x16, x17, x18] 35))
       try simp only [World.size_alloc] at qFR
       have FR := Lib.hid (qFR.below (by first | (simp; done) | (simp; omega)) hb)
       have yFR : w.heap.size + 2 < w1.heap.size := by have := hb.size; simp at this; omega
       clear qFR
       replace HR := Lib.hid ((HR.out.below hh).more hh.size)
       have HBW : Hid (Below w.heap.size w w1) := Lib.hid hh
       have HO := Lib.hid ho
       obtain ⟨A2, c2, rfl, -, -, -⟩ := Kit.own_rd ho
       have hal9 := hal.size
       clear ho
       obtain ⟨⟨z0, z1, z2, z3⟩, z4, z5, z6, z7⟩ := FR.out
       obtain ⟨tbp0, tbp1, tbp2, tbp3⟩ := TB.out
       clear hb hh hal)
    | (refine wpList_load_mid rfl 35 (.tmp 3) rfl (w.heap.size + 1) 0 rfl [x0, x1, x2, .int .i64 K, .int .i64 S, .int .i64 P, .int .i64 O, .int .i8 Z, x8, .slice WA nW cW, .slice BA nB cB, x11, x12, x13, x14, x15, x16, x17, x18] _ TN0.out Try.underlying35 rfl (by kernel_rfl) ?_))
  simp only [World.size_alloc] at hal9
  refine bodyPost_ret (Kit.results_ct rfl _ _ (w.heap.size + 2) 0 [.int .i64 X, .int .i64 Y, .int .i64 U, .slice A2 m c2] _ rfl (range_4 (by go_cell) (by go_cell) (by go_cell) (by go_cell)) Try.underlying29 rfl (by kernel_rfl)) rfl ?_
  refine ⟨_, rfl, Kit.own_base (own_set4 HO.out ?_) ?_, ?_⟩
  any_goals (first | omega | (simp; done) | (simp; omega))
  exact (((HBW.out.setCell (p := ⟨w.heap.size + 2, 0, none⟩) (by simp) _).setCell (p := ⟨w.heap.size + 2, 1, none⟩) (by simp) _).setCell (p := ⟨w.heap.size + 2, 2, none⟩) (by simp) _).setCell (p := ⟨w.heap.size + 2, 3, none⟩) (by simp) _
theorem maxL_ge (l : List Int) : (∀ x ∈ l, x ≤ maxL l) ∧ -128 ≤ maxL l := by
  have key : ∀ (l : List Int) (a : Int), (∀ x ∈ l, x ≤ l.foldl (fun a x => if a < x then x else a) a) ∧ a ≤ l.foldl (fun a x => if a < x then x else a) a := by
    intro l
    induction l with
    | nil => intro a; exact ⟨fun x hx => by simp at hx, Int.le_refl _⟩
    | cons y l ih =>
      intro a
      obtain ⟨h1, h2⟩ := ih (if a < y then y else a)
      have h3 : a ≤ (if a < y then y else a) ∧ y ≤ (if a < y then y else a) := by split <;> omega
      rw [List.foldl_cons]
      refine ⟨fun x hx => ?_, Int.le_trans h3.1 h2⟩
      rcases List.mem_cons.1 hx with rfl | hx
      · exact Int.le_trans h3.2 h2
      · exact h1 x hx
  exact key l (-128)
theorem maxL_le (l : List Int) (M : Int) (h : ∀ x ∈ l, x ≤ M) (hM : -128 ≤ M) : maxL l ≤ M := by
  have key : ∀ (l : List Int) (a : Int), (∀ x ∈ l, x ≤ M) → a ≤ M → l.foldl (fun a x => if a < x then x else a) a ≤ M := by
    intro l
    induction l with
    | nil => intro a _ h; exact h
    | cons y l ih =>
      intro a h ha
      rw [List.foldl_cons]
      refine ih _ (fun x hx => h x (by simp [hx])) ?_
      have := h y (by simp)
      split <;> omega
  exact key l (-128) h hM
theorem sumL_le (l : List Int) (M : Int) (h : ∀ x ∈ l, x ≤ M) : sumL l ≤ M * (l.length : Int) := by
  have key : ∀ (l : List Int) (a : Int), (∀ x ∈ l, x ≤ M) → l.foldl (· + ·) a ≤ a + M * (l.length : Int) := by
    intro l
    induction l with
    | nil => intro a _; simp
    | cons y l ih =>
      intro a h
      have i1 := ih (a + y) (fun x hx => h x (by simp [hx]))
      have i2 := h y (by simp)
      rw [List.foldl_cons, List.length_cons]
      have e : M * ((l.length + 1 : Nat) : Int) = M * (l.length : Int) + M := by rw [Int.natCast_add, Int.mul_add]; simp
      rw [e]; omega
  have := key l 0 h
  unfold sumL
  omega
theorem wrap8_in {x : Int} (h1 : -128 ≤ x) (h2 : x ≤ 127) : IntKind.i8.wrap x = x := by
  unfold IntKind.wrap
  simp [IntKind.signed, IntKind.bits]
  omega
/-- the mean is not above the greatest. -/
theorem mean_le_max (l : List Int) (h : (∀ x ∈ l, -128 ≤ x ∧ x ≤ 127)) : l ≠ [] → meanZ l ≤ maxL l := by
  intro hl
  have hlen : 1 ≤ (l.length : Int) := by have := List.length_pos_iff.2 hl; omega
  obtain ⟨g1, g2⟩ := maxL_ge l
  have g3 := maxL_le l 127 (fun x hx => (h x hx).2) (by omega)
  have s1 := sumL_le l (maxL l) g1
  have s2 := (sumL_bd l h).1
  have n1 := near_le hlen s1
  have n2 := near_ge (s := sumL l) (M := -128) hlen (by omega)
  rw [meanZ_sum, wrap8_in n2 (by omega)]
  exact n1
/-- the document's greatest number is the code's, where there is a number. -/
theorem top_max (l : List Int) (h : (∀ x ∈ l, -128 ≤ x ∧ x ≤ 127)) (hl : l ≠ []) : topZ l = maxL l := by
  have hlen := List.length_pos_iff.2 hl
  have key : ∀ k, 1 ≤ k → k ≤ l.length → (reachK l k).2 = maxL (l.take k) := by
    intro k
    induction k with
    | zero => intro h; omega
    | succ k ih =>
      intro _ hk
      have e : l.take (k + 1) = l.take k ++ [l[k]] := by rw [List.take_add_one, List.getElem?_eq_getElem (by omega)]; rfl
      have hg : l.getD k 0 = l[k] := by rw [List.getD_eq_getElem?_getD, List.getElem?_eq_getElem (by omega)]; rfl
      show max (reachK l k).2 (l.getD k 0) = _
      rw [e, maxL_snoc, hg]
      by_cases hk0 : k = 0
      · subst hk0
        have hx := h l[0] (List.getElem_mem _)
        have h0 : (reachK l 0).2 = l[0] := by show l.getD 0 0 = _; exact hg
        rw [h0]
        have : maxL (l.take 0) = -128 := rfl
        rw [this]
        split <;> omega
      · rw [ih (by omega) (by omega)]
        split <;> omega
  have := key l.length (by omega) (Nat.le_refl _)
  rw [List.take_length] at this
  exact this
theorem meanZ_one (x : Int) (h1 : -128 ≤ x) (h2 : x ≤ 127) : meanZ [x] = x := by
  rw [meanZ_sum]
  have e : nearZ (sumL [x]) (([x] : List Int).length : Int) = x := by
    have : sumL [x] = x := by simp [sumL]
    rw [this]; exact near_one x
  rw [e, wrap8_in h1 h2]
theorem maxL_one (x : Int) (h1 : -128 ≤ x) : maxL [x] = x := by
  show (if (-128 : Int) < x then x else -128) = x
  split <;> omega
theorem colL_ne (zs : List Int) (H W C top left : Int) (o i j0 : Nat) (h : hereL zs H W C top left o i j0 ≠ []) : ∀ j, j0 < j → colL zs H W C top left o i j ≠ []
  | 0, hj => by omega
  | j + 1, hj => by
    show colL zs H W C top left o i j ++ hereL zs H W C top left o i j ≠ []
    intro e
    obtain ⟨e1, e2⟩ := List.append_eq_nil_iff.1 e
    by_cases hjj : j0 = j
    · subst hjj; exact h e2
    · exact colL_ne zs H W C top left o i j0 h j (by omega) e1
theorem rowsL_ne (zs : List Int) (H W C top left : Int) (kk o i0 : Nat) (h : colL zs H W C top left o i0 kk ≠ []) : ∀ i, i0 < i → rowsL zs H W C top left kk o i ≠ []
  | 0, hi => by omega
  | i + 1, hi => by
    show rowsL zs H W C top left kk o i ++ colL zs H W C top left o i kk ≠ []
    intro e
    obtain ⟨e1, e2⟩ := List.append_eq_nil_iff.1 e
    by_cases hii : i0 = i
    · subst hii; exact h e2
    · exact rowsL_ne zs H W C top left kk o i0 h i (by omega) e1
theorem step_in {n K S P : Int} {a kk h : Nat} (har : argsB n K S P = true) (ha : stepsM n K S P = (a : Int)) (hk : K = (kk : Int)) (hh : h < a) : ∃ i0 : Nat, i0 < kk ∧ 0 ≤ (h : Int) * S - P + (i0 : Int) ∧ (h : Int) * S - P + (i0 : Int) < n := by
  obtain ⟨a1, a2, a3, a4, a5, a6, a7, a8, a9⟩ := argsB_yes har
  unfold stepsM at ha
  rw [if_pos har] at ha
  by_cases h0 : n + 2 * P - K < 0
  · rw [if_pos h0] at ha; omega
  · rw [if_neg h0] at ha
    have h1 : (h : Int) ≤ (n + 2 * P - K) / S := by omega
    have h2 : (h : Int) * S ≤ n + 2 * P - K := (Int.le_ediv_iff_mul_le (by omega)).1 h1
    have h3 : 0 ≤ (h : Int) * S := Int.mul_nonneg (by omega) (by omega)
    generalize (h : Int) * S = q at h2 h3 ⊢
    by_cases hq : q - P < 0
    · exact ⟨(P - q).toNat, by omega, by omega, by omega⟩
    · exact ⟨0, by omega, by omega, by omega⟩
theorem window_ne (zs : List Int) {H W C K S P : Int} {a b kk h v o : Nat} (he : slideE H W C K S P C = 0) (ha : stepsM H K S P = (a : Int)) (hb : stepsM W K S P = (b : Int)) (hk : K = (kk : Int)) (hh : h < a) (hv : v < b) :
    windowL zs H W C ((h : Int) * S - P) ((v : Int) * S - P) kk o ≠ [] := by
  obtain ⟨hs0, har1, har2, -, -, hsr⟩ := slide_ok he
  obtain ⟨i0, i1, i2, i3⟩ := step_in har1 ha hk hh
  obtain ⟨j0, j1, j2, j3⟩ := step_in har2 hb hk hv
  refine rowsL_ne zs H W C _ _ kk o i0 (colL_ne zs H W C _ _ o i0 j0 ?_ kk j1) kk i1
  unfold hereL
  rw [if_pos ⟨i2, i3, j2, j3⟩]
  simp
theorem rowL_congr {F G : Nat → Int} {k : Nat} (h : ∀ i, i < k → F i = G i) : rowL F k = rowL G k := by
  unfold rowL
  exact List.map_congr_left (fun i hi => h i (List.mem_range.1 hi))
theorem rowL_getD (F : Nat → Int) (k i : Nat) : (rowL F k).getD i 0 = if i < k then F i else 0 := by
  unfold rowL
  rw [List.getD_eq_getElem?_getD]
  by_cases h : i < k
  · rw [if_pos h]; simp [h]
  · rw [if_neg h]; simp [h]
theorem grid_bd {a b d i : Nat} (h : i < a * b * d) : i / d / b < a ∧ i / d % b < b := by
  have hd : 0 < d := by rcases Nat.eq_zero_or_pos d with rfl | h'; simp at h; exact h'
  have h1 : i / d < a * b := Nat.div_lt_of_lt_mul (by rw [Nat.mul_comm]; exact h)
  have hb : 0 < b := by rcases Nat.eq_zero_or_pos b with rfl | h'; simp at h; exact h'
  exact ⟨Nat.div_lt_of_lt_mul (by rw [Nat.mul_comm]; exact h1), Nat.mod_lt _ hb⟩
theorem I8b_mem (zs : List Int) (h : I8b zs) (H W C top left : Int) (kk o : Nat) : ∀ x ∈ windowL zs H W C top left kk o, -128 ≤ x ∧ x ≤ 127 := by
  intro x hx
  unfold windowL at hx
  rw [rowsI_L] at hx
  obtain ⟨k, -, rfl⟩ := List.mem_map.1 hx
  exact h k
/-- the letters of a pool. -/
theorem pool_letters {H W C K S P : Int} (he : slideE H W C K S P C = 0) : ∃ a b d kk : Nat, stepsM H K S P = (a : Int) ∧ stepsM W K S P = (b : Int) ∧ C = (d : Int) ∧ K = (kk : Int) ∧ a * b * d ≤ 1024 := by
  obtain ⟨hs0, har1, har2, -, -, hsr⟩ := slide_ok he
  obtain ⟨-, -, k1, k2, -⟩ := argsB_yes har1
  obtain ⟨q1, q2, q3, q4, q5, q6, q7⟩ := shapeB_yes hsr
  obtain ⟨a, ha⟩ : ∃ a : Nat, stepsM H K S P = (a : Int) := ⟨(stepsM H K S P).toNat, by omega⟩
  obtain ⟨b, hb⟩ : ∃ b : Nat, stepsM W K S P = (b : Int) := ⟨(stepsM W K S P).toNat, by omega⟩
  obtain ⟨d, hd⟩ : ∃ d : Nat, C = (d : Int) := ⟨C.toNat, by omega⟩
  obtain ⟨kk, hk⟩ : ∃ kk : Nat, K = (kk : Int) := ⟨K.toNat, by omega⟩
  refine ⟨a, b, d, kk, ha, hb, hd, hk, ?_⟩
  have : ((a * b * d : Nat) : Int) = stepsM H K S P * stepsM W K S P * C := by rw [ha, hb, hd]; simp
  omega
theorem pool_both (H W C : Int) (A : Option Addr) (zs : List Int) (n c : Nat) (hn : zs.length = n) (hz : I8b zs) (x0 x1 x2 x8 x11 x12 x13 x14 x15 x16 x17 x18 : Value) (K S P O Z : Int) (WA BA : Option Addr) (nW cW nB cB : Nat) :
    ∃ (X Y U : Int) (m : Nat) (xs ys : List Int) (er : Int), xs.length = m ∧ ys.length = m ∧ m ≤ 1000000 ∧ (∀ i, ys.getD i 0 ≤ xs.getD i 0) ∧
      (∀ w : World, Kit.Rd w w.heap.size A (I8s zs) → Calls Try.prog 10 #[.agg #[.int .i64 H, .int .i64 W, .int .i64 C, .slice A n c], .agg #[x0, x1, x2, .int .i64 K, .int .i64 S, .int .i64 P, .int .i64 O, .int .i8 Z, x8, .slice WA nW cW, .slice BA nB cB, x11, x12, x13, x14, x15, x16, x17, x18]] w (MadeP w X Y U m xs (.int .i64 er))) ∧
      (∀ w : World, Kit.Rd w w.heap.size A (I8s zs) → Calls Try.prog 11 #[.agg #[.int .i64 H, .int .i64 W, .int .i64 C, .slice A n c], .agg #[x0, x1, x2, .int .i64 K, .int .i64 S, .int .i64 P, .int .i64 O, .int .i8 Z, x8, .slice WA nW cW, .slice BA nB cB, x11, x12, x13, x14, x15, x16, x17, x18]] w (MadeP w X Y U m ys (.int .i64 er))) ∧
      (∀ w : World, Kit.Rd w w.heap.size A (I8s zs) → Calls Try.prog 12 #[.agg #[.int .i64 H, .int .i64 W, .int .i64 C, .slice A n c], .agg #[x0, x1, x2, .int .i64 K, .int .i64 S, .int .i64 P, .int .i64 O, .int .i8 Z, x8, .slice WA nW cW, .slice BA nB cB, x11, x12, x13, x14, x15, x16, x17, x18], .bool true] w (MadeP w X Y U m xs (.int .i64 er))) ∧
      (∀ w : World, Kit.Rd w w.heap.size A (I8s zs) → Calls Try.prog 12 #[.agg #[.int .i64 H, .int .i64 W, .int .i64 C, .slice A n c], .agg #[x0, x1, x2, .int .i64 K, .int .i64 S, .int .i64 P, .int .i64 O, .int .i8 Z, x8, .slice WA nW cW, .slice BA nB cB, x11, x12, x13, x14, x15, x16, x17, x18], .bool false] w (MadeP w X Y U m ys (.int .i64 er))) := by
  cases ht : tensB H W C n
  · refine ⟨0, 0, 0, 0, [], [], 5, rfl, rfl, by omega, fun _ => Int.le_refl _, fun w hr => ?_, fun w hr => ?_, fun w _ => ?_, fun w _ => ?_⟩
    · exact max_mk H W C A zs n c x0 x1 x2 x8 x11 x12 x13 x14 x15 x16 x17 x18 K S P O Z WA BA nW cW nB cB 0 0 0 0 [] 5 (fun w' _ => each_bad H W C A n c x0 x1 x2 x8 x11 x12 x13 x14 x15 x16 x17 x18 K S P O Z WA BA nW cW nB cB _ ht w') w hr
    · exact mean_mk H W C A zs n c x0 x1 x2 x8 x11 x12 x13 x14 x15 x16 x17 x18 K S P O Z WA BA nW cW nB cB 0 0 0 0 [] 5 (fun w' _ => each_bad H W C A n c x0 x1 x2 x8 x11 x12 x13 x14 x15 x16 x17 x18 K S P O Z WA BA nW cW nB cB _ ht w') w hr
    · exact refPool_bad H W C A n c x0 x1 x2 x8 x11 x12 x13 x14 x15 x16 x17 x18 K S P O Z WA BA nW cW nB cB true ht w
    · exact refPool_bad H W C A n c x0 x1 x2 x8 x11 x12 x13 x14 x15 x16 x17 x18 K S P O Z WA BA nW cW nB cB false ht w
  · by_cases he : slideE H W C K S P C = 0
    · obtain ⟨a, b, d, kk, ha, hb, hd, hk, hN⟩ := pool_letters he
      have hms : rowL (gridF b d (mostF zs H W C S P kk)) (a * b * d) = rowL (gridF b d (greatF zs H W C S P kk)) (a * b * d) := rowL_congr (fun i hi => by
        obtain ⟨h1, h2⟩ := grid_bd hi
        show topZ _ = maxL _
        exact top_max _ (I8b_mem zs hz _ _ _ _ _ _ _) (window_ne zs he ha hb hk h1 h2))
      refine ⟨a, b, C, a * b * d, rowL (gridF b d (greatF zs H W C S P kk)) (a * b * d), rowL (gridF b d (meanF zs H W C S P kk)) (a * b * d), 0, rowL_len _ _, rowL_len _ _, by omega, fun i => ?_, fun w hr => ?_, fun w hr => ?_, fun w hr => ?_, fun w hr => ?_⟩
      · rw [rowL_getD, rowL_getD]
        by_cases hi : i < a * b * d
        · rw [if_pos hi, if_pos hi]
          obtain ⟨h1, h2⟩ := grid_bd hi
          show meanZ _ ≤ maxL _
          exact mean_le_max _ (I8b_mem zs hz _ _ _ _ _ _ _) (window_ne zs he ha hb hk h1 h2)
        · rw [if_neg hi, if_neg hi]; exact Int.le_refl _
      · exact max_mk H W C A zs n c x0 x1 x2 x8 x11 x12 x13 x14 x15 x16 x17 x18 K S P O Z WA BA nW cW nB cB _ _ _ _ _ _ (fun w' hr' => eachMax_yes H W C A zs n c hn ht hz x0 x1 x2 x8 x11 x12 x13 x14 x15 x16 x17 x18 K S P O Z WA BA nW cW nB cB a b d kk he ha hb hd hk _ rfl w' hr') w hr
      · exact mean_mk H W C A zs n c x0 x1 x2 x8 x11 x12 x13 x14 x15 x16 x17 x18 K S P O Z WA BA nW cW nB cB _ _ _ _ _ _ (fun w' hr' => eachAvg_yes H W C A zs n c hn ht hz x0 x1 x2 x8 x11 x12 x13 x14 x15 x16 x17 x18 K S P O Z WA BA nW cW nB cB a b d kk he ha hb hd hk _ rfl w' hr') w hr
      · have h := refPool_most H W C A zs n c hn ht hz x0 x1 x2 x8 x11 x12 x13 x14 x15 x16 x17 x18 K S P O Z WA BA nW cW nB cB a b d kk he ha hb hd hk _ rfl w hr
        rw [hms] at h
        exact h
      · exact refPool_mean H W C A zs n c hn ht hz x0 x1 x2 x8 x11 x12 x13 x14 x15 x16 x17 x18 K S P O Z WA BA nW cW nB cB a b d kk he ha hb hd hk _ rfl w hr
    · obtain ⟨er, her⟩ : ∃ er, slideE H W C K S P C = er := ⟨_, rfl⟩
      have h0 : er ≠ 0 := by rw [← her]; exact he
      refine ⟨0, 0, 0, 0, [], [], er, rfl, rfl, by omega, fun _ => Int.le_refl _, fun w hr => ?_, fun w hr => ?_, fun w _ => ?_, fun w _ => ?_⟩
      · exact max_mk H W C A zs n c x0 x1 x2 x8 x11 x12 x13 x14 x15 x16 x17 x18 K S P O Z WA BA nW cW nB cB 0 0 0 0 [] er (fun w' _ => each_err H W C A n c x0 x1 x2 x8 x11 x12 x13 x14 x15 x16 x17 x18 K S P O Z WA BA nW cW nB cB _ ht er her h0 w') w hr
      · exact mean_mk H W C A zs n c x0 x1 x2 x8 x11 x12 x13 x14 x15 x16 x17 x18 K S P O Z WA BA nW cW nB cB 0 0 0 0 [] er (fun w' _ => each_err H W C A n c x0 x1 x2 x8 x11 x12 x13 x14 x15 x16 x17 x18 K S P O Z WA BA nW cW nB cB _ ht er her h0 w') w hr
      · exact refPool_err H W C A n c x0 x1 x2 x8 x11 x12 x13 x14 x15 x16 x17 x18 K S P O Z WA BA nW cW nB cB true ht er her h0 w
      · exact refPool_err H W C A n c x0 x1 x2 x8 x11 x12 x13 x14 x15 x16 x17 x18 K S P O Z WA BA nW cW nB cB false ht er her h0 w
/-- of windows of one number alone both are it. -/
theorem window_one (zs : List Int) (H W C : Int) (h v o : Nat) (hh : (h : Int) < H) (hv : (v : Int) < W) : windowL zs H W C ((h : Int) * 1 - 0) ((v : Int) * 1 - 0) 1 o = [zs.getD (((h : Int) * W + (v : Int)) * C + (o : Int)).toNat 0] := by
  unfold windowL
  show ([] : List Int) ++ (([] : List Int) ++ hereL zs H W C _ _ o 0 0) = _
  rw [List.nil_append, List.nil_append]
  unfold hereL
  have e1 : (h : Int) * 1 - 0 + ((0 : Nat) : Int) = h := by omega
  have e2 : (v : Int) * 1 - 0 + ((0 : Nat) : Int) = v := by omega
  rw [e1, e2, if_pos ⟨by omega, hh, by omega, hv⟩]
theorem at_flat {b d : Nat} (i : Nat) (hd : 0 < d) (hb : 0 < b) : ((((i / d / b : Nat) : Int) * (b : Int) + ((i / d % b : Nat) : Int)) * (d : Int) + ((i % d : Nat) : Int)).toNat = i := by
  have e1 : i / d / b * b + i / d % b = i / d := by rw [Nat.mul_comm]; exact Nat.div_add_mod _ _
  have e2 : i / d * d + i % d = i := by rw [Nat.mul_comm]; exact Nat.div_add_mod _ _
  have : (((i / d / b : Nat) : Int) * (b : Int) + ((i / d % b : Nat) : Int)) * (d : Int) + ((i % d : Nat) : Int) = (((i / d / b * b + i / d % b) * d + i % d : Nat) : Int) := by simp
  rw [this, e1, e2]
  simp
theorem rowL_self (zs : List Int) (n : Nat) (hn : zs.length = n) (F : Nat → Int) (h : ∀ i, i < n → F i = zs.getD i 0) : rowL F n = zs := by
  apply List.ext_getElem (by rw [rowL_len, hn])
  intro i h1 h2
  have := h i (by omega)
  simp only [rowL, List.getElem_map, List.getElem_range]
  rw [this, List.getD_eq_getElem?_getD, List.getElem?_eq_getElem h2]; rfl
theorem pool_one (H W C : Int) (A : Option Addr) (zs : List Int) (n c : Nat) (hn : zs.length = n) (hz : I8b zs) (ht : tensB H W C n = true) :
    (∀ w : World, Kit.Rd w w.heap.size A (I8s zs) → Calls Try.prog 10 #[.agg #[.int .i64 H, .int .i64 W, .int .i64 C, .slice A n c], .agg #[.int .i64 0, .int .i64 0, .int .i64 0, .int .i64 1, .int .i64 1, .int .i64 0, .int .i64 0, .int .i8 0, .int .i8 0, .slice none 0 0, .slice none 0 0, .int .i32 0, .int .i64 0, .int .i8 0, .int .i32 0, .int .i64 0, .int .i8 0, .int .i8 0, .int .i8 0]] w (MadeP w H W C n zs (.int .i64 0))) ∧
    (∀ w : World, Kit.Rd w w.heap.size A (I8s zs) → Calls Try.prog 11 #[.agg #[.int .i64 H, .int .i64 W, .int .i64 C, .slice A n c], .agg #[.int .i64 0, .int .i64 0, .int .i64 0, .int .i64 1, .int .i64 1, .int .i64 0, .int .i64 0, .int .i8 0, .int .i8 0, .slice none 0 0, .slice none 0 0, .int .i32 0, .int .i64 0, .int .i8 0, .int .i32 0, .int .i64 0, .int .i8 0, .int .i8 0, .int .i8 0]] w (MadeP w H W C n zs (.int .i64 0))) := by
  obtain ⟨hs, hN⟩ : shapeB H W C = true ∧ (n : Int) = H * W * C := by simpa [tensB] using ht
  obtain ⟨g1, g2, g3, g4, g5, g6, g7⟩ := shapeB_yes hs
  have hst : ∀ x : Int, 1 ≤ x → x ≤ 1024 → argsB x 1 1 0 = true ∧ stepsM x 1 1 0 = x ∧ stepsE x 1 1 0 = 0 := by
    intro x h1 h2
    have ha : argsB x 1 1 0 = true := by simp [argsB]; omega
    refine ⟨ha, ?_, ?_⟩
    · unfold stepsM; rw [if_pos ha, if_neg (by omega)]; simp
    · unfold stepsE; rw [if_pos ha, if_neg (by omega)]
  obtain ⟨-, b1, b2⟩ := hst H (by omega) (by omega)
  obtain ⟨-, b3, b4⟩ := hst W (by omega) (by omega)
  have he : slideE H W C 1 1 0 C = 0 := by
    unfold slideE
    rw [if_neg (by rw [hs]; simp), if_neg (by rw [b2]; simp), if_neg (by rw [b4]; simp), b1, b3, if_pos hs]
  obtain ⟨a, ha⟩ : ∃ a : Nat, H = (a : Int) := ⟨H.toNat, by omega⟩
  obtain ⟨b, hb⟩ : ∃ b : Nat, W = (b : Int) := ⟨W.toNat, by omega⟩
  obtain ⟨d, hd⟩ : ∃ d : Nat, C = (d : Int) := ⟨C.toNat, by omega⟩
  have hNN : a * b * d = n := by
    have : ((a * b * d : Nat) : Int) = (n : Int) := by rw [hN, ha, hb, hd]; simp
    omega
  have hat : ∀ i, i < n → windowL zs H W C (((i / d / b : Nat) : Int) * 1 - 0) (((i / d % b : Nat) : Int) * 1 - 0) 1 (i % d) = [zs.getD i 0] := by
    intro i hi
    obtain ⟨q1, q2⟩ := grid_bd (a := a) (b := b) (d := d) (i := i) (by omega)
    rw [window_one zs H W C _ _ _ (by omega) (by omega), hb, hd, at_flat i (by omega) (by omega)]
  refine ⟨fun w hr => ?_, fun w hr => ?_⟩
  · have hl : rowL (gridF b d (greatF zs H W C 1 0 1)) n = zs := rowL_self zs n hn _ (fun i hi => by
      show maxL _ = _
      rw [hat i hi]
      exact maxL_one _ (hz i).1)
    refine max_mk H W C A zs n c (.int .i64 0) (.int .i64 0) (.int .i64 0) (.int .i8 0) (.int .i32 0) (.int .i64 0) (.int .i8 0) (.int .i32 0) (.int .i64 0) (.int .i8 0) (.int .i8 0) (.int .i8 0) 1 1 0 0 0 none none 0 0 0 0 _ _ _ _ _ _ (fun w' hr' => ?_) w hr
    have h := eachMax_yes H W C A zs n c hn ht hz (.int .i64 0) (.int .i64 0) (.int .i64 0) (.int .i8 0) (.int .i32 0) (.int .i64 0) (.int .i8 0) (.int .i32 0) (.int .i64 0) (.int .i8 0) (.int .i8 0) (.int .i8 0) 1 1 0 0 0 none none 0 0 0 0 a b d 1 he (by rw [b1]; exact ha) (by rw [b3]; exact hb) hd rfl n hNN w' hr'
    rw [hl, ← ha, ← hb] at h
    exact h
  · have hl : rowL (gridF b d (meanF zs H W C 1 0 1)) n = zs := rowL_self zs n hn _ (fun i hi => by
      show meanZ _ = _
      rw [hat i hi]
      exact meanZ_one _ (hz i).1 (hz i).2)
    refine mean_mk H W C A zs n c (.int .i64 0) (.int .i64 0) (.int .i64 0) (.int .i8 0) (.int .i32 0) (.int .i64 0) (.int .i8 0) (.int .i32 0) (.int .i64 0) (.int .i8 0) (.int .i8 0) (.int .i8 0) 1 1 0 0 0 none none 0 0 0 0 _ _ _ _ _ _ (fun w' hr' => ?_) w hr
    have h := eachAvg_yes H W C A zs n c hn ht hz (.int .i64 0) (.int .i64 0) (.int .i64 0) (.int .i8 0) (.int .i32 0) (.int .i64 0) (.int .i8 0) (.int .i32 0) (.int .i64 0) (.int .i8 0) (.int .i8 0) (.int .i8 0) 1 1 0 0 0 none none 0 0 0 0 a b d 1 he (by rw [b1]; exact ha) (by rw [b3]; exact hb) hd rfl n hNN w' hr'
    rw [hl, ← ha, ← hb] at h
    exact h
theorem pool_none (H W C : Int) (A : Option Addr) (zs : List Int) (n c : Nat) (ht : tensB H W C n = false) :
    (∀ w : World, Kit.Rd w w.heap.size A (I8s zs) → Calls Try.prog 10 #[.agg #[.int .i64 H, .int .i64 W, .int .i64 C, .slice A n c], .agg #[.int .i64 0, .int .i64 0, .int .i64 0, .int .i64 1, .int .i64 1, .int .i64 0, .int .i64 0, .int .i8 0, .int .i8 0, .slice none 0 0, .slice none 0 0, .int .i32 0, .int .i64 0, .int .i8 0, .int .i32 0, .int .i64 0, .int .i8 0, .int .i8 0, .int .i8 0]] w (MadeP w 0 0 0 0 [] (.int .i64 5))) ∧
    (∀ w : World, Kit.Rd w w.heap.size A (I8s zs) → Calls Try.prog 11 #[.agg #[.int .i64 H, .int .i64 W, .int .i64 C, .slice A n c], .agg #[.int .i64 0, .int .i64 0, .int .i64 0, .int .i64 1, .int .i64 1, .int .i64 0, .int .i64 0, .int .i8 0, .int .i8 0, .slice none 0 0, .slice none 0 0, .int .i32 0, .int .i64 0, .int .i8 0, .int .i32 0, .int .i64 0, .int .i8 0, .int .i8 0, .int .i8 0]] w (MadeP w 0 0 0 0 [] (.int .i64 5))) :=
  ⟨fun w hr => max_mk H W C A zs n c (.int .i64 0) (.int .i64 0) (.int .i64 0) (.int .i8 0) (.int .i32 0) (.int .i64 0) (.int .i8 0) (.int .i32 0) (.int .i64 0) (.int .i8 0) (.int .i8 0) (.int .i8 0) 1 1 0 0 0 none none 0 0 0 0 0 0 0 0 [] 5 (fun w' _ => each_bad H W C A n c (.int .i64 0) (.int .i64 0) (.int .i64 0) (.int .i8 0) (.int .i32 0) (.int .i64 0) (.int .i8 0) (.int .i32 0) (.int .i64 0) (.int .i8 0) (.int .i8 0) (.int .i8 0) 1 1 0 0 0 none none 0 0 0 0 _ ht w') w hr,
    fun w hr => mean_mk H W C A zs n c (.int .i64 0) (.int .i64 0) (.int .i64 0) (.int .i8 0) (.int .i32 0) (.int .i64 0) (.int .i8 0) (.int .i32 0) (.int .i64 0) (.int .i8 0) (.int .i8 0) (.int .i8 0) 1 1 0 0 0 none none 0 0 0 0 0 0 0 0 [] 5 (fun w' _ => each_bad H W C A n c (.int .i64 0) (.int .i64 0) (.int .i64 0) (.int .i8 0) (.int .i32 0) (.int .i64 0) (.int .i8 0) (.int .i32 0) (.int .i64 0) (.int .i8 0) (.int .i8 0) (.int .i8 0) 1 1 0 0 0 none none 0 0 0 0 _ ht w') w hr⟩
theorem i8b_of {zs : List Int} (h : ∀ n ∈ zs, (Lit.int .i8 n).wf = true) : I8b zs := fun q => by
  rw [List.getD_eq_getElem?_getD]
  cases hq : zs[q]? with
  | none => simp
  | some x =>
    have hx := h x (List.mem_of_getElem? hq)
    have ⟨a, b⟩ : -128 ≤ x ∧ x ≤ 127 := by simpa [Lit.wf, IntKind.min, IntKind.max, IntKind.signed, IntKind.bits] using hx
    simpa using ⟨a, b⟩
end Go.Proofs.Ytccngjgbhbeobaa.CPool
