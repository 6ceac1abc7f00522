/- Layer 21 (act), the code: (the document) Of. -/
import Derived.Test.YtpokeklphmfcnaaActEach
import Derived.Test.YtpokeklphmfcnaaTensorRef
import Derived.Laws.MakeOwn
import Derived.Deep.CutRange
namespace Go.Proofs.Ytpokeklphmfcnaa.CAct
open Go Go.ChangeShapes Go.WideShapes Go.ChangeAt Go.RowKit Go.Deep
open Plain CSat CFix CShape CTensor CConv
set_option linter.unusedVariables false

set_option maxRecDepth 100000 in
set_option maxHeartbeats 4000000 in
theorem arof_bad (H W C : Int) (A : Option Addr) (n c : Nat) (x0 x1 x2 : Value) (K S P O Z Y : Int) (WA BA : Option Addr) (nW cW nB cB : Nat) (m1 s1 z1 m2 s2 z2 lo hi : Int) (h1 : tensB H W C n = false) (w : World) :
    Calls Try.prog 8 #[.agg #[.int .i64 H, .int .i64 W, .int .i64 C, .slice A n c], .agg #[x0, x1, x2, .int .i64 K, .int .i64 S, .int .i64 P, .int .i64 O, .int .i8 Z, .int .i8 Y, .slice WA nW cW, .slice BA nB cB, .int .i32 m1, .int .i64 s1, .int .i8 z1, .int .i32 m2, .int .i64 s2, .int .i8 z2, .int .i8 lo, .int .i8 hi]] w (MadeT w 0 0 0 0 [] (.int .i64 5)) := by
  have HT1 := Lib.hid h1
  clear h1
  go_enter Try.func8, Try.ntmps8
  go_wp2_with (first
  | (go_at_call 15
     have hal : Below w.heap.size w (((w.alloc (.cells #[.int .i64 H, .int .i64 W, .int .i64 C, .slice A n c] 26)).alloc (.cells #[x0, x1, x2, .int .i64 K, .int .i64 S, .int .i64 P, .int .i64 O, .int .i8 Z, .int .i8 Y, .slice WA nW cW, .slice BA nB cB, .int .i32 m1, .int .i64 s1, .int .i8 z1, .int .i32 m2, .int .i64 s2, .int .i8 z2, .int .i8 lo, .int .i8 hi] 32)).alloc (.cells #[.int .i64 0, .int .i64 0, .int .i64 0, .slice none 0 0] 26)) := (((Below.refl _ _).alloc (by first | exact Nat.le_refl _ | (simp; done) | (simp; omega)) _).alloc (by first | exact Nat.le_refl _ | (simp; done) | (simp; omega)) _).alloc (by first | exact Nat.le_refl _ | (simp; done) | (simp; omega)) _
     refine (refRight_to H W C A n c false HT1.out _).mono ?_
     rintro e w1 ⟨rfl, hb⟩
     have hh : Below w.heap.size w w1 := hal.trans (hb.mono hal.size)
     have qTA := (boxNew H W C A n c 26) w
     try simp only [World.size_alloc] at qTA
     have TA := Lib.hid ((qTA.below (B' := w.heap.size + 1) (by omega) ((((Below.refl _ _).alloc (by first | exact Nat.le_refl _ | (simp; done) | (simp; omega)) _).alloc (by first | exact Nat.le_refl _ | (simp; done) | (simp; omega)) _).mono (by simp))).below (by first | (simp; done) | (simp; omega)) hb)
     have yTA : w.heap.size < w1.heap.size := by have := hb.size; simp at this; omega
     clear qTA
     have qTN := (NodeAt.new x0 x1 x2 (.int .i8 Y) (.int .i32 m1) (.int .i64 s1) (.int .i8 z1) (.int .i32 m2) (.int .i64 s2) (.int .i8 z2) (.int .i8 lo) (.int .i8 hi) K S P O Z WA BA nW cW nB cB 32) (w.alloc (.cells #[.int .i64 H, .int .i64 W, .int .i64 C, .slice A n c] 26))
     try simp only [World.size_alloc] at qTN
     have TN := Lib.hid ((qTN.below (B' := w.heap.size + 2) (by omega) (((Below.refl _ _).alloc (by first | exact Nat.le_refl _ | (simp; done) | (simp; omega)) _).mono (by simp))).below (by first | (simp; done) | (simp; omega)) hb)
     have yTN : w.heap.size + 1 < w1.heap.size := by have := hb.size; simp at this; omega
     clear qTN
     have qFR := (freshNew 26) ((w.alloc (.cells #[.int .i64 H, .int .i64 W, .int .i64 C, .slice A n c] 26)).alloc (.cells #[x0, x1, x2, .int .i64 K, .int .i64 S, .int .i64 P, .int .i64 O, .int .i8 Z, .int .i8 Y, .slice WA nW cW, .slice BA nB cB, .int .i32 m1, .int .i64 s1, .int .i8 z1, .int .i32 m2, .int .i64 s2, .int .i8 z2, .int .i8 lo, .int .i8 hi] 32))
     try simp only [World.size_alloc] at qFR
     have FR := Lib.hid (qFR.below (by first | (simp; done) | (simp; omega)) hb)
     have yFR : w.heap.size + 2 < w1.heap.size := by have := hb.size; simp at this; omega
     clear qFR
     have HBW : Hid (Below w.heap.size w w1) := Lib.hid hh
     obtain ⟨⟨z0, z1, z2, z3⟩, z4, z5, z6, z7⟩ := FR.out
     obtain ⟨tap0, tap1, tap2, tap3⟩ := TA.out
     clear hb hh hal))
  refine bodyPost_ret (Kit.results_ct rfl _ _ (w.heap.size + 2) 0 [.int .i64 0, .int .i64 0, .int .i64 0, .slice none 0 0] _ rfl (range_4 (by go_cell) (by go_cell) (by go_cell) (by go_cell)) Try.underlying26 rfl (by kernel_rfl)) rfl ?_
  exact ⟨_, rfl, World.ownsRow_nil _ _ _ _, by exact (((HBW.out.setCell (p := ⟨w.heap.size + 2, 0, none⟩) (by simp) _).setCell (p := ⟨w.heap.size + 2, 1, none⟩) (by simp) _).setCell (p := ⟨w.heap.size + 2, 2, none⟩) (by simp) _).setCell (p := ⟨w.heap.size + 2, 3, none⟩) (by simp) _⟩
set_option maxRecDepth 100000 in
set_option maxHeartbeats 4000000 in
theorem arof_quant (H W C : Int) (A : Option Addr) (n c : Nat) (x0 x1 x2 : Value) (K S P O Z Y : Int) (WA BA : Option Addr) (nW cW nB cB : Nat) (m1 s1 z1 m2 s2 z2 lo hi : Int) (h1 : tensB H W C n = true) (hq : rightB m1 s1 = false) (w : World) :
    Calls Try.prog 8 #[.agg #[.int .i64 H, .int .i64 W, .int .i64 C, .slice A n c], .agg #[x0, x1, x2, .int .i64 K, .int .i64 S, .int .i64 P, .int .i64 O, .int .i8 Z, .int .i8 Y, .slice WA nW cW, .slice BA nB cB, .int .i32 m1, .int .i64 s1, .int .i8 z1, .int .i32 m2, .int .i64 s2, .int .i8 z2, .int .i8 lo, .int .i8 hi]] w (MadeT w 0 0 0 0 [] (.int .i64 7)) := by
  have HT1 := Lib.hid h1
  have HQ := Lib.hid hq
  clear h1 hq
  go_enter Try.func8, Try.ntmps8
  go_wp2_with (first
  | (go_at_call 15
     have hal : Below w.heap.size w (((w.alloc (.cells #[.int .i64 H, .int .i64 W, .int .i64 C, .slice A n c] 26)).alloc (.cells #[x0, x1, x2, .int .i64 K, .int .i64 S, .int .i64 P, .int .i64 O, .int .i8 Z, .int .i8 Y, .slice WA nW cW, .slice BA nB cB, .int .i32 m1, .int .i64 s1, .int .i8 z1, .int .i32 m2, .int .i64 s2, .int .i8 z2, .int .i8 lo, .int .i8 hi] 32)).alloc (.cells #[.int .i64 0, .int .i64 0, .int .i64 0, .slice none 0 0] 26)) := (((Below.refl _ _).alloc (by first | exact Nat.le_refl _ | (simp; done) | (simp; omega)) _).alloc (by first | exact Nat.le_refl _ | (simp; done) | (simp; omega)) _).alloc (by first | exact Nat.le_refl _ | (simp; done) | (simp; omega)) _
     refine (refRight_to H W C A n c true HT1.out _).mono ?_
     rintro e w1 ⟨rfl, hb⟩
     have hh : Below w.heap.size w w1 := hal.trans (hb.mono hal.size)
     have qTA := (boxNew H W C A n c 26) w
     try simp only [World.size_alloc] at qTA
     have TA := Lib.hid ((qTA.below (B' := w.heap.size + 1) (by omega) ((((Below.refl _ _).alloc (by first | exact Nat.le_refl _ | (simp; done) | (simp; omega)) _).alloc (by first | exact Nat.le_refl _ | (simp; done) | (simp; omega)) _).mono (by simp))).below (by first | (simp; done) | (simp; omega)) hb)
     have yTA : w.heap.size < w1.heap.size := by have := hb.size; simp at this; omega
     clear qTA
     have qTN := (NodeAt.new x0 x1 x2 (.int .i8 Y) (.int .i32 m1) (.int .i64 s1) (.int .i8 z1) (.int .i32 m2) (.int .i64 s2) (.int .i8 z2) (.int .i8 lo) (.int .i8 hi) K S P O Z WA BA nW cW nB cB 32) (w.alloc (.cells #[.int .i64 H, .int .i64 W, .int .i64 C, .slice A n c] 26))
     try simp only [World.size_alloc] at qTN
     have TN := Lib.hid ((qTN.below (B' := w.heap.size + 2) (by omega) (((Below.refl _ _).alloc (by first | exact Nat.le_refl _ | (simp; done) | (simp; omega)) _).mono (by simp))).below (by first | (simp; done) | (simp; omega)) hb)
     have yTN : w.heap.size + 1 < w1.heap.size := by have := hb.size; simp at this; omega
     clear qTN
     have qFR := (freshNew 26) ((w.alloc (.cells #[.int .i64 H, .int .i64 W, .int .i64 C, .slice A n c] 26)).alloc (.cells #[x0, x1, x2, .int .i64 K, .int .i64 S, .int .i64 P, .int .i64 O, .int .i8 Z, .int .i8 Y, .slice WA nW cW, .slice BA nB cB, .int .i32 m1, .int .i64 s1, .int .i8 z1, .int .i32 m2, .int .i64 s2, .int .i8 z2, .int .i8 lo, .int .i8 hi] 32))
     try simp only [World.size_alloc] at qFR
     have FR := Lib.hid (qFR.below (by first | (simp; done) | (simp; omega)) hb)
     have yFR : w.heap.size + 2 < w1.heap.size := by have := hb.size; simp at this; omega
     clear qFR
     have HBW : Hid (Below w.heap.size w w1) := Lib.hid hh
     obtain ⟨tap0, tap1, tap2, tap3⟩ := TA.out
     have n11 := TN.out.at 11 _ rfl
     have n12 := TN.out.at 12 _ rfl
     have n13 := TN.out.at 13 _ rfl
     clear hb hh hal)
  | (go_at_call 11
     have hal : Below w1.heap.size w1 w1 := Below.refl _ _
     refine (refIsRight_to _ _ _ _).mono ?_
     rintro e w2 ⟨rfl, hb⟩
     have hh : Below w1.heap.size w1 w2 := hal.trans (hb.mono hal.size)
     replace TA := Lib.hid (TA.out.below yTA hh)
     replace yTA := Nat.lt_of_lt_of_le yTA hh.size
     replace TN := Lib.hid (TN.out.below yTN hh)
     replace yTN := Nat.lt_of_lt_of_le yTN hh.size
     replace FR := Lib.hid (FR.out.below yFR hh)
     replace yFR := Nat.lt_of_lt_of_le yFR hh.size
     replace HBW := Lib.hid (HBW.out.trans (hh.mono HBW.out.size))
     clear tap0 tap1 tap2 tap3 n11 n12 n13
     rw [HQ.out]
     obtain ⟨⟨z0, z1, z2, z3⟩, z4, z5, z6, z7⟩ := FR.out
     obtain ⟨tap0, tap1, tap2, tap3⟩ := TA.out
     have n11 := TN.out.at 11 _ rfl
     have n12 := TN.out.at 12 _ rfl
     have n13 := TN.out.at 13 _ rfl
     clear hb hh hal))
  refine bodyPost_ret (Kit.results_ct rfl _ _ (w.heap.size + 2) 0 [.int .i64 0, .int .i64 0, .int .i64 0, .slice none 0 0] _ rfl (range_4 (by go_cell) (by go_cell) (by go_cell) (by go_cell)) Try.underlying26 rfl (by kernel_rfl)) rfl ?_
  exact ⟨_, rfl, World.ownsRow_nil _ _ _ _, by exact (((HBW.out.setCell (p := ⟨w.heap.size + 2, 0, none⟩) (by simp) _).setCell (p := ⟨w.heap.size + 2, 1, none⟩) (by simp) _).setCell (p := ⟨w.heap.size + 2, 2, none⟩) (by simp) _).setCell (p := ⟨w.heap.size + 2, 3, none⟩) (by simp) _⟩
/-- the box of the tensor in the making. -/
def PutJ (B : Nat) (X Y U : Int) (v : Value) (wd : World) : Prop :=
  wd.cell? ⟨B, 0, none⟩ = some (.int .i64 X) ∧ wd.cell? ⟨B, 1, none⟩ = some (.int .i64 Y) ∧ wd.cell? ⟨B, 2, none⟩ = some (.int .i64 U) ∧ wd.cell? ⟨B, 3, none⟩ = some v ∧ wd.frozen? ⟨B, 3, none⟩ = false
theorem PutJ.below {B B' : Nat} {X Y U : Int} {v : Value} {w w' : World} (h : PutJ B X Y U v w) (hB : B < B') (hb : Below B' w w') : PutJ B X Y U v w' :=
  ⟨(hb.cell (p := ⟨B, 0, none⟩) hB).trans h.1, (hb.cell (p := ⟨B, 1, none⟩) hB).trans h.2.1, (hb.cell (p := ⟨B, 2, none⟩) hB).trans h.2.2.1, (hb.cell (p := ⟨B, 3, none⟩) hB).trans h.2.2.2.1, (hb.frozen (p := ⟨B, 3, none⟩) hB).trans h.2.2.2.2⟩
theorem PutJ.new (X Y U : Int) (v : Value) (T : TypeId) (w : World) : PutJ w.heap.size X Y U v (w.alloc (.cells #[.int .i64 X, .int .i64 Y, .int .i64 U, v] T)) :=
  ⟨Kit.new_cell _ _ _ _, Kit.new_cell _ _ _ _, Kit.new_cell _ _ _ _, Kit.new_cell _ _ _ _, World.frozen?_alloc_at _ _ _ _ rfl⟩
theorem PutJ.store {B : Nat} {X Y U : Int} {v : Value} {w : World} (h : PutJ B X Y U v w) (u : Value) : PutJ B X Y U u (w.setCell ⟨B, 3, none⟩ u) := by
  obtain ⟨h1, h2, h3, h4, h5⟩ := h
  have k : ∀ (i : Nat), i ≠ 3 → (w.setCell ⟨B, 3, none⟩ u).cell? ⟨B, i, none⟩ = w.cell? ⟨B, i, none⟩ := fun i hne => World.cell?_setCell_other _ _ _ _ (fun e => by injection e; omega)
  exact ⟨(k 0 (by omega)).trans h1, (k 1 (by omega)).trans h2, (k 2 (by omega)).trans h3, World.cell?_setCell_same _ _ _ h4, (World.frozen?_setCell _ _ _ _).trans h5⟩
theorem rowL_succ8a (F : Nat → Int) (k : Nat) (x : Int) (h : F k = x) : I8s (rowL F k) ++ [.int .i8 x] = I8s (rowL F (k + 1)) := by
  simp [I8s, rowL, List.range_succ, h]
set_option maxRecDepth 100000 in
set_option maxHeartbeats 8000000 in
theorem arof_yes (H W C : Int) (A : Option Addr) (N c : Nat) (zs : List Int) (hz : zs.length = N) (bz : I8b zs) (x0 x1 x2 : Value) (K S P O Z Y : Int) (WA BA : Option Addr) (nW cW nB cB : Nat) (m1 s1 z1 m2 s2 z2 lo hi : Int) (hnb : NBd Z Y m1 z1 m2 z2 lo hi) (h1 : tensB H W C N = true) (hq : rightB m1 s1 = true) (hN1 : 1 ≤ N) (hN2 : N ≤ 1000000)
    (F : Nat → Int) (hF : ∀ k, F k = heldZ (zs.getD k 0 - Z) m1 s1 z1 lo hi) (w : World) (hra : Kit.Rd w w.heap.size A (I8s zs)) :
    Calls Try.prog 8 #[.agg #[.int .i64 H, .int .i64 W, .int .i64 C, .slice A N c], .agg #[x0, x1, x2, .int .i64 K, .int .i64 S, .int .i64 P, .int .i64 O, .int .i8 Z, .int .i8 Y, .slice WA nW cW, .slice BA nB cB, .int .i32 m1, .int .i64 s1, .int .i8 z1, .int .i32 m2, .int .i64 s2, .int .i8 z2, .int .i8 lo, .int .i8 hi]] w (MadeT w H W C N (rowL F N) (.int .i64 0)) := by
  obtain ⟨i0, hi0, hi1, hi2, hi3⟩ := info_parts32 info_i8a
  obtain ⟨ba, oa, rfl, hba, hca⟩ := ints_getD hra (j := 0) (by omega)
  rw [hz] at hca
  have HCA := Lib.hid hca
  have HFF := Lib.hid hF
  have HT1 := Lib.hid h1
  have HQ := Lib.hid hq
  have HNB := Lib.hid hnb
  have HBZ := Lib.hid bz
  clear h1 hF hnb hra hz bz hq hca
  go_enter Try.func8, Try.ntmps8
  go_wp2_with (first
  | (go_at_call 15
     have hal : Below w.heap.size w (((w.alloc (.cells #[.int .i64 H, .int .i64 W, .int .i64 C, .slice (some ⟨ba, oa, none⟩) N c] 26)).alloc (.cells #[x0, x1, x2, .int .i64 K, .int .i64 S, .int .i64 P, .int .i64 O, .int .i8 Z, .int .i8 Y, .slice WA nW cW, .slice BA nB cB, .int .i32 m1, .int .i64 s1, .int .i8 z1, .int .i32 m2, .int .i64 s2, .int .i8 z2, .int .i8 lo, .int .i8 hi] 32)).alloc (.cells #[.int .i64 0, .int .i64 0, .int .i64 0, .slice none 0 0] 26)) := (((Below.refl _ _).alloc (by first | exact Nat.le_refl _ | (simp; done) | (simp; omega)) _).alloc (by first | exact Nat.le_refl _ | (simp; done) | (simp; omega)) _).alloc (by first | exact Nat.le_refl _ | (simp; done) | (simp; omega)) _
     refine (refRight_to H W C (some ⟨ba, oa, none⟩) N c true HT1.out _).mono ?_
     rintro e w1 ⟨rfl, hb⟩
     have hh : Below w.heap.size w w1 := hal.trans (hb.mono hal.size)
     have qTA := (boxNew H W C (some ⟨ba, oa, none⟩) N c 26) w
     try simp only [World.size_alloc] at qTA
     have TA := Lib.hid ((qTA.below (B' := w.heap.size + 1) (by omega) ((((Below.refl _ _).alloc (by first | exact Nat.le_refl _ | (simp; done) | (simp; omega)) _).alloc (by first | exact Nat.le_refl _ | (simp; done) | (simp; omega)) _).mono (by simp))).below (by first | (simp; done) | (simp; omega)) hb)
     have yTA : w.heap.size < w1.heap.size := by have := hb.size; simp at this; omega
     clear qTA
     have qTN := (NodeAt.new x0 x1 x2 (.int .i8 Y) (.int .i32 m1) (.int .i64 s1) (.int .i8 z1) (.int .i32 m2) (.int .i64 s2) (.int .i8 z2) (.int .i8 lo) (.int .i8 hi) K S P O Z WA BA nW cW nB cB 32) (w.alloc (.cells #[.int .i64 H, .int .i64 W, .int .i64 C, .slice (some ⟨ba, oa, none⟩) N c] 26))
     try simp only [World.size_alloc] at qTN
     have TN := Lib.hid ((qTN.below (B' := w.heap.size + 2) (by omega) (((Below.refl _ _).alloc (by first | exact Nat.le_refl _ | (simp; done) | (simp; omega)) _).mono (by simp))).below (by first | (simp; done) | (simp; omega)) hb)
     have yTN : w.heap.size + 1 < w1.heap.size := by have := hb.size; simp at this; omega
     clear qTN
     have qFR := (freshNew 26) ((w.alloc (.cells #[.int .i64 H, .int .i64 W, .int .i64 C, .slice (some ⟨ba, oa, none⟩) N c] 26)).alloc (.cells #[x0, x1, x2, .int .i64 K, .int .i64 S, .int .i64 P, .int .i64 O, .int .i8 Z, .int .i8 Y, .slice WA nW cW, .slice BA nB cB, .int .i32 m1, .int .i64 s1, .int .i8 z1, .int .i32 m2, .int .i64 s2, .int .i8 z2, .int .i8 lo, .int .i8 hi] 32))
     try simp only [World.size_alloc] at qFR
     have FR := Lib.hid (qFR.below (by first | (simp; done) | (simp; omega)) hb)
     have yFR : w.heap.size + 2 < w1.heap.size := by have := hb.size; simp at this; omega
     clear qFR
     have HBW : Hid (Below w.heap.size w w1) := Lib.hid hh
     obtain ⟨tap0, tap1, tap2, tap3⟩ := TA.out
     have n11 := TN.out.at 11 _ rfl
     have n12 := TN.out.at 12 _ rfl
     have n13 := TN.out.at 13 _ rfl
     clear hb hh hal)
  | (go_at_call 11
     have hal : Below w1.heap.size w1 w1 := Below.refl _ _
     refine (refIsRight_to _ _ _ _).mono ?_
     rintro e w2 ⟨rfl, hb⟩
     have hh : Below w1.heap.size w1 w2 := hal.trans (hb.mono hal.size)
     replace TA := Lib.hid (TA.out.below yTA hh)
     replace yTA := Nat.lt_of_lt_of_le yTA hh.size
     replace TN := Lib.hid (TN.out.below yTN hh)
     replace yTN := Nat.lt_of_lt_of_le yTN hh.size
     replace FR := Lib.hid (FR.out.below yFR hh)
     replace yFR := Nat.lt_of_lt_of_le yFR hh.size
     replace HBW := Lib.hid (HBW.out.trans (hh.mono HBW.out.size))
     clear tap0 tap1 tap2 tap3 n11 n12 n13
     rw [HQ.out]
     have hg2 : w.heap.size + 2 < w2.heap.size := yFR
     obtain ⟨tap0, tap1, tap2, tap3⟩ := TA.out
     have n11 := TN.out.at 11 _ rfl
     have n12 := TN.out.at 12 _ rfl
     have n13 := TN.out.at 13 _ rfl
     clear hb hh hal))
  have hal : Below w2.heap.size w2 (w2.alloc (.cells #[.int .i64 H, .int .i64 W, .int .i64 C, .slice none 0 0] 26)) := (Below.refl _ _).alloc (Nat.le_refl _) _
  replace TA := Lib.hid (TA.out.below yTA hal)
  replace TN := Lib.hid (TN.out.below yTN hal)
  replace FR := Lib.hid (FR.out.below yFR hal)
  have hT : Hid (PutJ w2.heap.size H W C (.slice none 0 0) (w2.alloc (.cells #[.int .i64 H, .int .i64 W, .int .i64 C, .slice none 0 0] 26))) := Lib.hid (PutJ.new H W C (.slice none 0 0) 26 w2)
  have hW : Hid ((w2.alloc (.cells #[.int .i64 H, .int .i64 W, .int .i64 C, .slice none 0 0] 26)).ownsRow (w2.heap.size + 1) 27 1 (.slice none 0 0) 0 (I8s (rowL F 0))) := Lib.hid ⟨by simp [I8s, rowL], .inl ⟨rfl, rfl⟩⟩
  have hzz : w2.heap.size + 1 ≤ (w2.alloc (.cells #[.int .i64 H, .int .i64 W, .int .i64 C, .slice none 0 0] 26)).heap.size := by simp
  replace HBW := Lib.hid (HBW.out.trans (hal.mono HBW.out.size))
  have hbaw : ba < w.heap.size := hba
  clear hal tap0 tap1 tap2 tap3 n11 n12 n13
  generalize (w2.alloc (.cells #[.int .i64 H, .int .i64 W, .int .i64 C, .slice none 0 0] 26)) = W5 at TA TN FR HBW hT hW hzz ⊢
  generalize hgw : w2.heap.size = g at *
  clear hgw
  go_loopw [7] (fun u wr => ∃ (k : Nat) (v : Value), k ≤ N ∧ u = .int .i64 k ∧ Hid (PutJ g H W C v wr) ∧ Hid (wr.ownsRow (g + 1) 27 1 v k (I8s (rowL F k))) ∧ Hid (Below g W5 wr) ∧ g + 1 ≤ wr.heap.size) (fun u _ => N - (intOf u).toNat)
  case atStart => exact ⟨0, _, Nat.zero_le _, rfl, hT, hW, Lib.hid (Below.refl _ _), hzz⟩
  case round =>
    obtain ⟨k, v, hk, rfl, hT0, hW0, hB0, hz0⟩ := hrel
    clear hT hW hzz
    obtain ⟨ta0, ta1, ta2, ta3⟩ := TA.out.below (show w.heap.size < g by omega) hB0.out
    by_cases hlt : k < N
    · have hkI : (k : Int) < (N : Int) := by omega
      have hk0 : (0 : Int) ≤ (k : Int) := by omega
      have hcx := HCA.out k hlt
      obtain ⟨hx1, hx2⟩ := HBZ.out k
      have hf := HFF.out k
      generalize zs.getD k 0 = x at hcx hx1 hx2 hf
      obtain ⟨Rk, hRk⟩ : ∃ R, F k = R := ⟨_, rfl⟩
      rw [hRk] at hf
      have HFX := Lib.hid hRk
      have HRR := Lib.hid hf.symm
      have hS : ∀ wv, Below g W5 wv → BoxAt w.heap.size H W C (some ⟨ba, oa, none⟩) N c wv ∧ NodeAt (w.heap.size + 1) x0 x1 x2 (.int .i8 Y) (.int .i32 m1) (.int .i64 s1) (.int .i8 z1) (.int .i32 m2) (.int .i64 s2) (.int .i8 z2) (.int .i8 lo) (.int .i8 hi) K S P O Z WA BA nW cW nB cB wv ∧ wv.cell? ⟨ba, oa + k, none⟩ = some (.int .i8 x) := fun wv h =>
        ⟨TA.out.below (by omega) h, TN.out.below (by omega) h, (h.cell (p := ⟨ba, oa + k, none⟩) (by show ba < g; omega)).trans ((HBW.out.cell (p := ⟨ba, oa + k, none⟩) hbaw).trans hcx)⟩
      clear hRk hf hcx
      go_wp2_with fail
      refine wp_region_held_drew (S := fun w' => BoxAt w.heap.size H W C (some ⟨ba, oa, none⟩) N c w' ∧ NodeAt (w.heap.size + 1) x0 x1 x2 (.int .i8 Y) (.int .i32 m1) (.int .i64 s1) (.int .i8 z1) (.int .i32 m2) (.int .i64 s2) (.int .i8 z2) (.int .i8 lo) (.int .i8 hi) K S P O Z WA BA nW cW nB cB w' ∧ w'.cell? ⟨ba, oa + k, none⟩ = some (.int .i8 x)) (by kernel_rfl) (hS _ hB0.out.drew) (fun hHeld => ?_)
      have HT0 : Hid (PutJ g H W C v wr.drew) := hT0
      have HW0 : Hid (wr.drew.ownsRow (g + 1) 27 1 v k (I8s (rowL F k))) := Lib.hid (Kit.own_below hW0.out (Below.refl _ _).drew)
      have HB0 : Hid (Below g W5 wr.drew) := Lib.hid hB0.out.drew
      have hz : g + 1 ≤ wr.drew.heap.size := hz0
      have HS := Lib.hid hS
      clear hT0 hW0 hB0 hz0 ta0 ta1 ta2 ta3 hS
      obtain ⟨-, -, -, ov3, ovf⟩ := HT0.out
      generalize wr.drew = Wd at HT0 HW0 HB0 hz hHeld ov3 ovf ⊢
      refine wpAnyH_take (i := 0) (oi := ({ dst := some 27, op := Op.fieldAddr 26 (Operand.tmp 6) 1, type := 0, pos := "ref.go:24", after := #[], guard := none } : Oper)) (v := ?_) rfl (by kernel_rfl) (by kernel_rfl) (by kernel_rfl) (fun _ _ _ h => h) (Or.inl ⟨by rfl, ?_⟩) (by assumption) ?_
      rotate_left
      · intro wS hSw
        first
          | (go_simp; done)
          | (go_simp; with_reducible rfl)
      try simp only [Act.put, List.setIfInBounds_toArray, List.set_cons_zero, List.set_cons_succ]
      refine wpAnyH_take (i := 2) (oi := ({ dst := some 29, op := Op.fieldAddr 26 (Operand.tmp 2) 1, type := 0, pos := "ref.go:24", after := #[], guard := none } : Oper)) (v := ?_) rfl (by kernel_rfl) (by kernel_rfl) (by kernel_rfl) (fun _ _ _ h => h) (Or.inl ⟨by rfl, ?_⟩) (by assumption) ?_
      rotate_left
      · intro wS hSw
        first
          | (go_simp; done)
          | (go_simp; with_reducible rfl)
      try simp only [Act.put, List.setIfInBounds_toArray, List.set_cons_zero, List.set_cons_succ]
      refine wpAnyH_take (i := 3) (oi := ({ dst := some 30, op := Op.load 24 (Operand.tmp 29), type := 24, pos := "ref.go:24", after := #[{ on := 2, ground := Ground.data }], guard := none } : Oper)) (v := ?_) rfl (by kernel_rfl) (by kernel_rfl) (by kernel_rfl) (fun _ _ _ h => h) (Or.inl ⟨by rfl, ?_⟩) (by assumption) ?_
      rotate_left
      · intro wS hSw
        obtain ⟨hq1, hq2, hq3⟩ := hSw
        obtain ⟨s1, s2, s3, s4⟩ := hq1; clear hq2 hq3
        first
          | (go_simp; done)
          | (go_simp; with_reducible rfl)
      try simp only [Act.put, List.setIfInBounds_toArray, List.set_cons_zero, List.set_cons_succ]
      refine wpAnyH_take (i := 4) (oi := ({ dst := some 31, op := Op.move (Operand.tmp 7), type := 3, pos := "ref.go:24", after := #[], guard := none } : Oper)) (v := ?_) rfl (by kernel_rfl) (by kernel_rfl) (by kernel_rfl) (fun _ _ _ h => h) (Or.inl ⟨by rfl, ?_⟩) (by assumption) ?_
      rotate_left
      · intro wS hSw
        first
          | (go_simp; done)
          | (go_simp; with_reducible rfl)
      try simp only [Act.put, List.setIfInBounds_toArray, List.set_cons_zero, List.set_cons_succ]
      refine wpAnyH_take (i := 5) (oi := ({ dst := some 32, op := Op.indexAddr 24 (Operand.tmp 30) (Operand.tmp 31), type := 0, pos := "ref.go:24", after := #[{ on := 3, ground := Ground.data }, { on := 4, ground := Ground.data }], guard := none } : Oper)) (v := ?_) rfl (by kernel_rfl) (by kernel_rfl) (by kernel_rfl) (fun _ _ _ h => h) (Or.inl ⟨by rfl, ?_⟩) (by assumption) ?_
      rotate_left
      · intro wS hSw
        first
          | (go_simp; done)
          | (go_simp; with_reducible rfl)
      try simp only [Act.put, List.setIfInBounds_toArray, List.set_cons_zero, List.set_cons_succ]
      refine wpAnyH_take (i := 6) (oi := ({ dst := some 33, op := Op.load 27 (Operand.tmp 32), type := 27, pos := "ref.go:24", after := #[{ on := 5, ground := Ground.data }], guard := none } : Oper)) (v := ?_) rfl (by kernel_rfl) (by kernel_rfl) (by kernel_rfl) (fun _ _ _ h => h) (Or.inl ⟨by rfl, ?_⟩) (by assumption) ?_
      rotate_left
      · intro wS hSw
        obtain ⟨hq1, hq2, hq3⟩ := hSw
        clear hq1 hq2
        first
          | (go_simp; done)
          | (go_simp; with_reducible rfl)
      try simp only [Act.put, List.setIfInBounds_toArray, List.set_cons_zero, List.set_cons_succ]
      refine wpAnyH_take (i := 7) (oi := ({ dst := some 34, op := Op.load 32 (Operand.tmp 3), type := 32, pos := "ref.go:24", after := #[], guard := none } : Oper)) (v := .agg #[x0, x1, x2, .int .i64 K, .int .i64 S, .int .i64 P, .int .i64 O, .int .i8 Z, .int .i8 Y, .slice WA nW cW, .slice BA nB cB, .int .i32 m1, .int .i64 s1, .int .i8 z1, .int .i32 m2, .int .i64 s2, .int .i8 z2, .int .i8 lo, .int .i8 hi]) rfl (by kernel_rfl) (by kernel_rfl) (by kernel_rfl) (fun _ _ _ h => h) (yieldsIf_load_mid (by rfl) _ _ rfl (w.heap.size + 1) 0 rfl [x0, x1, x2, .int .i64 K, .int .i64 S, .int .i64 P, .int .i64 O, .int .i8 Z, .int .i8 Y, .slice WA nW cW, .slice BA nB cB, .int .i32 m1, .int .i64 s1, .int .i8 z1, .int .i32 m2, .int .i64 s2, .int .i8 z2, .int .i8 lo, .int .i8 hi] _ (fun w' h => h.2.1) Try.underlying32 rfl (by kernel_rfl)) (by assumption) ?_
      try simp only [Act.put, List.setIfInBounds_toArray, List.set_cons_zero, List.set_cons_succ]
      refine wpAnyH_ready (rs := [1, 8]) (by kernel_rfl) (by simp) ?_
      refine AllReadyH.cons (o := ({ dst := some 28, op := Op.load 24 (Operand.tmp 27), type := 24, pos := "ref.go:24", after := #[{ on := 0, ground := Ground.data }], guard := none } : Oper)) rfl (fun Kq hK => ?_) ?_
      · go_simp
        refine hK.out _ _ ?_ (fun hHeld => ?_)
        · exact hHeld
        clear hK Kq
        try simp only [Act.put, List.setIfInBounds_toArray, List.set_cons_zero, List.set_cons_succ]
        refine wpAnyH_ready (rs := [8]) (by kernel_rfl) (by simp) ?_
        refine AllReadyH.cons (o := ({ dst := some 35, op := Op.call { callee := Callee.value (Operand.func 12), args := #[Operand.tmp 33, Operand.tmp 34], argTypes := #[27, 32] }, type := 27, pos := "ref.go:24", after := #[{ on := 6, ground := Ground.data }, { on := 7, ground := Ground.data }], guard := none } : Oper)) rfl (fun Kq hK => ?_) (AllReadyH.nil)
        go_simp
        go_at_call 12
        refine (aref_to x hx1 hx2 x0 x1 x2 K S P O Z Y WA BA nW cW nB cB m1 s1 z1 m2 s2 z2 lo hi HNB.out Rk HRR.out _).mono ?_
        rintro e Wp1 ⟨rfl, hb1⟩
        replace HT0 := Lib.hid (HT0.out.below (B' := _) (by omega) hb1)
        replace HW0 := Lib.hid (Kit.own_below HW0.out hb1)
        replace HB0 := Lib.hid (HB0.out.trans (hb1.mono (by omega)))
        replace hz := Nat.le_trans hz hb1.size
        clear hHeld ov3 ovf
        obtain ⟨-, -, -, ov3, ovf⟩ := HT0.out
        clear hb1
        dsimp only
        refine hK.out _ _ ?_ (fun hHeld => ?_)
        · exact HS.out _ HB0.out
        clear hK Kq
        try simp only [Act.put, List.setIfInBounds_toArray, List.set_cons_zero, List.set_cons_succ]
        refine wpAnyH_ready (rs := [9]) (by kernel_rfl) (by simp) ?_
        refine AllReadyH.cons (o := ({ dst := some 36, op := Op.buildSlice 24 1 #[(0, Operand.tmp 35)], type := 24, pos := "ref.go:24", after := #[{ on := 8, ground := Ground.data }], guard := none } : Oper)) rfl (fun Kq hK => ?_) (AllReadyH.nil)
        go_simp
        refine hK.out _ _ ?_ (fun hHeld => ?_)
        · exact HS.out _ (HB0.out.trans ((Below.refl _ _).alloc (by omega) _))
        clear hK Kq
        try simp only [Act.put, List.setIfInBounds_toArray, List.set_cons_zero, List.set_cons_succ]
        have hal : Below Wp1.heap.size Wp1 (Wp1.alloc (.cells #[.int .i8 Rk] 27)) := (Below.refl _ _).alloc (Nat.le_refl _) _
        replace HT0 := Lib.hid (HT0.out.below (B' := Wp1.heap.size) (by omega) hal)
        replace HW0 := Lib.hid (HW0.out.alloc (.cells #[.int .i8 Rk] 27))
        replace HB0 := Lib.hid (HB0.out.trans (hal.mono (by omega)))
        have HXR := Lib.hid (Kit.Rd.new Wp1 [.int .i8 Rk] 27 (Nat.lt_succ_self _))
        replace hz := Nat.le_trans hz hal.size
        clear ov3 ovf hal
        obtain ⟨-, -, -, ov3, ovf⟩ := HT0.out
        generalize Wp1.alloc (.cells #[.int .i8 Rk] 27) = Wq2 at HT0 HW0 HB0 HXR hz ov3 ovf hHeld ⊢
        refine wpAnyH_ready (rs := [10]) (by kernel_rfl) (by simp) ?_
        refine AllReadyH.cons (o := ({ dst := some 37, op := Op.call { callee := Callee.builtin Builtin.append, args := #[Operand.tmp 28, Operand.tmp 36], argTypes := #[24, 24] }, type := 24, pos := "ref.go:24", after := #[{ on := 1, ground := Ground.data }, { on := 9, ground := Ground.data }, { on := 8, ground := Ground.chain }], guard := none } : Oper)) rfl (fun Kq hK => ?_) (AllReadyH.nil)
        refine Kit.step_append_rd _ rfl (.tmp 28) (.tmp 36) _ rfl (g + 1) 27 i0 (.int .i8 0) 1 1 Try.underlying24 hi0 hi1 hi2 hi3 rfl (by decide) _ k (I8s (rowL F k)) rfl HW0.out _ _ 1 1 [.int .i8 Rk] rfl rfl HXR.out (Kit.ints_one .i8 [Rk]) (by unfold maxLen; omega) (by omega) hz ?_
        intro v5 w5 hown5 hg5 _
        obtain ⟨A5, c5, rfl, -, -, -⟩ := Kit.own_rd hown5
        have hb5 : Below (g + 1) Wq2 w5 := (Below.refl _ _).grown hg5 hz (Kit.own_block_ge HW0.out)
        rw [rowL_succ8a F k Rk HFX.out] at hown5
        replace HT0 := Lib.hid (HT0.out.below (B' := _) (by omega) hb5)
        replace HW0 := Lib.hid (hown5)
        replace HB0 := Lib.hid (HB0.out.trans (hb5.mono (by omega)))
        replace hz := Nat.le_trans hz hb5.size
        clear hHeld ov3 ovf
        obtain ⟨-, -, -, ov3, ovf⟩ := HT0.out
        clear hown5 hg5 hb5 HXR
        dsimp only
        refine hK.out _ _ ?_ (fun hHeld => ?_)
        · exact HS.out _ HB0.out
        clear hK Kq
        try simp only [Act.put, List.setIfInBounds_toArray, List.set_cons_zero, List.set_cons_succ]
        refine wpAnyH_take (i := 11) (oi := ({ dst := some 38, op := Op.fieldAddr 26 (Operand.tmp 6) 1, type := 0, pos := "ref.go:24", after := #[{ on := 0, ground := Ground.phase }, { on := 1, ground := Ground.phase }, { on := 2, ground := Ground.phase }, { on := 3, ground := Ground.phase }, { on := 4, ground := Ground.phase }, { on := 5, ground := Ground.phase }, { on := 6, ground := Ground.phase }, { on := 7, ground := Ground.phase }, { on := 8, ground := Ground.phase }, { on := 9, ground := Ground.phase }, { on := 10, ground := Ground.phase }], guard := none } : Oper)) (v := ?_) rfl (by kernel_rfl) (by kernel_rfl) (by kernel_rfl) (fun _ _ _ h => h) (Or.inl ⟨by rfl, ?_⟩) (by assumption) ?_
        rotate_left
        · intro wS hSw
          first
            | (go_simp; done)
            | (go_simp; with_reducible rfl)
        try simp only [Act.put, List.setIfInBounds_toArray, List.set_cons_zero, List.set_cons_succ]
        have hb9 : Below g w5 (w5.setCell ⟨g, 3, none⟩ (.slice A5 (k + 1) c5)) := (Below.refl _ _).setCell (p := ⟨g, 3, none⟩) (Nat.le_refl _) _
        have HT9 := Lib.hid (HT0.out.store (.slice A5 (k + 1) c5))
        have HW9 := Lib.hid (own_set HW0.out ⟨g, 3, none⟩ (.slice A5 (k + 1) c5) (by simp))
        have HB9 := Lib.hid (HB0.out.trans hb9)
        have hz9 : g + 1 ≤ (w5.setCell ⟨g, 3, none⟩ (.slice A5 (k + 1) c5)).heap.size := by simpa using hz
        refine wpAnyH_ready (rs := [12]) (by kernel_rfl) (by simp) ?_
        refine AllReadyH.cons (o := ({ dst := none, op := Op.store 24 (Operand.tmp 38) (Operand.tmp 37), type := 0, pos := "ref.go:24", after := #[{ on := 11, ground := Ground.data }, { on := 10, ground := Ground.data }, { on := 10, ground := Ground.chain }, { on := 0, ground := Ground.phase }, { on := 1, ground := Ground.phase }, { on := 2, ground := Ground.phase }, { on := 3, ground := Ground.phase }, { on := 4, ground := Ground.phase }, { on := 5, ground := Ground.phase }, { on := 6, ground := Ground.phase }, { on := 7, ground := Ground.phase }, { on := 8, ground := Ground.phase }, { on := 9, ground := Ground.phase }, { on := 10, ground := Ground.phase }], guard := none } : Oper)) rfl (fun Kq hK => ?_) (AllReadyH.nil)
        go_simp
        refine hK.out _ _ ?_ (fun hHeld => ?_)
        · exact HS.out _ HB9.out
        clear hK Kq
        try simp only [Act.put, List.setIfInBounds_toArray, List.set_cons_zero, List.set_cons_succ]
        refine wpAnyH_done (by kernel_rfl) ?_ _
        clear hHeld ov3 ovf HT0 HW0 HB0 hz hb9 HS
        go_wp2_with fail
        go_roundw
        case rel => exact ⟨k + 1, _, by omega, by go_num, HT9, HW9, HB9, hz9⟩
        case measure => simp [intOf]; omega
      refine AllReadyH.cons (o := ({ dst := some 35, op := Op.call { callee := Callee.value (Operand.func 12), args := #[Operand.tmp 33, Operand.tmp 34], argTypes := #[27, 32] }, type := 27, pos := "ref.go:24", after := #[{ on := 6, ground := Ground.data }, { on := 7, ground := Ground.data }], guard := none } : Oper)) rfl (fun Kq hK => ?_) ?_
      · go_simp
        go_at_call 12
        refine (aref_to x hx1 hx2 x0 x1 x2 K S P O Z Y WA BA nW cW nB cB m1 s1 z1 m2 s2 z2 lo hi HNB.out Rk HRR.out _).mono ?_
        rintro e Wp0 ⟨rfl, hb1⟩
        replace HT0 := Lib.hid (HT0.out.below (B' := _) (by omega) hb1)
        replace HW0 := Lib.hid (Kit.own_below HW0.out hb1)
        replace HB0 := Lib.hid (HB0.out.trans (hb1.mono (by omega)))
        replace hz := Nat.le_trans hz hb1.size
        clear hHeld ov3 ovf
        obtain ⟨-, -, -, ov3, ovf⟩ := HT0.out
        clear hb1
        dsimp only
        refine hK.out _ _ ?_ (fun hHeld => ?_)
        · exact HS.out _ HB0.out
        clear hK Kq
        try simp only [Act.put, List.setIfInBounds_toArray, List.set_cons_zero, List.set_cons_succ]
        refine wpAnyH_ready (rs := [1, 9]) (by kernel_rfl) (by simp) ?_
        refine AllReadyH.cons (o := ({ dst := some 28, op := Op.load 24 (Operand.tmp 27), type := 24, pos := "ref.go:24", after := #[{ on := 0, ground := Ground.data }], guard := none } : Oper)) rfl (fun Kq hK => ?_) ?_
        · go_simp
          refine hK.out _ _ ?_ (fun hHeld => ?_)
          · exact hHeld
          clear hK Kq
          try simp only [Act.put, List.setIfInBounds_toArray, List.set_cons_zero, List.set_cons_succ]
          refine wpAnyH_ready (rs := [9]) (by kernel_rfl) (by simp) ?_
          refine AllReadyH.cons (o := ({ dst := some 36, op := Op.buildSlice 24 1 #[(0, Operand.tmp 35)], type := 24, pos := "ref.go:24", after := #[{ on := 8, ground := Ground.data }], guard := none } : Oper)) rfl (fun Kq hK => ?_) (AllReadyH.nil)
          go_simp
          refine hK.out _ _ ?_ (fun hHeld => ?_)
          · exact HS.out _ (HB0.out.trans ((Below.refl _ _).alloc (by omega) _))
          clear hK Kq
          try simp only [Act.put, List.setIfInBounds_toArray, List.set_cons_zero, List.set_cons_succ]
          have hal : Below Wp0.heap.size Wp0 (Wp0.alloc (.cells #[.int .i8 Rk] 27)) := (Below.refl _ _).alloc (Nat.le_refl _) _
          replace HT0 := Lib.hid (HT0.out.below (B' := Wp0.heap.size) (by omega) hal)
          replace HW0 := Lib.hid (HW0.out.alloc (.cells #[.int .i8 Rk] 27))
          replace HB0 := Lib.hid (HB0.out.trans (hal.mono (by omega)))
          have HXR := Lib.hid (Kit.Rd.new Wp0 [.int .i8 Rk] 27 (Nat.lt_succ_self _))
          replace hz := Nat.le_trans hz hal.size
          clear ov3 ovf hal
          obtain ⟨-, -, -, ov3, ovf⟩ := HT0.out
          generalize Wp0.alloc (.cells #[.int .i8 Rk] 27) = Wq2 at HT0 HW0 HB0 HXR hz ov3 ovf hHeld ⊢
          refine wpAnyH_ready (rs := [10]) (by kernel_rfl) (by simp) ?_
          refine AllReadyH.cons (o := ({ dst := some 37, op := Op.call { callee := Callee.builtin Builtin.append, args := #[Operand.tmp 28, Operand.tmp 36], argTypes := #[24, 24] }, type := 24, pos := "ref.go:24", after := #[{ on := 1, ground := Ground.data }, { on := 9, ground := Ground.data }, { on := 8, ground := Ground.chain }], guard := none } : Oper)) rfl (fun Kq hK => ?_) (AllReadyH.nil)
          refine Kit.step_append_rd _ rfl (.tmp 28) (.tmp 36) _ rfl (g + 1) 27 i0 (.int .i8 0) 1 1 Try.underlying24 hi0 hi1 hi2 hi3 rfl (by decide) _ k (I8s (rowL F k)) rfl HW0.out _ _ 1 1 [.int .i8 Rk] rfl rfl HXR.out (Kit.ints_one .i8 [Rk]) (by unfold maxLen; omega) (by omega) hz ?_
          intro v5 w5 hown5 hg5 _
          obtain ⟨A5, c5, rfl, -, -, -⟩ := Kit.own_rd hown5
          have hb5 : Below (g + 1) Wq2 w5 := (Below.refl _ _).grown hg5 hz (Kit.own_block_ge HW0.out)
          rw [rowL_succ8a F k Rk HFX.out] at hown5
          replace HT0 := Lib.hid (HT0.out.below (B' := _) (by omega) hb5)
          replace HW0 := Lib.hid (hown5)
          replace HB0 := Lib.hid (HB0.out.trans (hb5.mono (by omega)))
          replace hz := Nat.le_trans hz hb5.size
          clear hHeld ov3 ovf
          obtain ⟨-, -, -, ov3, ovf⟩ := HT0.out
          clear hown5 hg5 hb5 HXR
          dsimp only
          refine hK.out _ _ ?_ (fun hHeld => ?_)
          · exact HS.out _ HB0.out
          clear hK Kq
          try simp only [Act.put, List.setIfInBounds_toArray, List.set_cons_zero, List.set_cons_succ]
          refine wpAnyH_take (i := 11) (oi := ({ dst := some 38, op := Op.fieldAddr 26 (Operand.tmp 6) 1, type := 0, pos := "ref.go:24", after := #[{ on := 0, ground := Ground.phase }, { on := 1, ground := Ground.phase }, { on := 2, ground := Ground.phase }, { on := 3, ground := Ground.phase }, { on := 4, ground := Ground.phase }, { on := 5, ground := Ground.phase }, { on := 6, ground := Ground.phase }, { on := 7, ground := Ground.phase }, { on := 8, ground := Ground.phase }, { on := 9, ground := Ground.phase }, { on := 10, ground := Ground.phase }], guard := none } : Oper)) (v := ?_) rfl (by kernel_rfl) (by kernel_rfl) (by kernel_rfl) (fun _ _ _ h => h) (Or.inl ⟨by rfl, ?_⟩) (by assumption) ?_
          rotate_left
          · intro wS hSw
            first
              | (go_simp; done)
              | (go_simp; with_reducible rfl)
          try simp only [Act.put, List.setIfInBounds_toArray, List.set_cons_zero, List.set_cons_succ]
          have hb9 : Below g w5 (w5.setCell ⟨g, 3, none⟩ (.slice A5 (k + 1) c5)) := (Below.refl _ _).setCell (p := ⟨g, 3, none⟩) (Nat.le_refl _) _
          have HT9 := Lib.hid (HT0.out.store (.slice A5 (k + 1) c5))
          have HW9 := Lib.hid (own_set HW0.out ⟨g, 3, none⟩ (.slice A5 (k + 1) c5) (by simp))
          have HB9 := Lib.hid (HB0.out.trans hb9)
          have hz9 : g + 1 ≤ (w5.setCell ⟨g, 3, none⟩ (.slice A5 (k + 1) c5)).heap.size := by simpa using hz
          refine wpAnyH_ready (rs := [12]) (by kernel_rfl) (by simp) ?_
          refine AllReadyH.cons (o := ({ dst := none, op := Op.store 24 (Operand.tmp 38) (Operand.tmp 37), type := 0, pos := "ref.go:24", after := #[{ on := 11, ground := Ground.data }, { on := 10, ground := Ground.data }, { on := 10, ground := Ground.chain }, { on := 0, ground := Ground.phase }, { on := 1, ground := Ground.phase }, { on := 2, ground := Ground.phase }, { on := 3, ground := Ground.phase }, { on := 4, ground := Ground.phase }, { on := 5, ground := Ground.phase }, { on := 6, ground := Ground.phase }, { on := 7, ground := Ground.phase }, { on := 8, ground := Ground.phase }, { on := 9, ground := Ground.phase }, { on := 10, ground := Ground.phase }], guard := none } : Oper)) rfl (fun Kq hK => ?_) (AllReadyH.nil)
          go_simp
          refine hK.out _ _ ?_ (fun hHeld => ?_)
          · exact HS.out _ HB9.out
          clear hK Kq
          try simp only [Act.put, List.setIfInBounds_toArray, List.set_cons_zero, List.set_cons_succ]
          refine wpAnyH_done (by kernel_rfl) ?_ _
          clear hHeld ov3 ovf HT0 HW0 HB0 hz hb9 HS
          go_wp2_with fail
          go_roundw
          case rel => exact ⟨k + 1, _, by omega, by go_num, HT9, HW9, HB9, hz9⟩
          case measure => simp [intOf]; omega
        refine AllReadyH.cons (o := ({ dst := some 36, op := Op.buildSlice 24 1 #[(0, Operand.tmp 35)], type := 24, pos := "ref.go:24", after := #[{ on := 8, ground := Ground.data }], guard := none } : Oper)) rfl (fun Kq hK => ?_) ?_
        · go_simp
          refine hK.out _ _ ?_ (fun hHeld => ?_)
          · exact HS.out _ (HB0.out.trans ((Below.refl _ _).alloc (by omega) _))
          clear hK Kq
          try simp only [Act.put, List.setIfInBounds_toArray, List.set_cons_zero, List.set_cons_succ]
          have hal : Below Wp0.heap.size Wp0 (Wp0.alloc (.cells #[.int .i8 Rk] 27)) := (Below.refl _ _).alloc (Nat.le_refl _) _
          replace HT0 := Lib.hid (HT0.out.below (B' := Wp0.heap.size) (by omega) hal)
          replace HW0 := Lib.hid (HW0.out.alloc (.cells #[.int .i8 Rk] 27))
          replace HB0 := Lib.hid (HB0.out.trans (hal.mono (by omega)))
          have HXR := Lib.hid (Kit.Rd.new Wp0 [.int .i8 Rk] 27 (Nat.lt_succ_self _))
          replace hz := Nat.le_trans hz hal.size
          clear ov3 ovf hal
          obtain ⟨-, -, -, ov3, ovf⟩ := HT0.out
          generalize Wp0.alloc (.cells #[.int .i8 Rk] 27) = Wq1 at HT0 HW0 HB0 HXR hz ov3 ovf hHeld ⊢
          refine wpAnyH_ready (rs := [1]) (by kernel_rfl) (by simp) ?_
          refine AllReadyH.cons (o := ({ dst := some 28, op := Op.load 24 (Operand.tmp 27), type := 24, pos := "ref.go:24", after := #[{ on := 0, ground := Ground.data }], guard := none } : Oper)) rfl (fun Kq hK => ?_) (AllReadyH.nil)
          go_simp
          refine hK.out _ _ ?_ (fun hHeld => ?_)
          · exact hHeld
          clear hK Kq
          try simp only [Act.put, List.setIfInBounds_toArray, List.set_cons_zero, List.set_cons_succ]
          refine wpAnyH_ready (rs := [10]) (by kernel_rfl) (by simp) ?_
          refine AllReadyH.cons (o := ({ dst := some 37, op := Op.call { callee := Callee.builtin Builtin.append, args := #[Operand.tmp 28, Operand.tmp 36], argTypes := #[24, 24] }, type := 24, pos := "ref.go:24", after := #[{ on := 1, ground := Ground.data }, { on := 9, ground := Ground.data }, { on := 8, ground := Ground.chain }], guard := none } : Oper)) rfl (fun Kq hK => ?_) (AllReadyH.nil)
          refine Kit.step_append_rd _ rfl (.tmp 28) (.tmp 36) _ rfl (g + 1) 27 i0 (.int .i8 0) 1 1 Try.underlying24 hi0 hi1 hi2 hi3 rfl (by decide) _ k (I8s (rowL F k)) rfl HW0.out _ _ 1 1 [.int .i8 Rk] rfl rfl HXR.out (Kit.ints_one .i8 [Rk]) (by unfold maxLen; omega) (by omega) hz ?_
          intro v5 w5 hown5 hg5 _
          obtain ⟨A5, c5, rfl, -, -, -⟩ := Kit.own_rd hown5
          have hb5 : Below (g + 1) Wq1 w5 := (Below.refl _ _).grown hg5 hz (Kit.own_block_ge HW0.out)
          rw [rowL_succ8a F k Rk HFX.out] at hown5
          replace HT0 := Lib.hid (HT0.out.below (B' := _) (by omega) hb5)
          replace HW0 := Lib.hid (hown5)
          replace HB0 := Lib.hid (HB0.out.trans (hb5.mono (by omega)))
          replace hz := Nat.le_trans hz hb5.size
          clear hHeld ov3 ovf
          obtain ⟨-, -, -, ov3, ovf⟩ := HT0.out
          clear hown5 hg5 hb5 HXR
          dsimp only
          refine hK.out _ _ ?_ (fun hHeld => ?_)
          · exact HS.out _ HB0.out
          clear hK Kq
          try simp only [Act.put, List.setIfInBounds_toArray, List.set_cons_zero, List.set_cons_succ]
          refine wpAnyH_take (i := 11) (oi := ({ dst := some 38, op := Op.fieldAddr 26 (Operand.tmp 6) 1, type := 0, pos := "ref.go:24", after := #[{ on := 0, ground := Ground.phase }, { on := 1, ground := Ground.phase }, { on := 2, ground := Ground.phase }, { on := 3, ground := Ground.phase }, { on := 4, ground := Ground.phase }, { on := 5, ground := Ground.phase }, { on := 6, ground := Ground.phase }, { on := 7, ground := Ground.phase }, { on := 8, ground := Ground.phase }, { on := 9, ground := Ground.phase }, { on := 10, ground := Ground.phase }], guard := none } : Oper)) (v := ?_) rfl (by kernel_rfl) (by kernel_rfl) (by kernel_rfl) (fun _ _ _ h => h) (Or.inl ⟨by rfl, ?_⟩) (by assumption) ?_
          rotate_left
          · intro wS hSw
            first
              | (go_simp; done)
              | (go_simp; with_reducible rfl)
          try simp only [Act.put, List.setIfInBounds_toArray, List.set_cons_zero, List.set_cons_succ]
          have hb9 : Below g w5 (w5.setCell ⟨g, 3, none⟩ (.slice A5 (k + 1) c5)) := (Below.refl _ _).setCell (p := ⟨g, 3, none⟩) (Nat.le_refl _) _
          have HT9 := Lib.hid (HT0.out.store (.slice A5 (k + 1) c5))
          have HW9 := Lib.hid (own_set HW0.out ⟨g, 3, none⟩ (.slice A5 (k + 1) c5) (by simp))
          have HB9 := Lib.hid (HB0.out.trans hb9)
          have hz9 : g + 1 ≤ (w5.setCell ⟨g, 3, none⟩ (.slice A5 (k + 1) c5)).heap.size := by simpa using hz
          refine wpAnyH_ready (rs := [12]) (by kernel_rfl) (by simp) ?_
          refine AllReadyH.cons (o := ({ dst := none, op := Op.store 24 (Operand.tmp 38) (Operand.tmp 37), type := 0, pos := "ref.go:24", after := #[{ on := 11, ground := Ground.data }, { on := 10, ground := Ground.data }, { on := 10, ground := Ground.chain }, { on := 0, ground := Ground.phase }, { on := 1, ground := Ground.phase }, { on := 2, ground := Ground.phase }, { on := 3, ground := Ground.phase }, { on := 4, ground := Ground.phase }, { on := 5, ground := Ground.phase }, { on := 6, ground := Ground.phase }, { on := 7, ground := Ground.phase }, { on := 8, ground := Ground.phase }, { on := 9, ground := Ground.phase }, { on := 10, ground := Ground.phase }], guard := none } : Oper)) rfl (fun Kq hK => ?_) (AllReadyH.nil)
          go_simp
          refine hK.out _ _ ?_ (fun hHeld => ?_)
          · exact HS.out _ HB9.out
          clear hK Kq
          try simp only [Act.put, List.setIfInBounds_toArray, List.set_cons_zero, List.set_cons_succ]
          refine wpAnyH_done (by kernel_rfl) ?_ _
          clear hHeld ov3 ovf HT0 HW0 HB0 hz hb9 HS
          go_wp2_with fail
          go_roundw
          case rel => exact ⟨k + 1, _, by omega, by go_num, HT9, HW9, HB9, hz9⟩
          case measure => simp [intOf]; omega
        exact AllReadyH.nil
      exact AllReadyH.nil
    · obtain rfl : k = N := by omega
      obtain ⟨Av, cv, rfl, -, -, -⟩ := Kit.own_rd hW0.out
      obtain ⟨o0, o1, o2, o3, -⟩ := hT0.out
      obtain ⟨⟨z0, z1', z2', z3⟩, z4, z5, z6, z7⟩ := FR.out.below (show w.heap.size + 2 < g by omega) hB0.out
      have HBW9 := Lib.hid (HBW.out.trans (hB0.out.mono (by omega)))
      clear hT0
      go_wp2_with fail
      refine bodyPost_ret (Kit.results_ct rfl _ _ (w.heap.size + 2) 0 [.int .i64 H, .int .i64 W, .int .i64 C, .slice Av k cv] _ rfl (range_4 (by go_cell) (by go_cell) (by go_cell) (by go_cell)) Try.underlying26 rfl (by kernel_rfl)) rfl ?_
      refine ⟨_, rfl, Kit.own_base (own_set4 hW0.out ?_) ?_, ?_⟩
      any_goals (first | omega | (simp; done) | (simp; omega))
      exact (((HBW9.out.setCell (p := ⟨w.heap.size + 2, 0, none⟩) (by simp) _).setCell (p := ⟨w.heap.size + 2, 1, none⟩) (by simp) _).setCell (p := ⟨w.heap.size + 2, 2, none⟩) (by simp) _).setCell (p := ⟨w.heap.size + 2, 3, none⟩) (by simp) _
end Go.Proofs.Ytpokeklphmfcnaa.CAct
