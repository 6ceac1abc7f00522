/- Layer 20 (join): two tensors as one: the document, errors. -/
import Derived.Test.YtncknalipjaccaaJoinBad
import Derived.Test.YtncknalipjaccaaTensorRef
import Derived.Test.YtncknalipjaccaaJoinBoth
import Derived.Test.YtncknalipjaccaaJoinSeq
import Derived.Test.YtncknalipjaccaaRoundTwo
import Derived.Test.YtncknalipjaccaaTensorSame
import Derived.Test.YtncknalipjaccaaConvOf
import Derived.Deep.CutRange
namespace Go.Proofs.Ytncknalipjaccaa.CJoin
open Go Go.ChangeShapes Go.WideShapes Go.ChangeAt Go.RowKit Go.Deep Go.Shelf Round
open Plain CSat CFix CShape CTensor CConv
set_option linter.unusedVariables false

set_option maxRecDepth 100000 in
set_option maxHeartbeats 4000000 in
theorem rjof_bad1 (H W C H' W' C' : Int) (A B : Option Addr) (n c m d : Nat) (x0 x1 x2 : Value) (K S P O Z Y : Int) (WA BA : Option Addr) (nW cW nB cB : Nat) (m1 s1 z1 m2 s2 z2 lo hi : Int) (h1 : tensB H W C n = false) (w : World) :
    Calls Try.prog 8 #[.agg #[.int .i64 H, .int .i64 W, .int .i64 C, .slice A n c], .agg #[.int .i64 H', .int .i64 W', .int .i64 C', .slice B m d], .agg #[x0, x1, x2, .int .i64 K, .int .i64 S, .int .i64 P, .int .i64 O, .int .i8 Z, .int .i8 Y, .slice WA nW cW, .slice BA nB cB, .int .i32 m1, .int .i64 s1, .int .i8 z1, .int .i32 m2, .int .i64 s2, .int .i8 z2, .int .i8 lo, .int .i8 hi]] w (MadeJ w 0 0 0 0 [] (.int .i64 5)) := by
  have HT1 := Lib.hid h1
  clear h1
  have HE := eqShape H W C H' W' C'
  have hg := Try.eqGuardType23
  go_enter Try.func8, Try.ntmps8
  go_wp2_with (first
  | (go_at_call 15
     have hal : Below w.heap.size w ((((w.alloc (.cells #[.int .i64 H, .int .i64 W, .int .i64 C, .slice A n c] 26)).alloc (.cells #[.int .i64 H', .int .i64 W', .int .i64 C', .slice B m d] 26)).alloc (.cells #[x0, x1, x2, .int .i64 K, .int .i64 S, .int .i64 P, .int .i64 O, .int .i8 Z, .int .i8 Y, .slice WA nW cW, .slice BA nB cB, .int .i32 m1, .int .i64 s1, .int .i8 z1, .int .i32 m2, .int .i64 s2, .int .i8 z2, .int .i8 lo, .int .i8 hi] 32)).alloc (.cells #[.int .i64 0, .int .i64 0, .int .i64 0, .slice none 0 0] 26)) := ((((Below.refl _ _).alloc (by first | exact Nat.le_refl _ | (simp; done) | (simp; omega)) _).alloc (by first | exact Nat.le_refl _ | (simp; done) | (simp; omega)) _).alloc (by first | exact Nat.le_refl _ | (simp; done) | (simp; omega)) _).alloc (by first | exact Nat.le_refl _ | (simp; done) | (simp; omega)) _
     refine (refRight_to H W C A n c false HT1.out _).mono ?_
     rintro e w1 ⟨rfl, hb⟩
     have hh : Below w.heap.size w w1 := hal.trans (hb.mono hal.size)
     have qTA := (boxNew H W C A n c 26) w
     try simp only [World.size_alloc] at qTA
     have TA := Lib.hid ((qTA.below (B' := w.heap.size + 1) (by omega) (((((Below.refl _ _).alloc (by first | exact Nat.le_refl _ | (simp; done) | (simp; omega)) _).alloc (by first | exact Nat.le_refl _ | (simp; done) | (simp; omega)) _).alloc (by first | exact Nat.le_refl _ | (simp; done) | (simp; omega)) _).mono (by simp))).below (by first | (simp; done) | (simp; omega)) hb)
     have yTA : w.heap.size < w1.heap.size := by have := hb.size; simp at this; omega
     clear qTA
     have qTB := (boxNew H' W' C' B m d 26) (w.alloc (.cells #[.int .i64 H, .int .i64 W, .int .i64 C, .slice A n c] 26))
     try simp only [World.size_alloc] at qTB
     have TB := Lib.hid ((qTB.below (B' := w.heap.size + 2) (by omega) ((((Below.refl _ _).alloc (by first | exact Nat.le_refl _ | (simp; done) | (simp; omega)) _).alloc (by first | exact Nat.le_refl _ | (simp; done) | (simp; omega)) _).mono (by simp))).below (by first | (simp; done) | (simp; omega)) hb)
     have yTB : w.heap.size + 1 < w1.heap.size := by have := hb.size; simp at this; omega
     clear qTB
     have qTN := (NodeAt.new x0 x1 x2 (.int .i8 Y) (.int .i32 m1) (.int .i64 s1) (.int .i8 z1) (.int .i32 m2) (.int .i64 s2) (.int .i8 z2) (.int .i8 lo) (.int .i8 hi) K S P O Z WA BA nW cW nB cB 32) ((w.alloc (.cells #[.int .i64 H, .int .i64 W, .int .i64 C, .slice A n c] 26)).alloc (.cells #[.int .i64 H', .int .i64 W', .int .i64 C', .slice B m d] 26))
     try simp only [World.size_alloc] at qTN
     have TN := Lib.hid ((qTN.below (B' := w.heap.size + 3) (by omega) (((Below.refl _ _).alloc (by first | exact Nat.le_refl _ | (simp; done) | (simp; omega)) _).mono (by simp))).below (by first | (simp; done) | (simp; omega)) hb)
     have yTN : w.heap.size + 2 < w1.heap.size := by have := hb.size; simp at this; omega
     clear qTN
     have qFR := (freshNew 26) (((w.alloc (.cells #[.int .i64 H, .int .i64 W, .int .i64 C, .slice A n c] 26)).alloc (.cells #[.int .i64 H', .int .i64 W', .int .i64 C', .slice B m d] 26)).alloc (.cells #[x0, x1, x2, .int .i64 K, .int .i64 S, .int .i64 P, .int .i64 O, .int .i8 Z, .int .i8 Y, .slice WA nW cW, .slice BA nB cB, .int .i32 m1, .int .i64 s1, .int .i8 z1, .int .i32 m2, .int .i64 s2, .int .i8 z2, .int .i8 lo, .int .i8 hi] 32))
     try simp only [World.size_alloc] at qFR
     have FR := Lib.hid (qFR.below (by first | (simp; done) | (simp; omega)) hb)
     have yFR : w.heap.size + 3 < w1.heap.size := by have := hb.size; simp at this; omega
     clear qFR
     have HBW : Hid (Below w.heap.size w w1) := Lib.hid hh
     obtain ⟨⟨z0, z1, z2, z3⟩, z4, z5, z6, z7⟩ := FR.out
     obtain ⟨tap0, tap1, tap2, tap3⟩ := TA.out
     obtain ⟨tbp0, tbp1, tbp2, tbp3⟩ := TB.out
     clear hb hh hal))
  refine bodyPost_ret (Kit.results_ct rfl _ _ (w.heap.size + 3) 0 [.int .i64 0, .int .i64 0, .int .i64 0, .slice none 0 0] _ rfl (range_4 (by go_cell) (by go_cell) (by go_cell) (by go_cell)) Try.underlying26 rfl (by kernel_rfl)) rfl ?_
  exact ⟨_, rfl, World.ownsRow_nil _ _ _ _, by exact (((HBW.out.setCell (p := ⟨w.heap.size + 3, 0, none⟩) (by simp) _).setCell (p := ⟨w.heap.size + 3, 1, none⟩) (by simp) _).setCell (p := ⟨w.heap.size + 3, 2, none⟩) (by simp) _).setCell (p := ⟨w.heap.size + 3, 3, none⟩) (by simp) _⟩
set_option maxRecDepth 100000 in
set_option maxHeartbeats 4000000 in
theorem rjof_bad2 (H W C H' W' C' : Int) (A B : Option Addr) (n c m d : Nat) (x0 x1 x2 : Value) (K S P O Z Y : Int) (WA BA : Option Addr) (nW cW nB cB : Nat) (m1 s1 z1 m2 s2 z2 lo hi : Int) (h1 : tensB H W C n = true) (h2 : tensB H' W' C' m = false) (w : World) :
    Calls Try.prog 8 #[.agg #[.int .i64 H, .int .i64 W, .int .i64 C, .slice A n c], .agg #[.int .i64 H', .int .i64 W', .int .i64 C', .slice B m d], .agg #[x0, x1, x2, .int .i64 K, .int .i64 S, .int .i64 P, .int .i64 O, .int .i8 Z, .int .i8 Y, .slice WA nW cW, .slice BA nB cB, .int .i32 m1, .int .i64 s1, .int .i8 z1, .int .i32 m2, .int .i64 s2, .int .i8 z2, .int .i8 lo, .int .i8 hi]] w (MadeJ w 0 0 0 0 [] (.int .i64 5)) := by
  have HT1 := Lib.hid h1
  have HT2 := Lib.hid h2
  clear h1 h2
  have HE := eqShape H W C H' W' C'
  have hg := Try.eqGuardType23
  go_enter Try.func8, Try.ntmps8
  go_wp2_with (first
  | (go_at_call 15
     have hchk := HBW
     clear hchk
     have hal : Below w1.heap.size w1 w1 := Below.refl _ _
     refine (refRight_to H' W' C' B m d false HT2.out _).mono ?_
     rintro e w2 ⟨rfl, hb⟩
     have hh : Below w1.heap.size w1 w2 := hal.trans (hb.mono hal.size)
     replace TA := Lib.hid (TA.out.below yTA hh)
     replace yTA := Nat.lt_of_lt_of_le yTA hh.size
     replace TB := Lib.hid (TB.out.below yTB hh)
     replace yTB := Nat.lt_of_lt_of_le yTB hh.size
     replace TN := Lib.hid (TN.out.below yTN hh)
     replace yTN := Nat.lt_of_lt_of_le yTN hh.size
     replace FR := Lib.hid (FR.out.below yFR hh)
     replace yFR := Nat.lt_of_lt_of_le yFR hh.size
     replace HBW := Lib.hid (HBW.out.trans (hh.mono HBW.out.size))
     clear tap0 tap1 tap2 tap3 tbp0 tbp1 tbp2 tbp3
     obtain ⟨⟨z0, z1, z2, z3⟩, z4, z5, z6, z7⟩ := FR.out
     obtain ⟨tap0, tap1, tap2, tap3⟩ := TA.out
     obtain ⟨tbp0, tbp1, tbp2, tbp3⟩ := TB.out
     clear hb hh hal)
  | (go_at_call 15
     have hal : Below w.heap.size w ((((w.alloc (.cells #[.int .i64 H, .int .i64 W, .int .i64 C, .slice A n c] 26)).alloc (.cells #[.int .i64 H', .int .i64 W', .int .i64 C', .slice B m d] 26)).alloc (.cells #[x0, x1, x2, .int .i64 K, .int .i64 S, .int .i64 P, .int .i64 O, .int .i8 Z, .int .i8 Y, .slice WA nW cW, .slice BA nB cB, .int .i32 m1, .int .i64 s1, .int .i8 z1, .int .i32 m2, .int .i64 s2, .int .i8 z2, .int .i8 lo, .int .i8 hi] 32)).alloc (.cells #[.int .i64 0, .int .i64 0, .int .i64 0, .slice none 0 0] 26)) := ((((Below.refl _ _).alloc (by first | exact Nat.le_refl _ | (simp; done) | (simp; omega)) _).alloc (by first | exact Nat.le_refl _ | (simp; done) | (simp; omega)) _).alloc (by first | exact Nat.le_refl _ | (simp; done) | (simp; omega)) _).alloc (by first | exact Nat.le_refl _ | (simp; done) | (simp; omega)) _
     refine (refRight_to H W C A n c true HT1.out _).mono ?_
     rintro e w1 ⟨rfl, hb⟩
     have hh : Below w.heap.size w w1 := hal.trans (hb.mono hal.size)
     have qTA := (boxNew H W C A n c 26) w
     try simp only [World.size_alloc] at qTA
     have TA := Lib.hid ((qTA.below (B' := w.heap.size + 1) (by omega) (((((Below.refl _ _).alloc (by first | exact Nat.le_refl _ | (simp; done) | (simp; omega)) _).alloc (by first | exact Nat.le_refl _ | (simp; done) | (simp; omega)) _).alloc (by first | exact Nat.le_refl _ | (simp; done) | (simp; omega)) _).mono (by simp))).below (by first | (simp; done) | (simp; omega)) hb)
     have yTA : w.heap.size < w1.heap.size := by have := hb.size; simp at this; omega
     clear qTA
     have qTB := (boxNew H' W' C' B m d 26) (w.alloc (.cells #[.int .i64 H, .int .i64 W, .int .i64 C, .slice A n c] 26))
     try simp only [World.size_alloc] at qTB
     have TB := Lib.hid ((qTB.below (B' := w.heap.size + 2) (by omega) ((((Below.refl _ _).alloc (by first | exact Nat.le_refl _ | (simp; done) | (simp; omega)) _).alloc (by first | exact Nat.le_refl _ | (simp; done) | (simp; omega)) _).mono (by simp))).below (by first | (simp; done) | (simp; omega)) hb)
     have yTB : w.heap.size + 1 < w1.heap.size := by have := hb.size; simp at this; omega
     clear qTB
     have qTN := (NodeAt.new x0 x1 x2 (.int .i8 Y) (.int .i32 m1) (.int .i64 s1) (.int .i8 z1) (.int .i32 m2) (.int .i64 s2) (.int .i8 z2) (.int .i8 lo) (.int .i8 hi) K S P O Z WA BA nW cW nB cB 32) ((w.alloc (.cells #[.int .i64 H, .int .i64 W, .int .i64 C, .slice A n c] 26)).alloc (.cells #[.int .i64 H', .int .i64 W', .int .i64 C', .slice B m d] 26))
     try simp only [World.size_alloc] at qTN
     have TN := Lib.hid ((qTN.below (B' := w.heap.size + 3) (by omega) (((Below.refl _ _).alloc (by first | exact Nat.le_refl _ | (simp; done) | (simp; omega)) _).mono (by simp))).below (by first | (simp; done) | (simp; omega)) hb)
     have yTN : w.heap.size + 2 < w1.heap.size := by have := hb.size; simp at this; omega
     clear qTN
     have qFR := (freshNew 26) (((w.alloc (.cells #[.int .i64 H, .int .i64 W, .int .i64 C, .slice A n c] 26)).alloc (.cells #[.int .i64 H', .int .i64 W', .int .i64 C', .slice B m d] 26)).alloc (.cells #[x0, x1, x2, .int .i64 K, .int .i64 S, .int .i64 P, .int .i64 O, .int .i8 Z, .int .i8 Y, .slice WA nW cW, .slice BA nB cB, .int .i32 m1, .int .i64 s1, .int .i8 z1, .int .i32 m2, .int .i64 s2, .int .i8 z2, .int .i8 lo, .int .i8 hi] 32))
     try simp only [World.size_alloc] at qFR
     have FR := Lib.hid (qFR.below (by first | (simp; done) | (simp; omega)) hb)
     have yFR : w.heap.size + 3 < w1.heap.size := by have := hb.size; simp at this; omega
     clear qFR
     have HBW : Hid (Below w.heap.size w w1) := Lib.hid hh
     obtain ⟨tap0, tap1, tap2, tap3⟩ := TA.out
     obtain ⟨tbp0, tbp1, tbp2, tbp3⟩ := TB.out
     clear hb hh hal))
  refine bodyPost_ret (Kit.results_ct rfl _ _ (w.heap.size + 3) 0 [.int .i64 0, .int .i64 0, .int .i64 0, .slice none 0 0] _ rfl (range_4 (by go_cell) (by go_cell) (by go_cell) (by go_cell)) Try.underlying26 rfl (by kernel_rfl)) rfl ?_
  exact ⟨_, rfl, World.ownsRow_nil _ _ _ _, by exact (((HBW.out.setCell (p := ⟨w.heap.size + 3, 0, none⟩) (by simp) _).setCell (p := ⟨w.heap.size + 3, 1, none⟩) (by simp) _).setCell (p := ⟨w.heap.size + 3, 2, none⟩) (by simp) _).setCell (p := ⟨w.heap.size + 3, 3, none⟩) (by simp) _⟩
set_option maxRecDepth 100000 in
set_option maxHeartbeats 4000000 in
theorem rjof_bad3 (H W C H' W' C' : Int) (A B : Option Addr) (n c m d : Nat) (x0 x1 x2 : Value) (K S P O Z Y : Int) (WA BA : Option Addr) (nW cW nB cB : Nat) (m1 s1 z1 m2 s2 z2 lo hi : Int) (h1 : tensB H W C n = true) (h2 : tensB H' W' C' m = true) (hne : (H == H' && (W == W' && C == C')) = false) (w : World) :
    Calls Try.prog 8 #[.agg #[.int .i64 H, .int .i64 W, .int .i64 C, .slice A n c], .agg #[.int .i64 H', .int .i64 W', .int .i64 C', .slice B m d], .agg #[x0, x1, x2, .int .i64 K, .int .i64 S, .int .i64 P, .int .i64 O, .int .i8 Z, .int .i8 Y, .slice WA nW cW, .slice BA nB cB, .int .i32 m1, .int .i64 s1, .int .i8 z1, .int .i32 m2, .int .i64 s2, .int .i8 z2, .int .i8 lo, .int .i8 hi]] w (MadeJ w 0 0 0 0 [] (.int .i64 5)) := by
  have HT1 := Lib.hid h1
  have HT2 := Lib.hid h2
  clear h1 h2
  have HE := eqShape H W C H' W' C'
  have hg := Try.eqGuardType23
  go_enter Try.func8, Try.ntmps8
  go_wp2_with (first
  | (go_at_call 15
     have hchk := HBW
     clear hchk
     have hal : Below w1.heap.size w1 w1 := Below.refl _ _
     refine (refRight_to H' W' C' B m d true HT2.out _).mono ?_
     rintro e w2 ⟨rfl, hb⟩
     have hh : Below w1.heap.size w1 w2 := hal.trans (hb.mono hal.size)
     replace TA := Lib.hid (TA.out.below yTA hh)
     replace yTA := Nat.lt_of_lt_of_le yTA hh.size
     replace TB := Lib.hid (TB.out.below yTB hh)
     replace yTB := Nat.lt_of_lt_of_le yTB hh.size
     replace TN := Lib.hid (TN.out.below yTN hh)
     replace yTN := Nat.lt_of_lt_of_le yTN hh.size
     replace FR := Lib.hid (FR.out.below yFR hh)
     replace yFR := Nat.lt_of_lt_of_le yFR hh.size
     replace HBW := Lib.hid (HBW.out.trans (hh.mono HBW.out.size))
     clear tap0 tap1 tap2 tap3 tbp0 tbp1 tbp2 tbp3
     obtain ⟨⟨z0, z1, z2, z3⟩, z4, z5, z6, z7⟩ := FR.out
     obtain ⟨tap0, tap1, tap2, tap3⟩ := TA.out
     obtain ⟨tbp0, tbp1, tbp2, tbp3⟩ := TB.out
     clear hb hh hal)
  | (go_at_call 15
     have hal : Below w.heap.size w ((((w.alloc (.cells #[.int .i64 H, .int .i64 W, .int .i64 C, .slice A n c] 26)).alloc (.cells #[.int .i64 H', .int .i64 W', .int .i64 C', .slice B m d] 26)).alloc (.cells #[x0, x1, x2, .int .i64 K, .int .i64 S, .int .i64 P, .int .i64 O, .int .i8 Z, .int .i8 Y, .slice WA nW cW, .slice BA nB cB, .int .i32 m1, .int .i64 s1, .int .i8 z1, .int .i32 m2, .int .i64 s2, .int .i8 z2, .int .i8 lo, .int .i8 hi] 32)).alloc (.cells #[.int .i64 0, .int .i64 0, .int .i64 0, .slice none 0 0] 26)) := ((((Below.refl _ _).alloc (by first | exact Nat.le_refl _ | (simp; done) | (simp; omega)) _).alloc (by first | exact Nat.le_refl _ | (simp; done) | (simp; omega)) _).alloc (by first | exact Nat.le_refl _ | (simp; done) | (simp; omega)) _).alloc (by first | exact Nat.le_refl _ | (simp; done) | (simp; omega)) _
     refine (refRight_to H W C A n c true HT1.out _).mono ?_
     rintro e w1 ⟨rfl, hb⟩
     have hh : Below w.heap.size w w1 := hal.trans (hb.mono hal.size)
     have qTA := (boxNew H W C A n c 26) w
     try simp only [World.size_alloc] at qTA
     have TA := Lib.hid ((qTA.below (B' := w.heap.size + 1) (by omega) (((((Below.refl _ _).alloc (by first | exact Nat.le_refl _ | (simp; done) | (simp; omega)) _).alloc (by first | exact Nat.le_refl _ | (simp; done) | (simp; omega)) _).alloc (by first | exact Nat.le_refl _ | (simp; done) | (simp; omega)) _).mono (by simp))).below (by first | (simp; done) | (simp; omega)) hb)
     have yTA : w.heap.size < w1.heap.size := by have := hb.size; simp at this; omega
     clear qTA
     have qTB := (boxNew H' W' C' B m d 26) (w.alloc (.cells #[.int .i64 H, .int .i64 W, .int .i64 C, .slice A n c] 26))
     try simp only [World.size_alloc] at qTB
     have TB := Lib.hid ((qTB.below (B' := w.heap.size + 2) (by omega) ((((Below.refl _ _).alloc (by first | exact Nat.le_refl _ | (simp; done) | (simp; omega)) _).alloc (by first | exact Nat.le_refl _ | (simp; done) | (simp; omega)) _).mono (by simp))).below (by first | (simp; done) | (simp; omega)) hb)
     have yTB : w.heap.size + 1 < w1.heap.size := by have := hb.size; simp at this; omega
     clear qTB
     have qTN := (NodeAt.new x0 x1 x2 (.int .i8 Y) (.int .i32 m1) (.int .i64 s1) (.int .i8 z1) (.int .i32 m2) (.int .i64 s2) (.int .i8 z2) (.int .i8 lo) (.int .i8 hi) K S P O Z WA BA nW cW nB cB 32) ((w.alloc (.cells #[.int .i64 H, .int .i64 W, .int .i64 C, .slice A n c] 26)).alloc (.cells #[.int .i64 H', .int .i64 W', .int .i64 C', .slice B m d] 26))
     try simp only [World.size_alloc] at qTN
     have TN := Lib.hid ((qTN.below (B' := w.heap.size + 3) (by omega) (((Below.refl _ _).alloc (by first | exact Nat.le_refl _ | (simp; done) | (simp; omega)) _).mono (by simp))).below (by first | (simp; done) | (simp; omega)) hb)
     have yTN : w.heap.size + 2 < w1.heap.size := by have := hb.size; simp at this; omega
     clear qTN
     have qFR := (freshNew 26) (((w.alloc (.cells #[.int .i64 H, .int .i64 W, .int .i64 C, .slice A n c] 26)).alloc (.cells #[.int .i64 H', .int .i64 W', .int .i64 C', .slice B m d] 26)).alloc (.cells #[x0, x1, x2, .int .i64 K, .int .i64 S, .int .i64 P, .int .i64 O, .int .i8 Z, .int .i8 Y, .slice WA nW cW, .slice BA nB cB, .int .i32 m1, .int .i64 s1, .int .i8 z1, .int .i32 m2, .int .i64 s2, .int .i8 z2, .int .i8 lo, .int .i8 hi] 32))
     try simp only [World.size_alloc] at qFR
     have FR := Lib.hid (qFR.below (by first | (simp; done) | (simp; omega)) hb)
     have yFR : w.heap.size + 3 < w1.heap.size := by have := hb.size; simp at this; omega
     clear qFR
     have HBW : Hid (Below w.heap.size w w1) := Lib.hid hh
     obtain ⟨tap0, tap1, tap2, tap3⟩ := TA.out
     obtain ⟨tbp0, tbp1, tbp2, tbp3⟩ := TB.out
     clear hb hh hal))
  refine bodyPost_ret (Kit.results_ct rfl _ _ (w.heap.size + 3) 0 [.int .i64 0, .int .i64 0, .int .i64 0, .slice none 0 0] _ rfl (range_4 (by go_cell) (by go_cell) (by go_cell) (by go_cell)) Try.underlying26 rfl (by kernel_rfl)) rfl ?_
  exact ⟨_, rfl, World.ownsRow_nil _ _ _ _, by exact (((HBW.out.setCell (p := ⟨w.heap.size + 3, 0, none⟩) (by simp) _).setCell (p := ⟨w.heap.size + 3, 1, none⟩) (by simp) _).setCell (p := ⟨w.heap.size + 3, 2, none⟩) (by simp) _).setCell (p := ⟨w.heap.size + 3, 3, none⟩) (by simp) _⟩
set_option maxRecDepth 100000 in
set_option maxHeartbeats 4000000 in
theorem rjof_q00 (H W C : Int) (A B : Option Addr) (n c d : Nat) (x0 x1 x2 : Value) (K S P O Z Y : Int) (WA BA : Option Addr) (nW cW nB cB : Nat) (m1 s1 z1 m2 s2 z2 lo hi : Int) (h1 : tensB H W C n = true) (hr1 : rightB m1 s1 = false) (hr2 : rightB m2 s2 = false) (w : World) :
    Calls Try.prog 8 #[.agg #[.int .i64 H, .int .i64 W, .int .i64 C, .slice A n c], .agg #[.int .i64 H, .int .i64 W, .int .i64 C, .slice B n d], .agg #[x0, x1, x2, .int .i64 K, .int .i64 S, .int .i64 P, .int .i64 O, .int .i8 Z, .int .i8 Y, .slice WA nW cW, .slice BA nB cB, .int .i32 m1, .int .i64 s1, .int .i8 z1, .int .i32 m2, .int .i64 s2, .int .i8 z2, .int .i8 lo, .int .i8 hi]] w (MadeJ w 0 0 0 0 [] (.int .i64 7)) := by
  have HT1 := Lib.hid h1
  have HT2 := Lib.hid h1
  clear h1
  have HE := eqShape H W C H W C
  have hg := Try.eqGuardType23
  have HR1 := Lib.hid hr1
  have HR2 := Lib.hid hr2
  clear hr1 hr2
  go_enter Try.func8, Try.ntmps8
  go_wp2_with (first
  | (go_at_call 15
     have hchk := HBW
     clear hchk
     have hal : Below w1.heap.size w1 w1 := Below.refl _ _
     refine (refRight_to H W C B n d true HT2.out _).mono ?_
     rintro e w2 ⟨rfl, hb⟩
     have hh : Below w1.heap.size w1 w2 := hal.trans (hb.mono hal.size)
     replace TA := Lib.hid (TA.out.below yTA hh)
     replace yTA := Nat.lt_of_lt_of_le yTA hh.size
     replace TB := Lib.hid (TB.out.below yTB hh)
     replace yTB := Nat.lt_of_lt_of_le yTB hh.size
     replace TN := Lib.hid (TN.out.below yTN hh)
     replace yTN := Nat.lt_of_lt_of_le yTN hh.size
     replace FR := Lib.hid (FR.out.below yFR hh)
     replace yFR := Nat.lt_of_lt_of_le yFR hh.size
     replace HBW := Lib.hid (HBW.out.trans (hh.mono HBW.out.size))
     clear tap0 tap1 tap2 tap3 tbp0 tbp1 tbp2 tbp3 n11 n12 n13 n14 n15 n16
     obtain ⟨tap0, tap1, tap2, tap3⟩ := TA.out
     obtain ⟨tbp0, tbp1, tbp2, tbp3⟩ := TB.out
     have n11 := TN.out.at 11 _ rfl
     have n12 := TN.out.at 12 _ rfl
     have n13 := TN.out.at 13 _ rfl
     have n14 := TN.out.at 14 _ rfl
     have n15 := TN.out.at 15 _ rfl
     have n16 := TN.out.at 16 _ rfl
     clear hb hh hal)
  | (go_at_call 15
     have hal : Below w.heap.size w ((((w.alloc (.cells #[.int .i64 H, .int .i64 W, .int .i64 C, .slice A n c] 26)).alloc (.cells #[.int .i64 H, .int .i64 W, .int .i64 C, .slice B n d] 26)).alloc (.cells #[x0, x1, x2, .int .i64 K, .int .i64 S, .int .i64 P, .int .i64 O, .int .i8 Z, .int .i8 Y, .slice WA nW cW, .slice BA nB cB, .int .i32 m1, .int .i64 s1, .int .i8 z1, .int .i32 m2, .int .i64 s2, .int .i8 z2, .int .i8 lo, .int .i8 hi] 32)).alloc (.cells #[.int .i64 0, .int .i64 0, .int .i64 0, .slice none 0 0] 26)) := ((((Below.refl _ _).alloc (by first | exact Nat.le_refl _ | (simp; done) | (simp; omega)) _).alloc (by first | exact Nat.le_refl _ | (simp; done) | (simp; omega)) _).alloc (by first | exact Nat.le_refl _ | (simp; done) | (simp; omega)) _).alloc (by first | exact Nat.le_refl _ | (simp; done) | (simp; omega)) _
     refine (refRight_to H W C A n c true HT1.out _).mono ?_
     rintro e w1 ⟨rfl, hb⟩
     have hh : Below w.heap.size w w1 := hal.trans (hb.mono hal.size)
     have qTA := (boxNew H W C A n c 26) w
     try simp only [World.size_alloc] at qTA
     have TA := Lib.hid ((qTA.below (B' := w.heap.size + 1) (by omega) (((((Below.refl _ _).alloc (by first | exact Nat.le_refl _ | (simp; done) | (simp; omega)) _).alloc (by first | exact Nat.le_refl _ | (simp; done) | (simp; omega)) _).alloc (by first | exact Nat.le_refl _ | (simp; done) | (simp; omega)) _).mono (by simp))).below (by first | (simp; done) | (simp; omega)) hb)
     have yTA : w.heap.size < w1.heap.size := by have := hb.size; simp at this; omega
     clear qTA
     have qTB := (boxNew H W C B n d 26) (w.alloc (.cells #[.int .i64 H, .int .i64 W, .int .i64 C, .slice A n c] 26))
     try simp only [World.size_alloc] at qTB
     have TB := Lib.hid ((qTB.below (B' := w.heap.size + 2) (by omega) ((((Below.refl _ _).alloc (by first | exact Nat.le_refl _ | (simp; done) | (simp; omega)) _).alloc (by first | exact Nat.le_refl _ | (simp; done) | (simp; omega)) _).mono (by simp))).below (by first | (simp; done) | (simp; omega)) hb)
     have yTB : w.heap.size + 1 < w1.heap.size := by have := hb.size; simp at this; omega
     clear qTB
     have qTN := (NodeAt.new x0 x1 x2 (.int .i8 Y) (.int .i32 m1) (.int .i64 s1) (.int .i8 z1) (.int .i32 m2) (.int .i64 s2) (.int .i8 z2) (.int .i8 lo) (.int .i8 hi) K S P O Z WA BA nW cW nB cB 32) ((w.alloc (.cells #[.int .i64 H, .int .i64 W, .int .i64 C, .slice A n c] 26)).alloc (.cells #[.int .i64 H, .int .i64 W, .int .i64 C, .slice B n d] 26))
     try simp only [World.size_alloc] at qTN
     have TN := Lib.hid ((qTN.below (B' := w.heap.size + 3) (by omega) (((Below.refl _ _).alloc (by first | exact Nat.le_refl _ | (simp; done) | (simp; omega)) _).mono (by simp))).below (by first | (simp; done) | (simp; omega)) hb)
     have yTN : w.heap.size + 2 < w1.heap.size := by have := hb.size; simp at this; omega
     clear qTN
     have qFR := (freshNew 26) (((w.alloc (.cells #[.int .i64 H, .int .i64 W, .int .i64 C, .slice A n c] 26)).alloc (.cells #[.int .i64 H, .int .i64 W, .int .i64 C, .slice B n d] 26)).alloc (.cells #[x0, x1, x2, .int .i64 K, .int .i64 S, .int .i64 P, .int .i64 O, .int .i8 Z, .int .i8 Y, .slice WA nW cW, .slice BA nB cB, .int .i32 m1, .int .i64 s1, .int .i8 z1, .int .i32 m2, .int .i64 s2, .int .i8 z2, .int .i8 lo, .int .i8 hi] 32))
     try simp only [World.size_alloc] at qFR
     have FR := Lib.hid (qFR.below (by first | (simp; done) | (simp; omega)) hb)
     have yFR : w.heap.size + 3 < w1.heap.size := by have := hb.size; simp at this; omega
     clear qFR
     have HBW : Hid (Below w.heap.size w w1) := Lib.hid hh
     obtain ⟨tap0, tap1, tap2, tap3⟩ := TA.out
     obtain ⟨tbp0, tbp1, tbp2, tbp3⟩ := TB.out
     have n11 := TN.out.at 11 _ rfl
     have n12 := TN.out.at 12 _ rfl
     have n13 := TN.out.at 13 _ rfl
     have n14 := TN.out.at 14 _ rfl
     have n15 := TN.out.at 15 _ rfl
     have n16 := TN.out.at 16 _ rfl
     clear hb hh hal)
  | (go_at_call 16
     have hal : Below w2.heap.size w2 w2 := Below.refl _ _
     refine (refIsRight_to _ _ _ _).mono ?_
     rintro e w3 ⟨rfl, hb⟩
     have hh : Below w2.heap.size w2 w3 := hal.trans (hb.mono hal.size)
     replace TA := Lib.hid (TA.out.below yTA hh)
     replace yTA := Nat.lt_of_lt_of_le yTA hh.size
     replace TB := Lib.hid (TB.out.below yTB hh)
     replace yTB := Nat.lt_of_lt_of_le yTB hh.size
     replace TN := Lib.hid (TN.out.below yTN hh)
     replace yTN := Nat.lt_of_lt_of_le yTN hh.size
     replace FR := Lib.hid (FR.out.below yFR hh)
     replace yFR := Nat.lt_of_lt_of_le yFR hh.size
     replace HBW := Lib.hid (HBW.out.trans (hh.mono HBW.out.size))
     clear tap0 tap1 tap2 tap3 tbp0 tbp1 tbp2 tbp3 n11 n12 n13 n14 n15 n16
     rw [HR1.out]
     have hchk3 := True.intro
     obtain ⟨⟨z0, z1, z2, z3⟩, z4, z5, z6, z7⟩ := FR.out
     obtain ⟨tap0, tap1, tap2, tap3⟩ := TA.out
     obtain ⟨tbp0, tbp1, tbp2, tbp3⟩ := TB.out
     have n11 := TN.out.at 11 _ rfl
     have n12 := TN.out.at 12 _ rfl
     have n13 := TN.out.at 13 _ rfl
     have n14 := TN.out.at 14 _ rfl
     have n15 := TN.out.at 15 _ rfl
     have n16 := TN.out.at 16 _ rfl
     clear hb hh hal))
  refine bodyPost_ret (Kit.results_ct rfl _ _ (w.heap.size + 3) 0 [.int .i64 0, .int .i64 0, .int .i64 0, .slice none 0 0] _ rfl (range_4 (by go_cell) (by go_cell) (by go_cell) (by go_cell)) Try.underlying26 rfl (by kernel_rfl)) rfl ?_
  exact ⟨_, rfl, World.ownsRow_nil _ _ _ _, by exact (((HBW.out.setCell (p := ⟨w.heap.size + 3, 0, none⟩) (by simp) _).setCell (p := ⟨w.heap.size + 3, 1, none⟩) (by simp) _).setCell (p := ⟨w.heap.size + 3, 2, none⟩) (by simp) _).setCell (p := ⟨w.heap.size + 3, 3, none⟩) (by simp) _⟩
set_option maxRecDepth 100000 in
set_option maxHeartbeats 4000000 in
theorem rjof_q01 (H W C : Int) (A B : Option Addr) (n c d : Nat) (x0 x1 x2 : Value) (K S P O Z Y : Int) (WA BA : Option Addr) (nW cW nB cB : Nat) (m1 s1 z1 m2 s2 z2 lo hi : Int) (h1 : tensB H W C n = true) (hr1 : rightB m1 s1 = false) (hr2 : rightB m2 s2 = true) (w : World) :
    Calls Try.prog 8 #[.agg #[.int .i64 H, .int .i64 W, .int .i64 C, .slice A n c], .agg #[.int .i64 H, .int .i64 W, .int .i64 C, .slice B n d], .agg #[x0, x1, x2, .int .i64 K, .int .i64 S, .int .i64 P, .int .i64 O, .int .i8 Z, .int .i8 Y, .slice WA nW cW, .slice BA nB cB, .int .i32 m1, .int .i64 s1, .int .i8 z1, .int .i32 m2, .int .i64 s2, .int .i8 z2, .int .i8 lo, .int .i8 hi]] w (MadeJ w 0 0 0 0 [] (.int .i64 7)) := by
  have HT1 := Lib.hid h1
  have HT2 := Lib.hid h1
  clear h1
  have HE := eqShape H W C H W C
  have hg := Try.eqGuardType23
  have HR1 := Lib.hid hr1
  have HR2 := Lib.hid hr2
  clear hr1 hr2
  go_enter Try.func8, Try.ntmps8
  go_wp2_with (first
  | (go_at_call 15
     have hchk := HBW
     clear hchk
     have hal : Below w1.heap.size w1 w1 := Below.refl _ _
     refine (refRight_to H W C B n d true HT2.out _).mono ?_
     rintro e w2 ⟨rfl, hb⟩
     have hh : Below w1.heap.size w1 w2 := hal.trans (hb.mono hal.size)
     replace TA := Lib.hid (TA.out.below yTA hh)
     replace yTA := Nat.lt_of_lt_of_le yTA hh.size
     replace TB := Lib.hid (TB.out.below yTB hh)
     replace yTB := Nat.lt_of_lt_of_le yTB hh.size
     replace TN := Lib.hid (TN.out.below yTN hh)
     replace yTN := Nat.lt_of_lt_of_le yTN hh.size
     replace FR := Lib.hid (FR.out.below yFR hh)
     replace yFR := Nat.lt_of_lt_of_le yFR hh.size
     replace HBW := Lib.hid (HBW.out.trans (hh.mono HBW.out.size))
     clear tap0 tap1 tap2 tap3 tbp0 tbp1 tbp2 tbp3 n11 n12 n13 n14 n15 n16
     obtain ⟨tap0, tap1, tap2, tap3⟩ := TA.out
     obtain ⟨tbp0, tbp1, tbp2, tbp3⟩ := TB.out
     have n11 := TN.out.at 11 _ rfl
     have n12 := TN.out.at 12 _ rfl
     have n13 := TN.out.at 13 _ rfl
     have n14 := TN.out.at 14 _ rfl
     have n15 := TN.out.at 15 _ rfl
     have n16 := TN.out.at 16 _ rfl
     clear hb hh hal)
  | (go_at_call 15
     have hal : Below w.heap.size w ((((w.alloc (.cells #[.int .i64 H, .int .i64 W, .int .i64 C, .slice A n c] 26)).alloc (.cells #[.int .i64 H, .int .i64 W, .int .i64 C, .slice B n d] 26)).alloc (.cells #[x0, x1, x2, .int .i64 K, .int .i64 S, .int .i64 P, .int .i64 O, .int .i8 Z, .int .i8 Y, .slice WA nW cW, .slice BA nB cB, .int .i32 m1, .int .i64 s1, .int .i8 z1, .int .i32 m2, .int .i64 s2, .int .i8 z2, .int .i8 lo, .int .i8 hi] 32)).alloc (.cells #[.int .i64 0, .int .i64 0, .int .i64 0, .slice none 0 0] 26)) := ((((Below.refl _ _).alloc (by first | exact Nat.le_refl _ | (simp; done) | (simp; omega)) _).alloc (by first | exact Nat.le_refl _ | (simp; done) | (simp; omega)) _).alloc (by first | exact Nat.le_refl _ | (simp; done) | (simp; omega)) _).alloc (by first | exact Nat.le_refl _ | (simp; done) | (simp; omega)) _
     refine (refRight_to H W C A n c true HT1.out _).mono ?_
     rintro e w1 ⟨rfl, hb⟩
     have hh : Below w.heap.size w w1 := hal.trans (hb.mono hal.size)
     have qTA := (boxNew H W C A n c 26) w
     try simp only [World.size_alloc] at qTA
     have TA := Lib.hid ((qTA.below (B' := w.heap.size + 1) (by omega) (((((Below.refl _ _).alloc (by first | exact Nat.le_refl _ | (simp; done) | (simp; omega)) _).alloc (by first | exact Nat.le_refl _ | (simp; done) | (simp; omega)) _).alloc (by first | exact Nat.le_refl _ | (simp; done) | (simp; omega)) _).mono (by simp))).below (by first | (simp; done) | (simp; omega)) hb)
     have yTA : w.heap.size < w1.heap.size := by have := hb.size; simp at this; omega
     clear qTA
     have qTB := (boxNew H W C B n d 26) (w.alloc (.cells #[.int .i64 H, .int .i64 W, .int .i64 C, .slice A n c] 26))
     try simp only [World.size_alloc] at qTB
     have TB := Lib.hid ((qTB.below (B' := w.heap.size + 2) (by omega) ((((Below.refl _ _).alloc (by first | exact Nat.le_refl _ | (simp; done) | (simp; omega)) _).alloc (by first | exact Nat.le_refl _ | (simp; done) | (simp; omega)) _).mono (by simp))).below (by first | (simp; done) | (simp; omega)) hb)
     have yTB : w.heap.size + 1 < w1.heap.size := by have := hb.size; simp at this; omega
     clear qTB
     have qTN := (NodeAt.new x0 x1 x2 (.int .i8 Y) (.int .i32 m1) (.int .i64 s1) (.int .i8 z1) (.int .i32 m2) (.int .i64 s2) (.int .i8 z2) (.int .i8 lo) (.int .i8 hi) K S P O Z WA BA nW cW nB cB 32) ((w.alloc (.cells #[.int .i64 H, .int .i64 W, .int .i64 C, .slice A n c] 26)).alloc (.cells #[.int .i64 H, .int .i64 W, .int .i64 C, .slice B n d] 26))
     try simp only [World.size_alloc] at qTN
     have TN := Lib.hid ((qTN.below (B' := w.heap.size + 3) (by omega) (((Below.refl _ _).alloc (by first | exact Nat.le_refl _ | (simp; done) | (simp; omega)) _).mono (by simp))).below (by first | (simp; done) | (simp; omega)) hb)
     have yTN : w.heap.size + 2 < w1.heap.size := by have := hb.size; simp at this; omega
     clear qTN
     have qFR := (freshNew 26) (((w.alloc (.cells #[.int .i64 H, .int .i64 W, .int .i64 C, .slice A n c] 26)).alloc (.cells #[.int .i64 H, .int .i64 W, .int .i64 C, .slice B n d] 26)).alloc (.cells #[x0, x1, x2, .int .i64 K, .int .i64 S, .int .i64 P, .int .i64 O, .int .i8 Z, .int .i8 Y, .slice WA nW cW, .slice BA nB cB, .int .i32 m1, .int .i64 s1, .int .i8 z1, .int .i32 m2, .int .i64 s2, .int .i8 z2, .int .i8 lo, .int .i8 hi] 32))
     try simp only [World.size_alloc] at qFR
     have FR := Lib.hid (qFR.below (by first | (simp; done) | (simp; omega)) hb)
     have yFR : w.heap.size + 3 < w1.heap.size := by have := hb.size; simp at this; omega
     clear qFR
     have HBW : Hid (Below w.heap.size w w1) := Lib.hid hh
     obtain ⟨tap0, tap1, tap2, tap3⟩ := TA.out
     obtain ⟨tbp0, tbp1, tbp2, tbp3⟩ := TB.out
     have n11 := TN.out.at 11 _ rfl
     have n12 := TN.out.at 12 _ rfl
     have n13 := TN.out.at 13 _ rfl
     have n14 := TN.out.at 14 _ rfl
     have n15 := TN.out.at 15 _ rfl
     have n16 := TN.out.at 16 _ rfl
     clear hb hh hal)
  | (go_at_call 16
     have hal : Below w2.heap.size w2 w2 := Below.refl _ _
     refine (refIsRight_to _ _ _ _).mono ?_
     rintro e w3 ⟨rfl, hb⟩
     have hh : Below w2.heap.size w2 w3 := hal.trans (hb.mono hal.size)
     replace TA := Lib.hid (TA.out.below yTA hh)
     replace yTA := Nat.lt_of_lt_of_le yTA hh.size
     replace TB := Lib.hid (TB.out.below yTB hh)
     replace yTB := Nat.lt_of_lt_of_le yTB hh.size
     replace TN := Lib.hid (TN.out.below yTN hh)
     replace yTN := Nat.lt_of_lt_of_le yTN hh.size
     replace FR := Lib.hid (FR.out.below yFR hh)
     replace yFR := Nat.lt_of_lt_of_le yFR hh.size
     replace HBW := Lib.hid (HBW.out.trans (hh.mono HBW.out.size))
     clear tap0 tap1 tap2 tap3 tbp0 tbp1 tbp2 tbp3 n11 n12 n13 n14 n15 n16
     rw [HR1.out]
     have hchk3 := True.intro
     obtain ⟨⟨z0, z1, z2, z3⟩, z4, z5, z6, z7⟩ := FR.out
     obtain ⟨tap0, tap1, tap2, tap3⟩ := TA.out
     obtain ⟨tbp0, tbp1, tbp2, tbp3⟩ := TB.out
     have n11 := TN.out.at 11 _ rfl
     have n12 := TN.out.at 12 _ rfl
     have n13 := TN.out.at 13 _ rfl
     have n14 := TN.out.at 14 _ rfl
     have n15 := TN.out.at 15 _ rfl
     have n16 := TN.out.at 16 _ rfl
     clear hb hh hal))
  refine bodyPost_ret (Kit.results_ct rfl _ _ (w.heap.size + 3) 0 [.int .i64 0, .int .i64 0, .int .i64 0, .slice none 0 0] _ rfl (range_4 (by go_cell) (by go_cell) (by go_cell) (by go_cell)) Try.underlying26 rfl (by kernel_rfl)) rfl ?_
  exact ⟨_, rfl, World.ownsRow_nil _ _ _ _, by exact (((HBW.out.setCell (p := ⟨w.heap.size + 3, 0, none⟩) (by simp) _).setCell (p := ⟨w.heap.size + 3, 1, none⟩) (by simp) _).setCell (p := ⟨w.heap.size + 3, 2, none⟩) (by simp) _).setCell (p := ⟨w.heap.size + 3, 3, none⟩) (by simp) _⟩
set_option maxRecDepth 100000 in
set_option maxHeartbeats 4000000 in
theorem rjof_q10 (H W C : Int) (A B : Option Addr) (n c d : Nat) (x0 x1 x2 : Value) (K S P O Z Y : Int) (WA BA : Option Addr) (nW cW nB cB : Nat) (m1 s1 z1 m2 s2 z2 lo hi : Int) (h1 : tensB H W C n = true) (hr1 : rightB m1 s1 = true) (hr2 : rightB m2 s2 = false) (w : World) :
    Calls Try.prog 8 #[.agg #[.int .i64 H, .int .i64 W, .int .i64 C, .slice A n c], .agg #[.int .i64 H, .int .i64 W, .int .i64 C, .slice B n d], .agg #[x0, x1, x2, .int .i64 K, .int .i64 S, .int .i64 P, .int .i64 O, .int .i8 Z, .int .i8 Y, .slice WA nW cW, .slice BA nB cB, .int .i32 m1, .int .i64 s1, .int .i8 z1, .int .i32 m2, .int .i64 s2, .int .i8 z2, .int .i8 lo, .int .i8 hi]] w (MadeJ w 0 0 0 0 [] (.int .i64 7)) := by
  have HT1 := Lib.hid h1
  have HT2 := Lib.hid h1
  clear h1
  have HE := eqShape H W C H W C
  have hg := Try.eqGuardType23
  have HR1 := Lib.hid hr1
  have HR2 := Lib.hid hr2
  clear hr1 hr2
  go_enter Try.func8, Try.ntmps8
  go_wp2_with (first
  | (go_at_call 15
     have hchk := HBW
     clear hchk
     have hal : Below w1.heap.size w1 w1 := Below.refl _ _
     refine (refRight_to H W C B n d true HT2.out _).mono ?_
     rintro e w2 ⟨rfl, hb⟩
     have hh : Below w1.heap.size w1 w2 := hal.trans (hb.mono hal.size)
     replace TA := Lib.hid (TA.out.below yTA hh)
     replace yTA := Nat.lt_of_lt_of_le yTA hh.size
     replace TB := Lib.hid (TB.out.below yTB hh)
     replace yTB := Nat.lt_of_lt_of_le yTB hh.size
     replace TN := Lib.hid (TN.out.below yTN hh)
     replace yTN := Nat.lt_of_lt_of_le yTN hh.size
     replace FR := Lib.hid (FR.out.below yFR hh)
     replace yFR := Nat.lt_of_lt_of_le yFR hh.size
     replace HBW := Lib.hid (HBW.out.trans (hh.mono HBW.out.size))
     clear tap0 tap1 tap2 tap3 tbp0 tbp1 tbp2 tbp3 n11 n12 n13 n14 n15 n16
     obtain ⟨tap0, tap1, tap2, tap3⟩ := TA.out
     obtain ⟨tbp0, tbp1, tbp2, tbp3⟩ := TB.out
     have n11 := TN.out.at 11 _ rfl
     have n12 := TN.out.at 12 _ rfl
     have n13 := TN.out.at 13 _ rfl
     have n14 := TN.out.at 14 _ rfl
     have n15 := TN.out.at 15 _ rfl
     have n16 := TN.out.at 16 _ rfl
     clear hb hh hal)
  | (go_at_call 15
     have hal : Below w.heap.size w ((((w.alloc (.cells #[.int .i64 H, .int .i64 W, .int .i64 C, .slice A n c] 26)).alloc (.cells #[.int .i64 H, .int .i64 W, .int .i64 C, .slice B n d] 26)).alloc (.cells #[x0, x1, x2, .int .i64 K, .int .i64 S, .int .i64 P, .int .i64 O, .int .i8 Z, .int .i8 Y, .slice WA nW cW, .slice BA nB cB, .int .i32 m1, .int .i64 s1, .int .i8 z1, .int .i32 m2, .int .i64 s2, .int .i8 z2, .int .i8 lo, .int .i8 hi] 32)).alloc (.cells #[.int .i64 0, .int .i64 0, .int .i64 0, .slice none 0 0] 26)) := ((((Below.refl _ _).alloc (by first | exact Nat.le_refl _ | (simp; done) | (simp; omega)) _).alloc (by first | exact Nat.le_refl _ | (simp; done) | (simp; omega)) _).alloc (by first | exact Nat.le_refl _ | (simp; done) | (simp; omega)) _).alloc (by first | exact Nat.le_refl _ | (simp; done) | (simp; omega)) _
     refine (refRight_to H W C A n c true HT1.out _).mono ?_
     rintro e w1 ⟨rfl, hb⟩
     have hh : Below w.heap.size w w1 := hal.trans (hb.mono hal.size)
     have qTA := (boxNew H W C A n c 26) w
     try simp only [World.size_alloc] at qTA
     have TA := Lib.hid ((qTA.below (B' := w.heap.size + 1) (by omega) (((((Below.refl _ _).alloc (by first | exact Nat.le_refl _ | (simp; done) | (simp; omega)) _).alloc (by first | exact Nat.le_refl _ | (simp; done) | (simp; omega)) _).alloc (by first | exact Nat.le_refl _ | (simp; done) | (simp; omega)) _).mono (by simp))).below (by first | (simp; done) | (simp; omega)) hb)
     have yTA : w.heap.size < w1.heap.size := by have := hb.size; simp at this; omega
     clear qTA
     have qTB := (boxNew H W C B n d 26) (w.alloc (.cells #[.int .i64 H, .int .i64 W, .int .i64 C, .slice A n c] 26))
     try simp only [World.size_alloc] at qTB
     have TB := Lib.hid ((qTB.below (B' := w.heap.size + 2) (by omega) ((((Below.refl _ _).alloc (by first | exact Nat.le_refl _ | (simp; done) | (simp; omega)) _).alloc (by first | exact Nat.le_refl _ | (simp; done) | (simp; omega)) _).mono (by simp))).below (by first | (simp; done) | (simp; omega)) hb)
     have yTB : w.heap.size + 1 < w1.heap.size := by have := hb.size; simp at this; omega
     clear qTB
     have qTN := (NodeAt.new x0 x1 x2 (.int .i8 Y) (.int .i32 m1) (.int .i64 s1) (.int .i8 z1) (.int .i32 m2) (.int .i64 s2) (.int .i8 z2) (.int .i8 lo) (.int .i8 hi) K S P O Z WA BA nW cW nB cB 32) ((w.alloc (.cells #[.int .i64 H, .int .i64 W, .int .i64 C, .slice A n c] 26)).alloc (.cells #[.int .i64 H, .int .i64 W, .int .i64 C, .slice B n d] 26))
     try simp only [World.size_alloc] at qTN
     have TN := Lib.hid ((qTN.below (B' := w.heap.size + 3) (by omega) (((Below.refl _ _).alloc (by first | exact Nat.le_refl _ | (simp; done) | (simp; omega)) _).mono (by simp))).below (by first | (simp; done) | (simp; omega)) hb)
     have yTN : w.heap.size + 2 < w1.heap.size := by have := hb.size; simp at this; omega
     clear qTN
     have qFR := (freshNew 26) (((w.alloc (.cells #[.int .i64 H, .int .i64 W, .int .i64 C, .slice A n c] 26)).alloc (.cells #[.int .i64 H, .int .i64 W, .int .i64 C, .slice B n d] 26)).alloc (.cells #[x0, x1, x2, .int .i64 K, .int .i64 S, .int .i64 P, .int .i64 O, .int .i8 Z, .int .i8 Y, .slice WA nW cW, .slice BA nB cB, .int .i32 m1, .int .i64 s1, .int .i8 z1, .int .i32 m2, .int .i64 s2, .int .i8 z2, .int .i8 lo, .int .i8 hi] 32))
     try simp only [World.size_alloc] at qFR
     have FR := Lib.hid (qFR.below (by first | (simp; done) | (simp; omega)) hb)
     have yFR : w.heap.size + 3 < w1.heap.size := by have := hb.size; simp at this; omega
     clear qFR
     have HBW : Hid (Below w.heap.size w w1) := Lib.hid hh
     obtain ⟨tap0, tap1, tap2, tap3⟩ := TA.out
     obtain ⟨tbp0, tbp1, tbp2, tbp3⟩ := TB.out
     have n11 := TN.out.at 11 _ rfl
     have n12 := TN.out.at 12 _ rfl
     have n13 := TN.out.at 13 _ rfl
     have n14 := TN.out.at 14 _ rfl
     have n15 := TN.out.at 15 _ rfl
     have n16 := TN.out.at 16 _ rfl
     clear hb hh hal)
  | (go_at_call 16
     have hchk := hchk3
     clear hchk
     have hal : Below w3.heap.size w3 w3 := Below.refl _ _
     refine (refIsRight_to _ _ _ _).mono ?_
     rintro e w4 ⟨rfl, hb⟩
     have hh : Below w3.heap.size w3 w4 := hal.trans (hb.mono hal.size)
     replace TA := Lib.hid (TA.out.below yTA hh)
     replace yTA := Nat.lt_of_lt_of_le yTA hh.size
     replace TB := Lib.hid (TB.out.below yTB hh)
     replace yTB := Nat.lt_of_lt_of_le yTB hh.size
     replace TN := Lib.hid (TN.out.below yTN hh)
     replace yTN := Nat.lt_of_lt_of_le yTN hh.size
     replace FR := Lib.hid (FR.out.below yFR hh)
     replace yFR := Nat.lt_of_lt_of_le yFR hh.size
     replace HBW := Lib.hid (HBW.out.trans (hh.mono HBW.out.size))
     clear tap0 tap1 tap2 tap3 tbp0 tbp1 tbp2 tbp3 n11 n12 n13 n14 n15 n16
     rw [HR2.out]
     obtain ⟨⟨z0, z1, z2, z3⟩, z4, z5, z6, z7⟩ := FR.out
     obtain ⟨tap0, tap1, tap2, tap3⟩ := TA.out
     obtain ⟨tbp0, tbp1, tbp2, tbp3⟩ := TB.out
     have n11 := TN.out.at 11 _ rfl
     have n12 := TN.out.at 12 _ rfl
     have n13 := TN.out.at 13 _ rfl
     have n14 := TN.out.at 14 _ rfl
     have n15 := TN.out.at 15 _ rfl
     have n16 := TN.out.at 16 _ rfl
     clear hb hh hal)
  | (go_at_call 16
     have hal : Below w2.heap.size w2 w2 := Below.refl _ _
     refine (refIsRight_to _ _ _ _).mono ?_
     rintro e w3 ⟨rfl, hb⟩
     have hh : Below w2.heap.size w2 w3 := hal.trans (hb.mono hal.size)
     replace TA := Lib.hid (TA.out.below yTA hh)
     replace yTA := Nat.lt_of_lt_of_le yTA hh.size
     replace TB := Lib.hid (TB.out.below yTB hh)
     replace yTB := Nat.lt_of_lt_of_le yTB hh.size
     replace TN := Lib.hid (TN.out.below yTN hh)
     replace yTN := Nat.lt_of_lt_of_le yTN hh.size
     replace FR := Lib.hid (FR.out.below yFR hh)
     replace yFR := Nat.lt_of_lt_of_le yFR hh.size
     replace HBW := Lib.hid (HBW.out.trans (hh.mono HBW.out.size))
     clear tap0 tap1 tap2 tap3 tbp0 tbp1 tbp2 tbp3 n11 n12 n13 n14 n15 n16
     rw [HR1.out]
     have hchk3 := True.intro
     obtain ⟨tap0, tap1, tap2, tap3⟩ := TA.out
     obtain ⟨tbp0, tbp1, tbp2, tbp3⟩ := TB.out
     have n11 := TN.out.at 11 _ rfl
     have n12 := TN.out.at 12 _ rfl
     have n13 := TN.out.at 13 _ rfl
     have n14 := TN.out.at 14 _ rfl
     have n15 := TN.out.at 15 _ rfl
     have n16 := TN.out.at 16 _ rfl
     clear hb hh hal))
  refine bodyPost_ret (Kit.results_ct rfl _ _ (w.heap.size + 3) 0 [.int .i64 0, .int .i64 0, .int .i64 0, .slice none 0 0] _ rfl (range_4 (by go_cell) (by go_cell) (by go_cell) (by go_cell)) Try.underlying26 rfl (by kernel_rfl)) rfl ?_
  exact ⟨_, rfl, World.ownsRow_nil _ _ _ _, by exact (((HBW.out.setCell (p := ⟨w.heap.size + 3, 0, none⟩) (by simp) _).setCell (p := ⟨w.heap.size + 3, 1, none⟩) (by simp) _).setCell (p := ⟨w.heap.size + 3, 2, none⟩) (by simp) _).setCell (p := ⟨w.heap.size + 3, 3, none⟩) (by simp) _⟩
theorem rjof_quant (H W C : Int) (A B : Option Addr) (n c d : Nat) (x0 x1 x2 : Value) (K S P O Z Y : Int) (WA BA : Option Addr) (nW cW nB cB : Nat) (m1 s1 z1 m2 s2 z2 lo hi : Int) (h1 : tensB H W C n = true) (hh : (rightB m1 s1 && rightB m2 s2) = false) (w : World) :
    Calls Try.prog 8 #[.agg #[.int .i64 H, .int .i64 W, .int .i64 C, .slice A n c], .agg #[.int .i64 H, .int .i64 W, .int .i64 C, .slice B n d], .agg #[x0, x1, x2, .int .i64 K, .int .i64 S, .int .i64 P, .int .i64 O, .int .i8 Z, .int .i8 Y, .slice WA nW cW, .slice BA nB cB, .int .i32 m1, .int .i64 s1, .int .i8 z1, .int .i32 m2, .int .i64 s2, .int .i8 z2, .int .i8 lo, .int .i8 hi]] w (MadeJ w 0 0 0 0 [] (.int .i64 7)) := by
  cases a : rightB m1 s1 <;> cases b : rightB m2 s2
  · exact rjof_q00 H W C A B n c d x0 x1 x2 K S P O Z Y WA BA nW cW nB cB m1 s1 z1 m2 s2 z2 lo hi h1 a b w
  · exact rjof_q01 H W C A B n c d x0 x1 x2 K S P O Z Y WA BA nW cW nB cB m1 s1 z1 m2 s2 z2 lo hi h1 a b w
  · exact rjof_q10 H W C A B n c d x0 x1 x2 K S P O Z Y WA BA nW cW nB cB m1 s1 z1 m2 s2 z2 lo hi h1 a b w
  · rw [a, b] at hh; cases hh
end Go.Proofs.Ytncknalipjaccaa.CJoin
