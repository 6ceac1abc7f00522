/- Layer 21 (act): sums become numbers: the code. -/
import Derived.Test.YtpokeklphmfcnaaActSums
import Derived.Test.YtpokeklphmfcnaaActOf
import Derived.Test.YtpokeklphmfcnaaFixAll
import Derived.Laws.MakeOwn
import Derived.Deep.CutRange
namespace Go.Proofs.Ytpokeklphmfcnaa.CAct
open Go Go.ChangeShapes Go.WideShapes Go.ChangeAt Go.RowKit Go.Deep
open Plain CSat CFix CShape CTensor CConv
set_option linter.unusedVariables false

set_option maxRecDepth 100000 in
set_option maxHeartbeats 4000000 in
theorem aput_bad (H W C : Int) (A : Option Addr) (n c : Nat) (x0 x1 x2 : Value) (K S P O Z Y : Int) (WA BA : Option Addr) (nW cW nB cB : Nat) (m1 s1 z1 m2 s2 z2 lo hi : Int) (h1 : tensB H W C n = false) (w : World) :
    Calls Try.prog 16 #[.agg #[.int .i64 H, .int .i64 W, .int .i64 C, .slice A n c], .agg #[x0, x1, x2, .int .i64 K, .int .i64 S, .int .i64 P, .int .i64 O, .int .i8 Z, .int .i8 Y, .slice WA nW cW, .slice BA nB cB, .int .i32 m1, .int .i64 s1, .int .i8 z1, .int .i32 m2, .int .i64 s2, .int .i8 z2, .int .i8 lo, .int .i8 hi]] w (MadeT w 0 0 0 0 [] (.int .i64 5)) := by
  have HT1 := Lib.hid h1
  clear h1
  go_enter Try.func16, Try.ntmps16
  go_wp2_with (first
  | (go_at_call 26
     have hal : Below w.heap.size w (((w.alloc (.cells #[.int .i64 H, .int .i64 W, .int .i64 C, .slice A n c] 50)).alloc (.cells #[x0, x1, x2, .int .i64 K, .int .i64 S, .int .i64 P, .int .i64 O, .int .i8 Z, .int .i8 Y, .slice WA nW cW, .slice BA nB cB, .int .i32 m1, .int .i64 s1, .int .i8 z1, .int .i32 m2, .int .i64 s2, .int .i8 z2, .int .i8 lo, .int .i8 hi] 32)).alloc (.cells #[.int .i64 0, .int .i64 0, .int .i64 0, .slice none 0 0] 26)) := (((Below.refl _ _).alloc (by first | exact Nat.le_refl _ | (simp; done) | (simp; omega)) _).alloc (by first | exact Nat.le_refl _ | (simp; done) | (simp; omega)) _).alloc (by first | exact Nat.le_refl _ | (simp; done) | (simp; omega)) _
     refine (rsums_to H W C A n c false HT1.out _).mono ?_
     rintro e w1 ⟨rfl, hb⟩
     have hh : Below w.heap.size w w1 := hal.trans (hb.mono hal.size)
     have qTA := (boxNew H W C A n c 50) w
     try simp only [World.size_alloc] at qTA
     have TA := Lib.hid ((qTA.below (B' := w.heap.size + 1) (by omega) ((((Below.refl _ _).alloc (by first | exact Nat.le_refl _ | (simp; done) | (simp; omega)) _).alloc (by first | exact Nat.le_refl _ | (simp; done) | (simp; omega)) _).mono (by simp))).below (by first | (simp; done) | (simp; omega)) hb)
     have yTA : w.heap.size < w1.heap.size := by have := hb.size; simp at this; omega
     clear qTA
     have qTN := (NodeAt.new x0 x1 x2 (.int .i8 Y) (.int .i32 m1) (.int .i64 s1) (.int .i8 z1) (.int .i32 m2) (.int .i64 s2) (.int .i8 z2) (.int .i8 lo) (.int .i8 hi) K S P O Z WA BA nW cW nB cB 32) (w.alloc (.cells #[.int .i64 H, .int .i64 W, .int .i64 C, .slice A n c] 50))
     try simp only [World.size_alloc] at qTN
     have TN := Lib.hid ((qTN.below (B' := w.heap.size + 2) (by omega) (((Below.refl _ _).alloc (by first | exact Nat.le_refl _ | (simp; done) | (simp; omega)) _).mono (by simp))).below (by first | (simp; done) | (simp; omega)) hb)
     have yTN : w.heap.size + 1 < w1.heap.size := by have := hb.size; simp at this; omega
     clear qTN
     have qFR := (freshNew 26) ((w.alloc (.cells #[.int .i64 H, .int .i64 W, .int .i64 C, .slice A n c] 50)).alloc (.cells #[x0, x1, x2, .int .i64 K, .int .i64 S, .int .i64 P, .int .i64 O, .int .i8 Z, .int .i8 Y, .slice WA nW cW, .slice BA nB cB, .int .i32 m1, .int .i64 s1, .int .i8 z1, .int .i32 m2, .int .i64 s2, .int .i8 z2, .int .i8 lo, .int .i8 hi] 32))
     try simp only [World.size_alloc] at qFR
     have FR := Lib.hid (qFR.below (by first | (simp; done) | (simp; omega)) hb)
     have yFR : w.heap.size + 2 < w1.heap.size := by have := hb.size; simp at this; omega
     clear qFR
     have HBW : Hid (Below w.heap.size w w1) := Lib.hid hh
     obtain ⟨⟨z0, z1, z2, z3⟩, z4, z5, z6, z7⟩ := FR.out
     obtain ⟨tap0, tap1, tap2, tap3⟩ := TA.out
     clear hb hh hal))
  refine bodyPost_ret (Kit.results_ct rfl _ _ (w.heap.size + 2) 0 [.int .i64 0, .int .i64 0, .int .i64 0, .slice none 0 0] _ rfl (range_4 (by go_cell) (by go_cell) (by go_cell) (by go_cell)) Try.underlying26 rfl (by kernel_rfl)) rfl ?_
  exact ⟨_, rfl, World.ownsRow_nil _ _ _ _, by exact (((HBW.out.setCell (p := ⟨w.heap.size + 2, 0, none⟩) (by simp) _).setCell (p := ⟨w.heap.size + 2, 1, none⟩) (by simp) _).setCell (p := ⟨w.heap.size + 2, 2, none⟩) (by simp) _).setCell (p := ⟨w.heap.size + 2, 3, none⟩) (by simp) _⟩
set_option maxRecDepth 100000 in
set_option maxHeartbeats 4000000 in
theorem aput_quant (H W C : Int) (A : Option Addr) (n c : Nat) (x0 x1 x2 : Value) (K S P O Z Y : Int) (WA BA : Option Addr) (nW cW nB cB : Nat) (m1 s1 z1 m2 s2 z2 lo hi : Int) (h1 : tensB H W C n = true) (hq : rightB m1 s1 = false) (w : World) :
    Calls Try.prog 16 #[.agg #[.int .i64 H, .int .i64 W, .int .i64 C, .slice A n c], .agg #[x0, x1, x2, .int .i64 K, .int .i64 S, .int .i64 P, .int .i64 O, .int .i8 Z, .int .i8 Y, .slice WA nW cW, .slice BA nB cB, .int .i32 m1, .int .i64 s1, .int .i8 z1, .int .i32 m2, .int .i64 s2, .int .i8 z2, .int .i8 lo, .int .i8 hi]] w (MadeT w 0 0 0 0 [] (.int .i64 7)) := by
  have HT1 := Lib.hid h1
  have HQ := Lib.hid hq
  clear h1 hq
  go_enter Try.func16, Try.ntmps16
  go_wp2_with (first
  | (go_at_call 26
     have hal : Below w.heap.size w (((w.alloc (.cells #[.int .i64 H, .int .i64 W, .int .i64 C, .slice A n c] 50)).alloc (.cells #[x0, x1, x2, .int .i64 K, .int .i64 S, .int .i64 P, .int .i64 O, .int .i8 Z, .int .i8 Y, .slice WA nW cW, .slice BA nB cB, .int .i32 m1, .int .i64 s1, .int .i8 z1, .int .i32 m2, .int .i64 s2, .int .i8 z2, .int .i8 lo, .int .i8 hi] 32)).alloc (.cells #[.int .i64 0, .int .i64 0, .int .i64 0, .slice none 0 0] 26)) := (((Below.refl _ _).alloc (by first | exact Nat.le_refl _ | (simp; done) | (simp; omega)) _).alloc (by first | exact Nat.le_refl _ | (simp; done) | (simp; omega)) _).alloc (by first | exact Nat.le_refl _ | (simp; done) | (simp; omega)) _
     refine (rsums_to H W C A n c true HT1.out _).mono ?_
     rintro e w1 ⟨rfl, hb⟩
     have hh : Below w.heap.size w w1 := hal.trans (hb.mono hal.size)
     have qTA := (boxNew H W C A n c 50) w
     try simp only [World.size_alloc] at qTA
     have TA := Lib.hid ((qTA.below (B' := w.heap.size + 1) (by omega) ((((Below.refl _ _).alloc (by first | exact Nat.le_refl _ | (simp; done) | (simp; omega)) _).alloc (by first | exact Nat.le_refl _ | (simp; done) | (simp; omega)) _).mono (by simp))).below (by first | (simp; done) | (simp; omega)) hb)
     have yTA : w.heap.size < w1.heap.size := by have := hb.size; simp at this; omega
     clear qTA
     have qTN := (NodeAt.new x0 x1 x2 (.int .i8 Y) (.int .i32 m1) (.int .i64 s1) (.int .i8 z1) (.int .i32 m2) (.int .i64 s2) (.int .i8 z2) (.int .i8 lo) (.int .i8 hi) K S P O Z WA BA nW cW nB cB 32) (w.alloc (.cells #[.int .i64 H, .int .i64 W, .int .i64 C, .slice A n c] 50))
     try simp only [World.size_alloc] at qTN
     have TN := Lib.hid ((qTN.below (B' := w.heap.size + 2) (by omega) (((Below.refl _ _).alloc (by first | exact Nat.le_refl _ | (simp; done) | (simp; omega)) _).mono (by simp))).below (by first | (simp; done) | (simp; omega)) hb)
     have yTN : w.heap.size + 1 < w1.heap.size := by have := hb.size; simp at this; omega
     clear qTN
     have qFR := (freshNew 26) ((w.alloc (.cells #[.int .i64 H, .int .i64 W, .int .i64 C, .slice A n c] 50)).alloc (.cells #[x0, x1, x2, .int .i64 K, .int .i64 S, .int .i64 P, .int .i64 O, .int .i8 Z, .int .i8 Y, .slice WA nW cW, .slice BA nB cB, .int .i32 m1, .int .i64 s1, .int .i8 z1, .int .i32 m2, .int .i64 s2, .int .i8 z2, .int .i8 lo, .int .i8 hi] 32))
     try simp only [World.size_alloc] at qFR
     have FR := Lib.hid (qFR.below (by first | (simp; done) | (simp; omega)) hb)
     have yFR : w.heap.size + 2 < w1.heap.size := by have := hb.size; simp at this; omega
     clear qFR
     have HBW : Hid (Below w.heap.size w w1) := Lib.hid hh
     obtain ⟨tap0, tap1, tap2, tap3⟩ := TA.out
     have n11 := TN.out.at 11 _ rfl
     have n12 := TN.out.at 12 _ rfl
     have n13 := TN.out.at 13 _ rfl
     clear hb hh hal)
  | (go_at_call 19
     have hal : Below w1.heap.size w1 w1 := Below.refl _ _
     refine (isRight_to _ _ _ _).mono ?_
     rintro e w2 ⟨rfl, hb⟩
     have hh : Below w1.heap.size w1 w2 := hal.trans (hb.mono hal.size)
     replace TA := Lib.hid (TA.out.below yTA hh)
     replace yTA := Nat.lt_of_lt_of_le yTA hh.size
     replace TN := Lib.hid (TN.out.below yTN hh)
     replace yTN := Nat.lt_of_lt_of_le yTN hh.size
     replace FR := Lib.hid (FR.out.below yFR hh)
     replace yFR := Nat.lt_of_lt_of_le yFR hh.size
     replace HBW := Lib.hid (HBW.out.trans (hh.mono HBW.out.size))
     clear tap0 tap1 tap2 tap3 n11 n12 n13
     rw [HQ.out]
     obtain ⟨⟨z0, z1, z2, z3⟩, z4, z5, z6, z7⟩ := FR.out
     obtain ⟨tap0, tap1, tap2, tap3⟩ := TA.out
     have n11 := TN.out.at 11 _ rfl
     have n12 := TN.out.at 12 _ rfl
     have n13 := TN.out.at 13 _ rfl
     clear hb hh hal))
  refine bodyPost_ret (Kit.results_ct rfl _ _ (w.heap.size + 2) 0 [.int .i64 0, .int .i64 0, .int .i64 0, .slice none 0 0] _ rfl (range_4 (by go_cell) (by go_cell) (by go_cell) (by go_cell)) Try.underlying26 rfl (by kernel_rfl)) rfl ?_
  exact ⟨_, rfl, World.ownsRow_nil _ _ _ _, by exact (((HBW.out.setCell (p := ⟨w.heap.size + 2, 0, none⟩) (by simp) _).setCell (p := ⟨w.heap.size + 2, 1, none⟩) (by simp) _).setCell (p := ⟨w.heap.size + 2, 2, none⟩) (by simp) _).setCell (p := ⟨w.heap.size + 2, 3, none⟩) (by simp) _⟩
theorem all_of_c (A : Option Addr) (zs : List Int) (n c : Nat) (hn : zs.length = n) (hn6 : n ≤ 1000000) (hz : I32s zs) (x0 x1 x2 : Value) (K S P O Z Y : Int) (WA BA : Option Addr) (nW cW nB cB : Nat) (m1 s1 z1 m2 s2 z2 lo hi : Int) (hnb : NBd Z Y m1 z1 m2 z2 lo hi) (hq : rightB m1 s1 = true) (w : World) (hr : Kit.Rd w w.heap.size A (I32v zs)) :
    Calls Try.prog 27 #[.slice A n c, .agg #[.int .i32 m1, .int .i64 s1, .int .i8 z1], .int .i8 lo, .int .i8 hi] w (fun e w' => ∃ v, e = .returned v ∧ w'.ownsRow w.heap.size 27 1 v n (I8s (zs.map fun a => heldZ a m1 s1 z1 lo hi)) ∧ Below w.heap.size w w') := by
  obtain ⟨-, -, ⟨hm3, hm1⟩, ⟨hz1, hz2⟩, -, -, ⟨hl1, hl2⟩, ⟨hh1, hh2⟩⟩ := hnb
  subst hn
  exact all_yes A zs c m1 s1 z1 lo hi hq hn6 hz hm3 hm1 hz1 hz2 hl1 hl2 hh1 hh2 _ rfl w hr
set_option maxRecDepth 100000 in
set_option maxHeartbeats 8000000 in
theorem aput_yes (H W C : Int) (A : Option Addr) (zs : List Int) (n c : Nat) (hn : zs.length = n) (hn6 : n ≤ 1000000) (hz : I32s zs) (x0 x1 x2 : Value) (K S P O Z Y : Int) (WA BA : Option Addr) (nW cW nB cB : Nat) (m1 s1 z1 m2 s2 z2 lo hi : Int) (hnb : NBd Z Y m1 z1 m2 z2 lo hi) (h1 : tensB H W C n = true) (hq : rightB m1 s1 = true) (w : World) (hr : Kit.Rd w w.heap.size A (I32v zs)) :
    Calls Try.prog 16 #[.agg #[.int .i64 H, .int .i64 W, .int .i64 C, .slice A n c], .agg #[x0, x1, x2, .int .i64 K, .int .i64 S, .int .i64 P, .int .i64 O, .int .i8 Z, .int .i8 Y, .slice WA nW cW, .slice BA nB cB, .int .i32 m1, .int .i64 s1, .int .i8 z1, .int .i32 m2, .int .i64 s2, .int .i8 z2, .int .i8 lo, .int .i8 hi]] w (MadeT w H W C n (zs.map fun a => heldZ a m1 s1 z1 lo hi) (.int .i64 0)) := by
  have HT1 := Lib.hid h1
  have HQ := Lib.hid hq
  have HN := Lib.hid hn
  have HZ := Lib.hid hz
  have HNB := Lib.hid hnb
  have HRA := Lib.hid hr
  clear h1 hq hn hz hnb hr
  go_enter Try.func16, Try.ntmps16
  go_wp2_with (first
  | (go_at_call 26
     have hal : Below w.heap.size w (((w.alloc (.cells #[.int .i64 H, .int .i64 W, .int .i64 C, .slice A n c] 50)).alloc (.cells #[x0, x1, x2, .int .i64 K, .int .i64 S, .int .i64 P, .int .i64 O, .int .i8 Z, .int .i8 Y, .slice WA nW cW, .slice BA nB cB, .int .i32 m1, .int .i64 s1, .int .i8 z1, .int .i32 m2, .int .i64 s2, .int .i8 z2, .int .i8 lo, .int .i8 hi] 32)).alloc (.cells #[.int .i64 0, .int .i64 0, .int .i64 0, .slice none 0 0] 26)) := (((Below.refl _ _).alloc (by first | exact Nat.le_refl _ | (simp; done) | (simp; omega)) _).alloc (by first | exact Nat.le_refl _ | (simp; done) | (simp; omega)) _).alloc (by first | exact Nat.le_refl _ | (simp; done) | (simp; omega)) _
     refine (rsums_to H W C A n c true HT1.out _).mono ?_
     rintro e w1 ⟨rfl, hb⟩
     have hh : Below w.heap.size w w1 := hal.trans (hb.mono hal.size)
     have qTA := (boxNew H W C A n c 50) w
     try simp only [World.size_alloc] at qTA
     have TA := Lib.hid ((qTA.below (B' := w.heap.size + 1) (by omega) ((((Below.refl _ _).alloc (by first | exact Nat.le_refl _ | (simp; done) | (simp; omega)) _).alloc (by first | exact Nat.le_refl _ | (simp; done) | (simp; omega)) _).mono (by simp))).below (by first | (simp; done) | (simp; omega)) hb)
     have yTA : w.heap.size < w1.heap.size := by have := hb.size; simp at this; omega
     clear qTA
     have qTN := (NodeAt.new x0 x1 x2 (.int .i8 Y) (.int .i32 m1) (.int .i64 s1) (.int .i8 z1) (.int .i32 m2) (.int .i64 s2) (.int .i8 z2) (.int .i8 lo) (.int .i8 hi) K S P O Z WA BA nW cW nB cB 32) (w.alloc (.cells #[.int .i64 H, .int .i64 W, .int .i64 C, .slice A n c] 50))
     try simp only [World.size_alloc] at qTN
     have TN := Lib.hid ((qTN.below (B' := w.heap.size + 2) (by omega) (((Below.refl _ _).alloc (by first | exact Nat.le_refl _ | (simp; done) | (simp; omega)) _).mono (by simp))).below (by first | (simp; done) | (simp; omega)) hb)
     have yTN : w.heap.size + 1 < w1.heap.size := by have := hb.size; simp at this; omega
     clear qTN
     have qFR := (freshNew 26) ((w.alloc (.cells #[.int .i64 H, .int .i64 W, .int .i64 C, .slice A n c] 50)).alloc (.cells #[x0, x1, x2, .int .i64 K, .int .i64 S, .int .i64 P, .int .i64 O, .int .i8 Z, .int .i8 Y, .slice WA nW cW, .slice BA nB cB, .int .i32 m1, .int .i64 s1, .int .i8 z1, .int .i32 m2, .int .i64 s2, .int .i8 z2, .int .i8 lo, .int .i8 hi] 32))
     try simp only [World.size_alloc] at qFR
     have FR := Lib.hid (qFR.below (by first | (simp; done) | (simp; omega)) hb)
     have yFR : w.heap.size + 2 < w1.heap.size := by have := hb.size; simp at this; omega
     clear qFR
     replace HRA := Lib.hid ((HRA.out.below hh).more hh.size)
     have HBW : Hid (Below w.heap.size w w1) := Lib.hid hh
     obtain ⟨tap0, tap1, tap2, tap3⟩ := TA.out
     have n11 := TN.out.at 11 _ rfl
     have n12 := TN.out.at 12 _ rfl
     have n13 := TN.out.at 13 _ rfl
     clear hb hh hal)
  | (go_at_call 19
     have hal : Below w1.heap.size w1 w1 := Below.refl _ _
     refine (isRight_to _ _ _ _).mono ?_
     rintro e w2 ⟨rfl, hb⟩
     have hh : Below w1.heap.size w1 w2 := hal.trans (hb.mono hal.size)
     replace TA := Lib.hid (TA.out.below yTA hh)
     replace yTA := Nat.lt_of_lt_of_le yTA hh.size
     replace TN := Lib.hid (TN.out.below yTN hh)
     replace yTN := Nat.lt_of_lt_of_le yTN hh.size
     replace FR := Lib.hid (FR.out.below yFR hh)
     replace yFR := Nat.lt_of_lt_of_le yFR hh.size
     replace HRA := Lib.hid ((HRA.out.below hh).more hh.size)
     replace HBW := Lib.hid (HBW.out.trans (hh.mono HBW.out.size))
     clear tap0 tap1 tap2 tap3 n11 n12 n13
     rw [HQ.out]
     obtain ⟨tap0, tap1, tap2, tap3⟩ := TA.out
     have n11 := TN.out.at 11 _ rfl
     have n12 := TN.out.at 12 _ rfl
     have n13 := TN.out.at 13 _ rfl
     clear hb hh hal))
  clear tap0 tap1 tap2 tap3 n11 n12 n13
  refine wp_region_held_drew (S := fun w' => BoxAt w.heap.size H W C A n c w' ∧ NodeAt (w.heap.size + 1) x0 x1 x2 (.int .i8 Y) (.int .i32 m1) (.int .i64 s1) (.int .i8 z1) (.int .i32 m2) (.int .i64 s2) (.int .i8 z2) (.int .i8 lo) (.int .i8 hi) K S P O Z WA BA nW cW nB cB w') (by kernel_rfl) ⟨TA.out, TN.out⟩ (fun hHeld => ?_)
  replace HBW : Hid (Below w.heap.size w w2.drew) := Lib.hid HBW.out.drew
  replace HRA : Hid (Kit.Rd w2.drew w2.drew.heap.size A (I32v zs)) := Lib.hid (HRA.out.below ((Below.refl _ _).drew))
  replace FR : Hid (FreshT (w.heap.size + 2) w2.drew) := FR
  replace yFR : w.heap.size + 2 < w2.drew.heap.size := yFR
  replace TA : Hid (BoxAt w.heap.size H W C A n c w2.drew) := TA
  replace TN : Hid (NodeAt (w.heap.size + 1) x0 x1 x2 (.int .i8 Y) (.int .i32 m1) (.int .i64 s1) (.int .i8 z1) (.int .i32 m2) (.int .i64 s2) (.int .i8 z2) (.int .i8 lo) (.int .i8 hi) K S P O Z WA BA nW cW nB cB w2.drew) := TN
  generalize w2.drew = V1 at HBW HRA FR yFR TA TN hHeld ⊢
  refine wpAnyH_take (i := 0) (oi := ({ dst := some 15, op := Op.fieldAddr 50 (Operand.tmp 2) 0, type := 0, pos := "act.go:65", after := #[], guard := none } : Oper)) (v := ?_) rfl (by kernel_rfl) (by kernel_rfl) (by kernel_rfl) (fun _ _ _ h => h) (Or.inl ⟨by rfl, ?_⟩) (by assumption) ?_
  rotate_left
  · intro wS hSw
    first
      | (go_simp; done)
      | (go_simp; with_reducible rfl)
  try simp only [Act.put, List.setIfInBounds_toArray, List.set_cons_zero, List.set_cons_succ]
  refine wpAnyH_take (i := 1) (oi := ({ dst := some 16, op := Op.load 23 (Operand.tmp 15), type := 23, pos := "act.go:65", after := #[{ on := 0, ground := Ground.data }], guard := none } : Oper)) (v := ?_) rfl (by kernel_rfl) (by kernel_rfl) (by kernel_rfl) (fun _ _ _ h => h) (Or.inl ⟨by rfl, ?_⟩) (by assumption) ?_
  rotate_left
  · intro wS hSw
    obtain ⟨hq1, hq2⟩ := hSw
    obtain ⟨s1, s2, s3, s4⟩ := hq1; clear hq2
    first
      | (go_simp; done)
      | (go_simp; with_reducible rfl)
  try simp only [Act.put, List.setIfInBounds_toArray, List.set_cons_zero, List.set_cons_succ]
  refine wpAnyH_take (i := 2) (oi := ({ dst := some 17, op := Op.fieldAddr 50 (Operand.tmp 2) 1, type := 0, pos := "act.go:65", after := #[], guard := none } : Oper)) (v := ?_) rfl (by kernel_rfl) (by kernel_rfl) (by kernel_rfl) (fun _ _ _ h => h) (Or.inl ⟨by rfl, ?_⟩) (by assumption) ?_
  rotate_left
  · intro wS hSw
    first
      | (go_simp; done)
      | (go_simp; with_reducible rfl)
  try simp only [Act.put, List.setIfInBounds_toArray, List.set_cons_zero, List.set_cons_succ]
  refine wpAnyH_take (i := 3) (oi := ({ dst := some 18, op := Op.load 28 (Operand.tmp 17), type := 28, pos := "act.go:65", after := #[{ on := 2, ground := Ground.data }], guard := none } : Oper)) (v := ?_) rfl (by kernel_rfl) (by kernel_rfl) (by kernel_rfl) (fun _ _ _ h => h) (Or.inl ⟨by rfl, ?_⟩) (by assumption) ?_
  rotate_left
  · intro wS hSw
    obtain ⟨hq1, hq2⟩ := hSw
    obtain ⟨s1, s2, s3, s4⟩ := hq1; clear hq2
    first
      | (go_simp; done)
      | (go_simp; with_reducible rfl)
  try simp only [Act.put, List.setIfInBounds_toArray, List.set_cons_zero, List.set_cons_succ]
  refine wpAnyH_take (i := 4) (oi := ({ dst := some 19, op := Op.fieldAddr 32 (Operand.tmp 3) 11, type := 0, pos := "act.go:65", after := #[], guard := none } : Oper)) (v := ?_) rfl (by kernel_rfl) (by kernel_rfl) (by kernel_rfl) (fun _ _ _ h => h) (Or.inl ⟨by rfl, ?_⟩) (by assumption) ?_
  rotate_left
  · intro wS hSw
    first
      | (go_simp; done)
      | (go_simp; with_reducible rfl)
  try simp only [Act.put, List.setIfInBounds_toArray, List.set_cons_zero, List.set_cons_succ]
  refine wpAnyH_take (i := 5) (oi := ({ dst := some 20, op := Op.load 30 (Operand.tmp 19), type := 30, pos := "act.go:65", after := #[{ on := 4, ground := Ground.data }], guard := none } : Oper)) (v := ?_) rfl (by kernel_rfl) (by kernel_rfl) (by kernel_rfl) (fun _ _ _ h => h) (Or.inl ⟨by rfl, ?_⟩) (by assumption) ?_
  rotate_left
  · intro wS hSw
    obtain ⟨hq1, hq2⟩ := hSw
    have q11 := hq2.at 11 _ rfl; have q12 := hq2.at 12 _ rfl; have q13 := hq2.at 13 _ rfl; clear hq1 hq2
    first
      | (go_simp; done)
      | (go_simp; with_reducible rfl)
  try simp only [Act.put, List.setIfInBounds_toArray, List.set_cons_zero, List.set_cons_succ]
  refine wpAnyH_take (i := 6) (oi := ({ dst := some 21, op := Op.fieldAddr 32 (Operand.tmp 3) 13, type := 0, pos := "act.go:65", after := #[], guard := none } : Oper)) (v := ?_) rfl (by kernel_rfl) (by kernel_rfl) (by kernel_rfl) (fun _ _ _ h => h) (Or.inl ⟨by rfl, ?_⟩) (by assumption) ?_
  rotate_left
  · intro wS hSw
    first
      | (go_simp; done)
      | (go_simp; with_reducible rfl)
  try simp only [Act.put, List.setIfInBounds_toArray, List.set_cons_zero, List.set_cons_succ]
  refine wpAnyH_take (i := 7) (oi := ({ dst := some 22, op := Op.load 27 (Operand.tmp 21), type := 27, pos := "act.go:65", after := #[{ on := 6, ground := Ground.data }], guard := none } : Oper)) (v := ?_) rfl (by kernel_rfl) (by kernel_rfl) (by kernel_rfl) (fun _ _ _ h => h) (Or.inl ⟨by rfl, ?_⟩) (by assumption) ?_
  rotate_left
  · intro wS hSw
    obtain ⟨hq1, hq2⟩ := hSw
    have q17 := hq2.at 17 _ rfl; clear hq1 hq2
    first
      | (go_simp; done)
      | (go_simp; with_reducible rfl)
  try simp only [Act.put, List.setIfInBounds_toArray, List.set_cons_zero, List.set_cons_succ]
  refine wpAnyH_take (i := 8) (oi := ({ dst := some 23, op := Op.fieldAddr 32 (Operand.tmp 3) 14, type := 0, pos := "act.go:65", after := #[], guard := none } : Oper)) (v := ?_) rfl (by kernel_rfl) (by kernel_rfl) (by kernel_rfl) (fun _ _ _ h => h) (Or.inl ⟨by rfl, ?_⟩) (by assumption) ?_
  rotate_left
  · intro wS hSw
    first
      | (go_simp; done)
      | (go_simp; with_reducible rfl)
  try simp only [Act.put, List.setIfInBounds_toArray, List.set_cons_zero, List.set_cons_succ]
  refine wpAnyH_take (i := 9) (oi := ({ dst := some 24, op := Op.load 27 (Operand.tmp 23), type := 27, pos := "act.go:65", after := #[{ on := 8, ground := Ground.data }], guard := none } : Oper)) (v := ?_) rfl (by kernel_rfl) (by kernel_rfl) (by kernel_rfl) (fun _ _ _ h => h) (Or.inl ⟨by rfl, ?_⟩) (by assumption) ?_
  rotate_left
  · intro wS hSw
    obtain ⟨hq1, hq2⟩ := hSw
    have q18 := hq2.at 18 _ rfl; clear hq1 hq2
    first
      | (go_simp; done)
      | (go_simp; with_reducible rfl)
  try simp only [Act.put, List.setIfInBounds_toArray, List.set_cons_zero, List.set_cons_succ]
  refine wpAnyH_ready (rs := [10]) (by kernel_rfl) (by simp) ?_
  refine AllReadyH.cons (o := ({ dst := some 25, op := Op.call { callee := Callee.value (Operand.func 27), args := #[Operand.tmp 18, Operand.tmp 20, Operand.tmp 22, Operand.tmp 24], argTypes := #[28, 30, 27, 27] }, type := 24, pos := "act.go:65", after := #[{ on := 3, ground := Ground.data }, { on := 5, ground := Ground.data }, { on := 7, ground := Ground.data }, { on := 9, ground := Ground.data }], guard := none } : Oper)) rfl (fun Kq hK => ?_) (AllReadyH.nil)
  go_simp
  go_at_call 27
  refine (all_of_c A zs n c HN.out hn6 HZ.out x0 x1 x2 K S P O Z Y WA BA nW cW nB cB m1 s1 z1 m2 s2 z2 lo hi HNB.out HQ.out V1 HRA.out).mono ?_
  rintro e V2 ⟨v3, rfl, ho3, hb1⟩
  obtain ⟨A3, c3, rfl, -, -, -⟩ := Kit.own_rd ho3
  have HO3 := Lib.hid ho3
  have HGE : Hid (w.heap.size ≤ V1.heap.size) := Lib.hid HBW.out.size
  have HGT : Hid (w.heap.size + 2 < V1.heap.size) := Lib.hid yFR
  replace FR := Lib.hid (FR.out.below yFR hb1)
  replace TA := Lib.hid (TA.out.below (Nat.lt_of_le_of_lt (Nat.le_add_right _ 2) yFR) hb1)
  replace TN := Lib.hid (TN.out.below (Nat.lt_of_le_of_lt (Nat.le_succ _) yFR) hb1)
  replace HBW := Lib.hid (HBW.out.trans (hb1.mono HBW.out.size))
  replace yFR := Nat.lt_of_lt_of_le yFR hb1.size
  clear hHeld hb1 ho3
  dsimp only
  refine hK.out _ _ ?_ (fun hHeld => ?_)
  · exact ⟨TA.out, TN.out⟩
  clear hK Kq
  try simp only [Act.put, List.setIfInBounds_toArray, List.set_cons_zero, List.set_cons_succ]
  refine wpAnyH_take (i := 11) (oi := ({ dst := some 26, op := Op.build 26 #[(0, Operand.tmp 16), (1, Operand.tmp 25)], type := 26, pos := "act.go:65", after := #[{ on := 1, ground := Ground.data }, { on := 10, ground := Ground.data }], guard := none } : Oper)) (v := ?_) rfl (by kernel_rfl) (by kernel_rfl) (by kernel_rfl) (fun _ _ _ h => h) (Or.inl ⟨by rfl, ?_⟩) (by assumption) ?_
  rotate_left
  · intro wS hSw
    first
      | (go_simp; done)
      | (go_simp; with_reducible rfl)
  try simp only [Act.put, List.setIfInBounds_toArray, List.set_cons_zero, List.set_cons_succ]
  obtain ⟨⟨z0, z1', z2', z3⟩, z4, z5, z6, z7⟩ := FR.out
  have hb9 : ∀ x y z u : Value, Below (w.heap.size + 2) V2 ((((V2.setCell ⟨w.heap.size + 2, 0, none⟩ x).setCell ⟨w.heap.size + 2, 1, none⟩ y).setCell ⟨w.heap.size + 2, 2, none⟩ z).setCell ⟨w.heap.size + 2, 3, none⟩ u) := fun x y z u => (((((Below.refl _ _).setCell (p := ⟨w.heap.size + 2, 0, none⟩) (Nat.le_refl _) _).setCell (p := ⟨w.heap.size + 2, 1, none⟩) (Nat.le_refl _) _).setCell (p := ⟨w.heap.size + 2, 2, none⟩) (Nat.le_refl _) _).setCell (p := ⟨w.heap.size + 2, 3, none⟩) (Nat.le_refl _) _)
  have HB9 := Lib.hid hb9
  clear hb9
  refine wpAnyH_ready (rs := [12]) (by kernel_rfl) (by simp) ?_
  refine AllReadyH.cons (o := ({ dst := none, op := Op.store 26 (Operand.tmp 4) (Operand.tmp 26), type := 0, pos := "act.go:65", after := #[{ on := 11, ground := Ground.data }, { on := 10, ground := Ground.chain }, { on := 0, ground := Ground.phase }, { on := 1, ground := Ground.phase }, { on := 2, ground := Ground.phase }, { on := 3, ground := Ground.phase }, { on := 4, ground := Ground.phase }, { on := 5, ground := Ground.phase }, { on := 6, ground := Ground.phase }, { on := 7, ground := Ground.phase }, { on := 8, ground := Ground.phase }, { on := 9, ground := Ground.phase }, { on := 10, ground := Ground.phase }, { on := 11, ground := Ground.phase }], guard := none } : Oper)) rfl (fun Kq hK => ?_) (AllReadyH.nil)
  go_simp
  refine hK.out _ _ ?_ (fun hHeld => ?_)
  · exact ⟨TA.out.below (by omega) (HB9.out _ _ _ _), TN.out.below (by omega) (HB9.out _ _ _ _)⟩
  clear hK Kq
  try simp only [Act.put, List.setIfInBounds_toArray, List.set_cons_zero, List.set_cons_succ]
  refine wpAnyH_take (i := 13) (oi := ({ dst := some 5, op := Op.assign (Operand.const (Value.int IntKind.i64 0)), type := 34, pos := "act.go:65", after := #[{ on := 12, ground := Ground.chain }, { on := 0, ground := Ground.phase }, { on := 1, ground := Ground.phase }, { on := 2, ground := Ground.phase }, { on := 3, ground := Ground.phase }, { on := 4, ground := Ground.phase }, { on := 5, ground := Ground.phase }, { on := 6, ground := Ground.phase }, { on := 7, ground := Ground.phase }, { on := 8, ground := Ground.phase }, { on := 9, ground := Ground.phase }, { on := 10, ground := Ground.phase }, { on := 11, ground := Ground.phase }, { on := 12, ground := Ground.phase }], guard := none } : Oper)) (v := ?_) rfl (by kernel_rfl) (by kernel_rfl) (by kernel_rfl) (fun _ _ _ h => h) (Or.inl ⟨by rfl, ?_⟩) (by assumption) ?_
  rotate_left
  · intro wS hSw
    first
      | (go_simp; done)
      | (go_simp; with_reducible rfl)
  try simp only [Act.put, List.setIfInBounds_toArray, List.set_cons_zero, List.set_cons_succ]
  refine wpAnyH_done (by kernel_rfl) ?_ _
  clear hHeld
  go_wp2_with fail
  refine bodyPost_ret (Kit.results_ct rfl _ _ (w.heap.size + 2) 0 [.int .i64 H, .int .i64 W, .int .i64 C, .slice A3 n c3] _ rfl (range_4 (by go_cell) (by go_cell) (by go_cell) (by go_cell)) Try.underlying26 rfl (by kernel_rfl)) rfl ?_
  refine ⟨_, rfl, Kit.own_base (own_set4 HO3.out ?_) ?_, ?_⟩
  any_goals (first | exact HGE.out | exact HGT.out | omega | (simp; done) | (simp; omega))
  exact (((HBW.out.setCell (p := ⟨w.heap.size + 2, 0, none⟩) (by simp) _).setCell (p := ⟨w.heap.size + 2, 1, none⟩) (by simp) _).setCell (p := ⟨w.heap.size + 2, 2, none⟩) (by simp) _).setCell (p := ⟨w.heap.size + 2, 3, none⟩) (by simp) _
end Go.Proofs.Ytpokeklphmfcnaa.CAct
