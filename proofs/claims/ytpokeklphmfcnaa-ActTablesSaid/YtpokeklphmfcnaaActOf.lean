/- Layer 21 (act), the code: Of. -/
import Derived.Test.YtpokeklphmfcnaaActEach
import Derived.Laws.MakeOwn
import Derived.Deep.CutRange
namespace Go.Proofs.Ytpokeklphmfcnaa.CAct
open Go Go.ChangeShapes Go.WideShapes Go.ChangeAt Go.RowKit Go.Deep
open Plain CSat CFix CShape CTensor CConv
set_option linter.unusedVariables false

set_option maxRecDepth 100000 in
set_option maxHeartbeats 4000000 in
theorem aof_bad (H W C : Int) (A : Option Addr) (n c : Nat) (x0 x1 x2 : Value) (K S P O Z Y : Int) (WA BA : Option Addr) (nW cW nB cB : Nat) (m1 s1 z1 m2 s2 z2 lo hi : Int) (h1 : tensB H W C n = false) (w : World) :
    Calls Try.prog 7 #[.agg #[.int .i64 H, .int .i64 W, .int .i64 C, .slice A n c], .agg #[x0, x1, x2, .int .i64 K, .int .i64 S, .int .i64 P, .int .i64 O, .int .i8 Z, .int .i8 Y, .slice WA nW cW, .slice BA nB cB, .int .i32 m1, .int .i64 s1, .int .i8 z1, .int .i32 m2, .int .i64 s2, .int .i8 z2, .int .i8 lo, .int .i8 hi]] w (MadeT w 0 0 0 0 [] (.int .i64 5)) := by
  have HT1 := Lib.hid h1
  clear h1
  go_enter Try.func7, Try.ntmps7
  go_wp2_with (first
  | (go_at_call 18
     have hal : Below w.heap.size w (((w.alloc (.cells #[.int .i64 H, .int .i64 W, .int .i64 C, .slice A n c] 26)).alloc (.cells #[x0, x1, x2, .int .i64 K, .int .i64 S, .int .i64 P, .int .i64 O, .int .i8 Z, .int .i8 Y, .slice WA nW cW, .slice BA nB cB, .int .i32 m1, .int .i64 s1, .int .i8 z1, .int .i32 m2, .int .i64 s2, .int .i8 z2, .int .i8 lo, .int .i8 hi] 32)).alloc (.cells #[.int .i64 0, .int .i64 0, .int .i64 0, .slice none 0 0] 26)) := (((Below.refl _ _).alloc (by first | exact Nat.le_refl _ | (simp; done) | (simp; omega)) _).alloc (by first | exact Nat.le_refl _ | (simp; done) | (simp; omega)) _).alloc (by first | exact Nat.le_refl _ | (simp; done) | (simp; omega)) _
     refine (right_to H W C A n c false HT1.out _).mono ?_
     rintro e w1 ⟨rfl, hb⟩
     have hh : Below w.heap.size w w1 := hal.trans (hb.mono hal.size)
     have qTA := (boxNew H W C A n c 26) w
     try simp only [World.size_alloc] at qTA
     have TA := Lib.hid ((qTA.below (B' := w.heap.size + 1) (by omega) ((((Below.refl _ _).alloc (by first | exact Nat.le_refl _ | (simp; done) | (simp; omega)) _).alloc (by first | exact Nat.le_refl _ | (simp; done) | (simp; omega)) _).mono (by simp))).below (by first | (simp; done) | (simp; omega)) hb)
     have yTA : w.heap.size < w1.heap.size := by have := hb.size; simp at this; omega
     clear qTA
     have qTN := (NodeAt.new x0 x1 x2 (.int .i8 Y) (.int .i32 m1) (.int .i64 s1) (.int .i8 z1) (.int .i32 m2) (.int .i64 s2) (.int .i8 z2) (.int .i8 lo) (.int .i8 hi) K S P O Z WA BA nW cW nB cB 32) (w.alloc (.cells #[.int .i64 H, .int .i64 W, .int .i64 C, .slice A n c] 26))
     try simp only [World.size_alloc] at qTN
     have TN := Lib.hid ((qTN.below (B' := w.heap.size + 2) (by omega) (((Below.refl _ _).alloc (by first | exact Nat.le_refl _ | (simp; done) | (simp; omega)) _).mono (by simp))).below (by first | (simp; done) | (simp; omega)) hb)
     have yTN : w.heap.size + 1 < w1.heap.size := by have := hb.size; simp at this; omega
     clear qTN
     have qFR := (freshNew 26) ((w.alloc (.cells #[.int .i64 H, .int .i64 W, .int .i64 C, .slice A n c] 26)).alloc (.cells #[x0, x1, x2, .int .i64 K, .int .i64 S, .int .i64 P, .int .i64 O, .int .i8 Z, .int .i8 Y, .slice WA nW cW, .slice BA nB cB, .int .i32 m1, .int .i64 s1, .int .i8 z1, .int .i32 m2, .int .i64 s2, .int .i8 z2, .int .i8 lo, .int .i8 hi] 32))
     try simp only [World.size_alloc] at qFR
     have FR := Lib.hid (qFR.below (by first | (simp; done) | (simp; omega)) hb)
     have yFR : w.heap.size + 2 < w1.heap.size := by have := hb.size; simp at this; omega
     clear qFR
     have HBW : Hid (Below w.heap.size w w1) := Lib.hid hh
     obtain ⟨⟨z0, z1, z2, z3⟩, z4, z5, z6, z7⟩ := FR.out
     obtain ⟨tap0, tap1, tap2, tap3⟩ := TA.out
     clear hb hh hal))
  refine bodyPost_ret (Kit.results_ct rfl _ _ (w.heap.size + 2) 0 [.int .i64 0, .int .i64 0, .int .i64 0, .slice none 0 0] _ rfl (range_4 (by go_cell) (by go_cell) (by go_cell) (by go_cell)) Try.underlying26 rfl (by kernel_rfl)) rfl ?_
  exact ⟨_, rfl, World.ownsRow_nil _ _ _ _, by exact (((HBW.out.setCell (p := ⟨w.heap.size + 2, 0, none⟩) (by simp) _).setCell (p := ⟨w.heap.size + 2, 1, none⟩) (by simp) _).setCell (p := ⟨w.heap.size + 2, 2, none⟩) (by simp) _).setCell (p := ⟨w.heap.size + 2, 3, none⟩) (by simp) _⟩
set_option maxRecDepth 100000 in
set_option maxHeartbeats 4000000 in
theorem aof_quant (H W C : Int) (A : Option Addr) (n c : Nat) (x0 x1 x2 : Value) (K S P O Z Y : Int) (WA BA : Option Addr) (nW cW nB cB : Nat) (m1 s1 z1 m2 s2 z2 lo hi : Int) (h1 : tensB H W C n = true) (hq : rightB m1 s1 = false) (w : World) :
    Calls Try.prog 7 #[.agg #[.int .i64 H, .int .i64 W, .int .i64 C, .slice A n c], .agg #[x0, x1, x2, .int .i64 K, .int .i64 S, .int .i64 P, .int .i64 O, .int .i8 Z, .int .i8 Y, .slice WA nW cW, .slice BA nB cB, .int .i32 m1, .int .i64 s1, .int .i8 z1, .int .i32 m2, .int .i64 s2, .int .i8 z2, .int .i8 lo, .int .i8 hi]] w (MadeT w 0 0 0 0 [] (.int .i64 7)) := by
  have HT1 := Lib.hid h1
  have HQ := Lib.hid hq
  clear h1 hq
  go_enter Try.func7, Try.ntmps7
  go_wp2_with (first
  | (go_at_call 18
     have hal : Below w.heap.size w (((w.alloc (.cells #[.int .i64 H, .int .i64 W, .int .i64 C, .slice A n c] 26)).alloc (.cells #[x0, x1, x2, .int .i64 K, .int .i64 S, .int .i64 P, .int .i64 O, .int .i8 Z, .int .i8 Y, .slice WA nW cW, .slice BA nB cB, .int .i32 m1, .int .i64 s1, .int .i8 z1, .int .i32 m2, .int .i64 s2, .int .i8 z2, .int .i8 lo, .int .i8 hi] 32)).alloc (.cells #[.int .i64 0, .int .i64 0, .int .i64 0, .slice none 0 0] 26)) := (((Below.refl _ _).alloc (by first | exact Nat.le_refl _ | (simp; done) | (simp; omega)) _).alloc (by first | exact Nat.le_refl _ | (simp; done) | (simp; omega)) _).alloc (by first | exact Nat.le_refl _ | (simp; done) | (simp; omega)) _
     refine (right_to H W C A n c true HT1.out _).mono ?_
     rintro e w1 ⟨rfl, hb⟩
     have hh : Below w.heap.size w w1 := hal.trans (hb.mono hal.size)
     have qTA := (boxNew H W C A n c 26) w
     try simp only [World.size_alloc] at qTA
     have TA := Lib.hid ((qTA.below (B' := w.heap.size + 1) (by omega) ((((Below.refl _ _).alloc (by first | exact Nat.le_refl _ | (simp; done) | (simp; omega)) _).alloc (by first | exact Nat.le_refl _ | (simp; done) | (simp; omega)) _).mono (by simp))).below (by first | (simp; done) | (simp; omega)) hb)
     have yTA : w.heap.size < w1.heap.size := by have := hb.size; simp at this; omega
     clear qTA
     have qTN := (NodeAt.new x0 x1 x2 (.int .i8 Y) (.int .i32 m1) (.int .i64 s1) (.int .i8 z1) (.int .i32 m2) (.int .i64 s2) (.int .i8 z2) (.int .i8 lo) (.int .i8 hi) K S P O Z WA BA nW cW nB cB 32) (w.alloc (.cells #[.int .i64 H, .int .i64 W, .int .i64 C, .slice A n c] 26))
     try simp only [World.size_alloc] at qTN
     have TN := Lib.hid ((qTN.below (B' := w.heap.size + 2) (by omega) (((Below.refl _ _).alloc (by first | exact Nat.le_refl _ | (simp; done) | (simp; omega)) _).mono (by simp))).below (by first | (simp; done) | (simp; omega)) hb)
     have yTN : w.heap.size + 1 < w1.heap.size := by have := hb.size; simp at this; omega
     clear qTN
     have qFR := (freshNew 26) ((w.alloc (.cells #[.int .i64 H, .int .i64 W, .int .i64 C, .slice A n c] 26)).alloc (.cells #[x0, x1, x2, .int .i64 K, .int .i64 S, .int .i64 P, .int .i64 O, .int .i8 Z, .int .i8 Y, .slice WA nW cW, .slice BA nB cB, .int .i32 m1, .int .i64 s1, .int .i8 z1, .int .i32 m2, .int .i64 s2, .int .i8 z2, .int .i8 lo, .int .i8 hi] 32))
     try simp only [World.size_alloc] at qFR
     have FR := Lib.hid (qFR.below (by first | (simp; done) | (simp; omega)) hb)
     have yFR : w.heap.size + 2 < w1.heap.size := by have := hb.size; simp at this; omega
     clear qFR
     have HBW : Hid (Below w.heap.size w w1) := Lib.hid hh
     obtain ⟨tap0, tap1, tap2, tap3⟩ := TA.out
     have n11 := TN.out.at 11 _ rfl
     have n12 := TN.out.at 12 _ rfl
     have n13 := TN.out.at 13 _ rfl
     clear hb hh hal)
  | (go_at_call 19
     have hal : Below w1.heap.size w1 w1 := Below.refl _ _
     refine (isRight_to _ _ _ _).mono ?_
     rintro e w2 ⟨rfl, hb⟩
     have hh : Below w1.heap.size w1 w2 := hal.trans (hb.mono hal.size)
     replace TA := Lib.hid (TA.out.below yTA hh)
     replace yTA := Nat.lt_of_lt_of_le yTA hh.size
     replace TN := Lib.hid (TN.out.below yTN hh)
     replace yTN := Nat.lt_of_lt_of_le yTN hh.size
     replace FR := Lib.hid (FR.out.below yFR hh)
     replace yFR := Nat.lt_of_lt_of_le yFR hh.size
     replace HBW := Lib.hid (HBW.out.trans (hh.mono HBW.out.size))
     clear tap0 tap1 tap2 tap3 n11 n12 n13
     rw [HQ.out]
     obtain ⟨⟨z0, z1, z2, z3⟩, z4, z5, z6, z7⟩ := FR.out
     obtain ⟨tap0, tap1, tap2, tap3⟩ := TA.out
     have n11 := TN.out.at 11 _ rfl
     have n12 := TN.out.at 12 _ rfl
     have n13 := TN.out.at 13 _ rfl
     clear hb hh hal))
  refine bodyPost_ret (Kit.results_ct rfl _ _ (w.heap.size + 2) 0 [.int .i64 0, .int .i64 0, .int .i64 0, .slice none 0 0] _ rfl (range_4 (by go_cell) (by go_cell) (by go_cell) (by go_cell)) Try.underlying26 rfl (by kernel_rfl)) rfl ?_
  exact ⟨_, rfl, World.ownsRow_nil _ _ _ _, by exact (((HBW.out.setCell (p := ⟨w.heap.size + 2, 0, none⟩) (by simp) _).setCell (p := ⟨w.heap.size + 2, 1, none⟩) (by simp) _).setCell (p := ⟨w.heap.size + 2, 2, none⟩) (by simp) _).setCell (p := ⟨w.heap.size + 2, 3, none⟩) (by simp) _⟩
set_option maxRecDepth 100000 in
set_option maxHeartbeats 4000000 in
theorem aof_yes (H W C : Int) (A : Option Addr) (n c : Nat) (zs : List Int) (hn : zs.length = n) (hn6 : n ≤ 1000000) (hz : I8b zs) (x0 x1 x2 : Value) (K S P O Z Y : Int) (WA BA : Option Addr) (nW cW nB cB : Nat) (m1 s1 z1 m2 s2 z2 lo hi : Int) (hnb : NBd Z Y m1 z1 m2 z2 lo hi) (h1 : tensB H W C n = true) (hq : rightB m1 s1 = true) (F : Nat → Int) (hF : ∀ k, F k = heldZ (zs.getD k 0 - Z) m1 s1 z1 lo hi) (w : World) (hr : Kit.Rd w w.heap.size A (I8s zs)) :
    Calls Try.prog 7 #[.agg #[.int .i64 H, .int .i64 W, .int .i64 C, .slice A n c], .agg #[x0, x1, x2, .int .i64 K, .int .i64 S, .int .i64 P, .int .i64 O, .int .i8 Z, .int .i8 Y, .slice WA nW cW, .slice BA nB cB, .int .i32 m1, .int .i64 s1, .int .i8 z1, .int .i32 m2, .int .i64 s2, .int .i8 z2, .int .i8 lo, .int .i8 hi]] w (MadeT w H W C n (rowL F n) (.int .i64 0)) := by
  have HT1 := Lib.hid h1
  have HQ := Lib.hid hq
  have HN := Lib.hid hn
  have HZ := Lib.hid hz
  have HNB := Lib.hid hnb
  have HF := Lib.hid hF
  have HRA := Lib.hid hr
  clear h1 hq hn hz hnb hF hr
  go_enter Try.func7, Try.ntmps7
  go_wp2_with (first
  | (go_at_call 18
     have hal : Below w.heap.size w (((w.alloc (.cells #[.int .i64 H, .int .i64 W, .int .i64 C, .slice A n c] 26)).alloc (.cells #[x0, x1, x2, .int .i64 K, .int .i64 S, .int .i64 P, .int .i64 O, .int .i8 Z, .int .i8 Y, .slice WA nW cW, .slice BA nB cB, .int .i32 m1, .int .i64 s1, .int .i8 z1, .int .i32 m2, .int .i64 s2, .int .i8 z2, .int .i8 lo, .int .i8 hi] 32)).alloc (.cells #[.int .i64 0, .int .i64 0, .int .i64 0, .slice none 0 0] 26)) := (((Below.refl _ _).alloc (by first | exact Nat.le_refl _ | (simp; done) | (simp; omega)) _).alloc (by first | exact Nat.le_refl _ | (simp; done) | (simp; omega)) _).alloc (by first | exact Nat.le_refl _ | (simp; done) | (simp; omega)) _
     refine (right_to H W C A n c true HT1.out _).mono ?_
     rintro e w1 ⟨rfl, hb⟩
     have hh : Below w.heap.size w w1 := hal.trans (hb.mono hal.size)
     have qTA := (boxNew H W C A n c 26) w
     try simp only [World.size_alloc] at qTA
     have TA := Lib.hid ((qTA.below (B' := w.heap.size + 1) (by omega) ((((Below.refl _ _).alloc (by first | exact Nat.le_refl _ | (simp; done) | (simp; omega)) _).alloc (by first | exact Nat.le_refl _ | (simp; done) | (simp; omega)) _).mono (by simp))).below (by first | (simp; done) | (simp; omega)) hb)
     have yTA : w.heap.size < w1.heap.size := by have := hb.size; simp at this; omega
     clear qTA
     have qTN := (NodeAt.new x0 x1 x2 (.int .i8 Y) (.int .i32 m1) (.int .i64 s1) (.int .i8 z1) (.int .i32 m2) (.int .i64 s2) (.int .i8 z2) (.int .i8 lo) (.int .i8 hi) K S P O Z WA BA nW cW nB cB 32) (w.alloc (.cells #[.int .i64 H, .int .i64 W, .int .i64 C, .slice A n c] 26))
     try simp only [World.size_alloc] at qTN
     have TN := Lib.hid ((qTN.below (B' := w.heap.size + 2) (by omega) (((Below.refl _ _).alloc (by first | exact Nat.le_refl _ | (simp; done) | (simp; omega)) _).mono (by simp))).below (by first | (simp; done) | (simp; omega)) hb)
     have yTN : w.heap.size + 1 < w1.heap.size := by have := hb.size; simp at this; omega
     clear qTN
     have qFR := (freshNew 26) ((w.alloc (.cells #[.int .i64 H, .int .i64 W, .int .i64 C, .slice A n c] 26)).alloc (.cells #[x0, x1, x2, .int .i64 K, .int .i64 S, .int .i64 P, .int .i64 O, .int .i8 Z, .int .i8 Y, .slice WA nW cW, .slice BA nB cB, .int .i32 m1, .int .i64 s1, .int .i8 z1, .int .i32 m2, .int .i64 s2, .int .i8 z2, .int .i8 lo, .int .i8 hi] 32))
     try simp only [World.size_alloc] at qFR
     have FR := Lib.hid (qFR.below (by first | (simp; done) | (simp; omega)) hb)
     have yFR : w.heap.size + 2 < w1.heap.size := by have := hb.size; simp at this; omega
     clear qFR
     replace HRA := Lib.hid ((HRA.out.below hh).more hh.size)
     have HBW : Hid (Below w.heap.size w w1) := Lib.hid hh
     obtain ⟨tap0, tap1, tap2, tap3⟩ := TA.out
     have n11 := TN.out.at 11 _ rfl
     have n12 := TN.out.at 12 _ rfl
     have n13 := TN.out.at 13 _ rfl
     clear hb hh hal)
  | (go_at_call 19
     have hal : Below w1.heap.size w1 w1 := Below.refl _ _
     refine (isRight_to _ _ _ _).mono ?_
     rintro e w2 ⟨rfl, hb⟩
     have hh : Below w1.heap.size w1 w2 := hal.trans (hb.mono hal.size)
     replace TA := Lib.hid (TA.out.below yTA hh)
     replace yTA := Nat.lt_of_lt_of_le yTA hh.size
     replace TN := Lib.hid (TN.out.below yTN hh)
     replace yTN := Nat.lt_of_lt_of_le yTN hh.size
     replace FR := Lib.hid (FR.out.below yFR hh)
     replace yFR := Nat.lt_of_lt_of_le yFR hh.size
     replace HRA := Lib.hid ((HRA.out.below hh).more hh.size)
     replace HBW := Lib.hid (HBW.out.trans (hh.mono HBW.out.size))
     clear tap0 tap1 tap2 tap3 n11 n12 n13
     rw [HQ.out]
     obtain ⟨tap0, tap1, tap2, tap3⟩ := TA.out
     have n11 := TN.out.at 11 _ rfl
     have n12 := TN.out.at 12 _ rfl
     have n13 := TN.out.at 13 _ rfl
     clear hb hh hal)
  | (go_at_call 20
     have HBW2 := HBW
     have YFR2 := Lib.hid yFR
     have hal : Below w2.heap.size w2 w2 := Below.refl _ _
     refine (each_of H W C A zs n c HN.out hn6 HZ.out (w.heap.size + 1) x0 x1 x2 K S P O Z Y WA BA nW cW nB cB m1 s1 z1 m2 s2 z2 lo hi HNB.out F HF.out _ TN.out yTN HRA.out).mono ?_
     rintro e w3 ⟨v3, rfl, ho3, hb⟩
     have hh : Below w2.heap.size w2 w3 := hal.trans (hb.mono hal.size)
     replace TA := Lib.hid (TA.out.below yTA hh)
     replace yTA := Nat.lt_of_lt_of_le yTA hh.size
     replace TN := Lib.hid (TN.out.below yTN hh)
     replace yTN := Nat.lt_of_lt_of_le yTN hh.size
     replace FR := Lib.hid (FR.out.below yFR hh)
     replace yFR := Nat.lt_of_lt_of_le yFR hh.size
     replace HRA := Lib.hid ((HRA.out.below hh).more hh.size)
     replace HBW := Lib.hid (HBW.out.trans (hh.mono HBW.out.size))
     clear tap0 tap1 tap2 tap3 n11 n12 n13
     obtain ⟨⟨z0, z1, z2, z3⟩, z4, z5, z6, z7⟩ := FR.out
     have HGE : Hid (w.heap.size ≤ w2.heap.size) := Lib.hid HBW2.out.size
     have HGT : Hid (w.heap.size + 2 < w2.heap.size) := Lib.hid YFR2.out
     obtain ⟨A3, c3, rfl, -, -, -⟩ := Kit.own_rd ho3
     have HO3 := Lib.hid ho3
     clear ho3
     obtain ⟨tap0, tap1, tap2, tap3⟩ := TA.out
     have n11 := TN.out.at 11 _ rfl
     have n12 := TN.out.at 12 _ rfl
     have n13 := TN.out.at 13 _ rfl
     clear hb hh hal))
  refine bodyPost_ret (Kit.results_ct rfl _ _ (w.heap.size + 2) 0 [.int .i64 H, .int .i64 W, .int .i64 C, .slice A3 n c3] _ rfl (range_4 (by go_cell) (by go_cell) (by go_cell) (by go_cell)) Try.underlying26 rfl (by kernel_rfl)) rfl ?_
  refine ⟨_, rfl, Kit.own_base (own_set4 HO3.out ?_) ?_, ?_⟩
  any_goals (first | exact HGE.out | exact HGT.out | omega | (simp; done) | (simp; omega))
  exact (((HBW.out.setCell (p := ⟨w.heap.size + 2, 0, none⟩) (by simp) _).setCell (p := ⟨w.heap.size + 2, 1, none⟩) (by simp) _).setCell (p := ⟨w.heap.size + 2, 2, none⟩) (by simp) _).setCell (p := ⟨w.heap.size + 2, 3, none⟩) (by simp) _
end Go.Proofs.Ytpokeklphmfcnaa.CAct
