/- JoinTurned: with scales and zeros exchanged the second tensor and the first one make what both made; the call returns true and leaves its arguments as they were. No condition. -/
import Derived.Test.YtncknalipjaccaaJoinAll
namespace Go.Proofs.Ytncknalipjaccaa.lawJoinTurned
open Go Go.ChangeShapes Go.WideShapes Go.ChangeAt Go.RowKit Go.Deep
open Plain CSat CFix CShape CTensor CConv CJoin
set_option linter.unusedVariables false

theorem range_set {w : World} {B : Nat} {l : List Value} (h : w.rangeAt B 0 l) (i : Nat) (v : Value) : (w.setCell ⟨B, i, none⟩ v).rangeAt B 0 (l.set i v) := fun j u hj => by
  by_cases e : i = j
  · subst e
    have hl : i < l.length := by
      have := (List.getElem?_eq_some_iff.1 hj).1
      simpa using this
    rw [List.getElem?_set_self hl] at hj
    cases hj
    have h1 := h i l[i] (List.getElem?_eq_getElem hl)
    rw [Nat.zero_add] at h1 ⊢
    exact World.cell?_setCell_same' _ _ _ (by rw [h1]; rfl)
  · rw [List.getElem?_set_ne e] at hj
    rw [World.cell?_setCell_other _ _ _ _ (fun e' => by injection e'; omega)]
    exact h j u hj
set_option maxRecDepth 100000 in
set_option maxHeartbeats 4000000 in
theorem walk_no {w : World} (H W C H1 W1 C1 : Int) (A B : Option Addr) (n m c d : Nat) (x0 x1 x2 : Value) (K S P O Z Y : Int) (WA BA : Option Addr) (nW cW nB cB : Nat) (m1 s1 z1 m2 s2 z2 lo hi : Int)  (hfew : ¬ (n ≤ 1024 ∧ m ≤ 1024)) :
    Calls Try.prog 4 #[.agg #[.int .i64 H, .int .i64 W, .int .i64 C, .slice A n c], .agg #[.int .i64 H1, .int .i64 W1, .int .i64 C1, .slice B m d], .agg #[x0, x1, x2, .int .i64 K, .int .i64 S, .int .i64 P, .int .i64 O, .int .i8 Z, .int .i8 Y, .slice WA nW cW, .slice BA nB cB, .int .i32 m1, .int .i64 s1, .int .i8 z1, .int .i32 m2, .int .i64 s2, .int .i8 z2, .int .i8 lo, .int .i8 hi]] w fun e w' => e = .returned (.bool true) ∧ Below w.heap.size w w' := by
  have hal : Below w.heap.size w (((w.alloc (.cells #[.int .i64 H, .int .i64 W, .int .i64 C, .slice A n c] 26)).alloc (.cells #[.int .i64 H1, .int .i64 W1, .int .i64 C1, .slice B m d] 26)).alloc (.cells #[x0, x1, x2, .int .i64 K, .int .i64 S, .int .i64 P, .int .i64 O, .int .i8 Z, .int .i8 Y, .slice WA nW cW, .slice BA nB cB, .int .i32 m1, .int .i64 s1, .int .i8 z1, .int .i32 m2, .int .i64 s2, .int .i8 z2, .int .i8 lo, .int .i8 hi] 32)) := (((Below.refl _ _).alloc (Nat.le_refl _) _).alloc (by simp) _).alloc (by simp; omega) _
  by_cases h1 : n ≤ 1024
  · have h2 : (m : Int) > 1024 := by omega
    have h3 : ¬ (n : Int) > 1024 := by omega
    go_enter Try.func4, Try.ntmps4
    go_wp2_with (go_at_call 6; (refine (known20 _).mono ?_); rintro e w4 ⟨rfl, hb4⟩)
    go_ret
    exact ⟨rfl, hal.trans (hb4.mono hal.size)⟩
  · have h3 : (n : Int) > 1024 := by omega
    go_enter Try.func4, Try.ntmps4
    go_wp2_with (go_at_call 6; (refine (known20 _).mono ?_); rintro e w4 ⟨rfl, hb4⟩)
    go_ret
    exact ⟨rfl, hal.trans (hb4.mono hal.size)⟩
set_option maxRecDepth 100000 in
set_option maxHeartbeats 8000000 in
theorem walk_yes {w : World} (H W C H1 W1 C1 : Int) (A B : Option Addr) (n m c d : Nat) (x0 x1 x2 : Value) (K S P O Z Y : Int) (WA BA : Option Addr) (nW cW nB cB : Nat) (m1 s1 z1 m2 s2 z2 lo hi : Int) (zs ys : List Int) (hz : zs.length = n) (hy : ys.length = m) (bz : I8b zs) (by_ : I8b ys) (hnb : NBd Z Y m1 z1 m2 z2 lo hi) (hone : ∀ v ∈ [x0, x1, x2, .int .i64 K, .int .i64 S, .int .i64 P, .int .i64 O, .int .i8 Z, .int .i8 Y, .slice WA nW cW, .slice BA nB cB, .int .i32 m1, .int .i64 s1, .int .i8 z1, .int .i32 m2, .int .i64 s2, .int .i8 z2, .int .i8 lo, .int .i8 hi], v.oneCell' = true) (hf1 : n ≤ 1024) (hf2 : m ≤ 1024) (hra : Kit.Rd w w.heap.size A (I8s zs)) (hrb : Kit.Rd w w.heap.size B (I8s ys)) :
    Calls Try.prog 4 #[.agg #[.int .i64 H, .int .i64 W, .int .i64 C, .slice A n c], .agg #[.int .i64 H1, .int .i64 W1, .int .i64 C1, .slice B m d], .agg #[x0, x1, x2, .int .i64 K, .int .i64 S, .int .i64 P, .int .i64 O, .int .i8 Z, .int .i8 Y, .slice WA nW cW, .slice BA nB cB, .int .i32 m1, .int .i64 s1, .int .i8 z1, .int .i32 m2, .int .i64 s2, .int .i8 z2, .int .i8 lo, .int .i8 hi]] w fun e w' => e = .returned (.bool true) ∧ Below w.heap.size w w' := by
  obtain ⟨X, V, U, k, xs, er, hx, hk6, hC1, hC2, hC3⟩ := joinOf_all H W C H1 W1 C1 A B zs ys n m c d hz hy bz by_ (by omega) x0 x1 x2 K S P O Z Y WA BA nW cW nB cB m1 s1 z1 m2 s2 z2 lo hi hnb
  have HC1 := Lib.hid hC1
  have HC2 := Lib.hid hC2
  have HC3 := Lib.hid hC3
  have HX := Lib.hid hx
  have HRA := Lib.hid hra
  have HRB := Lib.hid hrb
  have HNB := Lib.hid hnb
  clear hC1 hC2 hC3 hx hra hrb hnb hz hy bz by_
  have h1 : ¬ (n : Int) > 1024 := by omega
  have h2 : ¬ (m : Int) > 1024 := by omega
  have HONE := Lib.hid hone
  clear hone
  go_enter Try.func4, Try.ntmps4
  go_upto_region 3 with fail
  have hal : Below w.heap.size w (((w.alloc (.cells #[.int .i64 H, .int .i64 W, .int .i64 C, .slice A n c] 26)).alloc (.cells #[.int .i64 H1, .int .i64 W1, .int .i64 C1, .slice B m d] 26)).alloc (.cells #[x0, x1, x2, .int .i64 K, .int .i64 S, .int .i64 P, .int .i64 O, .int .i8 Z, .int .i8 Y, .slice WA nW cW, .slice BA nB cB, .int .i32 m1, .int .i64 s1, .int .i8 z1, .int .i32 m2, .int .i64 s2, .int .i8 z2, .int .i8 lo, .int .i8 hi] 32)) := (((Below.refl _ _).alloc (Nat.le_refl _) _).alloc (by simp) _).alloc (by simp; omega) _
  have qA : BoxAt w.heap.size H W C A n c (((w.alloc (.cells #[.int .i64 H, .int .i64 W, .int .i64 C, .slice A n c] 26)).alloc (.cells #[.int .i64 H1, .int .i64 W1, .int .i64 C1, .slice B m d] 26)).alloc (.cells #[x0, x1, x2, .int .i64 K, .int .i64 S, .int .i64 P, .int .i64 O, .int .i8 Z, .int .i8 Y, .slice WA nW cW, .slice BA nB cB, .int .i32 m1, .int .i64 s1, .int .i8 z1, .int .i32 m2, .int .i64 s2, .int .i8 z2, .int .i8 lo, .int .i8 hi] 32)) := (boxNew H W C A n c 26 w).below (B' := w.heap.size + 1) (by omega) (((Below.refl _ _).alloc (by simp) _).alloc (by first | (simp; done) | (simp; omega)) _)
  have qB : BoxAt (w.heap.size + 1) H1 W1 C1 B m d (((w.alloc (.cells #[.int .i64 H, .int .i64 W, .int .i64 C, .slice A n c] 26)).alloc (.cells #[.int .i64 H1, .int .i64 W1, .int .i64 C1, .slice B m d] 26)).alloc (.cells #[x0, x1, x2, .int .i64 K, .int .i64 S, .int .i64 P, .int .i64 O, .int .i8 Z, .int .i8 Y, .slice WA nW cW, .slice BA nB cB, .int .i32 m1, .int .i64 s1, .int .i8 z1, .int .i32 m2, .int .i64 s2, .int .i8 z2, .int .i8 lo, .int .i8 hi] 32)) := by
    have h := boxNew H1 W1 C1 B m d 26 (w.alloc (.cells #[.int .i64 H, .int .i64 W, .int .i64 C, .slice A n c] 26))
    rw [World.size_alloc] at h
    exact h.below (B' := w.heap.size + 2) (by omega) ((Below.refl _ _).alloc (by simp) _)
  have qN : NodeAt (w.heap.size + 2) x0 x1 x2 (.int .i8 Y) (.int .i32 m1) (.int .i64 s1) (.int .i8 z1) (.int .i32 m2) (.int .i64 s2) (.int .i8 z2) (.int .i8 lo) (.int .i8 hi) K S P O Z WA BA nW cW nB cB (((w.alloc (.cells #[.int .i64 H, .int .i64 W, .int .i64 C, .slice A n c] 26)).alloc (.cells #[.int .i64 H1, .int .i64 W1, .int .i64 C1, .slice B m d] 26)).alloc (.cells #[x0, x1, x2, .int .i64 K, .int .i64 S, .int .i64 P, .int .i64 O, .int .i8 Z, .int .i8 Y, .slice WA nW cW, .slice BA nB cB, .int .i32 m1, .int .i64 s1, .int .i8 z1, .int .i32 m2, .int .i64 s2, .int .i8 z2, .int .i8 lo, .int .i8 hi] 32)) := by
    have h := NodeAt.new x0 x1 x2 (.int .i8 Y) (.int .i32 m1) (.int .i64 s1) (.int .i8 z1) (.int .i32 m2) (.int .i64 s2) (.int .i8 z2) (.int .i8 lo) (.int .i8 hi) K S P O Z WA BA nW cW nB cB 32 ((w.alloc (.cells #[.int .i64 H, .int .i64 W, .int .i64 C, .slice A n c] 26)).alloc (.cells #[.int .i64 H1, .int .i64 W1, .int .i64 C1, .slice B m d] 26))
    simp only [World.size_alloc] at h
    exact h
  have hs0 : (((w.alloc (.cells #[.int .i64 H, .int .i64 W, .int .i64 C, .slice A n c] 26)).alloc (.cells #[.int .i64 H1, .int .i64 W1, .int .i64 C1, .slice B m d] 26)).alloc (.cells #[x0, x1, x2, .int .i64 K, .int .i64 S, .int .i64 P, .int .i64 O, .int .i8 Z, .int .i8 Y, .slice WA nW cW, .slice BA nB cB, .int .i32 m1, .int .i64 s1, .int .i8 z1, .int .i32 m2, .int .i64 s2, .int .i8 z2, .int .i8 lo, .int .i8 hi] 32)).heap.size = w.heap.size + 3 := by simp
  generalize (((w.alloc (.cells #[.int .i64 H, .int .i64 W, .int .i64 C, .slice A n c] 26)).alloc (.cells #[.int .i64 H1, .int .i64 W1, .int .i64 C1, .slice B m d] 26)).alloc (.cells #[x0, x1, x2, .int .i64 K, .int .i64 S, .int .i64 P, .int .i64 O, .int .i8 Z, .int .i8 Y, .slice WA nW cW, .slice BA nB cB, .int .i32 m1, .int .i64 s1, .int .i8 z1, .int .i32 m2, .int .i64 s2, .int .i8 z2, .int .i8 lo, .int .i8 hi] 32)) = W0 at hal qA qB qN hs0 ⊢
  replace HRA := Lib.hid ((HRA.out.below hal).more hal.size)
  replace HRB := Lib.hid ((HRB.out.below hal).more hal.size)
  have TA := Lib.hid qA
  have TB := Lib.hid qB
  have TN := Lib.hid qN
  have HBW := Lib.hid hal
  have HTH := Lib.hid (Kit.there_new W0 (cs := #[.int .i64 0, .int .i64 0, .int .i64 0, .int .i64 0, .int .i64 0, .int .i64 0, .int .i64 0, .int .i8 0, .int .i8 0, .slice none 0 0, .slice none 0 0, .int .i32 0, .int .i64 0, .int .i8 0, .int .i32 0, .int .i64 0, .int .i8 0, .int .i8 0, .int .i8 0]) 32 (n := 19) rfl)
  have HS0 := Lib.hid hs0
  clear hal qA qB qN hs0
  go_upto_region 4 with (first
    | (refine wpList_load_mid rfl 32 (.tmp 5) rfl (w.heap.size + 2) 0 rfl [x0, x1, x2, .int .i64 K, .int .i64 S, .int .i64 P, .int .i64 O, .int .i8 Z, .int .i8 Y, .slice WA nW cW, .slice BA nB cB, .int .i32 m1, .int .i64 s1, .int .i8 z1, .int .i32 m2, .int .i64 s2, .int .i8 z2, .int .i8 lo, .int .i8 hi] _ (TN.out) Try.underlying32 rfl (by kernel_rfl) ?_)
    | (refine wpList_load_mid rfl 32 (.tmp 5) rfl (w.heap.size + 2) 0 rfl [x0, x1, x2, .int .i64 K, .int .i64 S, .int .i64 P, .int .i64 O, .int .i8 Z, .int .i8 Y, .slice WA nW cW, .slice BA nB cB, .int .i32 m1, .int .i64 s1, .int .i8 z1, .int .i32 m2, .int .i64 s2, .int .i8 z2, .int .i8 lo, .int .i8 hi] _ (TN.out.below (by have := HS0.out; omega) ((Below.refl _ _).alloc (Nat.le_refl _) _)) Try.underlying32 rfl (by kernel_rfl) ?_)
    | (refine wpList_store_mid rfl 32 (.tmp 7) (.tmp 23) rfl (W0.heap.size) 0 #[x0, x1, x2, .int .i64 K, .int .i64 S, .int .i64 P, .int .i64 O, .int .i8 Z, .int .i8 Y, .slice WA nW cW, .slice BA nB cB, .int .i32 m1, .int .i64 s1, .int .i8 z1, .int .i32 m2, .int .i64 s2, .int .i8 z2, .int .i8 lo, .int .i8 hi] rfl rfl HTH.out (by kernel_rfl) (all_oneCell_toArray (cs := [x0, x1, x2, .int .i64 K, .int .i64 S, .int .i64 P, .int .i64 O, .int .i8 Z, .int .i8 Y, .slice WA nW cW, .slice BA nB cB, .int .i32 m1, .int .i64 s1, .int .i8 z1, .int .i32 m2, .int .i64 s2, .int .i8 z2, .int .i8 lo, .int .i8 hi]) HONE.out) ?_))
  have qM : NodeAt W0.heap.size x0 x1 x2 (.int .i8 Y) (.int .i32 m1) (.int .i64 s1) (.int .i8 z1) (.int .i32 m2) (.int .i64 s2) (.int .i8 z2) (.int .i8 lo) (.int .i8 hi) K S P O Z WA BA nW cW nB cB ((W0.alloc (.cells #[.int .i64 0, .int .i64 0, .int .i64 0, .int .i64 0, .int .i64 0, .int .i64 0, .int .i64 0, .int .i8 0, .int .i8 0, .slice none 0 0, .slice none 0 0, .int .i32 0, .int .i64 0, .int .i8 0, .int .i32 0, .int .i64 0, .int .i8 0, .int .i8 0, .int .i8 0] 32)).setCells W0.heap.size 0 [x0, x1, x2, .int .i64 K, .int .i64 S, .int .i64 P, .int .i64 O, .int .i8 Z, .int .i8 Y, .slice WA nW cW, .slice BA nB cB, .int .i32 m1, .int .i64 s1, .int .i8 z1, .int .i32 m2, .int .i64 s2, .int .i8 z2, .int .i8 lo, .int .i8 hi]) := NodeAt.stored HTH.out x0 x1 x2 (.int .i8 Y) (.int .i32 m1) (.int .i64 s1) (.int .i8 z1) (.int .i32 m2) (.int .i64 s2) (.int .i8 z2) (.int .i8 lo) (.int .i8 hi) K S P O Z WA BA nW cW nB cB
  have qF : ∀ j, j < 19 → ((W0.alloc (.cells #[.int .i64 0, .int .i64 0, .int .i64 0, .int .i64 0, .int .i64 0, .int .i64 0, .int .i64 0, .int .i8 0, .int .i8 0, .slice none 0 0, .slice none 0 0, .int .i32 0, .int .i64 0, .int .i8 0, .int .i32 0, .int .i64 0, .int .i8 0, .int .i8 0, .int .i8 0] 32)).setCells W0.heap.size 0 [x0, x1, x2, .int .i64 K, .int .i64 S, .int .i64 P, .int .i64 O, .int .i8 Z, .int .i8 Y, .slice WA nW cW, .slice BA nB cB, .int .i32 m1, .int .i64 s1, .int .i8 z1, .int .i32 m2, .int .i64 s2, .int .i8 z2, .int .i8 lo, .int .i8 hi]).frozen? ⟨W0.heap.size, j, none⟩ = false := fun j hj => by
    rw [Kit.frozen_cells]; exact World.frozen?_alloc_new _ _ _ _
  have hb : Below W0.heap.size W0 ((W0.alloc (.cells #[.int .i64 0, .int .i64 0, .int .i64 0, .int .i64 0, .int .i64 0, .int .i64 0, .int .i64 0, .int .i8 0, .int .i8 0, .slice none 0 0, .slice none 0 0, .int .i32 0, .int .i64 0, .int .i8 0, .int .i32 0, .int .i64 0, .int .i8 0, .int .i8 0, .int .i8 0] 32)).setCells W0.heap.size 0 [x0, x1, x2, .int .i64 K, .int .i64 S, .int .i64 P, .int .i64 O, .int .i8 Z, .int .i8 Y, .slice WA nW cW, .slice BA nB cB, .int .i32 m1, .int .i64 s1, .int .i8 z1, .int .i32 m2, .int .i64 s2, .int .i8 z2, .int .i8 lo, .int .i8 hi]) := Kit.below_cells (Nat.le_refl _) _ _ _ ((Below.refl _ _).alloc (Nat.le_refl _) _)
  have hsM : ((W0.alloc (.cells #[.int .i64 0, .int .i64 0, .int .i64 0, .int .i64 0, .int .i64 0, .int .i64 0, .int .i64 0, .int .i8 0, .int .i8 0, .slice none 0 0, .slice none 0 0, .int .i32 0, .int .i64 0, .int .i8 0, .int .i32 0, .int .i64 0, .int .i8 0, .int .i8 0, .int .i8 0] 32)).setCells W0.heap.size 0 [x0, x1, x2, .int .i64 K, .int .i64 S, .int .i64 P, .int .i64 O, .int .i8 Z, .int .i8 Y, .slice WA nW cW, .slice BA nB cB, .int .i32 m1, .int .i64 s1, .int .i8 z1, .int .i32 m2, .int .i64 s2, .int .i8 z2, .int .i8 lo, .int .i8 hi]).heap.size = W0.heap.size + 1 := by rw [Kit.size_cells]; simp
  generalize ((W0.alloc (.cells #[.int .i64 0, .int .i64 0, .int .i64 0, .int .i64 0, .int .i64 0, .int .i64 0, .int .i64 0, .int .i8 0, .int .i8 0, .slice none 0 0, .slice none 0 0, .int .i32 0, .int .i64 0, .int .i8 0, .int .i32 0, .int .i64 0, .int .i8 0, .int .i8 0, .int .i8 0] 32)).setCells W0.heap.size 0 [x0, x1, x2, .int .i64 K, .int .i64 S, .int .i64 P, .int .i64 O, .int .i8 Z, .int .i8 Y, .slice WA nW cW, .slice BA nB cB, .int .i32 m1, .int .i64 s1, .int .i8 z1, .int .i32 m2, .int .i64 s2, .int .i8 z2, .int .i8 lo, .int .i8 hi]) = U1 at qM qF hb hsM ⊢
  have hs0 := HS0.out
  have yTA : w.heap.size < W0.heap.size := by omega
  have yTB : w.heap.size + 1 < W0.heap.size := by omega
  have yTN : w.heap.size + 2 < W0.heap.size := by omega
  have hgM : w.heap.size ≤ W0.heap.size := by omega
  replace TA := Lib.hid (TA.out.below yTA hb)
  replace TB := Lib.hid (TB.out.below yTB hb)
  replace TN := Lib.hid (TN.out.below yTN hb)
  replace HRA := Lib.hid (HRA.out.below hb)
  replace HRB := Lib.hid (HRB.out.below hb)
  replace HBW := Lib.hid (HBW.out.trans (hb.mono hgM))
  have TM := Lib.hid qM
  have FZ := Lib.hid qF
  clear qM qF hb HTH hs0 HS0
  generalize W0.heap.size = gM at TM FZ hsM yTA yTB yTN hgM HRA HRB ⊢
  have n14 := TN.out.at 14 _ rfl
  have n15 := TN.out.at 15 _ rfl
  have n16 := TN.out.at 16 _ rfl
  have m11_ := TM.out.at 11 _ rfl
  have f11_ := FZ.out 11 (by omega)
  have m12_ := TM.out.at 12 _ rfl
  have f12_ := FZ.out 12 (by omega)
  have m13_ := TM.out.at 13 _ rfl
  have f13_ := FZ.out 13 (by omega)
  go_upto_region 5 with fail
  obtain ⟨U2, hU2⟩ : ∃ U2, (((U1.setCell ⟨gM, 11, none⟩ (.int .i32 m2)).setCell ⟨gM, 12, none⟩ (.int .i64 s2)).setCell ⟨gM, 13, none⟩ (.int .i8 z2)) = U2 := ⟨_, rfl⟩
  have qM : NodeAt gM x0 x1 x2 (.int .i8 Y) (.int .i32 m2) (.int .i64 s2) (.int .i8 z2) (.int .i32 m2) (.int .i64 s2) (.int .i8 z2) (.int .i8 lo) (.int .i8 hi) K S P O Z WA BA nW cW nB cB U2 := by rw [← hU2]; exact range_set (range_set (range_set (TM.out) 11 (.int .i32 m2)) 12 (.int .i64 s2)) 13 (.int .i8 z2)
  have qF : ∀ j, j < 19 → U2.frozen? ⟨gM, j, none⟩ = false := fun j hj => by rw [← hU2]; simp only [World.frozen?_setCell]; exact FZ.out j hj
  have hb : Below gM U1 U2 := by rw [← hU2]; exact (((Below.refl _ _).setCell (p := ⟨gM, 11, none⟩) (Nat.le_refl _) (.int .i32 m2)).setCell (p := ⟨gM, 12, none⟩) (Nat.le_refl _) (.int .i64 s2)).setCell (p := ⟨gM, 13, none⟩) (Nat.le_refl _) (.int .i8 z2)
  have hs : U2.heap.size = gM + 1 := by rw [← hU2]; simp; exact hsM
  rw [hU2]
  clear n14 n15 n16 m11_ f11_ m12_ f12_ m13_ f13_ TM FZ hU2 hsM
  have TM := Lib.hid qM
  have FZ := Lib.hid qF
  have hsM := hs
  replace TA := Lib.hid (TA.out.below yTA hb)
  replace TB := Lib.hid (TB.out.below yTB hb)
  replace TN := Lib.hid (TN.out.below yTN hb)
  replace HRA := Lib.hid (HRA.out.below hb)
  replace HRB := Lib.hid (HRB.out.below hb)
  replace HBW := Lib.hid (HBW.out.trans (hb.mono hgM))
  clear qM qF hb hs
  have n11 := TN.out.at 11 _ rfl
  have n12 := TN.out.at 12 _ rfl
  have n13 := TN.out.at 13 _ rfl
  have m14_ := TM.out.at 14 _ rfl
  have f14_ := FZ.out 14 (by omega)
  have m15_ := TM.out.at 15 _ rfl
  have f15_ := FZ.out 15 (by omega)
  have m16_ := TM.out.at 16 _ rfl
  have f16_ := FZ.out 16 (by omega)
  go_upto_region 6 with fail
  obtain ⟨U3, hU3⟩ : ∃ U3, (((U2.setCell ⟨gM, 14, none⟩ (.int .i32 m1)).setCell ⟨gM, 15, none⟩ (.int .i64 s1)).setCell ⟨gM, 16, none⟩ (.int .i8 z1)) = U3 := ⟨_, rfl⟩
  have qM : NodeAt gM x0 x1 x2 (.int .i8 Y) (.int .i32 m2) (.int .i64 s2) (.int .i8 z2) (.int .i32 m1) (.int .i64 s1) (.int .i8 z1) (.int .i8 lo) (.int .i8 hi) K S P O Z WA BA nW cW nB cB U3 := by rw [← hU3]; exact range_set (range_set (range_set (TM.out) 14 (.int .i32 m1)) 15 (.int .i64 s1)) 16 (.int .i8 z1)
  have qF : ∀ j, j < 19 → U3.frozen? ⟨gM, j, none⟩ = false := fun j hj => by rw [← hU3]; simp only [World.frozen?_setCell]; exact FZ.out j hj
  have hb : Below gM U2 U3 := by rw [← hU3]; exact (((Below.refl _ _).setCell (p := ⟨gM, 14, none⟩) (Nat.le_refl _) (.int .i32 m1)).setCell (p := ⟨gM, 15, none⟩) (Nat.le_refl _) (.int .i64 s1)).setCell (p := ⟨gM, 16, none⟩) (Nat.le_refl _) (.int .i8 z1)
  have hs : U3.heap.size = gM + 1 := by rw [← hU3]; simp; exact hsM
  rw [hU3]
  clear n11 n12 n13 m14_ f14_ m15_ f15_ m16_ f16_ TM FZ hU3 hsM
  have TM := Lib.hid qM
  have FZ := Lib.hid qF
  have hsM := hs
  replace TA := Lib.hid (TA.out.below yTA hb)
  replace TB := Lib.hid (TB.out.below yTB hb)
  replace TN := Lib.hid (TN.out.below yTN hb)
  replace HRA := Lib.hid (HRA.out.below hb)
  replace HRB := Lib.hid (HRB.out.below hb)
  replace HBW := Lib.hid (HBW.out.trans (hb.mono hgM))
  clear qM qF hb hs
  have n8 := TN.out.at 8 _ rfl
  have m7_ := TM.out.at 7 _ rfl
  have f7_ := FZ.out 7 (by omega)
  go_upto_region 7 with fail
  obtain ⟨U4, hU4⟩ : ∃ U4, (U3.setCell ⟨gM, 7, none⟩ (.int .i8 Y)) = U4 := ⟨_, rfl⟩
  have qM : NodeAt gM x0 x1 x2 (.int .i8 Y) (.int .i32 m2) (.int .i64 s2) (.int .i8 z2) (.int .i32 m1) (.int .i64 s1) (.int .i8 z1) (.int .i8 lo) (.int .i8 hi) K S P O Y WA BA nW cW nB cB U4 := by rw [← hU4]; exact range_set (TM.out) 7 (.int .i8 Y)
  have qF : ∀ j, j < 19 → U4.frozen? ⟨gM, j, none⟩ = false := fun j hj => by rw [← hU4]; simp only [World.frozen?_setCell]; exact FZ.out j hj
  have hb : Below gM U3 U4 := by rw [← hU4]; exact (Below.refl _ _).setCell (p := ⟨gM, 7, none⟩) (Nat.le_refl _) (.int .i8 Y)
  have hs : U4.heap.size = gM + 1 := by rw [← hU4]; simp; exact hsM
  rw [hU4]
  clear n8 m7_ f7_ TM FZ hU4 hsM
  have TM := Lib.hid qM
  have FZ := Lib.hid qF
  have hsM := hs
  replace TA := Lib.hid (TA.out.below yTA hb)
  replace TB := Lib.hid (TB.out.below yTB hb)
  replace TN := Lib.hid (TN.out.below yTN hb)
  replace HRA := Lib.hid (HRA.out.below hb)
  replace HRB := Lib.hid (HRB.out.below hb)
  replace HBW := Lib.hid (HBW.out.trans (hb.mono hgM))
  clear qM qF hb hs
  have n7 := TN.out.at 7 _ rfl
  have m8_ := TM.out.at 8 _ rfl
  have f8_ := FZ.out 8 (by omega)
  go_upto_region 8 with fail
  obtain ⟨U5, hU5⟩ : ∃ U5, (U4.setCell ⟨gM, 8, none⟩ (.int .i8 Z)) = U5 := ⟨_, rfl⟩
  have qM : NodeAt gM x0 x1 x2 (.int .i8 Z) (.int .i32 m2) (.int .i64 s2) (.int .i8 z2) (.int .i32 m1) (.int .i64 s1) (.int .i8 z1) (.int .i8 lo) (.int .i8 hi) K S P O Y WA BA nW cW nB cB U5 := by rw [← hU5]; exact range_set (TM.out) 8 (.int .i8 Z)
  have qF : ∀ j, j < 19 → U5.frozen? ⟨gM, j, none⟩ = false := fun j hj => by rw [← hU5]; simp only [World.frozen?_setCell]; exact FZ.out j hj
  have hb : Below gM U4 U5 := by rw [← hU5]; exact (Below.refl _ _).setCell (p := ⟨gM, 8, none⟩) (Nat.le_refl _) (.int .i8 Z)
  have hs : U5.heap.size = gM + 1 := by rw [← hU5]; simp; exact hsM
  rw [hU5]
  clear n7 m8_ f8_ TM FZ hU5 hsM
  have TM := Lib.hid qM
  have FZ := Lib.hid qF
  have hsM := hs
  replace TA := Lib.hid (TA.out.below yTA hb)
  replace TB := Lib.hid (TB.out.below yTB hb)
  replace TN := Lib.hid (TN.out.below yTN hb)
  replace HRA := Lib.hid (HRA.out.below hb)
  replace HRB := Lib.hid (HRB.out.below hb)
  replace HBW := Lib.hid (HBW.out.trans (hb.mono hgM))
  clear qM qF hb hs
  have n13 := TN.out.at 13 _ rfl
  have m13_ := TM.out.at 13 _ rfl
  have f13_ := FZ.out 13 (by omega)
  go_upto_region 9 with fail
  obtain ⟨U6, hU6⟩ : ∃ U6, (U5.setCell ⟨gM, 13, none⟩ (.int .i8 z1)) = U6 := ⟨_, rfl⟩
  have qM : NodeAt gM x0 x1 x2 (.int .i8 Z) (.int .i32 m2) (.int .i64 s2) (.int .i8 z1) (.int .i32 m1) (.int .i64 s1) (.int .i8 z1) (.int .i8 lo) (.int .i8 hi) K S P O Y WA BA nW cW nB cB U6 := by rw [← hU6]; exact range_set (TM.out) 13 (.int .i8 z1)
  have qF : ∀ j, j < 19 → U6.frozen? ⟨gM, j, none⟩ = false := fun j hj => by rw [← hU6]; simp only [World.frozen?_setCell]; exact FZ.out j hj
  have hb : Below gM U5 U6 := by rw [← hU6]; exact (Below.refl _ _).setCell (p := ⟨gM, 13, none⟩) (Nat.le_refl _) (.int .i8 z1)
  have hs : U6.heap.size = gM + 1 := by rw [← hU6]; simp; exact hsM
  rw [hU6]
  clear n13 m13_ f13_ TM FZ hU6 hsM
  have TM := Lib.hid qM
  have FZ := Lib.hid qF
  have hsM := hs
  replace TA := Lib.hid (TA.out.below yTA hb)
  replace TB := Lib.hid (TB.out.below yTB hb)
  replace TN := Lib.hid (TN.out.below yTN hb)
  replace HRA := Lib.hid (HRA.out.below hb)
  replace HRB := Lib.hid (HRB.out.below hb)
  replace HBW := Lib.hid (HBW.out.trans (hb.mono hgM))
  clear qM qF hb hs
  have hgU : gM < U6.heap.size := by omega
  replace HRA := Lib.hid (HRA.out.more (Nat.le_of_lt hgU))
  replace HRB := Lib.hid (HRB.out.more (Nat.le_of_lt hgU))
  have yTM : gM < U6.heap.size := hgU
  replace yTA := Nat.lt_trans yTA hgU
  replace yTB := Nat.lt_trans yTB hgU
  replace yTN := Nat.lt_trans yTN hgU
  clear FZ hsM hgM hgU
  obtain ⟨tap0, tap1, tap2, tap3⟩ := TA.out
  obtain ⟨tbp0, tbp1, tbp2, tbp3⟩ := TB.out
  go_upto_region 11 with (first
    | (go_at_call 7
       have hchk := RA2
       clear hchk
       have hal : Below w1.heap.size w1 (w1.alloc (.cells #[.int .i64 X, .int .i64 V, .int .i64 U, .slice A2 k c2] 26)) := (Below.refl _ _).alloc (by first | exact Nat.le_refl _ | (simp; done) | (simp; omega)) _
       refine (HC3.out _ ((HRA.out.below hal).more hal.size) ((HRB.out.below hal).more hal.size)).mono ?_
       rintro e w2 ⟨v3, rfl, ho3, hb⟩
       have hh : Below w1.heap.size w1 w2 := hal.trans (hb.mono hal.size)
       have qT1 := (boxNew X V U A2 k c2 26) w1
       try simp only [World.size_alloc] at qT1
       have T1 := Lib.hid (qT1.below (by first | (simp; done) | (simp; omega)) hb)
       have yT1 : w1.heap.size < w2.heap.size := by have := hb.size; simp at this; omega
       clear qT1
       replace TA := Lib.hid (TA.out.below yTA hh)
       replace yTA := Nat.lt_of_lt_of_le yTA hh.size
       replace TB := Lib.hid (TB.out.below yTB hh)
       replace yTB := Nat.lt_of_lt_of_le yTB hh.size
       replace TN := Lib.hid (TN.out.below yTN hh)
       replace yTN := Nat.lt_of_lt_of_le yTN hh.size
       replace TM := Lib.hid (TM.out.below yTM hh)
       replace yTM := Nat.lt_of_lt_of_le yTM hh.size
       replace HRA := Lib.hid ((HRA.out.below hh).more hh.size)
       replace HRB := Lib.hid ((HRB.out.below hh).more hh.size)
       replace RA2 := Lib.hid ((RA2.out.below hh).more hh.size)
       replace HBW := Lib.hid (HBW.out.trans (hh.mono HBW.out.size))
       clear tap0 tap1 tap2 tap3 tbp0 tbp1 tbp2 tbp3
       obtain ⟨A3, c3, rfl, -, -, hrd3⟩ := Kit.own_rd ho3
       have RA3 := Lib.hid hrd3
       clear ho3 hrd3
       obtain ⟨tap0, tap1, tap2, tap3⟩ := TA.out
       obtain ⟨tbp0, tbp1, tbp2, tbp3⟩ := TB.out
       obtain ⟨t1p0, t1p1, t1p2, t1p3⟩ := T1.out
       clear hb hh hal)
    | (go_at_call 7
       have hal : Below U6.heap.size U6 U6 := Below.refl _ _
       refine (HC1.out _ ((HRA.out.below hal).more hal.size) ((HRB.out.below hal).more hal.size)).mono ?_
       rintro e w1 ⟨v2, rfl, ho2, hb⟩
       have hh : Below U6.heap.size U6 w1 := hal.trans (hb.mono hal.size)
       replace TA := Lib.hid (TA.out.below yTA hh)
       replace yTA := Nat.lt_of_lt_of_le yTA hh.size
       replace TB := Lib.hid (TB.out.below yTB hh)
       replace yTB := Nat.lt_of_lt_of_le yTB hh.size
       replace TN := Lib.hid (TN.out.below yTN hh)
       replace yTN := Nat.lt_of_lt_of_le yTN hh.size
       replace TM := Lib.hid (TM.out.below yTM hh)
       replace yTM := Nat.lt_of_lt_of_le yTM hh.size
       replace HRA := Lib.hid ((HRA.out.below hh).more hh.size)
       replace HRB := Lib.hid ((HRB.out.below hh).more hh.size)
       replace HBW := Lib.hid (HBW.out.trans (hh.mono HBW.out.size))
       clear tap0 tap1 tap2 tap3 tbp0 tbp1 tbp2 tbp3
       obtain ⟨A2, c2, rfl, -, -, hrd2⟩ := Kit.own_rd ho2
       have RA2 := Lib.hid hrd2
       have hH1 := True.intro
       clear ho2 hrd2
       obtain ⟨tap0, tap1, tap2, tap3⟩ := TA.out
       obtain ⟨tbp0, tbp1, tbp2, tbp3⟩ := TB.out
       clear hb hh hal)
    | (refine wpList_load_mid rfl 32 (.tmp 5) rfl (w.heap.size + 2) 0 rfl [x0, x1, x2, .int .i64 K, .int .i64 S, .int .i64 P, .int .i64 O, .int .i8 Z, .int .i8 Y, .slice WA nW cW, .slice BA nB cB, .int .i32 m1, .int .i64 s1, .int .i8 z1, .int .i32 m2, .int .i64 s2, .int .i8 z2, .int .i8 lo, .int .i8 hi] _ (TN.out) Try.underlying32 rfl (by kernel_rfl) ?_)
    | (refine wpList_load_mid rfl 32 (.tmp 7) rfl (gM) 0 rfl [x0, x1, x2, .int .i64 K, .int .i64 S, .int .i64 P, .int .i64 O, .int .i8 Y, .int .i8 Z, .slice WA nW cW, .slice BA nB cB, .int .i32 m2, .int .i64 s2, .int .i8 z1, .int .i32 m1, .int .i64 s1, .int .i8 z1, .int .i8 lo, .int .i8 hi] _ (TM.out.below yTM ((Below.refl _ _).alloc (Nat.le_refl _) _)) Try.underlying32 rfl (by kernel_rfl) ?_)
    | (refine wpList_load_mid rfl 32 (.tmp 7) rfl (gM) 0 rfl [x0, x1, x2, .int .i64 K, .int .i64 S, .int .i64 P, .int .i64 O, .int .i8 Y, .int .i8 Z, .slice WA nW cW, .slice BA nB cB, .int .i32 m2, .int .i64 s2, .int .i8 z1, .int .i32 m1, .int .i64 s1, .int .i8 z1, .int .i8 lo, .int .i8 hi] _ (TM.out) Try.underlying32 rfl (by kernel_rfl) ?_))
  have T2 := Lib.hid (boxNew X V U A3 k c3 26 w2)
  have hb2 : Below w2.heap.size w2 (w2.alloc (.cells #[.int .i64 X, .int .i64 V, .int .i64 U, .slice A3 k c3] 26)) := (Below.refl _ _).alloc (Nat.le_refl _) _
  have hs2 : (w2.alloc (.cells #[.int .i64 X, .int .i64 V, .int .i64 U, .slice A3 k c3] 26)).heap.size = w2.heap.size + 1 := by simp
  generalize w2.alloc (.cells #[.int .i64 X, .int .i64 V, .int .i64 U, .slice A3 k c3] 26) = W9 at T2 hb2 hs2 ⊢
  replace T1 := Lib.hid (T1.out.below yT1 hb2)
  replace RA2 : Hid (Kit.Rd W9 W9.heap.size A2 (I8s xs)) := Lib.hid ((RA2.out.below hb2).more hb2.size)
  replace RA3 : Hid (Kit.Rd W9 W9.heap.size A3 (I8s xs)) := Lib.hid ((RA3.out.below hb2).more hb2.size)
  replace HBW := Lib.hid (HBW.out.trans (hb2.mono HBW.out.size))
  clear hb2 hs2 tap0 tap1 tap2 tap3 tbp0 tbp1 tbp2 tbp3 t1p0 t1p1 t1p2 t1p3 TA yTA TB yTB TN yTN TM yTM yT1 HC1 HC2 HC3 HRA HRB
  obtain ⟨za1, za2, za3, za4⟩ := T1.out
  obtain ⟨zb1, zb2, zb3, zb4⟩ := T2.out
  go_wp2_with (first
    | (go_at_call 9; (refine (refSame_to X V U A2 A3 xs xs k c2 c3 HX.out HX.out hk6 true (by simp) _ (Nat.le_refl _) (Nat.le_refl _) RA2.out RA3.out).mono ?_); rintro e V2 ⟨rfl, hb3⟩)
    | (go_at_call 6; (refine (known20 _).mono ?_); rintro e V3 ⟨rfl, hb4⟩))
  go_ret
  exact ⟨rfl, (HBW.out.trans (hb3.mono HBW.out.size)).trans (hb4.mono (Nat.le_trans HBW.out.size hb3.size))⟩
theorem walk {w : World} (H : Int) (wH : (Lit.int .i64 H).wf = true) (W : Int) (wW : (Lit.int .i64 W).wf = true) (C : Int) (wC : (Lit.int .i64 C).wf = true) (A : Option Addr) (zs : List Int) (c : Nat) (hc : zs.length ≤ c) (hm : c ≤ maxLen) (hw : ∀ n ∈ zs, (Lit.int .i8 n).wf = true) (hr : Kit.Rd w w.heap.size A (zs.map (.int .i8)))
    (H1 : Int) (wH1 : (Lit.int .i64 H1).wf = true) (W1 : Int) (wW1 : (Lit.int .i64 W1).wf = true) (C1 : Int) (wC1 : (Lit.int .i64 C1).wf = true) (B : Option Addr) (ys : List Int) (d : Nat) (hc' : ys.length ≤ d) (hm' : d ≤ maxLen) (hw' : ∀ n ∈ ys, (Lit.int .i8 n).wf = true) (hr' : Kit.Rd w w.heap.size B (ys.map (.int .i8)))
    (x0 x1 x2 x8 x11 x12 x13 x14 x15 x16 x17 x18 : Value) (K S P O Z : Int) (WA : Option Addr) (ws : List Int) (cW : Nat) (BA : Option Addr) (bs : List Int) (cB : Nat) (wZ : (Lit.int .i8 Z).wf = true)
    (hcw : ws.length ≤ cW) (hmw : cW ≤ maxLen) (hww : ∀ n ∈ ws, (Lit.int .i8 n).wf = true) (hrw : Kit.Rd w w.heap.size WA (ws.map (.int .i8))) (hcb : bs.length ≤ cB) (hmb : cB ≤ maxLen) (hwb : ∀ n ∈ bs, (Lit.int .i32 n).wf = true) (hrb : Kit.Rd w w.heap.size BA (bs.map (.int .i32)))
    (hJ : ∃ Y m1 s1 z1 m2 s2 z2 lo hi : Int, (x8 = .int .i8 Y ∧ x11 = .int .i32 m1 ∧ x12 = .int .i64 s1 ∧ x13 = .int .i8 z1 ∧ x14 = .int .i32 m2 ∧ x15 = .int .i64 s2 ∧ x16 = .int .i8 z2 ∧ x17 = .int .i8 lo ∧ x18 = .int .i8 hi) ∧ NBd 0 Y m1 z1 m2 z2 lo hi)
    (hone : ∀ v ∈ ([x0, x1, x2, .int .i64 K, .int .i64 S, .int .i64 P, .int .i64 O, .int .i8 Z, x8, .slice WA ws.length cW, .slice BA bs.length cB, x11, x12, x13, x14, x15, x16, x17, x18] : List Value), v.oneCell' = true) :
    Calls Try.prog 4 #[.agg #[.int .i64 H, .int .i64 W, .int .i64 C, .slice A zs.length c], .agg #[.int .i64 H1, .int .i64 W1, .int .i64 C1, .slice B ys.length d], .agg #[x0, x1, x2, .int .i64 K, .int .i64 S, .int .i64 P, .int .i64 O, .int .i8 Z, x8, .slice WA ws.length cW, .slice BA bs.length cB, x11, x12, x13, x14, x15, x16, x17, x18]] w fun e w' => e = .returned (.bool true) ∧ Below w.heap.size w w' := by
  obtain ⟨Y, m1, s1, z1, m2, s2, z2, lo, hi, ⟨rfl, rfl, rfl, rfl, rfl, rfl, rfl, rfl, rfl⟩, hnb0⟩ := hJ
  by_cases hf : zs.length ≤ 1024 ∧ ys.length ≤ 1024
  · exact walk_yes H W C H1 W1 C1 A B _ _ c d x0 x1 x2 K S P O Z Y WA BA ws.length cW bs.length cB m1 s1 z1 m2 s2 z2 lo hi zs ys rfl rfl (i8b_of hw) (i8b_of hw') (hnb0.of wZ) hone hf.1 hf.2 hr hr'
  · exact walk_no H W C H1 W1 C1 A B _ _ c d x0 x1 x2 K S P O Z Y WA BA ws.length cW bs.length cB m1 s1 z1 m2 s2 z2 lo hi hf
/-! ### the frame: written by program -/
theorem own : ownKnob Try.prog.godebug = none := by kernel_rfl
theorem laid : laidOutB Try.prog = true := by kernel_rfl
theorem contract {H : Type} {enc : TypeId × Value → H} {W : World} {base : Nat} {args : Array Value} {ds gs : List (DataW H)} {before : List MemPlace}
    (hval0 : ∀ (j : Nat) t v, Try.f4.params[j]? = some t → args[j]? = some v → Value.okWide Try.prog W .any base t v)
    (hW : DataW.Whole enc Try.prog Try.f4.params.toList Rows.joinTurnedSpec.vars false W args.toList ds gs before) :
    Calls Try.prog 4 args W fun e W' => e = .returned (.bool true) ∧ Below W.heap.size W W' := by
  have hval : ∀ (j : Nat) t v, Try.f4.params[j]? = some t → args[j]? = some v → Value.okWide Try.prog W .any base t v := hval0
  obtain ⟨p, q, hA0, hV, rfl, hfz, hnd⟩ := hW
  have hA : DataW.TrodAll enc Try.prog W 0 (fun _ => true) true Try.f4.params.toList args.toList ds p := hA0
  rw [Try.params4] at hA hval
  obtain ⟨v0, vs0, d0, ds0, p0, q0, hargs, rfl, rfl, h0, r0⟩ := trodAll_cons hA
  obtain ⟨v1, vs1, d1, ds1, p1, q1, rfl, rfl, rfl, h1, r1⟩ := trodAll_cons r0
  obtain ⟨v2, vs2, d2, ds2, p2, q2, rfl, rfl, rfl, h2, r2⟩ := trodAll_cons r1
  obtain ⟨rfl, rfl, rfl⟩ := trodAll_nil r2
  obtain rfl : args = #[v0, v1, v2] := by cases args; simp_all
  clear hA0 hval0
  obtain ⟨x0, y0, t0, A0, z0, c0, rfl, wx0, wy0, wt0, hc0, hm0, hw0, hr0⟩ := Kit.open_tensor (s := 23) (d := 24) (e := 27) (i := 3) Try.underlying26 Try.underlying23 Try.underlying24 Try.underlying27 Try.underlying3 (by kernel_rfl) (by kernel_rfl) (by kernel_rfl) (by kernel_rfl) (by kernel_rfl) ⟨rfl, rfl, rfl, rfl⟩ ⟨rfl, rfl, rfl, rfl, rfl, rfl⟩ (hval 0 26 v0 rfl rfl) h0
  obtain ⟨x1, y1, t1, A1, z1, c1, rfl, wx1, wy1, wt1, hc1, hm1, hw1, hr1⟩ := Kit.open_tensor (s := 23) (d := 24) (e := 27) (i := 3) Try.underlying26 Try.underlying23 Try.underlying24 Try.underlying27 Try.underlying3 (by kernel_rfl) (by kernel_rfl) (by kernel_rfl) (by kernel_rfl) (by kernel_rfl) ⟨rfl, rfl, rfl, rfl⟩ ⟨rfl, rfl, rfl, rfl, rfl, rfl⟩ (hval 1 26 v1 rfl rfl) h1
  obtain ⟨n2_0, n2_1, n2_2, n2_8, n2_11, n2_12, n2_13, n2_14, n2_15, n2_16, n2_17, n2_18, K2, S2, Q2, O2, Z2, WA2, ws2, cW2, BA2, bs2, cB2, rfl, wz2, hcw2, hmw2, hww2, hrw2, hcb2, hmb2, hwb2, hrb2⟩ := Kit.open_node (i := 3) (b8 := 27) (d := 24) (e := 27) (d2 := 28) (e2 := 21) Try.underlying32 (by kernel_rfl) Try.underlying3 (by kernel_rfl) Try.underlying27 (by kernel_rfl) Try.underlying24 Try.underlying27 (by kernel_rfl) (by kernel_rfl) Try.underlying28 Try.underlying21 (by kernel_rfl) (by kernel_rfl) rfl rfl rfl rfl rfl rfl rfl ⟨rfl, rfl⟩ ⟨rfl, rfl⟩ ⟨rfl, rfl⟩ ⟨rfl, rfl⟩ ⟨rfl, rfl⟩ ⟨rfl, rfl⟩ ⟨rfl, rfl⟩ (hval 2 32 v2 rfl rfl) h2
  exact walk (w := W) x0 wx0 y0 wy0 t0 wt0 A0 z0 c0 hc0 hm0 hw0 hr0 x1 wx1 y1 wy1 t1 wt1 A1 z1 c1 hc1 hm1 hw1 hr1 n2_0 n2_1 n2_2 n2_8 n2_11 n2_12 n2_13 n2_14 n2_15 n2_16 n2_17 n2_18 K2 S2 Q2 O2 Z2 WA2 ws2 cW2 BA2 bs2 cB2 wz2 hcw2 hmw2 hww2 hrw2 hcb2 hmb2 hwb2 hrb2 (CJoin.join_cells (hval 2 32 _ rfl rfl)) (Kit.struct_ones Try.underlying32 (hval 2 32 _ rfl rfl))
theorem fnIs {H : Type} : ∀ ds : List (DataW H), ds.length = Try.f4.params.toList.length → Rows.joinTurnedSpec.fn H ds = { results := [.lit (.bool true)], args := ds } := by
  intro ds h
  rw [Try.params4] at h
  match ds, h with
  | [d1, d2, d3], _ => rfl
set_option maxRecDepth 100000 in
theorem lifted (os : Os) (started : os.Started) (H : Type) (enc : TypeId × Value → H) :
    ReturnsInHanded {} Try.checked os 4 .any (Rows.joinTurnedSpec.pre6 enc Try.prog Try.f4 Rows.joinTurnedRow.domain false) (Rows.joinTurnedSpec.post enc Try.prog Try.f4 false true false false) := by
  refine returnsInHanded_of_change (C := Try.checked) own started (by kernel_rfl) Try.func4
    (ChangeSpec.witness6 (enc := enc) (C := Try.checked) false ⟨#[], #[.agg #[.int .i64 0, .int .i64 0, .int .i64 0, .slice none 0 0], .agg #[.int .i64 0, .int .i64 0, .int .i64 0, .slice none 0 0], .agg #[.int .i64 0, .int .i64 0, .int .i64 0, .int .i64 0, .int .i64 0, .int .i64 0, .int .i64 0, .int .i8 0, .int .i8 0, .slice none 0 0, .slice none 0 0, .int .i32 0, .int .i64 0, .int .i8 0, .int .i32 0, .int .i64 0, .int .i8 0, .int .i8 0, .int .i8 0]], []⟩ 8 (by kernel_rfl) (by kernel_rfl) (by kernel_rfl) (by kernel_rfl)) ?_
  intro W base args ds gs before hval hW _ _
  refine (contract hval hW).mono fun e W' ⟨he, hg⟩ => ?_
  subst he
  exact ⟨_, rfl, Kit.law_post (tb := 4) laid (by kernel_rfl) rfl (by kernel_rfl) Try.underlying4 fnIs hW hg⟩
theorem over : Rows.joinTurnedRow.holds Try.pinned (OpenSpec.ofChange Rows.joinTurnedSpec) :=
  OpenClaim.holds_of_wide 4 Try.f4 rfl rfl rfl rfl rfl rfl rfl ⟨rfl, rfl, rfl, rfl, rfl⟩ rfl rfl rfl rfl rfl (by kernel_rfl) Try.func4 (by kernel_rfl)
    (of_decide_eq_true (by kernel_rfl)) (by unfold Func.isWrapper; first | (rw [if_pos (by decide +kernel)]; kernel_rfl) | (rw [if_neg (by decide +kernel)]; exact ⟨rfl, rfl⟩))
    (fun os started H enc _ => lifted os started H enc)
/-- the statement. -/
theorem proved : Rows.JoinTurnedSaid :=
  over
end Go.Proofs.Ytncknalipjaccaa.lawJoinTurned
