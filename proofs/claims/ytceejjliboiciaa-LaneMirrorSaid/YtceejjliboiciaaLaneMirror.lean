/- LaneMirror: a tensor that is turned over from left to right makes, by weights that are, the sums turned over; the call returns true and leaves its arguments as they were. No condition. -/
import Derived.Test.YtceejjliboiciaaLaneOver
import Derived.Test.YtceejjliboiciaaBiasNum
import Derived.Deep.CutRange
import Derived.Deep.MidRow
namespace Go.Proofs.Ytceejjliboiciaa.lawLaneMirror
open Go Go.ChangeShapes Go.WideShapes Go.ChangeAt Go.RowKit
open Plain CSat CShape CTensor CConv CLane
set_option linter.unusedVariables false
set_option maxRecDepth 100000

theorem box_of {w : World} {g : Nat} {H W C : Int} {A : Option Addr} {n c : Nat} (h : w.rangeAt g 0 [.int .i64 H, .int .i64 W, .int .i64 C, .slice A n c]) : BoxAt g H W C A n c w :=
  ⟨by have := h 0 _ rfl; rwa [Nat.zero_add] at this, by have := h 1 _ rfl; rwa [Nat.zero_add] at this, by have := h 2 _ rfl; rwa [Nat.zero_add] at this, by have := h 3 _ rfl; rwa [Nat.zero_add] at this⟩
theorem box_stored {w : World} {g : Nat} (hh : w.there g 0 4) (H W C : Int) (A : Option Addr) (n c : Nat) : BoxAt g H W C A n c (w.setCells g 0 [.int .i64 H, .int .i64 W, .int .i64 C, .slice A n c]) :=
  box_of (World.rangeAt_setCells_same w g 0 _ hh)
theorem box_apart {w : World} {g g' : Nat} {H W C : Int} {A : Option Addr} {n c : Nat} (h : BoxAt g H W C A n c w) (hg : g ≠ g') (o : Nat) (vs : List Value) : BoxAt g H W C A n c (w.setCells g' o vs) := by
  have e : ∀ i : Nat, (w.setCells g' o vs).cell? ⟨g, i, none⟩ = w.cell? ⟨g, i, none⟩ := fun i => World.cell?_setCells_out g' vs o w ⟨g, i, none⟩ (fun h1 _ => absurd h1 hg)
  exact ⟨(e 0).trans h.1, (e 1).trans h.2.1, (e 2).trans h.2.2.1, (e 3).trans h.2.2.2⟩
theorem box_set3 {w : World} {g : Nat} {H W C : Int} {A : Option Addr} {n c : Nat} (h : BoxAt g H W C A n c w) (A' : Option Addr) (c' : Nat) : BoxAt g H W C A' n c' (w.setCell ⟨g, 3, none⟩ (.slice A' n c')) := by
  have k : ∀ (i : Nat), i ≠ 3 → (w.setCell ⟨g, 3, none⟩ (.slice A' n c')).cell? ⟨g, i, none⟩ = w.cell? ⟨g, i, none⟩ := fun i hne => World.cell?_setCell_other _ _ _ _ (fun e => by injection e; omega)
  exact ⟨(k 0 (by omega)).trans h.1, (k 1 (by omega)).trans h.2.1, (k 2 (by omega)).trans h.2.2.1, World.cell?_setCell_same _ _ _ h.2.2.2⟩
theorem box_oth {w : World} {g : Nat} {H W C : Int} {A : Option Addr} {n c : Nat} (h : BoxAt g H W C A n c w) {q : Addr} (hq : g ≠ q.block) (v : Value) : BoxAt g H W C A n c (w.setCell q v) := by
  have k : ∀ (i : Nat), (w.setCell q v).cell? ⟨g, i, none⟩ = w.cell? ⟨g, i, none⟩ := fun i => World.cell?_setCell_other _ _ _ _ (fun e => hq (congrArg Addr.block e).symm)
  exact ⟨(k 0).trans h.1, (k 1).trans h.2.1, (k 2).trans h.2.2.1, (k 3).trans h.2.2.2⟩
set_option maxRecDepth 100000

set_option maxRecDepth 100000 in
set_option maxHeartbeats 4000000 in
theorem walk_no {w : World} (H W C : Int) (A : Option Addr) (n c : Nat) (x0 x1 x2 x8 x11 x12 x13 x14 x15 x16 x17 x18 : Value) (K S P O Z : Int) (WA BA : Option Addr) (nW cW nB cB : Nat) (hfew : ¬ (n ≤ 1024 ∧ nW ≤ 2000 ∧ nB ≤ 200)) :
    Calls Try.prog 3 #[.agg #[.int .i64 H, .int .i64 W, .int .i64 C, .slice A n c], .agg #[x0, x1, x2, .int .i64 K, .int .i64 S, .int .i64 P, .int .i64 O, .int .i8 Z, x8, .slice WA nW cW, .slice BA nB cB, x11, x12, x13, x14, x15, x16, x17, x18]] w fun e w' => e = .returned (.bool true) ∧ Below w.heap.size w w' := by
  have TN0 : Hid (NodeAt (w.heap.size + 1) x0 x1 x2 x8 x11 x12 x13 x14 x15 x16 x17 x18 K S P O Z WA BA nW cW nB cB ((w.alloc (.cells #[.int .i64 H, .int .i64 W, .int .i64 C, .slice A n c] 26)).alloc (.cells #[x0, x1, x2, .int .i64 K, .int .i64 S, .int .i64 P, .int .i64 O, .int .i8 Z, x8, .slice WA nW cW, .slice BA nB cB, x11, x12, x13, x14, x15, x16, x17, x18] 32))) := by
    have h := NodeAt.new x0 x1 x2 x8 x11 x12 x13 x14 x15 x16 x17 x18 K S P O Z WA BA nW cW nB cB 32 (w.alloc (.cells #[.int .i64 H, .int .i64 W, .int .i64 C, .slice A n c] 26))
    rw [World.size_alloc] at h
    exact Lib.hid h
  go_enter Try.func3, Try.ntmps3
  go_wp2_with (first
        | (go_at_call 5
           have hal : Below w.heap.size w ((w.alloc (.cells #[.int .i64 H, .int .i64 W, .int .i64 C, .slice A n c] 26)).alloc (.cells #[x0, x1, x2, .int .i64 K, .int .i64 S, .int .i64 P, .int .i64 O, .int .i8 Z, x8, .slice WA nW cW, .slice BA nB cB, x11, x12, x13, x14, x15, x16, x17, x18] 32)) := ((Below.refl _ _).alloc (by first | exact Nat.le_refl _ | (simp; done) | (simp; omega)) _).alloc (by first | exact Nat.le_refl _ | (simp; done) | (simp; omega)) _
           refine (few_no H W C A n c x0 x1 x2 x8 x11 x12 x13 x14 x15 x16 x17 x18 K S P O Z WA BA nW cW nB cB hfew _).mono ?_
           rintro e w1 ⟨rfl, hb⟩
           have hh : Below w.heap.size w w1 := hal.trans (hb.mono hal.size)
           have qTB := (boxNew H W C A n c 26) w
           try simp only [World.size_alloc] at qTB
           have TB := Lib.hid ((qTB.below (B' := w.heap.size + 1) (by omega) (((Below.refl _ _).alloc (by first | exact Nat.le_refl _ | (simp; done) | (simp; omega)) _).mono (by simp))).below (by first | (simp; done) | (simp; omega)) hb)
           have yTB : w.heap.size < w1.heap.size := by have := hb.size; simp at this; omega
           clear qTB
           have qTN := (NodeAt.new x0 x1 x2 x8 x11 x12 x13 x14 x15 x16 x17 x18 K S P O Z WA BA nW cW nB cB 32) (w.alloc (.cells #[.int .i64 H, .int .i64 W, .int .i64 C, .slice A n c] 26))
           try simp only [World.size_alloc] at qTN
           have TN := Lib.hid (qTN.below (by first | (simp; done) | (simp; omega)) hb)
           have yTN : w.heap.size + 1 < w1.heap.size := by have := hb.size; simp at this; omega
           clear qTN
           have HBW : Hid (Below w.heap.size w w1) := Lib.hid hh
           obtain ⟨tbp0, tbp1, tbp2, tbp3⟩ := TB.out
           clear hb hh hal)
        | (go_at_call 6
           have hal : Below w1.heap.size w1 w1 := Below.refl _ _
           refine (known16 _).mono ?_
           rintro e w2 ⟨rfl, hb⟩
           have hh : Below w1.heap.size w1 w2 := hal.trans (hb.mono hal.size)
           replace TB := Lib.hid (TB.out.below yTB hh)
           replace yTB := Nat.lt_of_lt_of_le yTB hh.size
           replace TN := Lib.hid (TN.out.below yTN hh)
           replace yTN := Nat.lt_of_lt_of_le yTN hh.size
           replace HBW := Lib.hid (HBW.out.trans (hh.mono HBW.out.size))
           clear tbp0 tbp1 tbp2 tbp3
           obtain ⟨tbp0, tbp1, tbp2, tbp3⟩ := TB.out
           clear hb hh hal)
        | (refine wpList_load_mid rfl 32 (.tmp 3) rfl (w.heap.size + 1) 0 rfl [x0, x1, x2, .int .i64 K, .int .i64 S, .int .i64 P, .int .i64 O, .int .i8 Z, x8, .slice WA nW cW, .slice BA nB cB, x11, x12, x13, x14, x15, x16, x17, x18] _ (TN0.out) Try.underlying32 rfl (by kernel_rfl) ?_)
        | (refine wpList_load_mid rfl 32 (.tmp 3) rfl (w.heap.size + 1) 0 rfl [x0, x1, x2, .int .i64 K, .int .i64 S, .int .i64 P, .int .i64 O, .int .i8 Z, x8, .slice WA nW cW, .slice BA nB cB, x11, x12, x13, x14, x15, x16, x17, x18] _ (TN.out) Try.underlying32 rfl (by kernel_rfl) ?_)
        | (refine wpList_load_mid rfl 32 (.tmp 3) rfl (w.heap.size + 1) 0 rfl [x0, x1, x2, .int .i64 K, .int .i64 S, .int .i64 P, .int .i64 O, .int .i8 Z, x8, .slice WA nW cW, .slice BA nB cB, x11, x12, x13, x14, x15, x16, x17, x18] _ (TN.out.below yTN ((Below.refl _ _).alloc (Nat.le_refl _) _)) Try.underlying32 rfl (by kernel_rfl) ?_))
  go_ret
  exact ⟨rfl, HBW.out⟩
set_option maxHeartbeats 8000000 in
theorem walk_e1 {w : World} (H W C : Int) (A : Option Addr) (zs : List Int) (n c : Nat) (x0 x1 x2 x8 x11 x12 x13 x14 x15 x16 x17 x18 : Value) (K S P O Z : Int) (WA BA : Option Addr) (nW cW nB cB : Nat) (ws bs : List Int) (hf1 : n ≤ 1024) (hf2 : nW ≤ 2000) (hf3 : nB ≤ 200) (hr : Kit.Rd w w.heap.size A (I8s zs)) (hrw : Kit.Rd w w.heap.size WA (I8s ws)) (hrb : Kit.Rd w w.heap.size BA (I32v bs))
    (X Y U : Int) (m : Nat) (xs : List Int) (er1 er : Int) (h1 : (er1 != 0) = true) (h1c : (er1 == 0) = false) (h2 : (er != 0) = true) (h2c : (er == 0) = false)
    (hA2 : ∀ (w : World), Kit.Rd w w.heap.size A (I8s zs) → Kit.Rd w w.heap.size WA (I8s ws) → Kit.Rd w w.heap.size BA (I32v bs) → Calls Try.prog 8 #[.agg #[.int .i64 H, .int .i64 W, .int .i64 C, .slice A n c], .agg #[x0, x1, x2, .int .i64 K, .int .i64 S, .int .i64 P, .int .i64 O, .int .i8 Z, x8, .slice WA nW cW, .slice BA nB cB, x11, x12, x13, x14, x15, x16, x17, x18]] w (MadeA w X Y U m xs (.int .i64 er)))
    (hA1 : ∀ (w : World), Kit.Rd w w.heap.size A (I8s zs) → Kit.Rd w w.heap.size WA (I8s ws) → Kit.Rd w w.heap.size BA (I32v bs) → Calls Try.prog 7 #[.agg #[.int .i64 H, .int .i64 W, .int .i64 C, .slice A n c], .agg #[x0, x1, x2, .int .i64 K, .int .i64 S, .int .i64 P, .int .i64 O, .int .i8 Z, x8, .slice WA nW cW, .slice BA nB cB, x11, x12, x13, x14, x15, x16, x17, x18]] w (MadeA w 0 0 0 0 [] (.int .i64 er1))) :
    Calls Try.prog 3 #[.agg #[.int .i64 H, .int .i64 W, .int .i64 C, .slice A n c], .agg #[x0, x1, x2, .int .i64 K, .int .i64 S, .int .i64 P, .int .i64 O, .int .i8 Z, x8, .slice WA nW cW, .slice BA nB cB, x11, x12, x13, x14, x15, x16, x17, x18]] w fun e w' => e = .returned (.bool true) ∧ Below w.heap.size w w' := by
  have HA1 := Lib.hid hA1
  have HA2 := Lib.hid hA2
  have HR := Lib.hid hr
  have HRW := Lib.hid hrw
  have HRB := Lib.hid hrb
  clear hA1 hA2 hr hrw hrb
  have TN0 : Hid (NodeAt (w.heap.size + 1) x0 x1 x2 x8 x11 x12 x13 x14 x15 x16 x17 x18 K S P O Z WA BA nW cW nB cB ((w.alloc (.cells #[.int .i64 H, .int .i64 W, .int .i64 C, .slice A n c] 26)).alloc (.cells #[x0, x1, x2, .int .i64 K, .int .i64 S, .int .i64 P, .int .i64 O, .int .i8 Z, x8, .slice WA nW cW, .slice BA nB cB, x11, x12, x13, x14, x15, x16, x17, x18] 32))) := by
    have h := NodeAt.new x0 x1 x2 x8 x11 x12 x13 x14 x15 x16 x17 x18 K S P O Z WA BA nW cW nB cB 32 (w.alloc (.cells #[.int .i64 H, .int .i64 W, .int .i64 C, .slice A n c] 26))
    rw [World.size_alloc] at h
    exact Lib.hid h
  go_enter Try.func3, Try.ntmps3
  go_wp2_with (first
        | (go_at_call 5
           have hal : Below w.heap.size w ((w.alloc (.cells #[.int .i64 H, .int .i64 W, .int .i64 C, .slice A n c] 26)).alloc (.cells #[x0, x1, x2, .int .i64 K, .int .i64 S, .int .i64 P, .int .i64 O, .int .i8 Z, x8, .slice WA nW cW, .slice BA nB cB, x11, x12, x13, x14, x15, x16, x17, x18] 32)) := ((Below.refl _ _).alloc (by first | exact Nat.le_refl _ | (simp; done) | (simp; omega)) _).alloc (by first | exact Nat.le_refl _ | (simp; done) | (simp; omega)) _
           refine (few_yes H W C A n c x0 x1 x2 x8 x11 x12 x13 x14 x15 x16 x17 x18 K S P O Z WA BA nW cW nB cB hf1 hf2 hf3 _).mono ?_
           rintro e w1 ⟨rfl, hb⟩
           have hh : Below w.heap.size w w1 := hal.trans (hb.mono hal.size)
           have qTB := (boxNew H W C A n c 26) w
           try simp only [World.size_alloc] at qTB
           have TB := Lib.hid ((qTB.below (B' := w.heap.size + 1) (by omega) (((Below.refl _ _).alloc (by first | exact Nat.le_refl _ | (simp; done) | (simp; omega)) _).mono (by simp))).below (by first | (simp; done) | (simp; omega)) hb)
           have yTB : w.heap.size < w1.heap.size := by have := hb.size; simp at this; omega
           clear qTB
           have qTN := (NodeAt.new x0 x1 x2 x8 x11 x12 x13 x14 x15 x16 x17 x18 K S P O Z WA BA nW cW nB cB 32) (w.alloc (.cells #[.int .i64 H, .int .i64 W, .int .i64 C, .slice A n c] 26))
           try simp only [World.size_alloc] at qTN
           have TN := Lib.hid (qTN.below (by first | (simp; done) | (simp; omega)) hb)
           have yTN : w.heap.size + 1 < w1.heap.size := by have := hb.size; simp at this; omega
           clear qTN
           replace HR := Lib.hid ((HR.out.below hh).more hh.size)
           replace HRW := Lib.hid ((HRW.out.below hh).more hh.size)
           replace HRB := Lib.hid ((HRB.out.below hh).more hh.size)
           have HBW : Hid (Below w.heap.size w w1) := Lib.hid hh
           obtain ⟨tbp0, tbp1, tbp2, tbp3⟩ := TB.out
           have n3 := TN.out.at 3 _ rfl
           have n4 := TN.out.at 4 _ rfl
           clear hb hh hal)
        | (go_at_call 7
           have hal : Below w1.heap.size w1 w1 := Below.refl _ _
           refine (HA1.out _ ((HR.out.below hal).more hal.size) ((HRW.out.below hal).more hal.size) ((HRB.out.below hal).more hal.size)).mono ?_
           rintro e w2 ⟨v2, rfl, ho2, hb⟩
           have hh : Below w1.heap.size w1 w2 := hal.trans (hb.mono hal.size)
           replace TB := Lib.hid (TB.out.below yTB hh)
           replace yTB := Nat.lt_of_lt_of_le yTB hh.size
           replace TN := Lib.hid (TN.out.below yTN hh)
           replace yTN := Nat.lt_of_lt_of_le yTN hh.size
           replace HR := Lib.hid ((HR.out.below hh).more hh.size)
           replace HRW := Lib.hid ((HRW.out.below hh).more hh.size)
           replace HRB := Lib.hid ((HRB.out.below hh).more hh.size)
           replace HBW := Lib.hid (HBW.out.trans (hh.mono HBW.out.size))
           clear tbp0 tbp1 tbp2 tbp3 n3 n4
           obtain ⟨A2, c2, rfl, -, -, hrd2⟩ := Kit.own_rd ho2
           have RA2 := Lib.hid hrd2
           clear ho2 hrd2
           obtain ⟨tbp0, tbp1, tbp2, tbp3⟩ := TB.out
           have n3 := TN.out.at 3 _ rfl
           have n4 := TN.out.at 4 _ rfl
           clear hb hh hal)
        | (go_at_call 8
           have hal : Below w2.heap.size w2 (w2.alloc (.cells #[.int .i64 0, .int .i64 0, .int .i64 0, .slice A2 0 c2] 36)) := (Below.refl _ _).alloc (by first | exact Nat.le_refl _ | (simp; done) | (simp; omega)) _
           refine (HA2.out _ ((HR.out.below hal).more hal.size) ((HRW.out.below hal).more hal.size) ((HRB.out.below hal).more hal.size)).mono ?_
           rintro e w3 ⟨v3, rfl, ho3, hb⟩
           have hh : Below w2.heap.size w2 w3 := hal.trans (hb.mono hal.size)
           have qTA2 := (boxNew 0 0 0 A2 0 c2 36) w2
           try simp only [World.size_alloc] at qTA2
           have TA2 := Lib.hid (qTA2.below (by first | (simp; done) | (simp; omega)) hb)
           have yTA2 : w2.heap.size < w3.heap.size := by have := hb.size; simp at this; omega
           clear qTA2
           replace TB := Lib.hid (TB.out.below yTB hh)
           replace yTB := Nat.lt_of_lt_of_le yTB hh.size
           replace TN := Lib.hid (TN.out.below yTN hh)
           replace yTN := Nat.lt_of_lt_of_le yTN hh.size
           replace HR := Lib.hid ((HR.out.below hh).more hh.size)
           replace HRW := Lib.hid ((HRW.out.below hh).more hh.size)
           replace HRB := Lib.hid ((HRB.out.below hh).more hh.size)
           replace RA2 := Lib.hid ((RA2.out.below hh).more hh.size)
           replace HBW := Lib.hid (HBW.out.trans (hh.mono HBW.out.size))
           clear tbp0 tbp1 tbp2 tbp3 n3 n4
           obtain ⟨A3, c3, rfl, -, -, hrd3⟩ := Kit.own_rd ho3
           have RA3 := Lib.hid hrd3
           clear ho3 hrd3
           obtain ⟨tbp0, tbp1, tbp2, tbp3⟩ := TB.out
           have n3 := TN.out.at 3 _ rfl
           have n4 := TN.out.at 4 _ rfl
           obtain ⟨ta2p0, ta2p1, ta2p2, ta2p3⟩ := TA2.out
           clear hb hh hal)
        | (go_at_call 6
           have hal : Below w3.heap.size w3 (w3.alloc (.cells #[.int .i64 X, .int .i64 Y, .int .i64 U, .slice A3 m c3] 36)) := (Below.refl _ _).alloc (by first | exact Nat.le_refl _ | (simp; done) | (simp; omega)) _
           refine (known16 _).mono ?_
           rintro e w5 ⟨rfl, hb⟩
           have hh : Below w3.heap.size w3 w5 := hal.trans (hb.mono hal.size)
           have qTA3 := (boxNew X Y U A3 m c3 36) w3
           try simp only [World.size_alloc] at qTA3
           have TA3 := Lib.hid (qTA3.below (by first | (simp; done) | (simp; omega)) hb)
           have yTA3 : w3.heap.size < w5.heap.size := by have := hb.size; simp at this; omega
           clear qTA3
           replace TB := Lib.hid (TB.out.below yTB hh)
           replace yTB := Nat.lt_of_lt_of_le yTB hh.size
           replace TN := Lib.hid (TN.out.below yTN hh)
           replace yTN := Nat.lt_of_lt_of_le yTN hh.size
           replace TA2 := Lib.hid (TA2.out.below yTA2 hh)
           replace yTA2 := Nat.lt_of_lt_of_le yTA2 hh.size
           replace HR := Lib.hid ((HR.out.below hh).more hh.size)
           replace HRW := Lib.hid ((HRW.out.below hh).more hh.size)
           replace HRB := Lib.hid ((HRB.out.below hh).more hh.size)
           replace RA2 := Lib.hid ((RA2.out.below hh).more hh.size)
           replace HBW := Lib.hid (HBW.out.trans (hh.mono HBW.out.size))
           clear tbp0 tbp1 tbp2 tbp3 n3 n4 ta2p0 ta2p1 ta2p2 ta2p3
           obtain ⟨tbp0, tbp1, tbp2, tbp3⟩ := TB.out
           have n3 := TN.out.at 3 _ rfl
           have n4 := TN.out.at 4 _ rfl
           obtain ⟨ta2p0, ta2p1, ta2p2, ta2p3⟩ := TA2.out
           obtain ⟨ta3p0, ta3p1, ta3p2, ta3p3⟩ := TA3.out
           clear hb hh hal)
        | (refine wpList_load_mid rfl 32 (.tmp 3) rfl (w.heap.size + 1) 0 rfl [x0, x1, x2, .int .i64 K, .int .i64 S, .int .i64 P, .int .i64 O, .int .i8 Z, x8, .slice WA nW cW, .slice BA nB cB, x11, x12, x13, x14, x15, x16, x17, x18] _ (TN0.out) Try.underlying32 rfl (by kernel_rfl) ?_)
        | (refine wpList_load_mid rfl 32 (.tmp 3) rfl (w.heap.size + 1) 0 rfl [x0, x1, x2, .int .i64 K, .int .i64 S, .int .i64 P, .int .i64 O, .int .i8 Z, x8, .slice WA nW cW, .slice BA nB cB, x11, x12, x13, x14, x15, x16, x17, x18] _ (TN.out) Try.underlying32 rfl (by kernel_rfl) ?_)
        | (refine wpList_load_mid rfl 32 (.tmp 3) rfl (w.heap.size + 1) 0 rfl [x0, x1, x2, .int .i64 K, .int .i64 S, .int .i64 P, .int .i64 O, .int .i8 Z, x8, .slice WA nW cW, .slice BA nB cB, x11, x12, x13, x14, x15, x16, x17, x18] _ (TN.out.below yTN ((Below.refl _ _).alloc (Nat.le_refl _) _)) Try.underlying32 rfl (by kernel_rfl) ?_)
        | (refine load_mid_g (by rfl) 32 (.tmp 3) rfl (w.heap.size + 1) 0 rfl [x0, x1, x2, .int .i64 K, .int .i64 S, .int .i64 P, .int .i64 O, .int .i8 Z, x8, .slice WA nW cW, .slice BA nB cB, x11, x12, x13, x14, x15, x16, x17, x18] _ TN.out Try.underlying32 rfl (by kernel_rfl) ?_))
  go_ret
  exact ⟨rfl, HBW.out⟩
set_option maxHeartbeats 8000000 in
theorem walk_e2 {w : World} (H W C : Int) (A : Option Addr) (zs : List Int) (n c : Nat) (x0 x1 x2 x8 x11 x12 x13 x14 x15 x16 x17 x18 : Value) (K S P O Z : Int) (WA BA : Option Addr) (nW cW nB cB : Nat) (ws bs : List Int) (hf1 : n ≤ 1024) (hf2 : nW ≤ 2000) (hf3 : nB ≤ 200) (hr : Kit.Rd w w.heap.size A (I8s zs)) (hrw : Kit.Rd w w.heap.size WA (I8s ws)) (hrb : Kit.Rd w w.heap.size BA (I32v bs))
    (X Y U : Int) (m : Nat) (xs : List Int) (er1 er : Int) (h1 : (er1 != 0) = true) (h1c : (er1 == 0) = false) (h2 : (er != 0) = false) (h2c : (er == 0) = true) (h3 : (K != 3) = true) (h3c : (K == 3) = false)
    (hA2 : ∀ (w : World), Kit.Rd w w.heap.size A (I8s zs) → Kit.Rd w w.heap.size WA (I8s ws) → Kit.Rd w w.heap.size BA (I32v bs) → Calls Try.prog 8 #[.agg #[.int .i64 H, .int .i64 W, .int .i64 C, .slice A n c], .agg #[x0, x1, x2, .int .i64 K, .int .i64 S, .int .i64 P, .int .i64 O, .int .i8 Z, x8, .slice WA nW cW, .slice BA nB cB, x11, x12, x13, x14, x15, x16, x17, x18]] w (MadeA w X Y U m xs (.int .i64 er)))
    (hA1 : ∀ (w : World), Kit.Rd w w.heap.size A (I8s zs) → Kit.Rd w w.heap.size WA (I8s ws) → Kit.Rd w w.heap.size BA (I32v bs) → Calls Try.prog 7 #[.agg #[.int .i64 H, .int .i64 W, .int .i64 C, .slice A n c], .agg #[x0, x1, x2, .int .i64 K, .int .i64 S, .int .i64 P, .int .i64 O, .int .i8 Z, x8, .slice WA nW cW, .slice BA nB cB, x11, x12, x13, x14, x15, x16, x17, x18]] w (MadeA w 0 0 0 0 [] (.int .i64 er1))) :
    Calls Try.prog 3 #[.agg #[.int .i64 H, .int .i64 W, .int .i64 C, .slice A n c], .agg #[x0, x1, x2, .int .i64 K, .int .i64 S, .int .i64 P, .int .i64 O, .int .i8 Z, x8, .slice WA nW cW, .slice BA nB cB, x11, x12, x13, x14, x15, x16, x17, x18]] w fun e w' => e = .returned (.bool true) ∧ Below w.heap.size w w' := by
  have HA1 := Lib.hid hA1
  have HA2 := Lib.hid hA2
  have HR := Lib.hid hr
  have HRW := Lib.hid hrw
  have HRB := Lib.hid hrb
  clear hA1 hA2 hr hrw hrb
  have TN0 : Hid (NodeAt (w.heap.size + 1) x0 x1 x2 x8 x11 x12 x13 x14 x15 x16 x17 x18 K S P O Z WA BA nW cW nB cB ((w.alloc (.cells #[.int .i64 H, .int .i64 W, .int .i64 C, .slice A n c] 26)).alloc (.cells #[x0, x1, x2, .int .i64 K, .int .i64 S, .int .i64 P, .int .i64 O, .int .i8 Z, x8, .slice WA nW cW, .slice BA nB cB, x11, x12, x13, x14, x15, x16, x17, x18] 32))) := by
    have h := NodeAt.new x0 x1 x2 x8 x11 x12 x13 x14 x15 x16 x17 x18 K S P O Z WA BA nW cW nB cB 32 (w.alloc (.cells #[.int .i64 H, .int .i64 W, .int .i64 C, .slice A n c] 26))
    rw [World.size_alloc] at h
    exact Lib.hid h
  go_enter Try.func3, Try.ntmps3
  go_wp2_with (first
        | (go_at_call 5
           have hal : Below w.heap.size w ((w.alloc (.cells #[.int .i64 H, .int .i64 W, .int .i64 C, .slice A n c] 26)).alloc (.cells #[x0, x1, x2, .int .i64 K, .int .i64 S, .int .i64 P, .int .i64 O, .int .i8 Z, x8, .slice WA nW cW, .slice BA nB cB, x11, x12, x13, x14, x15, x16, x17, x18] 32)) := ((Below.refl _ _).alloc (by first | exact Nat.le_refl _ | (simp; done) | (simp; omega)) _).alloc (by first | exact Nat.le_refl _ | (simp; done) | (simp; omega)) _
           refine (few_yes H W C A n c x0 x1 x2 x8 x11 x12 x13 x14 x15 x16 x17 x18 K S P O Z WA BA nW cW nB cB hf1 hf2 hf3 _).mono ?_
           rintro e w1 ⟨rfl, hb⟩
           have hh : Below w.heap.size w w1 := hal.trans (hb.mono hal.size)
           have qTB := (boxNew H W C A n c 26) w
           try simp only [World.size_alloc] at qTB
           have TB := Lib.hid ((qTB.below (B' := w.heap.size + 1) (by omega) (((Below.refl _ _).alloc (by first | exact Nat.le_refl _ | (simp; done) | (simp; omega)) _).mono (by simp))).below (by first | (simp; done) | (simp; omega)) hb)
           have yTB : w.heap.size < w1.heap.size := by have := hb.size; simp at this; omega
           clear qTB
           have qTN := (NodeAt.new x0 x1 x2 x8 x11 x12 x13 x14 x15 x16 x17 x18 K S P O Z WA BA nW cW nB cB 32) (w.alloc (.cells #[.int .i64 H, .int .i64 W, .int .i64 C, .slice A n c] 26))
           try simp only [World.size_alloc] at qTN
           have TN := Lib.hid (qTN.below (by first | (simp; done) | (simp; omega)) hb)
           have yTN : w.heap.size + 1 < w1.heap.size := by have := hb.size; simp at this; omega
           clear qTN
           replace HR := Lib.hid ((HR.out.below hh).more hh.size)
           replace HRW := Lib.hid ((HRW.out.below hh).more hh.size)
           replace HRB := Lib.hid ((HRB.out.below hh).more hh.size)
           have HBW : Hid (Below w.heap.size w w1) := Lib.hid hh
           obtain ⟨tbp0, tbp1, tbp2, tbp3⟩ := TB.out
           have n3 := TN.out.at 3 _ rfl
           have n4 := TN.out.at 4 _ rfl
           clear hb hh hal)
        | (go_at_call 7
           have hal : Below w1.heap.size w1 w1 := Below.refl _ _
           refine (HA1.out _ ((HR.out.below hal).more hal.size) ((HRW.out.below hal).more hal.size) ((HRB.out.below hal).more hal.size)).mono ?_
           rintro e w2 ⟨v2, rfl, ho2, hb⟩
           have hh : Below w1.heap.size w1 w2 := hal.trans (hb.mono hal.size)
           replace TB := Lib.hid (TB.out.below yTB hh)
           replace yTB := Nat.lt_of_lt_of_le yTB hh.size
           replace TN := Lib.hid (TN.out.below yTN hh)
           replace yTN := Nat.lt_of_lt_of_le yTN hh.size
           replace HR := Lib.hid ((HR.out.below hh).more hh.size)
           replace HRW := Lib.hid ((HRW.out.below hh).more hh.size)
           replace HRB := Lib.hid ((HRB.out.below hh).more hh.size)
           replace HBW := Lib.hid (HBW.out.trans (hh.mono HBW.out.size))
           clear tbp0 tbp1 tbp2 tbp3 n3 n4
           obtain ⟨A2, c2, rfl, -, -, hrd2⟩ := Kit.own_rd ho2
           have RA2 := Lib.hid hrd2
           clear ho2 hrd2
           obtain ⟨tbp0, tbp1, tbp2, tbp3⟩ := TB.out
           have n3 := TN.out.at 3 _ rfl
           have n4 := TN.out.at 4 _ rfl
           clear hb hh hal)
        | (go_at_call 8
           have hal : Below w2.heap.size w2 (w2.alloc (.cells #[.int .i64 0, .int .i64 0, .int .i64 0, .slice A2 0 c2] 36)) := (Below.refl _ _).alloc (by first | exact Nat.le_refl _ | (simp; done) | (simp; omega)) _
           refine (HA2.out _ ((HR.out.below hal).more hal.size) ((HRW.out.below hal).more hal.size) ((HRB.out.below hal).more hal.size)).mono ?_
           rintro e w3 ⟨v3, rfl, ho3, hb⟩
           have hh : Below w2.heap.size w2 w3 := hal.trans (hb.mono hal.size)
           have qTA2 := (boxNew 0 0 0 A2 0 c2 36) w2
           try simp only [World.size_alloc] at qTA2
           have TA2 := Lib.hid (qTA2.below (by first | (simp; done) | (simp; omega)) hb)
           have yTA2 : w2.heap.size < w3.heap.size := by have := hb.size; simp at this; omega
           clear qTA2
           replace TB := Lib.hid (TB.out.below yTB hh)
           replace yTB := Nat.lt_of_lt_of_le yTB hh.size
           replace TN := Lib.hid (TN.out.below yTN hh)
           replace yTN := Nat.lt_of_lt_of_le yTN hh.size
           replace HR := Lib.hid ((HR.out.below hh).more hh.size)
           replace HRW := Lib.hid ((HRW.out.below hh).more hh.size)
           replace HRB := Lib.hid ((HRB.out.below hh).more hh.size)
           replace RA2 := Lib.hid ((RA2.out.below hh).more hh.size)
           replace HBW := Lib.hid (HBW.out.trans (hh.mono HBW.out.size))
           clear tbp0 tbp1 tbp2 tbp3 n3 n4
           obtain ⟨A3, c3, rfl, -, -, hrd3⟩ := Kit.own_rd ho3
           have RA3 := Lib.hid hrd3
           clear ho3 hrd3
           obtain ⟨tbp0, tbp1, tbp2, tbp3⟩ := TB.out
           have n3 := TN.out.at 3 _ rfl
           have n4 := TN.out.at 4 _ rfl
           obtain ⟨ta2p0, ta2p1, ta2p2, ta2p3⟩ := TA2.out
           clear hb hh hal)
        | (go_at_call 6
           have hal : Below w3.heap.size w3 (w3.alloc (.cells #[.int .i64 X, .int .i64 Y, .int .i64 U, .slice A3 m c3] 36)) := (Below.refl _ _).alloc (by first | exact Nat.le_refl _ | (simp; done) | (simp; omega)) _
           refine (known16 _).mono ?_
           rintro e w5 ⟨rfl, hb⟩
           have hh : Below w3.heap.size w3 w5 := hal.trans (hb.mono hal.size)
           have qTA3 := (boxNew X Y U A3 m c3 36) w3
           try simp only [World.size_alloc] at qTA3
           have TA3 := Lib.hid (qTA3.below (by first | (simp; done) | (simp; omega)) hb)
           have yTA3 : w3.heap.size < w5.heap.size := by have := hb.size; simp at this; omega
           clear qTA3
           replace TB := Lib.hid (TB.out.below yTB hh)
           replace yTB := Nat.lt_of_lt_of_le yTB hh.size
           replace TN := Lib.hid (TN.out.below yTN hh)
           replace yTN := Nat.lt_of_lt_of_le yTN hh.size
           replace TA2 := Lib.hid (TA2.out.below yTA2 hh)
           replace yTA2 := Nat.lt_of_lt_of_le yTA2 hh.size
           replace HR := Lib.hid ((HR.out.below hh).more hh.size)
           replace HRW := Lib.hid ((HRW.out.below hh).more hh.size)
           replace HRB := Lib.hid ((HRB.out.below hh).more hh.size)
           replace RA2 := Lib.hid ((RA2.out.below hh).more hh.size)
           replace HBW := Lib.hid (HBW.out.trans (hh.mono HBW.out.size))
           clear tbp0 tbp1 tbp2 tbp3 n3 n4 ta2p0 ta2p1 ta2p2 ta2p3
           obtain ⟨tbp0, tbp1, tbp2, tbp3⟩ := TB.out
           have n3 := TN.out.at 3 _ rfl
           have n4 := TN.out.at 4 _ rfl
           obtain ⟨ta2p0, ta2p1, ta2p2, ta2p3⟩ := TA2.out
           obtain ⟨ta3p0, ta3p1, ta3p2, ta3p3⟩ := TA3.out
           clear hb hh hal)
        | (refine wpList_load_mid rfl 32 (.tmp 3) rfl (w.heap.size + 1) 0 rfl [x0, x1, x2, .int .i64 K, .int .i64 S, .int .i64 P, .int .i64 O, .int .i8 Z, x8, .slice WA nW cW, .slice BA nB cB, x11, x12, x13, x14, x15, x16, x17, x18] _ (TN0.out) Try.underlying32 rfl (by kernel_rfl) ?_)
        | (refine wpList_load_mid rfl 32 (.tmp 3) rfl (w.heap.size + 1) 0 rfl [x0, x1, x2, .int .i64 K, .int .i64 S, .int .i64 P, .int .i64 O, .int .i8 Z, x8, .slice WA nW cW, .slice BA nB cB, x11, x12, x13, x14, x15, x16, x17, x18] _ (TN.out) Try.underlying32 rfl (by kernel_rfl) ?_)
        | (refine wpList_load_mid rfl 32 (.tmp 3) rfl (w.heap.size + 1) 0 rfl [x0, x1, x2, .int .i64 K, .int .i64 S, .int .i64 P, .int .i64 O, .int .i8 Z, x8, .slice WA nW cW, .slice BA nB cB, x11, x12, x13, x14, x15, x16, x17, x18] _ (TN.out.below yTN ((Below.refl _ _).alloc (Nat.le_refl _) _)) Try.underlying32 rfl (by kernel_rfl) ?_)
        | (refine load_mid_g (by rfl) 32 (.tmp 3) rfl (w.heap.size + 1) 0 rfl [x0, x1, x2, .int .i64 K, .int .i64 S, .int .i64 P, .int .i64 O, .int .i8 Z, x8, .slice WA nW cW, .slice BA nB cB, x11, x12, x13, x14, x15, x16, x17, x18] _ TN.out Try.underlying32 rfl (by kernel_rfl) ?_))
  go_ret
  exact ⟨rfl, HBW.out⟩
set_option maxHeartbeats 8000000 in
theorem walk_e3 {w : World} (H W C : Int) (A : Option Addr) (zs : List Int) (n c : Nat) (x0 x1 x2 x8 x11 x12 x13 x14 x15 x16 x17 x18 : Value) (K S P O Z : Int) (WA BA : Option Addr) (nW cW nB cB : Nat) (ws bs : List Int) (hf1 : n ≤ 1024) (hf2 : nW ≤ 2000) (hf3 : nB ≤ 200) (hr : Kit.Rd w w.heap.size A (I8s zs)) (hrw : Kit.Rd w w.heap.size WA (I8s ws)) (hrb : Kit.Rd w w.heap.size BA (I32v bs))
    (X Y U : Int) (m : Nat) (xs : List Int) (er1 er : Int) (h1 : (er1 != 0) = true) (h1c : (er1 == 0) = false) (h2 : (er != 0) = false) (h2c : (er == 0) = true) (h3 : (K != 3) = false) (h3c : (K == 3) = true) (h4 : (S != 1) = true) (h4c : (S == 1) = false)
    (hA2 : ∀ (w : World), Kit.Rd w w.heap.size A (I8s zs) → Kit.Rd w w.heap.size WA (I8s ws) → Kit.Rd w w.heap.size BA (I32v bs) → Calls Try.prog 8 #[.agg #[.int .i64 H, .int .i64 W, .int .i64 C, .slice A n c], .agg #[x0, x1, x2, .int .i64 K, .int .i64 S, .int .i64 P, .int .i64 O, .int .i8 Z, x8, .slice WA nW cW, .slice BA nB cB, x11, x12, x13, x14, x15, x16, x17, x18]] w (MadeA w X Y U m xs (.int .i64 er)))
    (hA1 : ∀ (w : World), Kit.Rd w w.heap.size A (I8s zs) → Kit.Rd w w.heap.size WA (I8s ws) → Kit.Rd w w.heap.size BA (I32v bs) → Calls Try.prog 7 #[.agg #[.int .i64 H, .int .i64 W, .int .i64 C, .slice A n c], .agg #[x0, x1, x2, .int .i64 K, .int .i64 S, .int .i64 P, .int .i64 O, .int .i8 Z, x8, .slice WA nW cW, .slice BA nB cB, x11, x12, x13, x14, x15, x16, x17, x18]] w (MadeA w 0 0 0 0 [] (.int .i64 er1))) :
    Calls Try.prog 3 #[.agg #[.int .i64 H, .int .i64 W, .int .i64 C, .slice A n c], .agg #[x0, x1, x2, .int .i64 K, .int .i64 S, .int .i64 P, .int .i64 O, .int .i8 Z, x8, .slice WA nW cW, .slice BA nB cB, x11, x12, x13, x14, x15, x16, x17, x18]] w fun e w' => e = .returned (.bool true) ∧ Below w.heap.size w w' := by
  have HA1 := Lib.hid hA1
  have HA2 := Lib.hid hA2
  have HR := Lib.hid hr
  have HRW := Lib.hid hrw
  have HRB := Lib.hid hrb
  clear hA1 hA2 hr hrw hrb
  have TN0 : Hid (NodeAt (w.heap.size + 1) x0 x1 x2 x8 x11 x12 x13 x14 x15 x16 x17 x18 K S P O Z WA BA nW cW nB cB ((w.alloc (.cells #[.int .i64 H, .int .i64 W, .int .i64 C, .slice A n c] 26)).alloc (.cells #[x0, x1, x2, .int .i64 K, .int .i64 S, .int .i64 P, .int .i64 O, .int .i8 Z, x8, .slice WA nW cW, .slice BA nB cB, x11, x12, x13, x14, x15, x16, x17, x18] 32))) := by
    have h := NodeAt.new x0 x1 x2 x8 x11 x12 x13 x14 x15 x16 x17 x18 K S P O Z WA BA nW cW nB cB 32 (w.alloc (.cells #[.int .i64 H, .int .i64 W, .int .i64 C, .slice A n c] 26))
    rw [World.size_alloc] at h
    exact Lib.hid h
  go_enter Try.func3, Try.ntmps3
  go_wp2_with (first
        | (go_at_call 5
           have hal : Below w.heap.size w ((w.alloc (.cells #[.int .i64 H, .int .i64 W, .int .i64 C, .slice A n c] 26)).alloc (.cells #[x0, x1, x2, .int .i64 K, .int .i64 S, .int .i64 P, .int .i64 O, .int .i8 Z, x8, .slice WA nW cW, .slice BA nB cB, x11, x12, x13, x14, x15, x16, x17, x18] 32)) := ((Below.refl _ _).alloc (by first | exact Nat.le_refl _ | (simp; done) | (simp; omega)) _).alloc (by first | exact Nat.le_refl _ | (simp; done) | (simp; omega)) _
           refine (few_yes H W C A n c x0 x1 x2 x8 x11 x12 x13 x14 x15 x16 x17 x18 K S P O Z WA BA nW cW nB cB hf1 hf2 hf3 _).mono ?_
           rintro e w1 ⟨rfl, hb⟩
           have hh : Below w.heap.size w w1 := hal.trans (hb.mono hal.size)
           have qTB := (boxNew H W C A n c 26) w
           try simp only [World.size_alloc] at qTB
           have TB := Lib.hid ((qTB.below (B' := w.heap.size + 1) (by omega) (((Below.refl _ _).alloc (by first | exact Nat.le_refl _ | (simp; done) | (simp; omega)) _).mono (by simp))).below (by first | (simp; done) | (simp; omega)) hb)
           have yTB : w.heap.size < w1.heap.size := by have := hb.size; simp at this; omega
           clear qTB
           have qTN := (NodeAt.new x0 x1 x2 x8 x11 x12 x13 x14 x15 x16 x17 x18 K S P O Z WA BA nW cW nB cB 32) (w.alloc (.cells #[.int .i64 H, .int .i64 W, .int .i64 C, .slice A n c] 26))
           try simp only [World.size_alloc] at qTN
           have TN := Lib.hid (qTN.below (by first | (simp; done) | (simp; omega)) hb)
           have yTN : w.heap.size + 1 < w1.heap.size := by have := hb.size; simp at this; omega
           clear qTN
           replace HR := Lib.hid ((HR.out.below hh).more hh.size)
           replace HRW := Lib.hid ((HRW.out.below hh).more hh.size)
           replace HRB := Lib.hid ((HRB.out.below hh).more hh.size)
           have HBW : Hid (Below w.heap.size w w1) := Lib.hid hh
           obtain ⟨tbp0, tbp1, tbp2, tbp3⟩ := TB.out
           have n3 := TN.out.at 3 _ rfl
           have n4 := TN.out.at 4 _ rfl
           clear hb hh hal)
        | (go_at_call 7
           have hal : Below w1.heap.size w1 w1 := Below.refl _ _
           refine (HA1.out _ ((HR.out.below hal).more hal.size) ((HRW.out.below hal).more hal.size) ((HRB.out.below hal).more hal.size)).mono ?_
           rintro e w2 ⟨v2, rfl, ho2, hb⟩
           have hh : Below w1.heap.size w1 w2 := hal.trans (hb.mono hal.size)
           replace TB := Lib.hid (TB.out.below yTB hh)
           replace yTB := Nat.lt_of_lt_of_le yTB hh.size
           replace TN := Lib.hid (TN.out.below yTN hh)
           replace yTN := Nat.lt_of_lt_of_le yTN hh.size
           replace HR := Lib.hid ((HR.out.below hh).more hh.size)
           replace HRW := Lib.hid ((HRW.out.below hh).more hh.size)
           replace HRB := Lib.hid ((HRB.out.below hh).more hh.size)
           replace HBW := Lib.hid (HBW.out.trans (hh.mono HBW.out.size))
           clear tbp0 tbp1 tbp2 tbp3 n3 n4
           obtain ⟨A2, c2, rfl, -, -, hrd2⟩ := Kit.own_rd ho2
           have RA2 := Lib.hid hrd2
           clear ho2 hrd2
           obtain ⟨tbp0, tbp1, tbp2, tbp3⟩ := TB.out
           have n3 := TN.out.at 3 _ rfl
           have n4 := TN.out.at 4 _ rfl
           clear hb hh hal)
        | (go_at_call 8
           have hal : Below w2.heap.size w2 (w2.alloc (.cells #[.int .i64 0, .int .i64 0, .int .i64 0, .slice A2 0 c2] 36)) := (Below.refl _ _).alloc (by first | exact Nat.le_refl _ | (simp; done) | (simp; omega)) _
           refine (HA2.out _ ((HR.out.below hal).more hal.size) ((HRW.out.below hal).more hal.size) ((HRB.out.below hal).more hal.size)).mono ?_
           rintro e w3 ⟨v3, rfl, ho3, hb⟩
           have hh : Below w2.heap.size w2 w3 := hal.trans (hb.mono hal.size)
           have qTA2 := (boxNew 0 0 0 A2 0 c2 36) w2
           try simp only [World.size_alloc] at qTA2
           have TA2 := Lib.hid (qTA2.below (by first | (simp; done) | (simp; omega)) hb)
           have yTA2 : w2.heap.size < w3.heap.size := by have := hb.size; simp at this; omega
           clear qTA2
           replace TB := Lib.hid (TB.out.below yTB hh)
           replace yTB := Nat.lt_of_lt_of_le yTB hh.size
           replace TN := Lib.hid (TN.out.below yTN hh)
           replace yTN := Nat.lt_of_lt_of_le yTN hh.size
           replace HR := Lib.hid ((HR.out.below hh).more hh.size)
           replace HRW := Lib.hid ((HRW.out.below hh).more hh.size)
           replace HRB := Lib.hid ((HRB.out.below hh).more hh.size)
           replace RA2 := Lib.hid ((RA2.out.below hh).more hh.size)
           replace HBW := Lib.hid (HBW.out.trans (hh.mono HBW.out.size))
           clear tbp0 tbp1 tbp2 tbp3 n3 n4
           obtain ⟨A3, c3, rfl, -, -, hrd3⟩ := Kit.own_rd ho3
           have RA3 := Lib.hid hrd3
           clear ho3 hrd3
           obtain ⟨tbp0, tbp1, tbp2, tbp3⟩ := TB.out
           have n3 := TN.out.at 3 _ rfl
           have n4 := TN.out.at 4 _ rfl
           obtain ⟨ta2p0, ta2p1, ta2p2, ta2p3⟩ := TA2.out
           clear hb hh hal)
        | (go_at_call 6
           have hal : Below w3.heap.size w3 (w3.alloc (.cells #[.int .i64 X, .int .i64 Y, .int .i64 U, .slice A3 m c3] 36)) := (Below.refl _ _).alloc (by first | exact Nat.le_refl _ | (simp; done) | (simp; omega)) _
           refine (known16 _).mono ?_
           rintro e w5 ⟨rfl, hb⟩
           have hh : Below w3.heap.size w3 w5 := hal.trans (hb.mono hal.size)
           have qTA3 := (boxNew X Y U A3 m c3 36) w3
           try simp only [World.size_alloc] at qTA3
           have TA3 := Lib.hid (qTA3.below (by first | (simp; done) | (simp; omega)) hb)
           have yTA3 : w3.heap.size < w5.heap.size := by have := hb.size; simp at this; omega
           clear qTA3
           replace TB := Lib.hid (TB.out.below yTB hh)
           replace yTB := Nat.lt_of_lt_of_le yTB hh.size
           replace TN := Lib.hid (TN.out.below yTN hh)
           replace yTN := Nat.lt_of_lt_of_le yTN hh.size
           replace TA2 := Lib.hid (TA2.out.below yTA2 hh)
           replace yTA2 := Nat.lt_of_lt_of_le yTA2 hh.size
           replace HR := Lib.hid ((HR.out.below hh).more hh.size)
           replace HRW := Lib.hid ((HRW.out.below hh).more hh.size)
           replace HRB := Lib.hid ((HRB.out.below hh).more hh.size)
           replace RA2 := Lib.hid ((RA2.out.below hh).more hh.size)
           replace HBW := Lib.hid (HBW.out.trans (hh.mono HBW.out.size))
           clear tbp0 tbp1 tbp2 tbp3 n3 n4 ta2p0 ta2p1 ta2p2 ta2p3
           obtain ⟨tbp0, tbp1, tbp2, tbp3⟩ := TB.out
           have n3 := TN.out.at 3 _ rfl
           have n4 := TN.out.at 4 _ rfl
           obtain ⟨ta2p0, ta2p1, ta2p2, ta2p3⟩ := TA2.out
           obtain ⟨ta3p0, ta3p1, ta3p2, ta3p3⟩ := TA3.out
           clear hb hh hal)
        | (refine wpList_load_mid rfl 32 (.tmp 3) rfl (w.heap.size + 1) 0 rfl [x0, x1, x2, .int .i64 K, .int .i64 S, .int .i64 P, .int .i64 O, .int .i8 Z, x8, .slice WA nW cW, .slice BA nB cB, x11, x12, x13, x14, x15, x16, x17, x18] _ (TN0.out) Try.underlying32 rfl (by kernel_rfl) ?_)
        | (refine wpList_load_mid rfl 32 (.tmp 3) rfl (w.heap.size + 1) 0 rfl [x0, x1, x2, .int .i64 K, .int .i64 S, .int .i64 P, .int .i64 O, .int .i8 Z, x8, .slice WA nW cW, .slice BA nB cB, x11, x12, x13, x14, x15, x16, x17, x18] _ (TN.out) Try.underlying32 rfl (by kernel_rfl) ?_)
        | (refine wpList_load_mid rfl 32 (.tmp 3) rfl (w.heap.size + 1) 0 rfl [x0, x1, x2, .int .i64 K, .int .i64 S, .int .i64 P, .int .i64 O, .int .i8 Z, x8, .slice WA nW cW, .slice BA nB cB, x11, x12, x13, x14, x15, x16, x17, x18] _ (TN.out.below yTN ((Below.refl _ _).alloc (Nat.le_refl _) _)) Try.underlying32 rfl (by kernel_rfl) ?_)
        | (refine load_mid_g (by rfl) 32 (.tmp 3) rfl (w.heap.size + 1) 0 rfl [x0, x1, x2, .int .i64 K, .int .i64 S, .int .i64 P, .int .i64 O, .int .i8 Z, x8, .slice WA nW cW, .slice BA nB cB, x11, x12, x13, x14, x15, x16, x17, x18] _ TN.out Try.underlying32 rfl (by kernel_rfl) ?_))
  go_ret
  exact ⟨rfl, HBW.out⟩
set_option maxHeartbeats 16000000 in
theorem walk_yes {w : World} (H W C : Int) (A : Option Addr) (zs : List Int) (n c : Nat) (hn : zs.length = n) (ht : tensB H W C n = true) (hz : I8b zs) (x0 x1 x2 x8 x11 x12 x13 x14 x15 x16 x17 x18 : Value) (K S P O Z : Int) (WA BA : Option Addr) (nW cW nB cB : Nat)
    (hone : ∀ v ∈ [x0, x1, x2, .int .i64 K, .int .i64 S, .int .i64 P, .int .i64 O, .int .i8 Z, x8, .slice WA nW cW, .slice BA nB cB, x11, x12, x13, x14, x15, x16, x17, x18], v.oneCell' = true) (ws : List Int) (hws : ws.length = nW) (hwc : nW ≤ cW) (hwm : cW ≤ maxLen) (hwb : I8b ws) (bs : List Int) (hbs : bs.length = nB) (hb32 : ∀ q, -2147483648 ≤ bs.getD q 0 ∧ bs.getD q 0 ≤ 2147483647)
    (he : convE H W C K S P O nW nB = 0) (hK : K = 3) (hS : S = 1) (z1 : -128 ≤ Z) (z2 : Z ≤ 127) (hf1 : n ≤ 1024) (hf2 : nW ≤ 2000) (hf3 : nB ≤ 200) (hr : Kit.Rd w w.heap.size A (I8s zs)) (hrw : Kit.Rd w w.heap.size WA (I8s ws)) (hrb : Kit.Rd w w.heap.size BA (I32v bs)) :
    Calls Try.prog 3 #[.agg #[.int .i64 H, .int .i64 W, .int .i64 C, .slice A n c], .agg #[x0, x1, x2, .int .i64 K, .int .i64 S, .int .i64 P, .int .i64 O, .int .i8 Z, x8, .slice WA nW cW, .slice BA nB cB, x11, x12, x13, x14, x15, x16, x17, x18]] w fun e w' => e = .returned (.bool true) ∧ Below w.heap.size w w' := by
  obtain ⟨hsl, hnW, hn16, hnB⟩ := convE_ok he
  obtain ⟨hs0, har1, har2, hst1, hst2, hsr⟩ := slide_ok hsl
  obtain ⟨q1, q2, q3, q4, q5, q6, q7⟩ := shapeB_yes hsr
  obtain ⟨g1, g2, g3, g4, c1, c2, g7⟩ := shapeB_yes hs0
  have hm : (n : Int) = H * W * C := by simp only [tensB, Bool.and_eq_true, decide_eq_true_eq] at ht; exact ht.2
  obtain ⟨a, ha⟩ : ∃ a : Nat, stepsM H K S P = (a : Int) := ⟨(stepsM H K S P).toNat, by omega⟩
  obtain ⟨b, hb⟩ : ∃ b : Nat, stepsM W K S P = (b : Int) := ⟨(stepsM W K S P).toNat, by omega⟩
  obtain ⟨oo, hO⟩ : ∃ oo : Nat, O = (oo : Int) := ⟨O.toNat, by omega⟩
  obtain ⟨d, hd⟩ : ∃ d : Nat, C = (d : Int) := ⟨C.toNat, by omega⟩
  obtain ⟨wn, hW⟩ : ∃ wn : Nat, W = (wn : Int) := ⟨W.toNat, by omega⟩
  obtain ⟨Hn, hH⟩ : ∃ Hn : Nat, H = (Hn : Int) := ⟨H.toNat, by omega⟩
  obtain ⟨N, hN⟩ : ∃ N, a * b * oo = N := ⟨_, rfl⟩
  have hN2 : (N : Int) ≤ 1024 := by
    have : (N : Int) = stepsM H K S P * stepsM W K S P * O := by rw [ha, hb, hO, ← hN]; simp
    omega
  have hbW : (b : Int) = W + 2 * P - 2 := by
    rw [← hb]
    unfold stepsM
    rw [if_pos har2, if_neg (by omega), hS, hK, Int.ediv_one]
    omega
  have hd0 : 0 < d := by omega
  have ho0 : 0 < oo := by omega
  have hb0 : 0 < b := by omega
  have hwn0 : 0 < wn := by omega
  have hHn : Hn * wn * d = n := by
    have : ((Hn * wn * d : Nat) : Int) = (n : Int) := by rw [hm, hH, hW, hd]; simp
    omega
  have hoW : oo * 3 * 3 * d = nW := by
    have : ((oo * 3 * 3 * d : Nat) : Int) = (nW : Int) := by rw [hnW, hO, hd, hK]; simp
    omega
  have hn0 : 0 < n := by rw [← hHn]; exact Nat.mul_pos (Nat.mul_pos (by omega) hwn0) hd0
  have hW0 : 0 < nW := by rw [← hoW]; exact Nat.mul_pos (Nat.mul_pos (Nat.mul_pos ho0 (by omega)) (by omega)) hd0
  obtain ⟨F1, hF1⟩ : ∃ F1, F1 = gridF b oo (sumF zs ws bs H W C S P d 3 Z) := ⟨_, rfl⟩
  obtain ⟨F2, hF2⟩ : ∃ F2, F2 = gridF b oo (sumF (rowL (overF zs wn d) n) (rowL (overF ws 3 d) nW) bs H W C S P d 3 Z) := ⟨_, rfl⟩
  have HA1 : Hid (∀ (w : World), Kit.Rd w w.heap.size A (I8s zs) → Kit.Rd w w.heap.size WA (I8s ws) → Kit.Rd w w.heap.size BA (I32v bs) → Calls Try.prog 7 #[.agg #[.int .i64 H, .int .i64 W, .int .i64 C, .slice A n c], .agg #[x0, x1, x2, .int .i64 K, .int .i64 S, .int .i64 P, .int .i64 O, .int .i8 Z, x8, .slice WA nW cW, .slice BA nB cB, x11, x12, x13, x14, x15, x16, x17, x18]] w (MadeA w (a : Int) (b : Int) O N (rowL F1 N) (.int .i64 0))) := Lib.hid (fun w hr hrw hrb => by
    rw [hF1]; exact lof_yes H W C A zs n c hn ht hz x0 x1 x2 x8 x11 x12 x13 x14 x15 x16 x17 x18 K S P O Z WA BA nW cW nB cB ws hws hwc hwm hwb bs hbs he hK hS a b oo d ha hb hO hd N hN z1 z2 w hr hrw hrb)
  have HA2 : Hid (∀ (w : World), Kit.Rd w w.heap.size A (I8s zs) → Kit.Rd w w.heap.size WA (I8s ws) → Kit.Rd w w.heap.size BA (I32v bs) → Calls Try.prog 8 #[.agg #[.int .i64 H, .int .i64 W, .int .i64 C, .slice A n c], .agg #[x0, x1, x2, .int .i64 K, .int .i64 S, .int .i64 P, .int .i64 O, .int .i8 Z, x8, .slice WA nW cW, .slice BA nB cB, x11, x12, x13, x14, x15, x16, x17, x18]] w (MadeA w (a : Int) (b : Int) O N (rowL F1 N) (.int .i64 0))) := Lib.hid (fun w hr hrw hrb => by
    rw [hF1]; exact refOf_yes H W C A zs n c hn ht hz x0 x1 x2 x8 x11 x12 x13 x14 x15 x16 x17 x18 K S P O Z WA BA nW cW nB cB ws hws hwc hwb bs hbs hb32 he a b oo d 3 ha hb hO hd hK N hN z1 z2 w hr hrw hrb)
  have HA3 : Hid (∀ (w : World) (AT AM : Option Addr) (cT cM : Nat), nW ≤ cM → cM ≤ maxLen → Kit.Rd w w.heap.size AT (I8s (rowL (overF zs wn d) n)) → Kit.Rd w w.heap.size AM (I8s (rowL (overF ws 3 d) nW)) → Kit.Rd w w.heap.size BA (I32v bs) → Calls Try.prog 7 #[.agg #[.int .i64 H, .int .i64 W, .int .i64 C, .slice AT n cT], .agg #[x0, x1, x2, .int .i64 K, .int .i64 S, .int .i64 P, .int .i64 O, .int .i8 Z, x8, .slice AM nW cM, .slice BA nB cB, x11, x12, x13, x14, x15, x16, x17, x18]] w (MadeA w (a : Int) (b : Int) O N (rowL F2 N) (.int .i64 0))) := Lib.hid (fun w AT AM cT cM h1 h2 hr hrw hrb => by
    rw [hF2]; exact lof_yes H W C AT (rowL (overF zs wn d) n) n cT (rowL_len _ _) ht (over_I8b hz _ _ _) x0 x1 x2 x8 x11 x12 x13 x14 x15 x16 x17 x18 K S P O Z AM BA nW cM nB cB (rowL (overF ws 3 d) nW) (rowL_len _ _) h1 h2 (over_I8b hwb _ _ _) bs hbs he hK hS a b oo d ha hb hO hd N hN z1 z2 w hr hrw hrb)
  have HFF : Hid (∀ q, q < N → F2 (turnN b oo q) = F1 q) := Lib.hid (fun q hq => by
    rw [hF1, hF2]; exact turned_sums zs ws bs Hn wn H W C S P d n nW oo a b N Z hS hd hH hW hd0 hHn hoW hbW hN q hq)
  have HV1 := Lib.hid (fun (w' : World) (r : Kit.Rd w' w'.heap.size A (I8s zs)) => over_to A zs n c wn d Hn W C hW hd hn hn0 (by omega) hHn w' r)
  have HV2 := Lib.hid (fun (w' : World) (r : Kit.Rd w' w'.heap.size WA (I8s ws)) => over_to WA ws nW cW 3 d (oo * 3) 3 C rfl hd hws hW0 (by omega) hoW w' r)
  have HONE := Lib.hid hone
  have HT := Lib.hid ht
  have HR := Lib.hid hr
  have HRW := Lib.hid hrw
  have HRB := Lib.hid hrb
  have HOO := Lib.hid hO
  have HNN := Lib.hid hN
  have h3 : (K != 3) = false := by simpa using hK
  have h4 : (S != 1) = false := by simpa using hS
  have hEq := eqShape (a : Int) (b : Int) O (a : Int) (b : Int) O
  have hg := Try.eqGuardType23
  have hO9 : ¬ O = 0 := by omega
  have hb9 : ¬ b = 0 := by omega
  have hn9 := hb0
  have hNle : N ≤ 1024 := by omega
  have hoN : oo ≤ N := by rw [← hN]; exact Nat.le_mul_of_pos_left _ (Nat.mul_pos (by omega) hb0)
  have hbN : b ≤ N := by rw [← hN, Nat.mul_assoc]; exact Nat.le_trans (Nat.le_mul_of_pos_right b ho0) (Nat.le_mul_of_pos_left _ (by omega))
  generalize (rowL (overF zs wn d) n) = zo at HV1 HA3
  generalize (rowL (overF ws 3 d) nW) = wo at HV2 HA3
  clear hn ht hz hws hwb hbs hb32 he ha hb hO hd hN hF1 hF2 hr hrw hrb hsl hs0 har1 har2 hst1 hst2 hsr g7 q7 hnW hnB hone hbW hHn hoW hm hW hH hK hS q1 q2 q3 q4 q5 q6 g1 g2 g3 g4 c1 c2 hn16 hN2 hwn0 hd0 hwc hwm hn9
  go_enter Try.func3, Try.ntmps3
  go_upto_region 1 with fail
  have TB := Lib.hid ((boxNew H W C A n c 26 w).below (B' := w.heap.size + 1) (by omega) ((Below.refl _ _).alloc (by simp) (.cells #[x0, x1, x2, .int .i64 K, .int .i64 S, .int .i64 P, .int .i64 O, .int .i8 Z, x8, .slice WA nW cW, .slice BA nB cB, x11, x12, x13, x14, x15, x16, x17, x18] 32)))
  have qTN := NodeAt.new x0 x1 x2 x8 x11 x12 x13 x14 x15 x16 x17 x18 K S P O Z WA BA nW cW nB cB 32 (w.alloc (.cells #[.int .i64 H, .int .i64 W, .int .i64 C, .slice A n c] 26))
  rw [World.size_alloc] at qTN
  have TN := Lib.hid qTN
  have HBW := Lib.hid (((Below.refl w.heap.size w).alloc (Nat.le_refl _) (.cells #[.int .i64 H, .int .i64 W, .int .i64 C, .slice A n c] 26)).alloc (by simp) (.cells #[x0, x1, x2, .int .i64 K, .int .i64 S, .int .i64 P, .int .i64 O, .int .i8 Z, x8, .slice WA nW cW, .slice BA nB cB, x11, x12, x13, x14, x15, x16, x17, x18] 32))
  have zz : w.heap.size + 2 ≤ ((w.alloc (.cells #[.int .i64 H, .int .i64 W, .int .i64 C, .slice A n c] 26)).alloc (.cells #[x0, x1, x2, .int .i64 K, .int .i64 S, .int .i64 P, .int .i64 O, .int .i8 Z, x8, .slice WA nW cW, .slice BA nB cB, x11, x12, x13, x14, x15, x16, x17, x18] 32)).heap.size := by simp
  clear qTN
  generalize (w.alloc (.cells #[.int .i64 H, .int .i64 W, .int .i64 C, .slice A n c] 26)).alloc (.cells #[x0, x1, x2, .int .i64 K, .int .i64 S, .int .i64 P, .int .i64 O, .int .i8 Z, x8, .slice WA nW cW, .slice BA nB cB, x11, x12, x13, x14, x15, x16, x17, x18] 32) = Wm at TB TN HBW zz ⊢
  have yTB : w.heap.size < Wm.heap.size := by omega
  have yTN : w.heap.size + 1 < Wm.heap.size := by omega
  replace HR := Lib.hid ((HR.out.below HBW.out).more HBW.out.size)
  replace HRW := Lib.hid ((HRW.out.below HBW.out).more HBW.out.size)
  replace HRB := Lib.hid ((HRB.out.below HBW.out).more HBW.out.size)
  obtain ⟨tbp0, tbp1, tbp2, tbp3⟩ := TB.out
  go_upto_region 7 with (first
    | (go_at_call 5
       have hal : Below Wm.heap.size Wm Wm := Below.refl _ _
       refine (few_yes H W C A n c x0 x1 x2 x8 x11 x12 x13 x14 x15 x16 x17 x18 K S P O Z WA BA nW cW nB cB hf1 hf2 hf3 _).mono ?_
       rintro e w1 ⟨rfl, hb⟩
       have hh : Below Wm.heap.size Wm w1 := hal.trans (hb.mono hal.size)
       replace TB := Lib.hid (TB.out.below yTB hh)
       replace yTB := Nat.lt_of_lt_of_le yTB hh.size
       replace TN := Lib.hid (TN.out.below yTN hh)
       replace yTN := Nat.lt_of_lt_of_le yTN hh.size
       replace HR := Lib.hid ((HR.out.below hh).more hh.size)
       replace HRW := Lib.hid ((HRW.out.below hh).more hh.size)
       replace HRB := Lib.hid ((HRB.out.below hh).more hh.size)
       replace HBW := Lib.hid (HBW.out.trans (hh.mono HBW.out.size))
       clear tbp0 tbp1 tbp2 tbp3
       obtain ⟨tbp0, tbp1, tbp2, tbp3⟩ := TB.out
       have n3 := TN.out.at 3 _ rfl
       have n4 := TN.out.at 4 _ rfl
       clear hb hh hal)
    | (go_at_call 7
       have hal : Below w1.heap.size w1 w1 := Below.refl _ _
       refine (HA1.out _ ((HR.out.below hal).more hal.size) ((HRW.out.below hal).more hal.size) ((HRB.out.below hal).more hal.size)).mono ?_
       rintro e w2 ⟨v2, rfl, ho2, hb⟩
       have hh : Below w1.heap.size w1 w2 := hal.trans (hb.mono hal.size)
       replace TB := Lib.hid (TB.out.below yTB hh)
       replace yTB := Nat.lt_of_lt_of_le yTB hh.size
       replace TN := Lib.hid (TN.out.below yTN hh)
       replace yTN := Nat.lt_of_lt_of_le yTN hh.size
       replace HR := Lib.hid ((HR.out.below hh).more hh.size)
       replace HRW := Lib.hid ((HRW.out.below hh).more hh.size)
       replace HRB := Lib.hid ((HRB.out.below hh).more hh.size)
       replace HBW := Lib.hid (HBW.out.trans (hh.mono HBW.out.size))
       clear tbp0 tbp1 tbp2 tbp3 n3 n4
       obtain ⟨A2, c2, rfl, -, -, hrd2⟩ := Kit.own_rd ho2
       have RA2 := Lib.hid hrd2
       clear ho2 hrd2
       obtain ⟨tbp0, tbp1, tbp2, tbp3⟩ := TB.out
       have n3 := TN.out.at 3 _ rfl
       have n4 := TN.out.at 4 _ rfl
       clear hb hh hal)
    | (go_at_call 8
       have hal : Below w2.heap.size w2 (w2.alloc (.cells #[.int .i64 (a : Int), .int .i64 (b : Int), .int .i64 O, .slice A2 N c2] 36)) := (Below.refl _ _).alloc (by first | exact Nat.le_refl _ | (simp; done) | (simp; omega)) _
       refine (HA2.out _ ((HR.out.below hal).more hal.size) ((HRW.out.below hal).more hal.size) ((HRB.out.below hal).more hal.size)).mono ?_
       rintro e w3 ⟨v3, rfl, ho3, hb⟩
       have hh : Below w2.heap.size w2 w3 := hal.trans (hb.mono hal.size)
       have qTA2 := (boxNew (a : Int) (b : Int) O A2 N c2 36) w2
       try simp only [World.size_alloc] at qTA2
       have TA2 := Lib.hid (qTA2.below (by first | (simp; done) | (simp; omega)) hb)
       have yTA2 : w2.heap.size < w3.heap.size := by have := hb.size; simp at this; omega
       clear qTA2
       replace TB := Lib.hid (TB.out.below yTB hh)
       replace yTB := Nat.lt_of_lt_of_le yTB hh.size
       replace TN := Lib.hid (TN.out.below yTN hh)
       replace yTN := Nat.lt_of_lt_of_le yTN hh.size
       replace HR := Lib.hid ((HR.out.below hh).more hh.size)
       replace HRW := Lib.hid ((HRW.out.below hh).more hh.size)
       replace HRB := Lib.hid ((HRB.out.below hh).more hh.size)
       replace RA2 := Lib.hid ((RA2.out.below hh).more hh.size)
       replace HBW := Lib.hid (HBW.out.trans (hh.mono HBW.out.size))
       clear tbp0 tbp1 tbp2 tbp3 n3 n4
       obtain ⟨A3, c3, rfl, -, -, hrd3⟩ := Kit.own_rd ho3
       have RA3 := Lib.hid hrd3
       clear ho3 hrd3
       obtain ⟨tbp0, tbp1, tbp2, tbp3⟩ := TB.out
       have n3 := TN.out.at 3 _ rfl
       have n4 := TN.out.at 4 _ rfl
       obtain ⟨ta2p0, ta2p1, ta2p2, ta2p3⟩ := TA2.out
       clear hb hh hal)
    | (refine wpList_load_mid rfl 32 (.tmp 3) rfl (w.heap.size + 1) 0 rfl [x0, x1, x2, .int .i64 K, .int .i64 S, .int .i64 P, .int .i64 O, .int .i8 Z, x8, .slice WA nW cW, .slice BA nB cB, x11, x12, x13, x14, x15, x16, x17, x18] _ (TN.out) Try.underlying32 rfl (by kernel_rfl) ?_)
    | (refine wpList_load_mid rfl 32 (.tmp 3) rfl (w.heap.size + 1) 0 rfl [x0, x1, x2, .int .i64 K, .int .i64 S, .int .i64 P, .int .i64 O, .int .i8 Z, x8, .slice WA nW cW, .slice BA nB cB, x11, x12, x13, x14, x15, x16, x17, x18] _ (TN.out.below yTN ((Below.refl _ _).alloc (Nat.le_refl _) _)) Try.underlying32 rfl (by kernel_rfl) ?_))
  have hal : Below w3.heap.size w3 (w3.alloc (.cells #[.int .i64 (a : Int), .int .i64 (b : Int), .int .i64 O, .slice A3 N c3] 36)) := (Below.refl _ _).alloc (Nat.le_refl _) _
  replace TB := Lib.hid (TB.out.below yTB hal)
  replace TN := Lib.hid (TN.out.below yTN hal)
  replace TA2 := Lib.hid (TA2.out.below yTA2 hal)
  replace HR := Lib.hid ((HR.out.below hal).more hal.size)
  replace HRW := Lib.hid ((HRW.out.below hal).more hal.size)
  replace HRB := Lib.hid ((HRB.out.below hal).more hal.size)
  replace RA2 := Lib.hid ((RA2.out.below hal).more hal.size)
  replace HBW := Lib.hid (HBW.out.trans (hal.mono HBW.out.size))
  replace yTB := Nat.lt_of_lt_of_le yTB hal.size
  replace yTN := Nat.lt_of_lt_of_le yTN hal.size
  replace yTA2 := Nat.lt_of_lt_of_le yTA2 hal.size
  clear hal tbp0 tbp1 tbp2 tbp3 ta2p0 ta2p1 ta2p2 ta2p3 n3 n4 RA3 h3 h4
  generalize w3.alloc (.cells #[.int .i64 (a : Int), .int .i64 (b : Int), .int .i64 O, .slice A3 N c3] 36) = W4 at TB TN TA2 HR HRW HRB RA2 HBW yTB yTN yTA2 ⊢
  generalize w2.heap.size = gA at TA2 yTA2 ⊢
  go_cut [9, 10] from 58 to 59 (fun s9 s10 wx => ∃ g9 g10 : Nat, s9 = .pointer (some ⟨g9, 0, none⟩) ∧ s10 = .pointer (some ⟨g10, 0, none⟩) ∧ W4.heap.size ≤ g9 ∧ W4.heap.size ≤ g10 ∧ g9 ≠ g10 ∧ Hid (BoxAt g9 H W C A n c wx) ∧ Hid (wx.there g9 0 4) ∧ Hid (NodeAt g10 x0 x1 x2 x8 x11 x12 x13 x14 x15 x16 x17 x18 K S P O Z WA BA nW cW nB cB wx) ∧ Hid (wx.there g10 0 19) ∧ g9 < wx.heap.size ∧ g10 < wx.heap.size ∧ Hid (Below W4.heap.size W4 wx))
  case first =>
    refine wp_region_held_drew (S := fun W' => BoxAt w.heap.size H W C A n c W' ∧ NodeAt (w.heap.size + 1) x0 x1 x2 x8 x11 x12 x13 x14 x15 x16 x17 x18 K S P O Z WA BA nW cW nB cB W') (by kernel_rfl) ⟨TB.out.below yTB (Below.refl _ _).drew, TN.out.below yTN (Below.refl _ _).drew⟩ (fun hHeld => ?_)
    have HB3 := Lib.hid ((Below.refl W4.heap.size W4).drew)
    generalize W4.drew = V0 at HB3 hHeld ⊢
    refine wpAnyH_take (i := 0) (oi := ({ dst := some 58, op := Op.load 26 (Operand.tmp 2), type := 26, pos := "law.go:41", after := #[], guard := none } : Oper)) (v := ?_) rfl (by kernel_rfl) (by kernel_rfl) (by kernel_rfl) (fun _ _ _ h => h) (Or.inl ⟨by rfl, ?_⟩) (by assumption) ?_
    rotate_left
    · intro wS hSw
      obtain ⟨⟨s1, s2, s3, s4⟩, hq2⟩ := hSw
      clear hq2
      first
        | (go_simp; done)
        | (go_simp; with_reducible rfl)
    try simp only [Act.put, List.setIfInBounds_toArray, List.set_cons_zero, List.set_cons_succ]
    refine wpAnyH_take (i := 1) (oi := ({ dst := some 59, op := Op.load 32 (Operand.tmp 3), type := 32, pos := "law.go:41", after := #[{ on := 4, ground := Ground.gcOnly Departure.lateStores }], guard := none } : Oper)) (v := .agg #[x0, x1, x2, .int .i64 K, .int .i64 S, .int .i64 P, .int .i64 O, .int .i8 Z, x8, .slice WA nW cW, .slice BA nB cB, x11, x12, x13, x14, x15, x16, x17, x18]) rfl (by kernel_rfl) (by kernel_rfl) (by kernel_rfl) (fun _ _ _ h => h) (yieldsIf_load_mid (by rfl) _ _ rfl (w.heap.size + 1) 0 rfl [x0, x1, x2, .int .i64 K, .int .i64 S, .int .i64 P, .int .i64 O, .int .i8 Z, x8, .slice WA nW cW, .slice BA nB cB, x11, x12, x13, x14, x15, x16, x17, x18] _ (fun w' h => h.2) Try.underlying32 rfl (by kernel_rfl)) (by assumption) ?_
    try simp only [Act.put, List.setIfInBounds_toArray, List.set_cons_zero, List.set_cons_succ]
    refine wpAnyH_ready (rs := [2, 3]) (by kernel_rfl) (by simp) ?_
    refine AllReadyH.cons (o := ({ dst := some 9, op := Op.alloc 26, type := 0, pos := "law.go:41", after := #[], guard := none } : Oper)) rfl (fun Kq hK => ?_) ?_
    · go_simp
      have hal := (Below.refl V0.heap.size V0).alloc (Nat.le_refl _) (.cells #[.int .i64 0, .int .i64 0, .int .i64 0, .slice none 0 0] 26)
      have HT2 := Lib.hid (Kit.there_new V0 (cs := #[.int .i64 0, .int .i64 0, .int .i64 0, .slice none 0 0]) 26 (n := 4) rfl)
      have hb2 : V0.heap.size < (V0.alloc (.cells #[.int .i64 0, .int .i64 0, .int .i64 0, .slice none 0 0] 26)).heap.size := by simp
      have hw2 := HB3.out.size
      replace HB3 := Lib.hid (HB3.out.alloc HB3.out.size (.cells #[.int .i64 0, .int .i64 0, .int .i64 0, .slice none 0 0] 26))
      clear hal hHeld
      refine hK.out _ _ ?_ (fun hHeld => ?_)
      · exact ⟨TB.out.below yTB HB3.out, TN.out.below yTN HB3.out⟩
      clear hK Kq
      try simp only [Act.put, List.setIfInBounds_toArray, List.set_cons_zero, List.set_cons_succ]
      generalize V0.alloc (.cells #[.int .i64 0, .int .i64 0, .int .i64 0, .slice none 0 0] 26) = V1 at HB3 HT2 hb2 ⊢
      refine wpAnyH_ready (rs := [3]) (by kernel_rfl) (by simp) ?_
      refine AllReadyH.cons (o := ({ dst := some 10, op := Op.alloc 32, type := 0, pos := "law.go:41", after := #[], guard := none } : Oper)) rfl (fun Kq hK => ?_) ?_
      · go_simp
        have hq := hb2
        have hal := (Below.refl V1.heap.size V1).alloc (Nat.le_refl _) (.cells #[.int .i64 0, .int .i64 0, .int .i64 0, .int .i64 0, .int .i64 0, .int .i64 0, .int .i64 0, .int .i8 0, .int .i8 0, .slice none 0 0, .slice none 0 0, .int .i32 0, .int .i64 0, .int .i8 0, .int .i32 0, .int .i64 0, .int .i8 0, .int .i8 0, .int .i8 0] 32)
        replace HT2 := Lib.hid (Kit.there_below HT2.out hal hb2)
        replace hb2 := Nat.lt_of_lt_of_le hb2 hal.size
        have HT3 := Lib.hid (Kit.there_new V1 (cs := #[.int .i64 0, .int .i64 0, .int .i64 0, .int .i64 0, .int .i64 0, .int .i64 0, .int .i64 0, .int .i8 0, .int .i8 0, .slice none 0 0, .slice none 0 0, .int .i32 0, .int .i64 0, .int .i8 0, .int .i32 0, .int .i64 0, .int .i8 0, .int .i8 0, .int .i8 0]) 32 (n := 19) rfl)
        have hb3 : V1.heap.size < (V1.alloc (.cells #[.int .i64 0, .int .i64 0, .int .i64 0, .int .i64 0, .int .i64 0, .int .i64 0, .int .i64 0, .int .i8 0, .int .i8 0, .slice none 0 0, .slice none 0 0, .int .i32 0, .int .i64 0, .int .i8 0, .int .i32 0, .int .i64 0, .int .i8 0, .int .i8 0, .int .i8 0] 32)).heap.size := by simp
        have hw3 := HB3.out.size
        have hne : V0.heap.size ≠ V1.heap.size := Nat.ne_of_lt hq
        replace HB3 := Lib.hid (HB3.out.alloc HB3.out.size (.cells #[.int .i64 0, .int .i64 0, .int .i64 0, .int .i64 0, .int .i64 0, .int .i64 0, .int .i64 0, .int .i8 0, .int .i8 0, .slice none 0 0, .slice none 0 0, .int .i32 0, .int .i64 0, .int .i8 0, .int .i32 0, .int .i64 0, .int .i8 0, .int .i8 0, .int .i8 0] 32))
        clear hal hHeld
        refine hK.out _ _ ?_ (fun hHeld => ?_)
        · exact ⟨TB.out.below yTB HB3.out, TN.out.below yTN HB3.out⟩
        clear hK Kq
        try simp only [Act.put, List.setIfInBounds_toArray, List.set_cons_zero, List.set_cons_succ]
        generalize V1.alloc (.cells #[.int .i64 0, .int .i64 0, .int .i64 0, .int .i64 0, .int .i64 0, .int .i64 0, .int .i64 0, .int .i8 0, .int .i8 0, .slice none 0 0, .slice none 0 0, .int .i32 0, .int .i64 0, .int .i8 0, .int .i32 0, .int .i64 0, .int .i8 0, .int .i8 0, .int .i8 0] 32) = V2 at HB3 HT2 hb2 HT3 hb3 ⊢
        refine wpAnyH_ready (rs := [4]) (by kernel_rfl) (by simp) ?_
        refine AllReadyH.cons (o := ({ dst := none, op := Op.store 26 (Operand.tmp 9) (Operand.tmp 58), type := 0, pos := "law.go:41", after := #[{ on := 2, ground := Ground.data }, { on := 0, ground := Ground.data }, { on := 0, ground := Ground.phase }, { on := 1, ground := Ground.textOnly Departure.lateStores }, { on := 2, ground := Ground.phase }, { on := 3, ground := Ground.phase }], guard := none } : Oper)) rfl (fun Kq hK => ?_) ?_
        · refine Eq.mpr (if_pos (by kernel_rfl)) ?_
          refine wp_store_mid 26 _ _ rfl (V0.heap.size) 0 #[.int .i64 H, .int .i64 W, .int .i64 C, .slice A n c] rfl rfl HT2.out (by kernel_rfl) (all_oneCell_toArray (cs := [.int .i64 H, .int .i64 W, .int .i64 C, .slice A n c]) (by simp [Value.oneCell'])) ?_
          change Kq _ (V2.setCells (V0.heap.size) 0 [.int .i64 H, .int .i64 W, .int .i64 C, .slice A n c])
          have HN4 := Lib.hid (box_stored HT2.out H W C A n c)
          replace HT3 := Lib.hid (Kit.there_cells HT3.out [.int .i64 H, .int .i64 W, .int .i64 C, .slice A n c] HT2.out)
          replace hb2 : V0.heap.size < (V2.setCells (V0.heap.size) 0 [.int .i64 H, .int .i64 W, .int .i64 C, .slice A n c]).heap.size := by rw [Kit.size_cells]; exact hb2
          replace hb3 : V1.heap.size < (V2.setCells (V0.heap.size) 0 [.int .i64 H, .int .i64 W, .int .i64 C, .slice A n c]).heap.size := by rw [Kit.size_cells]; exact hb3
          replace HB3 := Lib.hid (Kit.below_cells hw2 [.int .i64 H, .int .i64 W, .int .i64 C, .slice A n c] 0 V2 HB3.out)
          replace HT2 := Lib.hid (Kit.there_cells HT2.out [.int .i64 H, .int .i64 W, .int .i64 C, .slice A n c] HT2.out)
          clear hHeld
          refine hK.out _ _ ?_ (fun hHeld => ?_)
          · exact ⟨TB.out.below yTB HB3.out, TN.out.below yTN HB3.out⟩
          clear hK Kq
          try simp only [Act.put]
          generalize V2.setCells (V0.heap.size) 0 [.int .i64 H, .int .i64 W, .int .i64 C, .slice A n c] = V3 at HB3 HT2 hb2 HT3 hb3 HN4 ⊢
          refine wpAnyH_ready (rs := [5]) (by kernel_rfl) (by simp) ?_
          refine AllReadyH.cons (o := ({ dst := none, op := Op.store 32 (Operand.tmp 10) (Operand.tmp 59), type := 0, pos := "law.go:41", after := #[{ on := 3, ground := Ground.data }, { on := 1, ground := Ground.data }, { on := 4, ground := Ground.chain }, { on := 0, ground := Ground.phase }, { on := 1, ground := Ground.phase }, { on := 2, ground := Ground.phase }, { on := 3, ground := Ground.phase }, { on := 4, ground := Ground.phase }], guard := none } : Oper)) rfl (fun Kq hK => ?_) ?_
          · refine Eq.mpr (if_pos (by kernel_rfl)) ?_
            refine wp_store_mid 32 _ _ rfl (V1.heap.size) 0 #[x0, x1, x2, .int .i64 K, .int .i64 S, .int .i64 P, .int .i64 O, .int .i8 Z, x8, .slice WA nW cW, .slice BA nB cB, x11, x12, x13, x14, x15, x16, x17, x18] rfl rfl HT3.out (by kernel_rfl) (all_oneCell_toArray (cs := [x0, x1, x2, .int .i64 K, .int .i64 S, .int .i64 P, .int .i64 O, .int .i8 Z, x8, .slice WA nW cW, .slice BA nB cB, x11, x12, x13, x14, x15, x16, x17, x18]) HONE.out) ?_
            change Kq _ (V3.setCells (V1.heap.size) 0 [x0, x1, x2, .int .i64 K, .int .i64 S, .int .i64 P, .int .i64 O, .int .i8 Z, x8, .slice WA nW cW, .slice BA nB cB, x11, x12, x13, x14, x15, x16, x17, x18])
            have HN5 := Lib.hid (NodeAt.stored HT3.out x0 x1 x2 x8 x11 x12 x13 x14 x15 x16 x17 x18 K S P O Z WA BA nW cW nB cB)
            replace HN4 := Lib.hid (box_apart HN4.out hne 0 [x0, x1, x2, .int .i64 K, .int .i64 S, .int .i64 P, .int .i64 O, .int .i8 Z, x8, .slice WA nW cW, .slice BA nB cB, x11, x12, x13, x14, x15, x16, x17, x18])
            replace HT2 := Lib.hid (Kit.there_cells HT2.out [x0, x1, x2, .int .i64 K, .int .i64 S, .int .i64 P, .int .i64 O, .int .i8 Z, x8, .slice WA nW cW, .slice BA nB cB, x11, x12, x13, x14, x15, x16, x17, x18] HT3.out)
            replace hb2 : V0.heap.size < (V3.setCells (V1.heap.size) 0 [x0, x1, x2, .int .i64 K, .int .i64 S, .int .i64 P, .int .i64 O, .int .i8 Z, x8, .slice WA nW cW, .slice BA nB cB, x11, x12, x13, x14, x15, x16, x17, x18]).heap.size := by rw [Kit.size_cells]; exact hb2
            replace hb3 : V1.heap.size < (V3.setCells (V1.heap.size) 0 [x0, x1, x2, .int .i64 K, .int .i64 S, .int .i64 P, .int .i64 O, .int .i8 Z, x8, .slice WA nW cW, .slice BA nB cB, x11, x12, x13, x14, x15, x16, x17, x18]).heap.size := by rw [Kit.size_cells]; exact hb3
            replace HB3 := Lib.hid (Kit.below_cells hw3 [x0, x1, x2, .int .i64 K, .int .i64 S, .int .i64 P, .int .i64 O, .int .i8 Z, x8, .slice WA nW cW, .slice BA nB cB, x11, x12, x13, x14, x15, x16, x17, x18] 0 V3 HB3.out)
            replace HT3 := Lib.hid (Kit.there_cells HT3.out [x0, x1, x2, .int .i64 K, .int .i64 S, .int .i64 P, .int .i64 O, .int .i8 Z, x8, .slice WA nW cW, .slice BA nB cB, x11, x12, x13, x14, x15, x16, x17, x18] HT3.out)
            clear hHeld
            refine hK.out _ _ ?_ (fun hHeld => ?_)
            · exact ⟨TB.out.below yTB HB3.out, TN.out.below yTN HB3.out⟩
            clear hK Kq
            try simp only [Act.put]
            generalize V3.setCells (V1.heap.size) 0 [x0, x1, x2, .int .i64 K, .int .i64 S, .int .i64 P, .int .i64 O, .int .i8 Z, x8, .slice WA nW cW, .slice BA nB cB, x11, x12, x13, x14, x15, x16, x17, x18] = V4 at HB3 HT2 hb2 HT3 hb3 HN4 HN5 ⊢
            refine wpAnyH_done (by kernel_rfl) ?_ _
            go_wp2_with fail
            go_meet
            exact ⟨V0.heap.size, V1.heap.size, rfl, rfl, hw2, hw3, hne, HN4, HT2, HN5, HT3, hb2, hb3, HB3⟩
          exact AllReadyH.nil
        exact AllReadyH.nil
      exact AllReadyH.nil
    refine AllReadyH.cons (o := ({ dst := some 10, op := Op.alloc 32, type := 0, pos := "law.go:41", after := #[], guard := none } : Oper)) rfl (fun Kq hK => ?_) ?_
    · go_simp
      have hal := (Below.refl V0.heap.size V0).alloc (Nat.le_refl _) (.cells #[.int .i64 0, .int .i64 0, .int .i64 0, .int .i64 0, .int .i64 0, .int .i64 0, .int .i64 0, .int .i8 0, .int .i8 0, .slice none 0 0, .slice none 0 0, .int .i32 0, .int .i64 0, .int .i8 0, .int .i32 0, .int .i64 0, .int .i8 0, .int .i8 0, .int .i8 0] 32)
      have HT3 := Lib.hid (Kit.there_new V0 (cs := #[.int .i64 0, .int .i64 0, .int .i64 0, .int .i64 0, .int .i64 0, .int .i64 0, .int .i64 0, .int .i8 0, .int .i8 0, .slice none 0 0, .slice none 0 0, .int .i32 0, .int .i64 0, .int .i8 0, .int .i32 0, .int .i64 0, .int .i8 0, .int .i8 0, .int .i8 0]) 32 (n := 19) rfl)
      have hb3 : V0.heap.size < (V0.alloc (.cells #[.int .i64 0, .int .i64 0, .int .i64 0, .int .i64 0, .int .i64 0, .int .i64 0, .int .i64 0, .int .i8 0, .int .i8 0, .slice none 0 0, .slice none 0 0, .int .i32 0, .int .i64 0, .int .i8 0, .int .i32 0, .int .i64 0, .int .i8 0, .int .i8 0, .int .i8 0] 32)).heap.size := by simp
      have hw3 := HB3.out.size
      replace HB3 := Lib.hid (HB3.out.alloc HB3.out.size (.cells #[.int .i64 0, .int .i64 0, .int .i64 0, .int .i64 0, .int .i64 0, .int .i64 0, .int .i64 0, .int .i8 0, .int .i8 0, .slice none 0 0, .slice none 0 0, .int .i32 0, .int .i64 0, .int .i8 0, .int .i32 0, .int .i64 0, .int .i8 0, .int .i8 0, .int .i8 0] 32))
      clear hal hHeld
      refine hK.out _ _ ?_ (fun hHeld => ?_)
      · exact ⟨TB.out.below yTB HB3.out, TN.out.below yTN HB3.out⟩
      clear hK Kq
      try simp only [Act.put, List.setIfInBounds_toArray, List.set_cons_zero, List.set_cons_succ]
      generalize V0.alloc (.cells #[.int .i64 0, .int .i64 0, .int .i64 0, .int .i64 0, .int .i64 0, .int .i64 0, .int .i64 0, .int .i8 0, .int .i8 0, .slice none 0 0, .slice none 0 0, .int .i32 0, .int .i64 0, .int .i8 0, .int .i32 0, .int .i64 0, .int .i8 0, .int .i8 0, .int .i8 0] 32) = V5 at HB3 HT3 hb3 ⊢
      refine wpAnyH_ready (rs := [2]) (by kernel_rfl) (by simp) ?_
      refine AllReadyH.cons (o := ({ dst := some 9, op := Op.alloc 26, type := 0, pos := "law.go:41", after := #[], guard := none } : Oper)) rfl (fun Kq hK => ?_) ?_
      · go_simp
        have hq := hb3
        have hal := (Below.refl V5.heap.size V5).alloc (Nat.le_refl _) (.cells #[.int .i64 0, .int .i64 0, .int .i64 0, .slice none 0 0] 26)
        replace HT3 := Lib.hid (Kit.there_below HT3.out hal hb3)
        replace hb3 := Nat.lt_of_lt_of_le hb3 hal.size
        have HT2 := Lib.hid (Kit.there_new V5 (cs := #[.int .i64 0, .int .i64 0, .int .i64 0, .slice none 0 0]) 26 (n := 4) rfl)
        have hb2 : V5.heap.size < (V5.alloc (.cells #[.int .i64 0, .int .i64 0, .int .i64 0, .slice none 0 0] 26)).heap.size := by simp
        have hw2 := HB3.out.size
        have hne : V0.heap.size ≠ V5.heap.size := Nat.ne_of_lt hq
        replace HB3 := Lib.hid (HB3.out.alloc HB3.out.size (.cells #[.int .i64 0, .int .i64 0, .int .i64 0, .slice none 0 0] 26))
        clear hal hHeld
        refine hK.out _ _ ?_ (fun hHeld => ?_)
        · exact ⟨TB.out.below yTB HB3.out, TN.out.below yTN HB3.out⟩
        clear hK Kq
        try simp only [Act.put, List.setIfInBounds_toArray, List.set_cons_zero, List.set_cons_succ]
        generalize V5.alloc (.cells #[.int .i64 0, .int .i64 0, .int .i64 0, .slice none 0 0] 26) = V6 at HB3 HT3 hb3 HT2 hb2 ⊢
        refine wpAnyH_ready (rs := [4]) (by kernel_rfl) (by simp) ?_
        refine AllReadyH.cons (o := ({ dst := none, op := Op.store 26 (Operand.tmp 9) (Operand.tmp 58), type := 0, pos := "law.go:41", after := #[{ on := 2, ground := Ground.data }, { on := 0, ground := Ground.data }, { on := 0, ground := Ground.phase }, { on := 1, ground := Ground.textOnly Departure.lateStores }, { on := 2, ground := Ground.phase }, { on := 3, ground := Ground.phase }], guard := none } : Oper)) rfl (fun Kq hK => ?_) ?_
        · refine Eq.mpr (if_pos (by kernel_rfl)) ?_
          refine wp_store_mid 26 _ _ rfl (V5.heap.size) 0 #[.int .i64 H, .int .i64 W, .int .i64 C, .slice A n c] rfl rfl HT2.out (by kernel_rfl) (all_oneCell_toArray (cs := [.int .i64 H, .int .i64 W, .int .i64 C, .slice A n c]) (by simp [Value.oneCell'])) ?_
          change Kq _ (V6.setCells (V5.heap.size) 0 [.int .i64 H, .int .i64 W, .int .i64 C, .slice A n c])
          have HN4 := Lib.hid (box_stored HT2.out H W C A n c)
          replace HT3 := Lib.hid (Kit.there_cells HT3.out [.int .i64 H, .int .i64 W, .int .i64 C, .slice A n c] HT2.out)
          replace hb2 : V5.heap.size < (V6.setCells (V5.heap.size) 0 [.int .i64 H, .int .i64 W, .int .i64 C, .slice A n c]).heap.size := by rw [Kit.size_cells]; exact hb2
          replace hb3 : V0.heap.size < (V6.setCells (V5.heap.size) 0 [.int .i64 H, .int .i64 W, .int .i64 C, .slice A n c]).heap.size := by rw [Kit.size_cells]; exact hb3
          replace HB3 := Lib.hid (Kit.below_cells hw2 [.int .i64 H, .int .i64 W, .int .i64 C, .slice A n c] 0 V6 HB3.out)
          replace HT2 := Lib.hid (Kit.there_cells HT2.out [.int .i64 H, .int .i64 W, .int .i64 C, .slice A n c] HT2.out)
          clear hHeld
          refine hK.out _ _ ?_ (fun hHeld => ?_)
          · exact ⟨TB.out.below yTB HB3.out, TN.out.below yTN HB3.out⟩
          clear hK Kq
          try simp only [Act.put]
          generalize V6.setCells (V5.heap.size) 0 [.int .i64 H, .int .i64 W, .int .i64 C, .slice A n c] = V7 at HB3 HT3 hb3 HT2 hb2 HN4 ⊢
          refine wpAnyH_ready (rs := [5]) (by kernel_rfl) (by simp) ?_
          refine AllReadyH.cons (o := ({ dst := none, op := Op.store 32 (Operand.tmp 10) (Operand.tmp 59), type := 0, pos := "law.go:41", after := #[{ on := 3, ground := Ground.data }, { on := 1, ground := Ground.data }, { on := 4, ground := Ground.chain }, { on := 0, ground := Ground.phase }, { on := 1, ground := Ground.phase }, { on := 2, ground := Ground.phase }, { on := 3, ground := Ground.phase }, { on := 4, ground := Ground.phase }], guard := none } : Oper)) rfl (fun Kq hK => ?_) ?_
          · refine Eq.mpr (if_pos (by kernel_rfl)) ?_
            refine wp_store_mid 32 _ _ rfl (V0.heap.size) 0 #[x0, x1, x2, .int .i64 K, .int .i64 S, .int .i64 P, .int .i64 O, .int .i8 Z, x8, .slice WA nW cW, .slice BA nB cB, x11, x12, x13, x14, x15, x16, x17, x18] rfl rfl HT3.out (by kernel_rfl) (all_oneCell_toArray (cs := [x0, x1, x2, .int .i64 K, .int .i64 S, .int .i64 P, .int .i64 O, .int .i8 Z, x8, .slice WA nW cW, .slice BA nB cB, x11, x12, x13, x14, x15, x16, x17, x18]) HONE.out) ?_
            change Kq _ (V7.setCells (V0.heap.size) 0 [x0, x1, x2, .int .i64 K, .int .i64 S, .int .i64 P, .int .i64 O, .int .i8 Z, x8, .slice WA nW cW, .slice BA nB cB, x11, x12, x13, x14, x15, x16, x17, x18])
            have HN5 := Lib.hid (NodeAt.stored HT3.out x0 x1 x2 x8 x11 x12 x13 x14 x15 x16 x17 x18 K S P O Z WA BA nW cW nB cB)
            replace HN4 := Lib.hid (box_apart HN4.out hne.symm 0 [x0, x1, x2, .int .i64 K, .int .i64 S, .int .i64 P, .int .i64 O, .int .i8 Z, x8, .slice WA nW cW, .slice BA nB cB, x11, x12, x13, x14, x15, x16, x17, x18])
            replace HT2 := Lib.hid (Kit.there_cells HT2.out [x0, x1, x2, .int .i64 K, .int .i64 S, .int .i64 P, .int .i64 O, .int .i8 Z, x8, .slice WA nW cW, .slice BA nB cB, x11, x12, x13, x14, x15, x16, x17, x18] HT3.out)
            replace hb2 : V5.heap.size < (V7.setCells (V0.heap.size) 0 [x0, x1, x2, .int .i64 K, .int .i64 S, .int .i64 P, .int .i64 O, .int .i8 Z, x8, .slice WA nW cW, .slice BA nB cB, x11, x12, x13, x14, x15, x16, x17, x18]).heap.size := by rw [Kit.size_cells]; exact hb2
            replace hb3 : V0.heap.size < (V7.setCells (V0.heap.size) 0 [x0, x1, x2, .int .i64 K, .int .i64 S, .int .i64 P, .int .i64 O, .int .i8 Z, x8, .slice WA nW cW, .slice BA nB cB, x11, x12, x13, x14, x15, x16, x17, x18]).heap.size := by rw [Kit.size_cells]; exact hb3
            replace HB3 := Lib.hid (Kit.below_cells hw3 [x0, x1, x2, .int .i64 K, .int .i64 S, .int .i64 P, .int .i64 O, .int .i8 Z, x8, .slice WA nW cW, .slice BA nB cB, x11, x12, x13, x14, x15, x16, x17, x18] 0 V7 HB3.out)
            replace HT3 := Lib.hid (Kit.there_cells HT3.out [x0, x1, x2, .int .i64 K, .int .i64 S, .int .i64 P, .int .i64 O, .int .i8 Z, x8, .slice WA nW cW, .slice BA nB cB, x11, x12, x13, x14, x15, x16, x17, x18] HT3.out)
            clear hHeld
            refine hK.out _ _ ?_ (fun hHeld => ?_)
            · exact ⟨TB.out.below yTB HB3.out, TN.out.below yTN HB3.out⟩
            clear hK Kq
            try simp only [Act.put]
            generalize V7.setCells (V0.heap.size) 0 [x0, x1, x2, .int .i64 K, .int .i64 S, .int .i64 P, .int .i64 O, .int .i8 Z, x8, .slice WA nW cW, .slice BA nB cB, x11, x12, x13, x14, x15, x16, x17, x18] = V8 at HB3 HT3 hb3 HT2 hb2 HN4 HN5 ⊢
            refine wpAnyH_done (by kernel_rfl) ?_ _
            go_wp2_with fail
            go_meet
            exact ⟨V5.heap.size, V0.heap.size, rfl, rfl, hw2, hw3, hne.symm, HN4, HT2, HN5, HT3, hb2, hb3, HB3⟩
          exact AllReadyH.nil
        exact AllReadyH.nil
      exact AllReadyH.nil
    exact AllReadyH.nil
  case rest =>
    obtain ⟨g9, g10, rfl, rfl, hg9, hg10, hne, TU, T9, N10, T10, y9, y10, HB4⟩ := hcut
    obtain ⟨tbp0, tbp1, tbp2, tbp3⟩ := TB.out.below yTB HB4.out
    go_upto_region 9 with (go_at_call 9; refine (HV1.out _ ((HR.out.below HB4.out).more HB4.out.size)).mono ?_; rintro e w6 ⟨vT, rfl, hoT, hbT⟩; obtain ⟨AT, cT, rfl, hcT1, hcT2, -⟩ := Kit.own_rd hoT; have OT := Lib.hid (Kit.own_base hoT (show W4.heap.size + 0 ≤ _ from HB4.out.size)); have OT9 := Lib.hid hoT; replace TU := Lib.hid (TU.out.below y9 hbT); replace T9 := Lib.hid (Kit.there_below T9.out hbT y9); replace N10 := Lib.hid (N10.out.below y10 hbT); replace T10 := Lib.hid (Kit.there_below T10.out hbT y10); have b9 := y9; have b10 := y10; replace y9 := Nat.lt_of_lt_of_le y9 hbT.size; replace y10 := Nat.lt_of_lt_of_le y10 hbT.size; replace HB4 := Lib.hid (HB4.out.trans (hbT.mono HB4.out.size)); have m3 := TU.out.2.2.2; have fm3 := there_at T9.out (i := 3) (by decide); clear hoT hbT OT tbp0 tbp1 tbp2 tbp3)
    have hs3 : (w6.cell? ⟨g9, 3, none⟩).isSome = true := by rw [m3]; rfl
    replace TU := Lib.hid (box_set3 TU.out AT cT)
    replace T10 := Lib.hid (there_set T10.out ⟨g9, 3, none⟩ (.slice AT n cT) hs3)
    replace N10 := Lib.hid (NodeAt.oth (i := 3) N10.out hne.symm (.slice AT n cT))
    replace HB4 := Lib.hid (HB4.out.setCell (p := ⟨g9, 3, none⟩) hg9 (.slice AT n cT))
    have OT := Lib.hid (own_set OT9.out ⟨g9, 3, none⟩ (.slice AT n cT) b9)
    replace y9 : g9 < (w6.setCell ⟨g9, 3, none⟩ (.slice AT n cT)).heap.size := by simpa using y9
    replace y10 : g10 < (w6.setCell ⟨g9, 3, none⟩ (.slice AT n cT)).heap.size := by simpa using y10
    clear m3 fm3 hs3 OT9 T9
    generalize w6.setCell ⟨g9, 3, none⟩ (.slice AT n cT) = w7 at TU N10 T10 HB4 OT y9 y10 ⊢
    obtain ⟨tbp0, tbp1, tbp2, tbp3⟩ := TB.out.below yTB HB4.out
    have n9 := (TN.out.below yTN HB4.out).at 9 _ rfl
    go_upto_region 10 with (go_at_call 9; refine (HV2.out _ ((HRW.out.below HB4.out).more HB4.out.size)).mono ?_; rintro e w8 ⟨vM, rfl, hoM, hbM⟩; obtain ⟨AM, cM, rfl, hcM1, hcM2, -⟩ := Kit.own_rd hoM; have OM9 := Lib.hid hoM; replace OT := Lib.hid (Kit.own_below OT.out hbM); replace TU := Lib.hid (TU.out.below y9 hbM); replace N10 := Lib.hid (N10.out.below y10 hbM); replace T10 := Lib.hid (Kit.there_below T10.out hbM y10); have d10 := y10; replace y9 := Nat.lt_of_lt_of_le y9 hbM.size; replace y10 := Nat.lt_of_lt_of_le y10 hbM.size; replace HB4 := Lib.hid (HB4.out.trans (hbM.mono HB4.out.size)); have m9 := N10.out.at 9 _ rfl; have fm9 := there_at T10.out (i := 9) (by decide); clear hoM hbM tbp0 tbp1 tbp2 tbp3 n9)
    replace TU := Lib.hid (box_oth TU.out (q := ⟨g10, 9, none⟩) hne (.slice AM nW cM))
    replace N10 := Lib.hid (N10.out.set9 AM nW cM)
    replace HB4 := Lib.hid (HB4.out.setCell (p := ⟨g10, 9, none⟩) hg10 (.slice AM nW cM))
    replace OT := Lib.hid (own_set OT.out ⟨g10, 9, none⟩ (.slice AM nW cM) b10)
    have OM := Lib.hid (own_set OM9.out ⟨g10, 9, none⟩ (.slice AM nW cM) d10)
    replace y9 : g9 < (w8.setCell ⟨g10, 9, none⟩ (.slice AM nW cM)).heap.size := by simpa using y9
    replace y10 : g10 < (w8.setCell ⟨g10, 9, none⟩ (.slice AM nW cM)).heap.size := by simpa using y10
    clear m9 fm9 OM9 T10 b9 b10 d10
    generalize w8.setCell ⟨g10, 9, none⟩ (.slice AM nW cM) = w9 at TU N10 HB4 OT OM y9 y10 ⊢
    obtain ⟨AT', cT', eT, -, -, hrT⟩ := Kit.own_rd OT.out
    cases eT
    obtain ⟨AM', cM', eM, -, -, hrM⟩ := Kit.own_rd OM.out
    cases eM
    have RT := Lib.hid hrT
    have RM := Lib.hid hrM
    clear hrT hrM OT OM
    obtain ⟨tup0, tup1, tup2, tup3⟩ := TU.out
    go_upto_region 11 with (first
      | (refine wpList_load_mid rfl 32 (.tmp 10) rfl (g10) 0 rfl [x0, x1, x2, .int .i64 K, .int .i64 S, .int .i64 P, .int .i64 O, .int .i8 Z, x8, .slice AM nW cM, .slice BA nB cB, x11, x12, x13, x14, x15, x16, x17, x18] _ (N10.out) Try.underlying32 rfl (by kernel_rfl) ?_)
      | (go_at_call 7; refine (HA3.out _ AT AM cT cM hcM1 hcM2 RT.out RM.out ((HRB.out.below HB4.out).more HB4.out.size)).mono ?_; rintro e wa ⟨va, rfl, hoa, hba⟩; obtain ⟨A8, c8, rfl, -, -, hra⟩ := Kit.own_rd hoa; have RA8 := Lib.hid hra; replace TU := Lib.hid (TU.out.below y9 hba); replace y9 := Nat.lt_of_lt_of_le y9 hba.size; replace HB4 := Lib.hid (HB4.out.trans (hba.mono HB4.out.size)); clear hoa hba hra tup0 tup1 tup2 tup3))
    have hal : Below wa.heap.size wa (wa.alloc (.cells #[.int .i64 (a : Int), .int .i64 (b : Int), .int .i64 O, .slice A8 N c8] 36)) := (Below.refl _ _).alloc (Nat.le_refl _) _
    have TA8 := Lib.hid (boxNew (a : Int) (b : Int) O A8 N c8 36 wa)
    have yA8 : wa.heap.size < (wa.alloc (.cells #[.int .i64 (a : Int), .int .i64 (b : Int), .int .i64 O, .slice A8 N c8] 36)).heap.size := by simp
    replace RA8 := Lib.hid ((RA8.out.below hal).more hal.size)
    replace TU := Lib.hid (TU.out.below y9 hal)
    replace y9 := Nat.lt_of_lt_of_le y9 hal.size
    replace HB4 := Lib.hid (HB4.out.trans (hal.mono HB4.out.size))
    clear hal
    generalize wa.alloc (.cells #[.int .i64 (a : Int), .int .i64 (b : Int), .int .i64 O, .slice A8 N c8] 36) = wb at TA8 yA8 RA8 TU y9 HB4 ⊢
    generalize wa.heap.size = gB at TA8 yA8 ⊢
    obtain ⟨tup0, tup1, tup2, tup3⟩ := TU.out
    obtain ⟨p0, p1, p2, p3⟩ := TA2.out.below yTA2 HB4.out
    obtain ⟨r0, r1, r2, r3⟩ := TA8.out
    go_upto_region 13 with (go_at_call 10; refine (refRight_to H W C AT n cT true HT.out _).mono ?_; rintro e wc ⟨rfl, hbc⟩; replace TA8 := Lib.hid (TA8.out.below yA8 hbc); replace RA8 := Lib.hid ((RA8.out.below hbc).more hbc.size); replace HB4 := Lib.hid (HB4.out.trans (hbc.mono HB4.out.size)); replace yA8 := Nat.lt_of_lt_of_le yA8 hbc.size; clear hbc tup0 tup1 tup2 tup3 p0 p1 p2 p3 r0 r1 r2 r3; obtain ⟨p0, p1, p2, p3⟩ := TA2.out.below yTA2 HB4.out; obtain ⟨r0, r1, r2, r3⟩ := TA8.out)
    go_upto_region 14 with fail
    have hal : Below wc.heap.size wc (wc.alloc (.cells #[.int .i64 (a : Int), .int .i64 (b : Int), .int .i64 O] 23)) := (Below.refl _ _).alloc (Nat.le_refl _) _
    have TS9 := Lib.hid (shapeNew (a : Int) (b : Int) O 23 wc)
    replace TA8 := Lib.hid (TA8.out.below yA8 hal)
    replace RA8 := Lib.hid ((RA8.out.below hal).more hal.size)
    replace HB4 := Lib.hid (HB4.out.trans (hal.mono HB4.out.size))
    clear hal p0 p1 p2 p3 r0 r1 r2 r3 yA8
    generalize wc.alloc (.cells #[.int .i64 (a : Int), .int .i64 (b : Int), .int .i64 O] 23) = wd at TS9 TA8 RA8 HB4 ⊢
    generalize wc.heap.size = gS at TS9 ⊢
    replace TA2 := Lib.hid (TA2.out.below yTA2 HB4.out)
    replace RA2 := Lib.hid (RA2.out.below HB4.out)
    obtain ⟨p0, p1, p2, p3⟩ := TA2.out
    obtain ⟨r0, r1, r2, r3⟩ := TA8.out
    obtain ⟨s0, s1, s2⟩ := TS9.out
    have HBE := Lib.hid (HBW.out.trans (HB4.out.mono HBW.out.size))
    have HOI := HOO.out
    subst HOI
    have hO9n : ¬ oo = 0 := by omega
    clear TU TN TB HB4 RT RM HA1 HA2 HA3 HV1 HV2 HR HRW HRB
    go_wp2_with fail
    go_loopw [14] (fun u wr => ∃ i nq : Nat, i ≤ N ∧ u = .int .i64 i ∧ Hid (wr = wd.drewN nq)) (fun u _ => N - (intOf u).toNat)
    case atStart => exact ⟨0, 0, Nat.zero_le _, rfl, Lib.hid rfl⟩
    case round =>
      obtain ⟨i, nq, hi, rfl, hw⟩ := hrel
      obtain rfl := hw.out
      clear hw
      by_cases hlt : i < N
      · obtain ⟨p1', hp1⟩ : ∃ p1, i / oo = p1 := ⟨_, rfl⟩
        obtain ⟨r, hr⟩ : ∃ r, p1' / b = r := ⟨_, rfl⟩
        obtain ⟨x, hx⟩ : ∃ x, p1' % b = x := ⟨_, rfl⟩
        obtain ⟨k, hk⟩ : ∃ k, i % oo = k := ⟨_, rfl⟩
        have hxw : x < b := by rw [← hx]; exact Nat.mod_lt _ hb0
        have hkc : k < oo := by rw [← hk]; exact Nat.mod_lt _ ho0
        have hpos : turnN b oo i < N := turn_lt hb0 ho0 HNN.out hlt
        have hval := HFF.out i hlt
        have hposE : turnN b oo i = (r * b + (b - 1 - x)) * oo + k := by unfold turnN; rw [hp1, hr, hx, hk]
        rw [hposE] at hpos hval
        have hrow : r * b ≤ N := by
          have : r * b ≤ (r * b + (b - 1 - x)) * oo := Nat.le_trans (Nat.le_add_right _ _) (Nat.le_mul_of_pos_right _ ho0)
          omega
        have hr1 : r * b + (b - 1 - x) ≤ N := by
          have : r * b + (b - 1 - x) ≤ (r * b + (b - 1 - x)) * oo := Nat.le_mul_of_pos_right _ ho0
          omega
        have hrn : r ≤ N := Nat.le_trans (Nat.le_mul_of_pos_right _ hb0) hrow
        have hp1n : p1' ≤ N := by rw [← hp1]; exact Nat.le_trans (Nat.div_le_self _ _) (by omega)
        have d1 : (i : Int).tdiv (oo : Int) = (p1' : Int) := by rw [Int.tdiv_eq_ediv_of_nonneg (by omega), ← hp1]; simp
        have d2 : (p1' : Int).tdiv (b : Int) = (r : Int) := by rw [Int.tdiv_eq_ediv_of_nonneg (by omega), ← hr]; simp
        have d3 : (p1' : Int).tmod (b : Int) = (x : Int) := by rw [Int.tmod_eq_emod_of_nonneg (by omega), ← hx]; simp
        have d4 : (i : Int).tmod (oo : Int) = (k : Int) := by rw [Int.tmod_eq_emod_of_nonneg (by omega), ← hk]; simp
        have d5 : (p1' : Int) % (b : Int) = (x : Int) := by rw [← hx]; simp
        have d6 : (i : Int) % (oo : Int) = (k : Int) := by rw [← hk]; simp
        have u1 : IntKind.i64.wrap (p1' : Int) = (p1' : Int) := IntWalk.i64_in _ (by omega)
        have u2 : IntKind.i64.wrap (r : Int) = (r : Int) := IntWalk.i64_in _ (by omega)
        have u3 : IntKind.i64.wrap (x : Int) = (x : Int) := IntWalk.i64_in _ (by omega)
        have u4 : IntKind.i64.wrap (k : Int) = (k : Int) := IntWalk.i64_in _ (by omega)
        obtain ⟨rw0, hrw⟩ : ∃ rw0, r * b = rw0 := ⟨_, rfl⟩
        rw [hrw] at hpos hval hrow hr1
        obtain ⟨y, hy⟩ : ∃ y, rw0 + (b - 1 - x) = y := ⟨_, rfl⟩
        rw [hy] at hpos hval hr1
        obtain ⟨yc, hyc⟩ : ∃ yc, y * oo = yc := ⟨_, rfl⟩
        rw [hyc] at hpos hval
        obtain ⟨p, hp⟩ : ∃ p, yc + k = p := ⟨_, rfl⟩
        rw [hp] at hpos hval
        have f1 : IntKind.i64.wrap ((r : Int) * (b : Int)) = (rw0 : Int) := by rw [← Int.natCast_mul, hrw]; exact IntWalk.i64_in _ (by omega)
        have f2 : IntKind.i64.wrap ((rw0 : Int) + (b : Int)) = (rw0 : Int) + (b : Int) := IntWalk.i64_in _ (by omega)
        have f3 : IntKind.i64.wrap ((rw0 : Int) + (b : Int) - 1) = (rw0 : Int) + (b : Int) - 1 := IntWalk.i64_in _ (by omega)
        have f4 : IntKind.i64.wrap ((rw0 : Int) + (b : Int) - 1 - (x : Int)) = (y : Int) := by rw [IntWalk.i64_in _ (by omega)]; omega
        have f5 : IntKind.i64.wrap ((y : Int) * (oo : Int)) = (yc : Int) := by rw [← Int.natCast_mul, hyc]; exact IntWalk.i64_in _ (by omega)
        have f6 : IntKind.i64.wrap ((yc : Int) + (k : Int)) = (p : Int) := by rw [← Int.natCast_add, hp]; exact IntWalk.i64_in _ (by omega)
        obtain ⟨b2, o2, e2, -, hc2⟩ := ints_getD RA2.out (j := 0) (by rw [rowL_len]; omega)
        subst e2
        obtain ⟨b8, o8, e8, -, hc8⟩ := ints_getD RA8.out (j := 0) (by rw [rowL_len]; omega)
        subst e8
        have k2 := hc2 i (by rw [rowL_len]; omega)
        have k8 := hc8 p (by rw [rowL_len]; omega)
        rw [rowL_getD _ hlt] at k2
        rw [rowL_getD _ hpos, hval] at k8
        generalize F1 i = v at k2 k8
        have i0 : (0 : Int) ≤ (i : Int) := by omega
        have i1 : (i : Int) < (N : Int) := by omega
        have j0 : (0 : Int) ≤ (p : Int) := by omega
        have j1 : (p : Int) < (N : Int) := by omega
        clear hval hp hyc hy hrw hp1 hr hx hk hposE hrow hr1 hrn hp1n hxw hkc hpos hc2 hc8
        go_wp2_with fail
        go_quiet (fail)
        clear d1 d2 d3 d5 u1 u2 u3
        go_wp2_with fail
        go_quiet (fail)
        go_wp2_with fail
        go_roundw
        case rel => exact ⟨i + 1, _, by omega, by go_num, Lib.hid rfl⟩
        case measure => simp [intOf]; omega
      · obtain rfl : i = N := by omega
        have HBF := Lib.hid (Kit.below_drewN HBE.out nq)
        go_wp2_with (go_at_call 6; refine (known16 _).mono ?_; rintro e wz ⟨rfl, hb⟩; replace HBF := Lib.hid (HBF.out.trans (hb.mono HBF.out.size)); clear hb)
        go_ret
        exact ⟨rfl, HBF.out⟩
theorem walk_arg {w : World} (H W C : Int) (A : Option Addr) (zs : List Int) (n c : Nat) (hn : zs.length = n) (ht : tensB H W C n = true) (hz : I8b zs) (x0 x1 x2 x8 x11 x12 x13 x14 x15 x16 x17 x18 : Value) (K S P O Z : Int) (WA BA : Option Addr) (nW cW nB cB : Nat) (ws : List Int) (hws : ws.length = nW) (hwc : nW ≤ cW) (hwb : I8b ws) (bs : List Int) (hbs : bs.length = nB) (hb32 : ∀ q, -2147483648 ≤ bs.getD q 0 ∧ bs.getD q 0 ≤ 2147483647)
    (he : convE H W C K S P O nW nB = 0) (z1 : -128 ≤ Z) (z2 : Z ≤ 127) (hf1 : n ≤ 1024) (hf2 : nW ≤ 2000) (hf3 : nB ≤ 200) (hr : Kit.Rd w w.heap.size A (I8s zs)) (hrw : Kit.Rd w w.heap.size WA (I8s ws)) (hrb : Kit.Rd w w.heap.size BA (I32v bs)) (hk : ¬ (K = 3 ∧ S = 1)) :
    Calls Try.prog 3 #[.agg #[.int .i64 H, .int .i64 W, .int .i64 C, .slice A n c], .agg #[x0, x1, x2, .int .i64 K, .int .i64 S, .int .i64 P, .int .i64 O, .int .i8 Z, x8, .slice WA nW cW, .slice BA nB cB, x11, x12, x13, x14, x15, x16, x17, x18]] w fun e w' => e = .returned (.bool true) ∧ Below w.heap.size w w' := by
  have hfit : (decide (K = 3) && decide (S = 1)) = false := by
    cases h : (decide (K = 3) && decide (S = 1))
    · rfl
    · simp only [Bool.and_eq_true, decide_eq_true_eq] at h; exact absurd h hk
  obtain ⟨hsl, hnW, hn16, hnB⟩ := convE_ok he
  obtain ⟨hs0, har1, har2, -, -, hsr⟩ := slide_ok hsl
  obtain ⟨q1, q2, q3, q4, q5, q6, q7⟩ := shapeB_yes hsr
  obtain ⟨-, -, -, -, c1, c2, -⟩ := shapeB_yes hs0
  obtain ⟨-, -, k1, k2, -⟩ := argsB_yes har1
  obtain ⟨a, ha⟩ : ∃ a : Nat, stepsM H K S P = (a : Int) := ⟨(stepsM H K S P).toNat, by omega⟩
  obtain ⟨b, hb⟩ : ∃ b : Nat, stepsM W K S P = (b : Int) := ⟨(stepsM W K S P).toNat, by omega⟩
  obtain ⟨oo, hO⟩ : ∃ oo : Nat, O = (oo : Int) := ⟨O.toNat, by omega⟩
  obtain ⟨d, hd⟩ : ∃ d : Nat, C = (d : Int) := ⟨C.toNat, by omega⟩
  obtain ⟨kk, hkk⟩ : ∃ kk : Nat, K = (kk : Int) := ⟨K.toNat, by omega⟩
  have hA2 := fun (w : World) (hr : Kit.Rd w w.heap.size A (I8s zs)) (hrw : Kit.Rd w w.heap.size WA (I8s ws)) (hrb : Kit.Rd w w.heap.size BA (I32v bs)) => refOf_yes H W C A zs n c hn ht hz x0 x1 x2 x8 x11 x12 x13 x14 x15 x16 x17 x18 K S P O Z WA BA nW cW nB cB ws hws hwc hwb bs hbs hb32 he a b oo d kk ha hb hO hd hkk _ rfl z1 z2 w hr hrw hrb
  by_cases h3 : K = 3
  · have h4 : ¬ S = 1 := fun h => hk ⟨h3, h⟩
    exact walk_e3 H W C A zs n c x0 x1 x2 x8 x11 x12 x13 x14 x15 x16 x17 x18 K S P O Z WA BA nW cW nB cB ws bs hf1 hf2 hf3 hr hrw hrb _ _ _ _ _ 2 0 (by decide) (by decide) (by decide) (by decide) (by simpa using h3) (by simpa using h3) (by simpa using h4) (by simpa using h4) hA2 (fun w _ _ _ => lof_arg H W C A n c x0 x1 x2 x8 x11 x12 x13 x14 x15 x16 x17 x18 K S P O Z WA BA nW cW nB cB ht he hfit w)
  · exact walk_e2 H W C A zs n c x0 x1 x2 x8 x11 x12 x13 x14 x15 x16 x17 x18 K S P O Z WA BA nW cW nB cB ws bs hf1 hf2 hf3 hr hrw hrb _ _ _ _ _ 2 0 (by decide) (by decide) (by decide) (by decide) (by simpa using h3) (by simpa using h3) hA2 (fun w _ _ _ => lof_arg H W C A n c x0 x1 x2 x8 x11 x12 x13 x14 x15 x16 x17 x18 K S P O Z WA BA nW cW nB cB ht he hfit w)
theorem walk {w : World} (H : Int) (wH : (Lit.int .i64 H).wf = true) (W : Int) (wW : (Lit.int .i64 W).wf = true) (C : Int) (wC : (Lit.int .i64 C).wf = true) (A : Option Addr) (zs : List Int) (c : Nat) (hc : zs.length ≤ c) (hm : c ≤ maxLen) (hw : ∀ n ∈ zs, (Lit.int .i8 n).wf = true) (hr : Kit.Rd w w.heap.size A (zs.map (.int .i8)))
    (x0 x1 x2 x8 x11 x12 x13 x14 x15 x16 x17 x18 : Value) (K S P O Z : Int) (WA : Option Addr) (ws : List Int) (cW : Nat) (BA : Option Addr) (bs : List Int) (cB : Nat) (wz : (Lit.int .i8 Z).wf = true) (hcw : ws.length ≤ cW) (hmw : cW ≤ maxLen) (hww : ∀ n ∈ ws, (Lit.int .i8 n).wf = true) (hrw : Kit.Rd w w.heap.size WA (ws.map (.int .i8)))
    (hcb : bs.length ≤ cB) (hmb : cB ≤ maxLen) (hwb : ∀ n ∈ bs, (Lit.int .i32 n).wf = true) (hrb : Kit.Rd w w.heap.size BA (bs.map (.int .i32))) (hone : ∀ v ∈ [x0, x1, x2, .int .i64 K, .int .i64 S, .int .i64 P, .int .i64 O, .int .i8 Z, x8, .slice WA ws.length cW, .slice BA bs.length cB, x11, x12, x13, x14, x15, x16, x17, x18], v.oneCell' = true) :
    Calls Try.prog 3 #[.agg #[.int .i64 H, .int .i64 W, .int .i64 C, .slice A zs.length c], .agg #[x0, x1, x2, .int .i64 K, .int .i64 S, .int .i64 P, .int .i64 O, .int .i8 Z, x8, .slice WA ws.length cW, .slice BA bs.length cB, x11, x12, x13, x14, x15, x16, x17, x18]] w fun e w' => e = .returned (.bool true) ∧ Below w.heap.size w w' := by
  have ⟨z1, z2⟩ : -128 ≤ Z ∧ Z ≤ 127 := by simpa [Lit.wf, IntKind.min, IntKind.max, IntKind.signed, IntKind.bits] using wz
  have hz := I8b_of hw
  have hwb8 := I8b_of hww
  have hb32 := I32b_of hwb
  by_cases hf : zs.length ≤ 1024 ∧ ws.length ≤ 2000 ∧ bs.length ≤ 200
  · obtain ⟨f1, f2, f3⟩ := hf
    cases ht : tensB H W C zs.length
    · exact walk_e1 H W C A zs _ c x0 x1 x2 x8 x11 x12 x13 x14 x15 x16 x17 x18 K S P O Z WA BA ws.length cW bs.length cB ws bs f1 f2 f3 hr hrw hrb 0 0 0 0 [] 5 5 (by decide) (by decide) (by decide) (by decide) (fun w _ _ _ => refOf_bad H W C A _ c x0 x1 x2 x8 x11 x12 x13 x14 x15 x16 x17 x18 K S P O Z WA BA ws.length cW bs.length cB ht w) (fun w _ _ _ => lof_bad H W C A _ c x0 x1 x2 x8 x11 x12 x13 x14 x15 x16 x17 x18 K S P O Z WA BA ws.length cW bs.length cB ht w)
    · by_cases he : convE H W C K S P O ws.length bs.length = 0
      · by_cases hK : K = 3
        · by_cases hS : S = 1
          · exact walk_yes H W C A zs _ c rfl ht hz x0 x1 x2 x8 x11 x12 x13 x14 x15 x16 x17 x18 K S P O Z WA BA ws.length cW bs.length cB hone ws rfl hcw hmw hwb8 bs rfl hb32 he hK hS z1 z2 f1 f2 f3 hr hrw hrb
          · exact walk_arg H W C A zs _ c rfl ht hz x0 x1 x2 x8 x11 x12 x13 x14 x15 x16 x17 x18 K S P O Z WA BA ws.length cW bs.length cB ws rfl hcw hwb8 bs rfl hb32 he z1 z2 f1 f2 f3 hr hrw hrb (fun h => hS h.2)
        · exact walk_arg H W C A zs _ c rfl ht hz x0 x1 x2 x8 x11 x12 x13 x14 x15 x16 x17 x18 K S P O Z WA BA ws.length cW bs.length cB ws rfl hcw hwb8 bs rfl hb32 he z1 z2 f1 f2 f3 hr hrw hrb (fun h => hK h.1)
      · exact walk_e1 H W C A zs _ c x0 x1 x2 x8 x11 x12 x13 x14 x15 x16 x17 x18 K S P O Z WA BA ws.length cW bs.length cB ws bs f1 f2 f3 hr hrw hrb 0 0 0 0 [] _ _ (by simpa using he) (by simpa using he) (by simpa using he) (by simpa using he) (fun w _ _ _ => refOf_err H W C A _ c x0 x1 x2 x8 x11 x12 x13 x14 x15 x16 x17 x18 K S P O Z WA BA ws.length cW bs.length cB ht _ rfl he w) (fun w _ _ _ => lof_err H W C A _ c x0 x1 x2 x8 x11 x12 x13 x14 x15 x16 x17 x18 K S P O Z WA BA ws.length cW bs.length cB ht _ rfl he w)
  · exact walk_no H W C A _ c x0 x1 x2 x8 x11 x12 x13 x14 x15 x16 x17 x18 K S P O Z WA BA ws.length cW bs.length cB hf
/-! ### the frame: written by program -/
theorem own : ownKnob Try.prog.godebug = none := by kernel_rfl
theorem laid : laidOutB Try.prog = true := by kernel_rfl
theorem contract {H : Type} {enc : TypeId × Value → H} {W : World} {base : Nat} {args : Array Value} {ds gs : List (DataW H)} {before : List MemPlace}
    (hval0 : ∀ (j : Nat) t v, Try.f3.params[j]? = some t → args[j]? = some v → Value.okWide Try.prog W .any base t v)
    (hW : DataW.Whole enc Try.prog Try.f3.params.toList Rows.laneMirrorSpec.vars false W args.toList ds gs before) :
    Calls Try.prog 3 args W fun e W' => e = .returned (.bool true) ∧ Below W.heap.size W W' := by
  have hval : ∀ (j : Nat) t v, Try.f3.params[j]? = some t → args[j]? = some v → Value.okWide Try.prog W .any base t v := hval0
  obtain ⟨p, q, hA0, hV, rfl, hfz, hnd⟩ := hW
  have hA : DataW.TrodAll enc Try.prog W 0 (fun _ => true) true Try.f3.params.toList args.toList ds p := hA0
  rw [Try.params3] at hA hval
  obtain ⟨v0, vs0, d0, ds0, p0, q0, hargs, rfl, rfl, h0, r0⟩ := trodAll_cons hA
  obtain ⟨v1, vs1, d1, ds1, p1, q1, rfl, rfl, rfl, h1, r1⟩ := trodAll_cons r0
  obtain ⟨rfl, rfl, rfl⟩ := trodAll_nil r1
  obtain rfl : args = #[v0, v1] := by cases args; simp_all
  clear hA0 hval0
  obtain ⟨x0, y0, t0, A0, z0, c0, rfl, wx0, wy0, wt0, hc0, hm0, hw0, hr0⟩ := Kit.open_tensor (s := 23) (d := 24) (e := 27) (i := 3) Try.underlying26 Try.underlying23 Try.underlying24 Try.underlying27 Try.underlying3 (by kernel_rfl) (by kernel_rfl) (by kernel_rfl) (by kernel_rfl) (by kernel_rfl) ⟨rfl, rfl, rfl, rfl⟩ ⟨rfl, rfl, rfl, rfl, rfl, rfl⟩ (hval 0 26 v0 rfl rfl) h0
  obtain ⟨n1_0, n1_1, n1_2, n1_8, n1_11, n1_12, n1_13, n1_14, n1_15, n1_16, n1_17, n1_18, K1, S1, Q1, O1, Z1, WA1, ws1, cW1, BA1, bs1, cB1, rfl, wz1, hcw1, hmw1, hww1, hrw1, hcb1, hmb1, hwb1, hrb1⟩ := Kit.open_node (i := 3) (b8 := 27) (d := 24) (e := 27) (d2 := 28) (e2 := 21) Try.underlying32 (by kernel_rfl) Try.underlying3 (by kernel_rfl) Try.underlying27 (by kernel_rfl) Try.underlying24 Try.underlying27 (by kernel_rfl) (by kernel_rfl) Try.underlying28 Try.underlying21 (by kernel_rfl) (by kernel_rfl) rfl rfl rfl rfl rfl rfl rfl ⟨rfl, rfl⟩ ⟨rfl, rfl⟩ ⟨rfl, rfl⟩ ⟨rfl, rfl⟩ ⟨rfl, rfl⟩ ⟨rfl, rfl⟩ ⟨rfl, rfl⟩ (hval 1 32 v1 rfl rfl) h1
  exact walk (w := W) x0 wx0 y0 wy0 t0 wt0 A0 z0 c0 hc0 hm0 hw0 hr0 n1_0 n1_1 n1_2 n1_8 n1_11 n1_12 n1_13 n1_14 n1_15 n1_16 n1_17 n1_18 K1 S1 Q1 O1 Z1 WA1 ws1 cW1 BA1 bs1 cB1 wz1 hcw1 hmw1 hww1 hrw1 hcb1 hmb1 hwb1 hrb1 (Kit.struct_ones Try.underlying32 (hval 1 32 _ rfl rfl))
theorem fnIs {H : Type} : ∀ ds : List (DataW H), ds.length = Try.f3.params.toList.length → Rows.laneMirrorSpec.fn H ds = { results := [.lit (.bool true)], args := ds } := by
  intro ds h
  rw [Try.params3] at h
  match ds, h with
  | [d1, d2], _ => rfl
set_option maxRecDepth 100000 in
theorem lifted (os : Os) (started : os.Started) (H : Type) (enc : TypeId × Value → H) :
    ReturnsInHanded {} Try.checked os 3 .any (Rows.laneMirrorSpec.pre6 enc Try.prog Try.f3 Rows.laneMirrorRow.domain false) (Rows.laneMirrorSpec.post enc Try.prog Try.f3 false true false false) := by
  refine returnsInHanded_of_change (C := Try.checked) own started (by kernel_rfl) Try.func3
    (ChangeSpec.witness6 (enc := enc) (C := Try.checked) false ⟨#[], #[.agg #[.int .i64 0, .int .i64 0, .int .i64 0, .slice none 0 0], .agg #[.int .i64 0, .int .i64 0, .int .i64 0, .int .i64 0, .int .i64 0, .int .i64 0, .int .i64 0, .int .i8 0, .int .i8 0, .slice none 0 0, .slice none 0 0, .int .i32 0, .int .i64 0, .int .i8 0, .int .i32 0, .int .i64 0, .int .i8 0, .int .i8 0, .int .i8 0]], []⟩ 8 (by kernel_rfl) (by kernel_rfl) (by kernel_rfl) (by kernel_rfl)) ?_
  intro W base args ds gs before hval hW _ _
  refine (contract hval hW).mono fun e W' ⟨he, hg⟩ => ?_
  subst he
  exact ⟨_, rfl, Kit.law_post (tb := 4) laid (by kernel_rfl) rfl (by kernel_rfl) Try.underlying4 fnIs hW hg⟩
theorem over : Rows.laneMirrorRow.holds Try.pinned (OpenSpec.ofChange Rows.laneMirrorSpec) :=
  OpenClaim.holds_of_wide 3 Try.f3 rfl rfl rfl rfl rfl rfl rfl ⟨rfl, rfl, rfl, rfl, rfl⟩ rfl rfl rfl rfl rfl (by kernel_rfl) Try.func3 (by kernel_rfl)
    (of_decide_eq_true (by kernel_rfl)) (by unfold Func.isWrapper; first | (rw [if_pos (by decide +kernel)]; kernel_rfl) | (rw [if_neg (by decide +kernel)]; exact ⟨rfl, rfl⟩))
    (fun os started H enc _ => lifted os started H enc)
/-- the statement. -/
theorem proved : Rows.LaneMirrorSaid :=
  over
end Go.Proofs.Ytceejjliboiciaa.lawLaneMirror
