/- TopThree: the walk where the node fits. -/
import Derived.Test.YtceejjliboiciaaLowTop
import Derived.Deep.CutRange
import Derived.Deep.MidRow
import Derived.BigQuiet
namespace Go.Proofs.Ytceejjliboiciaa.lawTopThree
open Go Go.ChangeShapes Go.WideShapes Go.ChangeAt Go.RowKit
open Plain CSat CShape CTensor CConv CLane CTop
set_option linter.unusedVariables false
set_option maxRecDepth 100000

set_option maxHeartbeats 32000000 in
theorem walk_fit {w : World} (H W C : Int) (A : Option Addr) (zs : List Int) (n c : Nat) (x0 x1 x2 x8 x11 x12 x13 x14 x15 x16 x17 x18 : Value) (K S P O Z : Int) (WA BA : Option Addr) (nW cW nB cB : Nat) (hone : ∀ v ∈ [x0, x1, x2, .int .i64 K, .int .i64 S, .int .i64 P, .int .i64 O, .int .i8 Z, x8, .slice WA nW cW, .slice BA nB cB, x11, x12, x13, x14, x15, x16, x17, x18], v.oneCell' = true) (ws bs : List Int) (hws : ws.length = nW) (hbs : bs.length = nB) (hwb : I8b ws) (hf1 : n ≤ 1024) (hf2 : nW ≤ 2000) (hf3 : nB ≤ 200) (hr : Kit.Rd w w.heap.size A (I8s zs)) (hrw : Kit.Rd w w.heap.size WA (I8s ws)) (hrb : Kit.Rd w w.heap.size BA (I32v bs))
    (X Y U : Int) (N : Nat) (F1 : Nat → Int) (er : Int) (hN6 : N ≤ 1000000) (h9 : (er == 0) = true) (h3 : (K == 3) = true) (h4 : (S == 1) = true)
    (hA1 : ∀ (w : World), Kit.Rd w w.heap.size A (I8s zs) → Kit.Rd w w.heap.size WA (I8s ws) → Kit.Rd w w.heap.size BA (I32v bs) → Calls Try.prog 12 #[.agg #[.int .i64 H, .int .i64 W, .int .i64 C, .slice A n c], .agg #[x0, x1, x2, .int .i64 K, .int .i64 S, .int .i64 P, .int .i64 O, .int .i8 Z, x8, .slice WA nW cW, .slice BA nB cB, x11, x12, x13, x14, x15, x16, x17, x18]] w (MadeA w X Y U N (rowL F1 N) (.int .i64 er)))
    (hA2 : ∀ (w : World), Kit.Rd w w.heap.size A (I8s zs) → Kit.Rd w w.heap.size WA (I8s ws) → Kit.Rd w w.heap.size BA (I32v bs) → Calls Try.prog 13 #[.agg #[.int .i64 H, .int .i64 W, .int .i64 C, .slice A n c], .agg #[x0, x1, x2, .int .i64 K, .int .i64 S, .int .i64 P, .int .i64 O, .int .i8 Z, x8, .slice WA nW cW, .slice BA nB cB, x11, x12, x13, x14, x15, x16, x17, x18]] w (MadeA w X Y U N (rowL F1 N) (.int .i64 er)))
    (hA3 : ∀ (w : World), Kit.Rd w w.heap.size A (I8s zs) → Kit.Rd w w.heap.size WA (I8s ws) → Kit.Rd w w.heap.size BA (I32v bs) → Calls Try.prog 7 #[.agg #[.int .i64 H, .int .i64 W, .int .i64 C, .slice A n c], .agg #[x0, x1, x2, .int .i64 K, .int .i64 S, .int .i64 P, .int .i64 O, .int .i8 Z, x8, .slice WA nW cW, .slice BA nB cB, x11, x12, x13, x14, x15, x16, x17, x18]] w (MadeA w X Y U N (rowL F1 N) (.int .i64 er)))
    (hneg : (∀ j, j < nW → ws.getD j 0 ≠ -128) → ∃ F2 : Nat → Int, (∀ (w : World) (AM AB : Option Addr) (cM cD : Nat), nW ≤ cM → cM ≤ maxLen → Kit.Rd w w.heap.size A (I8s zs) → Kit.Rd w w.heap.size AM (I8s (rowL (negF ws) nW)) → Kit.Rd w w.heap.size AB (I32v (rowL (negB bs) nB)) → Calls Try.prog 7 #[.agg #[.int .i64 H, .int .i64 W, .int .i64 C, .slice A n c], .agg #[x0, x1, x2, .int .i64 K, .int .i64 S, .int .i64 P, .int .i64 O, .int .i8 Z, x8, .slice AM nW cM, .slice AB nB cD, x11, x12, x13, x14, x15, x16, x17, x18]] w (MadeA w X Y U N (rowL F2 N) (.int .i64 er))) ∧ ∀ i, i < N → IntKind.i32.wrap (-(F1 i)) = F2 i) :
    Calls Try.prog 4 #[.agg #[.int .i64 H, .int .i64 W, .int .i64 C, .slice A n c], .agg #[x0, x1, x2, .int .i64 K, .int .i64 S, .int .i64 P, .int .i64 O, .int .i8 Z, x8, .slice WA nW cW, .slice BA nB cB, x11, x12, x13, x14, x15, x16, x17, x18]] w fun e w' => e = .returned (.bool true) ∧ Below w.heap.size w w' := by
  have HA1 := Lib.hid hA1
  have HA2 := Lib.hid hA2
  have HA3 := Lib.hid hA3
  have HNEG := Lib.hid hneg
  have HONE := Lib.hid hone
  have HWS := Lib.hid hws
  have HBS := Lib.hid hbs
  have HWB := Lib.hid hwb
  have HR := Lib.hid hr
  have HRW := Lib.hid hrw
  have HRB := Lib.hid hrb
  have herr : (er != er) = false := by simp
  obtain ⟨i0w, hi0, hi1, hi2, hi3⟩ := info_parts32 info_i8t
  have HI8 := Lib.hid (And.intro hi0 (And.intro hi1 (And.intro hi2 hi3)))
  clear hi0 hi1 hi2 hi3
  obtain ⟨i0b, hi0, hi1, hi2, hi3⟩ := info_parts32 info_i32t
  have HI32 := Lib.hid (And.intro hi0 (And.intro hi1 (And.intro hi2 hi3)))
  clear hA1 hA2 hA3 hneg hone hws hbs hwb hr hrw hrb hi0 hi1 hi2 hi3
  have TN0 : Hid (NodeAt (w.heap.size + 1) x0 x1 x2 x8 x11 x12 x13 x14 x15 x16 x17 x18 K S P O Z WA BA nW cW nB cB ((w.alloc (.cells #[.int .i64 H, .int .i64 W, .int .i64 C, .slice A n c] 26)).alloc (.cells #[x0, x1, x2, .int .i64 K, .int .i64 S, .int .i64 P, .int .i64 O, .int .i8 Z, x8, .slice WA nW cW, .slice BA nB cB, x11, x12, x13, x14, x15, x16, x17, x18] 32))) := by
    have h := NodeAt.new x0 x1 x2 x8 x11 x12 x13 x14 x15 x16 x17 x18 K S P O Z WA BA nW cW nB cB 32 (w.alloc (.cells #[.int .i64 H, .int .i64 W, .int .i64 C, .slice A n c] 26))
    rw [World.size_alloc] at h
    exact Lib.hid h
  go_enter Try.func4, Try.ntmps4
  go_upto_region 7 with (first
    | (go_at_call 5
       have hal : Below w.heap.size w ((w.alloc (.cells #[.int .i64 H, .int .i64 W, .int .i64 C, .slice A n c] 26)).alloc (.cells #[x0, x1, x2, .int .i64 K, .int .i64 S, .int .i64 P, .int .i64 O, .int .i8 Z, x8, .slice WA nW cW, .slice BA nB cB, x11, x12, x13, x14, x15, x16, x17, x18] 32)) := ((Below.refl _ _).alloc (by first | exact Nat.le_refl _ | (simp; done) | (simp; omega)) _).alloc (by first | exact Nat.le_refl _ | (simp; done) | (simp; omega)) _
       refine (few_yes H W C A n c x0 x1 x2 x8 x11 x12 x13 x14 x15 x16 x17 x18 K S P O Z WA BA nW cW nB cB hf1 hf2 hf3 _).mono ?_
       rintro e w1 ⟨rfl, hb⟩
       have hh : Below w.heap.size w w1 := hal.trans (hb.mono hal.size)
       have qTB := (boxNew H W C A n c 26) w
       try simp only [World.size_alloc] at qTB
       have TB := Lib.hid ((qTB.below (B' := w.heap.size + 1) (by omega) (((Below.refl _ _).alloc (by first | exact Nat.le_refl _ | (simp; done) | (simp; omega)) _).mono (by simp))).below (by first | (simp; done) | (simp; omega)) hb)
       have yTB : w.heap.size < w1.heap.size := by have := hb.size; simp at this; omega
       clear qTB
       have qTN := (NodeAt.new x0 x1 x2 x8 x11 x12 x13 x14 x15 x16 x17 x18 K S P O Z WA BA nW cW nB cB 32) (w.alloc (.cells #[.int .i64 H, .int .i64 W, .int .i64 C, .slice A n c] 26))
       try simp only [World.size_alloc] at qTN
       have TN := Lib.hid (qTN.below (by first | (simp; done) | (simp; omega)) hb)
       have yTN : w.heap.size + 1 < w1.heap.size := by have := hb.size; simp at this; omega
       clear qTN
       replace HR := Lib.hid ((HR.out.below hh).more hh.size)
       replace HRW := Lib.hid ((HRW.out.below hh).more hh.size)
       replace HRB := Lib.hid ((HRB.out.below hh).more hh.size)
       have HBW : Hid (Below w.heap.size w w1) := Lib.hid hh
       obtain ⟨tbp0, tbp1, tbp2, tbp3⟩ := TB.out
       have n3 := TN.out.at 3 _ rfl
       have n4 := TN.out.at 4 _ rfl
       clear hb hh hal)
    | (go_at_call 12
       have hal : Below w1.heap.size w1 w1 := Below.refl _ _
       refine (HA1.out _ ((HR.out.below hal).more hal.size) ((HRW.out.below hal).more hal.size) ((HRB.out.below hal).more hal.size)).mono ?_
       rintro e w2 ⟨v2, rfl, ho2, hb⟩
       have hh : Below w1.heap.size w1 w2 := hal.trans (hb.mono hal.size)
       replace TB := Lib.hid (TB.out.below yTB hh)
       replace yTB := Nat.lt_of_lt_of_le yTB hh.size
       replace TN := Lib.hid (TN.out.below yTN hh)
       replace yTN := Nat.lt_of_lt_of_le yTN hh.size
       replace HR := Lib.hid ((HR.out.below hh).more hh.size)
       replace HRW := Lib.hid ((HRW.out.below hh).more hh.size)
       replace HRB := Lib.hid ((HRB.out.below hh).more hh.size)
       replace HBW := Lib.hid (HBW.out.trans (hh.mono HBW.out.size))
       clear tbp0 tbp1 tbp2 tbp3 n3 n4
       obtain ⟨A2, c2, rfl, -, -, hrd2⟩ := Kit.own_rd ho2
       have RA2 := Lib.hid hrd2
       clear ho2 hrd2
       obtain ⟨tbp0, tbp1, tbp2, tbp3⟩ := TB.out
       have n3 := TN.out.at 3 _ rfl
       have n4 := TN.out.at 4 _ rfl
       clear hb hh hal)
    | (go_at_call 13
       have hal : Below w2.heap.size w2 (w2.alloc (.cells #[.int .i64 X, .int .i64 Y, .int .i64 U, .slice A2 N c2] 36)) := (Below.refl _ _).alloc (by first | exact Nat.le_refl _ | (simp; done) | (simp; omega)) _
       refine (HA2.out _ ((HR.out.below hal).more hal.size) ((HRW.out.below hal).more hal.size) ((HRB.out.below hal).more hal.size)).mono ?_
       rintro e w3 ⟨v3, rfl, ho3, hb⟩
       have hh : Below w2.heap.size w2 w3 := hal.trans (hb.mono hal.size)
       have qTA2 := (boxNew X Y U A2 N c2 36) w2
       try simp only [World.size_alloc] at qTA2
       have TA2 := Lib.hid (qTA2.below (by first | (simp; done) | (simp; omega)) hb)
       have yTA2 : w2.heap.size < w3.heap.size := by have := hb.size; simp at this; omega
       clear qTA2
       replace TB := Lib.hid (TB.out.below yTB hh)
       replace yTB := Nat.lt_of_lt_of_le yTB hh.size
       replace TN := Lib.hid (TN.out.below yTN hh)
       replace yTN := Nat.lt_of_lt_of_le yTN hh.size
       replace HR := Lib.hid ((HR.out.below hh).more hh.size)
       replace HRW := Lib.hid ((HRW.out.below hh).more hh.size)
       replace HRB := Lib.hid ((HRB.out.below hh).more hh.size)
       replace RA2 := Lib.hid ((RA2.out.below hh).more hh.size)
       replace HBW := Lib.hid (HBW.out.trans (hh.mono HBW.out.size))
       clear tbp0 tbp1 tbp2 tbp3 n3 n4
       obtain ⟨A3, c3, rfl, -, -, hrd3⟩ := Kit.own_rd ho3
       have RA3 := Lib.hid hrd3
       clear ho3 hrd3
       obtain ⟨tbp0, tbp1, tbp2, tbp3⟩ := TB.out
       have n3 := TN.out.at 3 _ rfl
       have n4 := TN.out.at 4 _ rfl
       obtain ⟨ta2p0, ta2p1, ta2p2, ta2p3⟩ := TA2.out
       clear hb hh hal)
    | (go_at_call 14
       have hal : Below w3.heap.size w3 (w3.alloc (.cells #[.int .i64 X, .int .i64 Y, .int .i64 U, .slice A3 N c3] 36)) := (Below.refl _ _).alloc (by first | exact Nat.le_refl _ | (simp; done) | (simp; omega)) _
       refine (sameA_to X Y U A2 A3 (rowL F1 N) N c2 c3 (rowL_len _ _) hN6 _ hal.size hal.size (RA2.out.below hal) (RA3.out.below hal)).mono ?_
       rintro e w4 ⟨rfl, hb⟩
       have hh : Below w3.heap.size w3 w4 := hal.trans (hb.mono hal.size)
       have qTA3 := (boxNew X Y U A3 N c3 36) w3
       try simp only [World.size_alloc] at qTA3
       have TA3 := Lib.hid (qTA3.below (by first | (simp; done) | (simp; omega)) hb)
       have yTA3 : w3.heap.size < w4.heap.size := by have := hb.size; simp at this; omega
       clear qTA3
       replace TB := Lib.hid (TB.out.below yTB hh)
       replace yTB := Nat.lt_of_lt_of_le yTB hh.size
       replace TN := Lib.hid (TN.out.below yTN hh)
       replace yTN := Nat.lt_of_lt_of_le yTN hh.size
       replace TA2 := Lib.hid (TA2.out.below yTA2 hh)
       replace yTA2 := Nat.lt_of_lt_of_le yTA2 hh.size
       replace HR := Lib.hid ((HR.out.below hh).more hh.size)
       replace HRW := Lib.hid ((HRW.out.below hh).more hh.size)
       replace HRB := Lib.hid ((HRB.out.below hh).more hh.size)
       replace RA2 := Lib.hid ((RA2.out.below hh).more hh.size)
       replace RA3 := Lib.hid ((RA3.out.below hh).more hh.size)
       replace HBW := Lib.hid (HBW.out.trans (hh.mono HBW.out.size))
       clear tbp0 tbp1 tbp2 tbp3 n3 n4 ta2p0 ta2p1 ta2p2 ta2p3
       obtain ⟨tbp0, tbp1, tbp2, tbp3⟩ := TB.out
       have n3 := TN.out.at 3 _ rfl
       have n4 := TN.out.at 4 _ rfl
       obtain ⟨ta2p0, ta2p1, ta2p2, ta2p3⟩ := TA2.out
       obtain ⟨ta3p0, ta3p1, ta3p2, ta3p3⟩ := TA3.out
       clear hb hh hal)
    | (refine wpList_load_mid rfl 32 (.tmp 3) rfl (w.heap.size + 1) 0 rfl [x0, x1, x2, .int .i64 K, .int .i64 S, .int .i64 P, .int .i64 O, .int .i8 Z, x8, .slice WA nW cW, .slice BA nB cB, x11, x12, x13, x14, x15, x16, x17, x18] _ (TN0.out) Try.underlying32 rfl (by kernel_rfl) ?_)
    | (refine wpList_load_mid rfl 32 (.tmp 3) rfl (w.heap.size + 1) 0 rfl [x0, x1, x2, .int .i64 K, .int .i64 S, .int .i64 P, .int .i64 O, .int .i8 Z, x8, .slice WA nW cW, .slice BA nB cB, x11, x12, x13, x14, x15, x16, x17, x18] _ (TN.out) Try.underlying32 rfl (by kernel_rfl) ?_)
    | (refine wpList_load_mid rfl 32 (.tmp 3) rfl (w.heap.size + 1) 0 rfl [x0, x1, x2, .int .i64 K, .int .i64 S, .int .i64 P, .int .i64 O, .int .i8 Z, x8, .slice WA nW cW, .slice BA nB cB, x11, x12, x13, x14, x15, x16, x17, x18] _ (TN.out.below yTN ((Below.refl _ _).alloc (Nat.le_refl _) _)) Try.underlying32 rfl (by kernel_rfl) ?_))
  go_upto_region 13 with (first
    | (go_at_call 7
       have hal : Below w4.heap.size w4 w4 := Below.refl _ _
       refine (HA3.out _ ((HR.out.below hal).more hal.size) ((HRW.out.below hal).more hal.size) ((HRB.out.below hal).more hal.size)).mono ?_
       rintro e w5 ⟨v4, rfl, ho4, hb⟩
       have hh : Below w4.heap.size w4 w5 := hal.trans (hb.mono hal.size)
       replace TB := Lib.hid (TB.out.below yTB hh)
       replace yTB := Nat.lt_of_lt_of_le yTB hh.size
       replace TN := Lib.hid (TN.out.below yTN hh)
       replace yTN := Nat.lt_of_lt_of_le yTN hh.size
       replace TA2 := Lib.hid (TA2.out.below yTA2 hh)
       replace yTA2 := Nat.lt_of_lt_of_le yTA2 hh.size
       replace TA3 := Lib.hid (TA3.out.below yTA3 hh)
       replace yTA3 := Nat.lt_of_lt_of_le yTA3 hh.size
       replace HR := Lib.hid ((HR.out.below hh).more hh.size)
       replace HRW := Lib.hid ((HRW.out.below hh).more hh.size)
       replace HRB := Lib.hid ((HRB.out.below hh).more hh.size)
       replace RA2 := Lib.hid ((RA2.out.below hh).more hh.size)
       replace RA3 := Lib.hid ((RA3.out.below hh).more hh.size)
       replace HBW := Lib.hid (HBW.out.trans (hh.mono HBW.out.size))
       clear tbp0 tbp1 tbp2 tbp3 n3 n4 ta2p0 ta2p1 ta2p2 ta2p3 ta3p0 ta3p1 ta3p2 ta3p3
       obtain ⟨A4, c4, rfl, -, -, hrd4⟩ := Kit.own_rd ho4
       have RA4 := Lib.hid hrd4
       clear ho4 hrd4
       obtain ⟨tbp0, tbp1, tbp2, tbp3⟩ := TB.out
       have n3 := TN.out.at 3 _ rfl
       have n4 := TN.out.at 4 _ rfl
       obtain ⟨ta2p0, ta2p1, ta2p2, ta2p3⟩ := TA2.out
       obtain ⟨ta3p0, ta3p1, ta3p2, ta3p3⟩ := TA3.out
       clear hb hh hal)
    | (go_at_call 14
       have hal : Below w5.heap.size w5 (w5.alloc (.cells #[.int .i64 X, .int .i64 Y, .int .i64 U, .slice A4 N c4] 36)) := (Below.refl _ _).alloc (by first | exact Nat.le_refl _ | (simp; done) | (simp; omega)) _
       refine (sameA_to X Y U A2 A4 (rowL F1 N) N c2 c4 (rowL_len _ _) hN6 _ hal.size hal.size (RA2.out.below hal) (RA4.out.below hal)).mono ?_
       rintro e w6 ⟨rfl, hb⟩
       have hh : Below w5.heap.size w5 w6 := hal.trans (hb.mono hal.size)
       have qTA4 := (boxNew X Y U A4 N c4 36) w5
       try simp only [World.size_alloc] at qTA4
       have TA4 := Lib.hid (qTA4.below (by first | (simp; done) | (simp; omega)) hb)
       have yTA4 : w5.heap.size < w6.heap.size := by have := hb.size; simp at this; omega
       clear qTA4
       replace TB := Lib.hid (TB.out.below yTB hh)
       replace yTB := Nat.lt_of_lt_of_le yTB hh.size
       replace TN := Lib.hid (TN.out.below yTN hh)
       replace yTN := Nat.lt_of_lt_of_le yTN hh.size
       replace TA2 := Lib.hid (TA2.out.below yTA2 hh)
       replace yTA2 := Nat.lt_of_lt_of_le yTA2 hh.size
       replace TA3 := Lib.hid (TA3.out.below yTA3 hh)
       replace yTA3 := Nat.lt_of_lt_of_le yTA3 hh.size
       replace HR := Lib.hid ((HR.out.below hh).more hh.size)
       replace HRW := Lib.hid ((HRW.out.below hh).more hh.size)
       replace HRB := Lib.hid ((HRB.out.below hh).more hh.size)
       replace RA2 := Lib.hid ((RA2.out.below hh).more hh.size)
       replace RA3 := Lib.hid ((RA3.out.below hh).more hh.size)
       replace RA4 := Lib.hid ((RA4.out.below hh).more hh.size)
       replace HBW := Lib.hid (HBW.out.trans (hh.mono HBW.out.size))
       clear tbp0 tbp1 tbp2 tbp3 n3 n4 ta2p0 ta2p1 ta2p2 ta2p3 ta3p0 ta3p1 ta3p2 ta3p3
       obtain ⟨tbp0, tbp1, tbp2, tbp3⟩ := TB.out
       have n3 := TN.out.at 3 _ rfl
       have n4 := TN.out.at 4 _ rfl
       obtain ⟨ta2p0, ta2p1, ta2p2, ta2p3⟩ := TA2.out
       obtain ⟨ta3p0, ta3p1, ta3p2, ta3p3⟩ := TA3.out
       obtain ⟨ta4p0, ta4p1, ta4p2, ta4p3⟩ := TA4.out
       clear hb hh hal)
    | (refine wpList_load_mid rfl 32 (.tmp 3) rfl (w.heap.size + 1) 0 rfl [x0, x1, x2, .int .i64 K, .int .i64 S, .int .i64 P, .int .i64 O, .int .i8 Z, x8, .slice WA nW cW, .slice BA nB cB, x11, x12, x13, x14, x15, x16, x17, x18] _ (TN0.out) Try.underlying32 rfl (by kernel_rfl) ?_)
    | (refine wpList_load_mid rfl 32 (.tmp 3) rfl (w.heap.size + 1) 0 rfl [x0, x1, x2, .int .i64 K, .int .i64 S, .int .i64 P, .int .i64 O, .int .i8 Z, x8, .slice WA nW cW, .slice BA nB cB, x11, x12, x13, x14, x15, x16, x17, x18] _ (TN.out) Try.underlying32 rfl (by kernel_rfl) ?_)
    | (refine wpList_load_mid rfl 32 (.tmp 3) rfl (w.heap.size + 1) 0 rfl [x0, x1, x2, .int .i64 K, .int .i64 S, .int .i64 P, .int .i64 O, .int .i8 Z, x8, .slice WA nW cW, .slice BA nB cB, x11, x12, x13, x14, x15, x16, x17, x18] _ (TN.out.below yTN ((Below.refl _ _).alloc (Nat.le_refl _) _)) Try.underlying32 rfl (by kernel_rfl) ?_))
  have HTH := Lib.hid (Kit.there_new w6 (cs := #[.int .i64 0, .int .i64 0, .int .i64 0, .int .i64 0, .int .i64 0, .int .i64 0, .int .i64 0, .int .i8 0, .int .i8 0, .slice none 0 0, .slice none 0 0, .int .i32 0, .int .i64 0, .int .i8 0, .int .i32 0, .int .i64 0, .int .i8 0, .int .i8 0, .int .i8 0]) 32 (n := 19) rfl)
  go_upto_region 14 with (first
    | (refine wpList_load_mid rfl 32 (.tmp 3) rfl (w.heap.size + 1) 0 rfl [x0, x1, x2, .int .i64 K, .int .i64 S, .int .i64 P, .int .i64 O, .int .i8 Z, x8, .slice WA nW cW, .slice BA nB cB, x11, x12, x13, x14, x15, x16, x17, x18] _ (TN.out) Try.underlying32 rfl (by kernel_rfl) ?_)
    | (refine wpList_store_mid rfl 32 (.tmp 12) (.tmp 84) rfl w6.heap.size 0 #[x0, x1, x2, .int .i64 K, .int .i64 S, .int .i64 P, .int .i64 O, .int .i8 Z, x8, .slice WA nW cW, .slice BA nB cB, x11, x12, x13, x14, x15, x16, x17, x18] rfl rfl HTH.out (by kernel_rfl) (all_oneCell_toArray (cs := [x0, x1, x2, .int .i64 K, .int .i64 S, .int .i64 P, .int .i64 O, .int .i8 Z, x8, .slice WA nW cW, .slice BA nB cB, x11, x12, x13, x14, x15, x16, x17, x18]) HONE.out) ?_))
  have N12 := Lib.hid (NodeAt.stored HTH.out x0 x1 x2 x8 x11 x12 x13 x14 x15 x16 x17 x18 K S P O Z WA BA nW cW nB cB)
  have T12 := Lib.hid (Kit.there_cells HTH.out [x0, x1, x2, .int .i64 K, .int .i64 S, .int .i64 P, .int .i64 O, .int .i8 Z, x8, .slice WA nW cW, .slice BA nB cB, x11, x12, x13, x14, x15, x16, x17, x18] HTH.out)
  have HB := Lib.hid (Kit.below_cells (Nat.le_refl w6.heap.size) [x0, x1, x2, .int .i64 K, .int .i64 S, .int .i64 P, .int .i64 O, .int .i8 Z, x8, .slice WA nW cW, .slice BA nB cB, x11, x12, x13, x14, x15, x16, x17, x18] 0 _ ((Below.refl w6.heap.size w6).alloc (Nat.le_refl _) (.cells #[.int .i64 0, .int .i64 0, .int .i64 0, .int .i64 0, .int .i64 0, .int .i64 0, .int .i64 0, .int .i8 0, .int .i8 0, .slice none 0 0, .slice none 0 0, .int .i32 0, .int .i64 0, .int .i8 0, .int .i32 0, .int .i64 0, .int .i8 0, .int .i8 0, .int .i8 0] 32)))
  have y12 : w6.heap.size < ((w6.alloc (.cells #[.int .i64 0, .int .i64 0, .int .i64 0, .int .i64 0, .int .i64 0, .int .i64 0, .int .i64 0, .int .i8 0, .int .i8 0, .slice none 0 0, .slice none 0 0, .int .i32 0, .int .i64 0, .int .i8 0, .int .i32 0, .int .i64 0, .int .i8 0, .int .i8 0, .int .i8 0] 32)).setCells w6.heap.size 0 [x0, x1, x2, .int .i64 K, .int .i64 S, .int .i64 P, .int .i64 O, .int .i8 Z, x8, .slice WA nW cW, .slice BA nB cB, x11, x12, x13, x14, x15, x16, x17, x18]).heap.size := by rw [Kit.size_cells]; simp
  clear HTH tbp0 tbp1 tbp2 tbp3 ta2p0 ta2p1 ta2p2 ta2p3 ta3p0 ta3p1 ta3p2 ta3p3 ta4p0 ta4p1 ta4p2 ta4p3 n3 n4 TN0 TA2 TA3 RA2 RA3 HA1 HA2 HA3
  generalize (w6.alloc (.cells #[.int .i64 0, .int .i64 0, .int .i64 0, .int .i64 0, .int .i64 0, .int .i64 0, .int .i64 0, .int .i8 0, .int .i8 0, .slice none 0 0, .slice none 0 0, .int .i32 0, .int .i64 0, .int .i8 0, .int .i32 0, .int .i64 0, .int .i8 0, .int .i8 0, .int .i8 0] 32)).setCells w6.heap.size 0 [x0, x1, x2, .int .i64 K, .int .i64 S, .int .i64 P, .int .i64 O, .int .i8 Z, x8, .slice WA nW cW, .slice BA nB cB, x11, x12, x13, x14, x15, x16, x17, x18] = Wn at N12 T12 HB y12 ⊢
  have m9 := N12.out.at 9 _ rfl
  have fm9 := there_at T12.out (i := 9) (by decide)
  go_upto_region 15 with fail
  have hs9 : (Wn.cell? ⟨w6.heap.size, 9, none⟩).isSome = true := by rw [m9]; rfl
  replace N12 := Lib.hid (N12.out.set9 none 0 0)
  replace T12 := Lib.hid (there_set T12.out ⟨w6.heap.size, 9, none⟩ (.slice none 0 0) hs9)
  replace HB := Lib.hid (HB.out.setCell (p := ⟨w6.heap.size, 9, none⟩) (Nat.le_refl _) (.slice none 0 0))
  replace y12 : w6.heap.size < (Wn.setCell ⟨w6.heap.size, 9, none⟩ (.slice none 0 0)).heap.size := by simpa using y12
  clear m9 fm9 hs9
  generalize Wn.setCell ⟨w6.heap.size, 9, none⟩ (.slice none 0 0) = Wp at N12 T12 HB y12 ⊢
  have m9 := N12.out.at 10 _ rfl
  have fm9 := there_at T12.out (i := 10) (by decide)
  go_upto_region 16 with fail
  have hs9 : (Wp.cell? ⟨w6.heap.size, 10, none⟩).isSome = true := by rw [m9]; rfl
  replace N12 := Lib.hid (N12.out.set10 none 0 0)
  replace T12 := Lib.hid (there_set T12.out ⟨w6.heap.size, 10, none⟩ (.slice none 0 0) hs9)
  replace HB := Lib.hid (HB.out.setCell (p := ⟨w6.heap.size, 10, none⟩) (Nat.le_refl _) (.slice none 0 0))
  replace y12 : w6.heap.size < (Wp.setCell ⟨w6.heap.size, 10, none⟩ (.slice none 0 0)).heap.size := by simpa using y12
  clear m9 fm9 hs9
  generalize Wp.setCell ⟨w6.heap.size, 10, none⟩ (.slice none 0 0) = W8 at N12 T12 HB y12 ⊢
  have y8 := y12
  go_wp2_with fail
  go_loopw [13] (fun u wr => ∃ (i : Nat) (AM : Option Addr) (cM : Nat), i ≤ nW ∧ u = .int .i64 i ∧ Hid (∀ j, j < i → ws.getD j 0 ≠ -128) ∧ Hid (NodeAt w6.heap.size x0 x1 x2 x8 x11 x12 x13 x14 x15 x16 x17 x18 K S P O Z AM none i cM 0 0 wr) ∧ Hid (wr.there w6.heap.size 0 19) ∧ Hid (wr.ownsRow W8.heap.size 27 1 (.slice AM i cM) i (I8s (rowL (negF ws) i))) ∧ Hid (Below w6.heap.size w6 wr) ∧ W8.heap.size ≤ wr.heap.size) (fun u _ => nW - (intOf u).toNat)
  case atStart => exact ⟨0, none, 0, Nat.zero_le _, rfl, Lib.hid (fun j hj => absurd hj (Nat.not_lt_zero j)), N12, T12, Lib.hid ⟨by simp [I8s, rowL], .inl ⟨rfl, rfl⟩⟩, HB, Nat.le_refl _⟩
  case round =>
    obtain ⟨i, AM, cM, hi, rfl, HAL, N12, T12, OW, HB, hz⟩ := hrel
    clear y12
    have y12 : w6.heap.size < wr.heap.size := Nat.lt_of_lt_of_le y8 hz
    have n9 := (TN.out.below yTN HB.out).at 9 _ rfl
    by_cases hlt : i < nW
    · obtain ⟨bw, ow, rfl, hbw, hcw⟩ := ints_getD HRW.out (j := 0) (by have := HWS.out; omega)
      have hcx := (HB.out.cell (p := ⟨bw, ow + i, none⟩) hbw).trans (hcw i (by have := HWS.out; omega))
      obtain ⟨x1, x2⟩ := HWB.out i
      have hi0 : (0 : Int) ≤ (i : Int) := by omega
      have hiI : (i : Int) < (nW : Int) := by omega
      obtain ⟨x, hxe⟩ : ∃ x, ws.getD i 0 = x := ⟨_, rfl⟩
      rw [hxe] at hcx x1 x2
      by_cases hv : x = -128
      · subst hv
        clear hcw hxe
        go_wp2_with (go_at_call 11; refine (oneT _).mono ?_; rintro e wz ⟨rfl, hb⟩; replace HBW := Lib.hid ((HBW.out.trans (HB.out.mono HBW.out.size)).trans (hb.mono (Nat.le_trans HBW.out.size HB.out.size))); clear hb)
        go_ret
        exact ⟨rfl, HBW.out⟩
      · have hvb : (x == -128) = false := by simpa using hv
        have HNE : Hid (ws.getD i 0 ≠ -128) := Lib.hid (by rw [hxe]; exact hv)
        have HXN : Hid (negF ws i = -x) := Lib.hid (by unfold negF; rw [hxe])
        have e1 : IntKind.i8.wrap (-x) = -x := IntWalk.i8_in _ (by omega)
        have hgb : w6.heap.size < W8.heap.size := y8
        clear hcw hxe hv
        go_wp2_with fail
        clear hvb
        refine wp_region_any (by kernel_rfl) ?_
        rw [show ({ wr with drawn := wr.drawn + 1 } : World) = wr.drew from rfl]
        have hdr : Below wr.heap.size wr wr.drew := (Below.refl _ _).drew
        replace N12 := Lib.hid (N12.out.below (B' := wr.heap.size) y12 hdr)
        replace T12 := Lib.hid (Kit.there_below T12.out hdr y12)
        replace OW := Lib.hid (Kit.own_below OW.out hdr)

        replace HB := Lib.hid HB.out.drew
        replace hz : W8.heap.size ≤ wr.drew.heap.size := hz
        replace y12 : w6.heap.size < wr.drew.heap.size := y12
        replace n9 : wr.drew.cell? ⟨w.heap.size + 1, 9, none⟩ = _ := n9
        replace hcx : wr.drew.cell? _ = _ := hcx
        clear hdr
        generalize wr.drew = V at N12 T12 OW HB hz y12 n9 hcx ⊢
        have m9 := N12.out.at 9 _ rfl
        refine wpAny_take (i := 0) (oi := ({ dst := some 101, op := Op.fieldAddr 32 (Operand.tmp 12) 9, type := 0, pos := "top08.go:42", after := #[], guard := none } : Oper)) (v := ?_) rfl (by kernel_rfl) (by kernel_rfl) (by kernel_rfl) (fun _ _ _ h => h) (Or.inl ⟨by rfl, ?_⟩) ?_
        rotate_left
        · intro wS
          first
            | (go_simp; done)
            | (go_simp; with_reducible rfl)
        try simp only [Act.put, List.setIfInBounds_toArray, List.set_cons_zero, List.set_cons_succ]
        refine wpAny_take (i := 2) (oi := ({ dst := some 103, op := Op.fieldAddr 32 (Operand.tmp 3) 9, type := 0, pos := "top08.go:42", after := #[], guard := none } : Oper)) (v := ?_) rfl (by kernel_rfl) (by kernel_rfl) (by kernel_rfl) (fun _ _ _ h => h) (Or.inl ⟨by rfl, ?_⟩) ?_
        rotate_left
        · intro wS
          first
            | (go_simp; done)
            | (go_simp; with_reducible rfl)
        try simp only [Act.put, List.setIfInBounds_toArray, List.set_cons_zero, List.set_cons_succ]
        refine wpAny_take (i := 4) (oi := ({ dst := some 105, op := Op.move (Operand.tmp 13), type := 3, pos := "top08.go:42", after := #[], guard := none } : Oper)) (v := ?_) rfl (by kernel_rfl) (by kernel_rfl) (by kernel_rfl) (fun _ _ _ h => h) (Or.inl ⟨by rfl, ?_⟩) ?_
        rotate_left
        · intro wS
          first
            | (go_simp; done)
            | (go_simp; with_reducible rfl)
        try simp only [Act.put, List.setIfInBounds_toArray, List.set_cons_zero, List.set_cons_succ]
        refine wpAny_ready (rs := [1, 3]) (by kernel_rfl) (by simp) ?_
        refine AllReady.cons (o := ({ dst := some 102, op := Op.load 24 (Operand.tmp 101), type := 24, pos := "top08.go:42", after := #[{ on := 0, ground := Ground.data }], guard := none } : Oper)) rfl (fun Kq hK => ?_) ?_
        · go_simp
          refine hK _ _ ?_
          clear hK Kq
          try simp only [Act.put, List.setIfInBounds_toArray, List.set_cons_zero, List.set_cons_succ]
          refine wpAny_ready (rs := [3]) (by kernel_rfl) (by simp) ?_
          refine AllReady.cons (o := ({ dst := some 104, op := Op.load 24 (Operand.tmp 103), type := 24, pos := "top08.go:42", after := #[{ on := 2, ground := Ground.data }], guard := none } : Oper)) rfl (fun Kq hK => ?_) (fun j hj => by cases hj)
          go_simp
          refine hK _ _ ?_
          clear hK Kq
          try simp only [Act.put, List.setIfInBounds_toArray, List.set_cons_zero, List.set_cons_succ]
          refine wpAny_take (i := 5) (oi := ({ dst := some 106, op := Op.indexAddr 24 (Operand.tmp 104) (Operand.tmp 105), type := 0, pos := "top08.go:42", after := #[{ on := 3, ground := Ground.data }, { on := 4, ground := Ground.data }], guard := none } : Oper)) (v := ?_) rfl (by kernel_rfl) (by kernel_rfl) (by kernel_rfl) (fun _ _ _ h => h) (Or.inl ⟨by rfl, ?_⟩) ?_
          rotate_left
          · intro wS
            first
              | (go_simp; done)
              | (go_simp; with_reducible rfl)
          try simp only [Act.put, List.setIfInBounds_toArray, List.set_cons_zero, List.set_cons_succ]
          refine wpAny_ready (rs := [6]) (by kernel_rfl) (by simp) ?_
          refine AllReady.cons (o := ({ dst := some 107, op := Op.load 27 (Operand.tmp 106), type := 27, pos := "top08.go:42", after := #[{ on := 5, ground := Ground.data }], guard := none } : Oper)) rfl (fun Kq hK => ?_) (fun j hj => by cases hj)
          go_simp
          refine hK _ _ ?_
          clear hK Kq
          try simp only [Act.put, List.setIfInBounds_toArray, List.set_cons_zero, List.set_cons_succ]
          refine wpAny_take (i := 7) (oi := ({ dst := some 108, op := Op.unOp UnOp.neg 27 (Operand.tmp 107), type := 27, pos := "top08.go:42", after := #[{ on := 6, ground := Ground.data }], guard := none } : Oper)) (v := ?_) rfl (by kernel_rfl) (by kernel_rfl) (by kernel_rfl) (fun _ _ _ h => h) (Or.inl ⟨by rfl, ?_⟩) ?_
          rotate_left
          · intro wS
            first
              | (go_simp; done)
              | (go_simp; with_reducible rfl)
          try simp only [Act.put, List.setIfInBounds_toArray, List.set_cons_zero, List.set_cons_succ]
          refine wpAny_ready (rs := [8]) (by kernel_rfl) (by simp) ?_
          refine AllReady.cons (o := ({ dst := some 109, op := Op.buildSlice 24 1 #[(0, Operand.tmp 108)], type := 24, pos := "top08.go:42", after := #[{ on := 7, ground := Ground.data }], guard := none } : Oper)) rfl (fun Kq hK => ?_) (fun j hj => by cases hj)
          go_simp
          refine hK _ _ ?_
          clear hK Kq
          try simp only [Act.put, List.setIfInBounds_toArray, List.set_cons_zero, List.set_cons_succ]
          have hal := (Below.refl V.heap.size V).alloc (Nat.le_refl _) (.cells #[.int .i8 (-x)] 27)
          have HXR := Lib.hid (Kit.Rd.new V [.int .i8 (-x)] 27 (Nat.lt_succ_self _))
          replace N12 := Lib.hid (N12.out.below (B' := V.heap.size) y12 hal)
          replace T12 := Lib.hid (Kit.there_below T12.out hal y12)
          replace OW := Lib.hid (Kit.own_below OW.out hal)

          replace HB := Lib.hid (HB.out.trans (hal.mono HB.out.size))
          replace hz := Nat.le_trans hz hal.size
          replace y12 := Nat.lt_of_lt_of_le y12 hal.size
          clear hal m9 n9 hcx
          generalize V.alloc (.cells #[.int .i8 (-x)] 27) = Vb at HXR N12 T12 OW HB hz y12 ⊢
          have m9 := N12.out.at 9 _ rfl
          refine wpAny_ready (rs := [9]) (by kernel_rfl) (by simp) ?_
          refine AllReady.cons (o := ({ dst := some 110, op := Op.call { callee := Callee.builtin Builtin.append, args := #[Operand.tmp 102, Operand.tmp 109], argTypes := #[24, 24] }, type := 24, pos := "top08.go:42", after := #[{ on := 1, ground := Ground.data }, { on := 8, ground := Ground.data }], guard := none } : Oper)) rfl (fun Kq hK => ?_) (fun j hj => by cases hj)
          refine Kit.step_append_rd _ rfl (.tmp 102) (.tmp 109) _ rfl (W8.heap.size) 27 i0w (.int .i8 0) 1 1 Try.underlying24 HI8.out.1 HI8.out.2.1 HI8.out.2.2.1 HI8.out.2.2.2 rfl (by decide) _ i (I8s (rowL (negF ws) i)) rfl OW.out _ _ 1 1 [.int .i8 (-x)] rfl rfl HXR.out (Kit.ints_one .i8 [_]) (by unfold maxLen; omega) (by omega) (by omega) ?_
          intro v5 w5 hown5 hg5 _
          obtain ⟨A5, c5, rfl, -, -, -⟩ := Kit.own_rd hown5
          have hb5 : Below (W8.heap.size) Vb w5 := (Below.refl _ _).grown hg5 hz (Kit.own_block_ge OW.out)
          rw [row8_succ _ i _ HXN.out] at hown5

          replace N12 := Lib.hid (N12.out.below (B' := W8.heap.size) hgb hb5)
          replace T12 := Lib.hid (Kit.there_below T12.out hb5 hgb)
          replace HB := Lib.hid (HB.out.trans (hb5.mono (by omega)))
          replace OW := Lib.hid hown5
          replace hz := Nat.le_trans hz hb5.size
          replace y12 := Nat.lt_of_lt_of_le y12 hb5.size
          clear hown5 hg5 hb5 HXR m9
          dsimp only
          refine hK _ _ ?_
          clear hK Kq
          try simp only [Act.put, List.setIfInBounds_toArray, List.set_cons_zero, List.set_cons_succ]
          have m9 := N12.out.at 9 _ rfl
          have fm9 := there_at T12.out (i := 9) (by decide)
          refine wpAny_take (i := 10) (oi := ({ dst := some 111, op := Op.fieldAddr 32 (Operand.tmp 12) 9, type := 0, pos := "top08.go:42", after := #[{ on := 0, ground := Ground.phase }, { on := 1, ground := Ground.phase }, { on := 2, ground := Ground.phase }, { on := 3, ground := Ground.phase }, { on := 4, ground := Ground.phase }, { on := 5, ground := Ground.phase }, { on := 6, ground := Ground.phase }, { on := 7, ground := Ground.phase }, { on := 8, ground := Ground.phase }, { on := 9, ground := Ground.phase }], guard := none } : Oper)) (v := ?_) rfl (by kernel_rfl) (by kernel_rfl) (by kernel_rfl) (fun _ _ _ h => h) (Or.inl ⟨by rfl, ?_⟩) ?_
          rotate_left
          · intro wS
            first
              | (go_simp; done)
              | (go_simp; with_reducible rfl)
          try simp only [Act.put, List.setIfInBounds_toArray, List.set_cons_zero, List.set_cons_succ]
          refine wpAny_ready (rs := [11]) (by kernel_rfl) (by simp) ?_
          refine AllReady.cons (o := ({ dst := none, op := Op.store 24 (Operand.tmp 111) (Operand.tmp 110), type := 0, pos := "top08.go:42", after := #[{ on := 10, ground := Ground.data }, { on := 9, ground := Ground.data }, { on := 9, ground := Ground.chain }, { on := 0, ground := Ground.phase }, { on := 1, ground := Ground.phase }, { on := 2, ground := Ground.phase }, { on := 3, ground := Ground.phase }, { on := 4, ground := Ground.phase }, { on := 5, ground := Ground.phase }, { on := 6, ground := Ground.phase }, { on := 7, ground := Ground.phase }, { on := 8, ground := Ground.phase }, { on := 9, ground := Ground.phase }], guard := none } : Oper)) rfl (fun Kq hK => ?_) (fun j hj => by cases hj)
          go_simp
          refine hK _ _ ?_
          clear hK Kq
          try simp only [Act.put, List.setIfInBounds_toArray, List.set_cons_zero, List.set_cons_succ]
          have hs9 : (w5.cell? ⟨w6.heap.size, 9, none⟩).isSome = true := by rw [m9]; rfl
          replace N12 := Lib.hid (N12.out.set9 A5 (i + 1) c5)
          replace T12 := Lib.hid (there_set T12.out ⟨w6.heap.size, 9, none⟩ (.slice A5 (i + 1) c5) hs9)
          replace OW := Lib.hid (own_set OW.out ⟨w6.heap.size, 9, none⟩ (.slice A5 (i + 1) c5) (show w6.heap.size < W8.heap.size from y8))

          replace HB := Lib.hid (HB.out.setCell (p := ⟨w6.heap.size, 9, none⟩) (Nat.le_refl _) (.slice A5 (i + 1) c5))
          replace hz : W8.heap.size ≤ (w5.setCell ⟨w6.heap.size, 9, none⟩ (.slice A5 (i + 1) c5)).heap.size := by simpa using hz
          replace y12 : w6.heap.size < (w5.setCell ⟨w6.heap.size, 9, none⟩ (.slice A5 (i + 1) c5)).heap.size := by simpa using y12
          clear m9 fm9 hs9
          generalize w5.setCell ⟨w6.heap.size, 9, none⟩ (.slice A5 (i + 1) c5) = w7 at N12 T12 OW HB hz y12 ⊢
          refine wpAny_done (by kernel_rfl) ?_ _
          try simp only [Norm]
          go_wp2_with fail
          go_roundw
          case rel => exact ⟨i + 1, A5, c5, by omega, by go_num, Lib.hid (fun j hj => by rcases (show j < i ∨ j = i by omega) with h | h <;> first | exact HAL.out j h | (subst h; exact HNE.out)), N12, T12, OW, HB, hz⟩
          case measure => simp [intOf]; omega
        refine AllReady.cons (o := ({ dst := some 104, op := Op.load 24 (Operand.tmp 103), type := 24, pos := "top08.go:42", after := #[{ on := 2, ground := Ground.data }], guard := none } : Oper)) rfl (fun Kq hK => ?_) ?_
        · go_simp
          refine hK _ _ ?_
          clear hK Kq
          try simp only [Act.put, List.setIfInBounds_toArray, List.set_cons_zero, List.set_cons_succ]
          refine wpAny_take (i := 5) (oi := ({ dst := some 106, op := Op.indexAddr 24 (Operand.tmp 104) (Operand.tmp 105), type := 0, pos := "top08.go:42", after := #[{ on := 3, ground := Ground.data }, { on := 4, ground := Ground.data }], guard := none } : Oper)) (v := ?_) rfl (by kernel_rfl) (by kernel_rfl) (by kernel_rfl) (fun _ _ _ h => h) (Or.inl ⟨by rfl, ?_⟩) ?_
          rotate_left
          · intro wS
            first
              | (go_simp; done)
              | (go_simp; with_reducible rfl)
          try simp only [Act.put, List.setIfInBounds_toArray, List.set_cons_zero, List.set_cons_succ]
          refine wpAny_ready (rs := [1, 6]) (by kernel_rfl) (by simp) ?_
          refine AllReady.cons (o := ({ dst := some 102, op := Op.load 24 (Operand.tmp 101), type := 24, pos := "top08.go:42", after := #[{ on := 0, ground := Ground.data }], guard := none } : Oper)) rfl (fun Kq hK => ?_) ?_
          · go_simp
            refine hK _ _ ?_
            clear hK Kq
            try simp only [Act.put, List.setIfInBounds_toArray, List.set_cons_zero, List.set_cons_succ]
            refine wpAny_ready (rs := [6]) (by kernel_rfl) (by simp) ?_
            refine AllReady.cons (o := ({ dst := some 107, op := Op.load 27 (Operand.tmp 106), type := 27, pos := "top08.go:42", after := #[{ on := 5, ground := Ground.data }], guard := none } : Oper)) rfl (fun Kq hK => ?_) (fun j hj => by cases hj)
            go_simp
            refine hK _ _ ?_
            clear hK Kq
            try simp only [Act.put, List.setIfInBounds_toArray, List.set_cons_zero, List.set_cons_succ]
            refine wpAny_take (i := 7) (oi := ({ dst := some 108, op := Op.unOp UnOp.neg 27 (Operand.tmp 107), type := 27, pos := "top08.go:42", after := #[{ on := 6, ground := Ground.data }], guard := none } : Oper)) (v := ?_) rfl (by kernel_rfl) (by kernel_rfl) (by kernel_rfl) (fun _ _ _ h => h) (Or.inl ⟨by rfl, ?_⟩) ?_
            rotate_left
            · intro wS
              first
                | (go_simp; done)
                | (go_simp; with_reducible rfl)
            try simp only [Act.put, List.setIfInBounds_toArray, List.set_cons_zero, List.set_cons_succ]
            refine wpAny_ready (rs := [8]) (by kernel_rfl) (by simp) ?_
            refine AllReady.cons (o := ({ dst := some 109, op := Op.buildSlice 24 1 #[(0, Operand.tmp 108)], type := 24, pos := "top08.go:42", after := #[{ on := 7, ground := Ground.data }], guard := none } : Oper)) rfl (fun Kq hK => ?_) (fun j hj => by cases hj)
            go_simp
            refine hK _ _ ?_
            clear hK Kq
            try simp only [Act.put, List.setIfInBounds_toArray, List.set_cons_zero, List.set_cons_succ]
            have hal := (Below.refl V.heap.size V).alloc (Nat.le_refl _) (.cells #[.int .i8 (-x)] 27)
            have HXR := Lib.hid (Kit.Rd.new V [.int .i8 (-x)] 27 (Nat.lt_succ_self _))
            replace N12 := Lib.hid (N12.out.below (B' := V.heap.size) y12 hal)
            replace T12 := Lib.hid (Kit.there_below T12.out hal y12)
            replace OW := Lib.hid (Kit.own_below OW.out hal)

            replace HB := Lib.hid (HB.out.trans (hal.mono HB.out.size))
            replace hz := Nat.le_trans hz hal.size
            replace y12 := Nat.lt_of_lt_of_le y12 hal.size
            clear hal m9 n9 hcx
            generalize V.alloc (.cells #[.int .i8 (-x)] 27) = Vb at HXR N12 T12 OW HB hz y12 ⊢
            have m9 := N12.out.at 9 _ rfl
            refine wpAny_ready (rs := [9]) (by kernel_rfl) (by simp) ?_
            refine AllReady.cons (o := ({ dst := some 110, op := Op.call { callee := Callee.builtin Builtin.append, args := #[Operand.tmp 102, Operand.tmp 109], argTypes := #[24, 24] }, type := 24, pos := "top08.go:42", after := #[{ on := 1, ground := Ground.data }, { on := 8, ground := Ground.data }], guard := none } : Oper)) rfl (fun Kq hK => ?_) (fun j hj => by cases hj)
            refine Kit.step_append_rd _ rfl (.tmp 102) (.tmp 109) _ rfl (W8.heap.size) 27 i0w (.int .i8 0) 1 1 Try.underlying24 HI8.out.1 HI8.out.2.1 HI8.out.2.2.1 HI8.out.2.2.2 rfl (by decide) _ i (I8s (rowL (negF ws) i)) rfl OW.out _ _ 1 1 [.int .i8 (-x)] rfl rfl HXR.out (Kit.ints_one .i8 [_]) (by unfold maxLen; omega) (by omega) (by omega) ?_
            intro v5 w5 hown5 hg5 _
            obtain ⟨A5, c5, rfl, -, -, -⟩ := Kit.own_rd hown5
            have hb5 : Below (W8.heap.size) Vb w5 := (Below.refl _ _).grown hg5 hz (Kit.own_block_ge OW.out)
            rw [row8_succ _ i _ HXN.out] at hown5

            replace N12 := Lib.hid (N12.out.below (B' := W8.heap.size) hgb hb5)
            replace T12 := Lib.hid (Kit.there_below T12.out hb5 hgb)
            replace HB := Lib.hid (HB.out.trans (hb5.mono (by omega)))
            replace OW := Lib.hid hown5
            replace hz := Nat.le_trans hz hb5.size
            replace y12 := Nat.lt_of_lt_of_le y12 hb5.size
            clear hown5 hg5 hb5 HXR m9
            dsimp only
            refine hK _ _ ?_
            clear hK Kq
            try simp only [Act.put, List.setIfInBounds_toArray, List.set_cons_zero, List.set_cons_succ]
            have m9 := N12.out.at 9 _ rfl
            have fm9 := there_at T12.out (i := 9) (by decide)
            refine wpAny_take (i := 10) (oi := ({ dst := some 111, op := Op.fieldAddr 32 (Operand.tmp 12) 9, type := 0, pos := "top08.go:42", after := #[{ on := 0, ground := Ground.phase }, { on := 1, ground := Ground.phase }, { on := 2, ground := Ground.phase }, { on := 3, ground := Ground.phase }, { on := 4, ground := Ground.phase }, { on := 5, ground := Ground.phase }, { on := 6, ground := Ground.phase }, { on := 7, ground := Ground.phase }, { on := 8, ground := Ground.phase }, { on := 9, ground := Ground.phase }], guard := none } : Oper)) (v := ?_) rfl (by kernel_rfl) (by kernel_rfl) (by kernel_rfl) (fun _ _ _ h => h) (Or.inl ⟨by rfl, ?_⟩) ?_
            rotate_left
            · intro wS
              first
                | (go_simp; done)
                | (go_simp; with_reducible rfl)
            try simp only [Act.put, List.setIfInBounds_toArray, List.set_cons_zero, List.set_cons_succ]
            refine wpAny_ready (rs := [11]) (by kernel_rfl) (by simp) ?_
            refine AllReady.cons (o := ({ dst := none, op := Op.store 24 (Operand.tmp 111) (Operand.tmp 110), type := 0, pos := "top08.go:42", after := #[{ on := 10, ground := Ground.data }, { on := 9, ground := Ground.data }, { on := 9, ground := Ground.chain }, { on := 0, ground := Ground.phase }, { on := 1, ground := Ground.phase }, { on := 2, ground := Ground.phase }, { on := 3, ground := Ground.phase }, { on := 4, ground := Ground.phase }, { on := 5, ground := Ground.phase }, { on := 6, ground := Ground.phase }, { on := 7, ground := Ground.phase }, { on := 8, ground := Ground.phase }, { on := 9, ground := Ground.phase }], guard := none } : Oper)) rfl (fun Kq hK => ?_) (fun j hj => by cases hj)
            go_simp
            refine hK _ _ ?_
            clear hK Kq
            try simp only [Act.put, List.setIfInBounds_toArray, List.set_cons_zero, List.set_cons_succ]
            have hs9 : (w5.cell? ⟨w6.heap.size, 9, none⟩).isSome = true := by rw [m9]; rfl
            replace N12 := Lib.hid (N12.out.set9 A5 (i + 1) c5)
            replace T12 := Lib.hid (there_set T12.out ⟨w6.heap.size, 9, none⟩ (.slice A5 (i + 1) c5) hs9)
            replace OW := Lib.hid (own_set OW.out ⟨w6.heap.size, 9, none⟩ (.slice A5 (i + 1) c5) (show w6.heap.size < W8.heap.size from y8))

            replace HB := Lib.hid (HB.out.setCell (p := ⟨w6.heap.size, 9, none⟩) (Nat.le_refl _) (.slice A5 (i + 1) c5))
            replace hz : W8.heap.size ≤ (w5.setCell ⟨w6.heap.size, 9, none⟩ (.slice A5 (i + 1) c5)).heap.size := by simpa using hz
            replace y12 : w6.heap.size < (w5.setCell ⟨w6.heap.size, 9, none⟩ (.slice A5 (i + 1) c5)).heap.size := by simpa using y12
            clear m9 fm9 hs9
            generalize w5.setCell ⟨w6.heap.size, 9, none⟩ (.slice A5 (i + 1) c5) = w7 at N12 T12 OW HB hz y12 ⊢
            refine wpAny_done (by kernel_rfl) ?_ _
            try simp only [Norm]
            go_wp2_with fail
            go_roundw
            case rel => exact ⟨i + 1, A5, c5, by omega, by go_num, Lib.hid (fun j hj => by rcases (show j < i ∨ j = i by omega) with h | h <;> first | exact HAL.out j h | (subst h; exact HNE.out)), N12, T12, OW, HB, hz⟩
            case measure => simp [intOf]; omega
          refine AllReady.cons (o := ({ dst := some 107, op := Op.load 27 (Operand.tmp 106), type := 27, pos := "top08.go:42", after := #[{ on := 5, ground := Ground.data }], guard := none } : Oper)) rfl (fun Kq hK => ?_) ?_
          · go_simp
            refine hK _ _ ?_
            clear hK Kq
            try simp only [Act.put, List.setIfInBounds_toArray, List.set_cons_zero, List.set_cons_succ]
            refine wpAny_take (i := 7) (oi := ({ dst := some 108, op := Op.unOp UnOp.neg 27 (Operand.tmp 107), type := 27, pos := "top08.go:42", after := #[{ on := 6, ground := Ground.data }], guard := none } : Oper)) (v := ?_) rfl (by kernel_rfl) (by kernel_rfl) (by kernel_rfl) (fun _ _ _ h => h) (Or.inl ⟨by rfl, ?_⟩) ?_
            rotate_left
            · intro wS
              first
                | (go_simp; done)
                | (go_simp; with_reducible rfl)
            try simp only [Act.put, List.setIfInBounds_toArray, List.set_cons_zero, List.set_cons_succ]
            refine wpAny_ready (rs := [1, 8]) (by kernel_rfl) (by simp) ?_
            refine AllReady.cons (o := ({ dst := some 102, op := Op.load 24 (Operand.tmp 101), type := 24, pos := "top08.go:42", after := #[{ on := 0, ground := Ground.data }], guard := none } : Oper)) rfl (fun Kq hK => ?_) ?_
            · go_simp
              refine hK _ _ ?_
              clear hK Kq
              try simp only [Act.put, List.setIfInBounds_toArray, List.set_cons_zero, List.set_cons_succ]
              refine wpAny_ready (rs := [8]) (by kernel_rfl) (by simp) ?_
              refine AllReady.cons (o := ({ dst := some 109, op := Op.buildSlice 24 1 #[(0, Operand.tmp 108)], type := 24, pos := "top08.go:42", after := #[{ on := 7, ground := Ground.data }], guard := none } : Oper)) rfl (fun Kq hK => ?_) (fun j hj => by cases hj)
              go_simp
              refine hK _ _ ?_
              clear hK Kq
              try simp only [Act.put, List.setIfInBounds_toArray, List.set_cons_zero, List.set_cons_succ]
              have hal := (Below.refl V.heap.size V).alloc (Nat.le_refl _) (.cells #[.int .i8 (-x)] 27)
              have HXR := Lib.hid (Kit.Rd.new V [.int .i8 (-x)] 27 (Nat.lt_succ_self _))
              replace N12 := Lib.hid (N12.out.below (B' := V.heap.size) y12 hal)
              replace T12 := Lib.hid (Kit.there_below T12.out hal y12)
              replace OW := Lib.hid (Kit.own_below OW.out hal)

              replace HB := Lib.hid (HB.out.trans (hal.mono HB.out.size))
              replace hz := Nat.le_trans hz hal.size
              replace y12 := Nat.lt_of_lt_of_le y12 hal.size
              clear hal m9 n9 hcx
              generalize V.alloc (.cells #[.int .i8 (-x)] 27) = Vb at HXR N12 T12 OW HB hz y12 ⊢
              have m9 := N12.out.at 9 _ rfl
              refine wpAny_ready (rs := [9]) (by kernel_rfl) (by simp) ?_
              refine AllReady.cons (o := ({ dst := some 110, op := Op.call { callee := Callee.builtin Builtin.append, args := #[Operand.tmp 102, Operand.tmp 109], argTypes := #[24, 24] }, type := 24, pos := "top08.go:42", after := #[{ on := 1, ground := Ground.data }, { on := 8, ground := Ground.data }], guard := none } : Oper)) rfl (fun Kq hK => ?_) (fun j hj => by cases hj)
              refine Kit.step_append_rd _ rfl (.tmp 102) (.tmp 109) _ rfl (W8.heap.size) 27 i0w (.int .i8 0) 1 1 Try.underlying24 HI8.out.1 HI8.out.2.1 HI8.out.2.2.1 HI8.out.2.2.2 rfl (by decide) _ i (I8s (rowL (negF ws) i)) rfl OW.out _ _ 1 1 [.int .i8 (-x)] rfl rfl HXR.out (Kit.ints_one .i8 [_]) (by unfold maxLen; omega) (by omega) (by omega) ?_
              intro v5 w5 hown5 hg5 _
              obtain ⟨A5, c5, rfl, -, -, -⟩ := Kit.own_rd hown5
              have hb5 : Below (W8.heap.size) Vb w5 := (Below.refl _ _).grown hg5 hz (Kit.own_block_ge OW.out)
              rw [row8_succ _ i _ HXN.out] at hown5

              replace N12 := Lib.hid (N12.out.below (B' := W8.heap.size) hgb hb5)
              replace T12 := Lib.hid (Kit.there_below T12.out hb5 hgb)
              replace HB := Lib.hid (HB.out.trans (hb5.mono (by omega)))
              replace OW := Lib.hid hown5
              replace hz := Nat.le_trans hz hb5.size
              replace y12 := Nat.lt_of_lt_of_le y12 hb5.size
              clear hown5 hg5 hb5 HXR m9
              dsimp only
              refine hK _ _ ?_
              clear hK Kq
              try simp only [Act.put, List.setIfInBounds_toArray, List.set_cons_zero, List.set_cons_succ]
              have m9 := N12.out.at 9 _ rfl
              have fm9 := there_at T12.out (i := 9) (by decide)
              refine wpAny_take (i := 10) (oi := ({ dst := some 111, op := Op.fieldAddr 32 (Operand.tmp 12) 9, type := 0, pos := "top08.go:42", after := #[{ on := 0, ground := Ground.phase }, { on := 1, ground := Ground.phase }, { on := 2, ground := Ground.phase }, { on := 3, ground := Ground.phase }, { on := 4, ground := Ground.phase }, { on := 5, ground := Ground.phase }, { on := 6, ground := Ground.phase }, { on := 7, ground := Ground.phase }, { on := 8, ground := Ground.phase }, { on := 9, ground := Ground.phase }], guard := none } : Oper)) (v := ?_) rfl (by kernel_rfl) (by kernel_rfl) (by kernel_rfl) (fun _ _ _ h => h) (Or.inl ⟨by rfl, ?_⟩) ?_
              rotate_left
              · intro wS
                first
                  | (go_simp; done)
                  | (go_simp; with_reducible rfl)
              try simp only [Act.put, List.setIfInBounds_toArray, List.set_cons_zero, List.set_cons_succ]
              refine wpAny_ready (rs := [11]) (by kernel_rfl) (by simp) ?_
              refine AllReady.cons (o := ({ dst := none, op := Op.store 24 (Operand.tmp 111) (Operand.tmp 110), type := 0, pos := "top08.go:42", after := #[{ on := 10, ground := Ground.data }, { on := 9, ground := Ground.data }, { on := 9, ground := Ground.chain }, { on := 0, ground := Ground.phase }, { on := 1, ground := Ground.phase }, { on := 2, ground := Ground.phase }, { on := 3, ground := Ground.phase }, { on := 4, ground := Ground.phase }, { on := 5, ground := Ground.phase }, { on := 6, ground := Ground.phase }, { on := 7, ground := Ground.phase }, { on := 8, ground := Ground.phase }, { on := 9, ground := Ground.phase }], guard := none } : Oper)) rfl (fun Kq hK => ?_) (fun j hj => by cases hj)
              go_simp
              refine hK _ _ ?_
              clear hK Kq
              try simp only [Act.put, List.setIfInBounds_toArray, List.set_cons_zero, List.set_cons_succ]
              have hs9 : (w5.cell? ⟨w6.heap.size, 9, none⟩).isSome = true := by rw [m9]; rfl
              replace N12 := Lib.hid (N12.out.set9 A5 (i + 1) c5)
              replace T12 := Lib.hid (there_set T12.out ⟨w6.heap.size, 9, none⟩ (.slice A5 (i + 1) c5) hs9)
              replace OW := Lib.hid (own_set OW.out ⟨w6.heap.size, 9, none⟩ (.slice A5 (i + 1) c5) (show w6.heap.size < W8.heap.size from y8))

              replace HB := Lib.hid (HB.out.setCell (p := ⟨w6.heap.size, 9, none⟩) (Nat.le_refl _) (.slice A5 (i + 1) c5))
              replace hz : W8.heap.size ≤ (w5.setCell ⟨w6.heap.size, 9, none⟩ (.slice A5 (i + 1) c5)).heap.size := by simpa using hz
              replace y12 : w6.heap.size < (w5.setCell ⟨w6.heap.size, 9, none⟩ (.slice A5 (i + 1) c5)).heap.size := by simpa using y12
              clear m9 fm9 hs9
              generalize w5.setCell ⟨w6.heap.size, 9, none⟩ (.slice A5 (i + 1) c5) = w7 at N12 T12 OW HB hz y12 ⊢
              refine wpAny_done (by kernel_rfl) ?_ _
              try simp only [Norm]
              go_wp2_with fail
              go_roundw
              case rel => exact ⟨i + 1, A5, c5, by omega, by go_num, Lib.hid (fun j hj => by rcases (show j < i ∨ j = i by omega) with h | h <;> first | exact HAL.out j h | (subst h; exact HNE.out)), N12, T12, OW, HB, hz⟩
              case measure => simp [intOf]; omega
            refine AllReady.cons (o := ({ dst := some 109, op := Op.buildSlice 24 1 #[(0, Operand.tmp 108)], type := 24, pos := "top08.go:42", after := #[{ on := 7, ground := Ground.data }], guard := none } : Oper)) rfl (fun Kq hK => ?_) ?_
            · go_simp
              refine hK _ _ ?_
              clear hK Kq
              try simp only [Act.put, List.setIfInBounds_toArray, List.set_cons_zero, List.set_cons_succ]
              have hal := (Below.refl V.heap.size V).alloc (Nat.le_refl _) (.cells #[.int .i8 (-x)] 27)
              have HXR := Lib.hid (Kit.Rd.new V [.int .i8 (-x)] 27 (Nat.lt_succ_self _))
              replace N12 := Lib.hid (N12.out.below (B' := V.heap.size) y12 hal)
              replace T12 := Lib.hid (Kit.there_below T12.out hal y12)
              replace OW := Lib.hid (Kit.own_below OW.out hal)

              replace HB := Lib.hid (HB.out.trans (hal.mono HB.out.size))
              replace hz := Nat.le_trans hz hal.size
              replace y12 := Nat.lt_of_lt_of_le y12 hal.size
              clear hal m9 n9 hcx
              generalize V.alloc (.cells #[.int .i8 (-x)] 27) = Vb at HXR N12 T12 OW HB hz y12 ⊢
              have m9 := N12.out.at 9 _ rfl
              refine wpAny_ready (rs := [1]) (by kernel_rfl) (by simp) ?_
              refine AllReady.cons (o := ({ dst := some 102, op := Op.load 24 (Operand.tmp 101), type := 24, pos := "top08.go:42", after := #[{ on := 0, ground := Ground.data }], guard := none } : Oper)) rfl (fun Kq hK => ?_) (fun j hj => by cases hj)
              go_simp
              refine hK _ _ ?_
              clear hK Kq
              try simp only [Act.put, List.setIfInBounds_toArray, List.set_cons_zero, List.set_cons_succ]
              refine wpAny_ready (rs := [9]) (by kernel_rfl) (by simp) ?_
              refine AllReady.cons (o := ({ dst := some 110, op := Op.call { callee := Callee.builtin Builtin.append, args := #[Operand.tmp 102, Operand.tmp 109], argTypes := #[24, 24] }, type := 24, pos := "top08.go:42", after := #[{ on := 1, ground := Ground.data }, { on := 8, ground := Ground.data }], guard := none } : Oper)) rfl (fun Kq hK => ?_) (fun j hj => by cases hj)
              refine Kit.step_append_rd _ rfl (.tmp 102) (.tmp 109) _ rfl (W8.heap.size) 27 i0w (.int .i8 0) 1 1 Try.underlying24 HI8.out.1 HI8.out.2.1 HI8.out.2.2.1 HI8.out.2.2.2 rfl (by decide) _ i (I8s (rowL (negF ws) i)) rfl OW.out _ _ 1 1 [.int .i8 (-x)] rfl rfl HXR.out (Kit.ints_one .i8 [_]) (by unfold maxLen; omega) (by omega) (by omega) ?_
              intro v5 w5 hown5 hg5 _
              obtain ⟨A5, c5, rfl, -, -, -⟩ := Kit.own_rd hown5
              have hb5 : Below (W8.heap.size) Vb w5 := (Below.refl _ _).grown hg5 hz (Kit.own_block_ge OW.out)
              rw [row8_succ _ i _ HXN.out] at hown5

              replace N12 := Lib.hid (N12.out.below (B' := W8.heap.size) hgb hb5)
              replace T12 := Lib.hid (Kit.there_below T12.out hb5 hgb)
              replace HB := Lib.hid (HB.out.trans (hb5.mono (by omega)))
              replace OW := Lib.hid hown5
              replace hz := Nat.le_trans hz hb5.size
              replace y12 := Nat.lt_of_lt_of_le y12 hb5.size
              clear hown5 hg5 hb5 HXR m9
              dsimp only
              refine hK _ _ ?_
              clear hK Kq
              try simp only [Act.put, List.setIfInBounds_toArray, List.set_cons_zero, List.set_cons_succ]
              have m9 := N12.out.at 9 _ rfl
              have fm9 := there_at T12.out (i := 9) (by decide)
              refine wpAny_take (i := 10) (oi := ({ dst := some 111, op := Op.fieldAddr 32 (Operand.tmp 12) 9, type := 0, pos := "top08.go:42", after := #[{ on := 0, ground := Ground.phase }, { on := 1, ground := Ground.phase }, { on := 2, ground := Ground.phase }, { on := 3, ground := Ground.phase }, { on := 4, ground := Ground.phase }, { on := 5, ground := Ground.phase }, { on := 6, ground := Ground.phase }, { on := 7, ground := Ground.phase }, { on := 8, ground := Ground.phase }, { on := 9, ground := Ground.phase }], guard := none } : Oper)) (v := ?_) rfl (by kernel_rfl) (by kernel_rfl) (by kernel_rfl) (fun _ _ _ h => h) (Or.inl ⟨by rfl, ?_⟩) ?_
              rotate_left
              · intro wS
                first
                  | (go_simp; done)
                  | (go_simp; with_reducible rfl)
              try simp only [Act.put, List.setIfInBounds_toArray, List.set_cons_zero, List.set_cons_succ]
              refine wpAny_ready (rs := [11]) (by kernel_rfl) (by simp) ?_
              refine AllReady.cons (o := ({ dst := none, op := Op.store 24 (Operand.tmp 111) (Operand.tmp 110), type := 0, pos := "top08.go:42", after := #[{ on := 10, ground := Ground.data }, { on := 9, ground := Ground.data }, { on := 9, ground := Ground.chain }, { on := 0, ground := Ground.phase }, { on := 1, ground := Ground.phase }, { on := 2, ground := Ground.phase }, { on := 3, ground := Ground.phase }, { on := 4, ground := Ground.phase }, { on := 5, ground := Ground.phase }, { on := 6, ground := Ground.phase }, { on := 7, ground := Ground.phase }, { on := 8, ground := Ground.phase }, { on := 9, ground := Ground.phase }], guard := none } : Oper)) rfl (fun Kq hK => ?_) (fun j hj => by cases hj)
              go_simp
              refine hK _ _ ?_
              clear hK Kq
              try simp only [Act.put, List.setIfInBounds_toArray, List.set_cons_zero, List.set_cons_succ]
              have hs9 : (w5.cell? ⟨w6.heap.size, 9, none⟩).isSome = true := by rw [m9]; rfl
              replace N12 := Lib.hid (N12.out.set9 A5 (i + 1) c5)
              replace T12 := Lib.hid (there_set T12.out ⟨w6.heap.size, 9, none⟩ (.slice A5 (i + 1) c5) hs9)
              replace OW := Lib.hid (own_set OW.out ⟨w6.heap.size, 9, none⟩ (.slice A5 (i + 1) c5) (show w6.heap.size < W8.heap.size from y8))

              replace HB := Lib.hid (HB.out.setCell (p := ⟨w6.heap.size, 9, none⟩) (Nat.le_refl _) (.slice A5 (i + 1) c5))
              replace hz : W8.heap.size ≤ (w5.setCell ⟨w6.heap.size, 9, none⟩ (.slice A5 (i + 1) c5)).heap.size := by simpa using hz
              replace y12 : w6.heap.size < (w5.setCell ⟨w6.heap.size, 9, none⟩ (.slice A5 (i + 1) c5)).heap.size := by simpa using y12
              clear m9 fm9 hs9
              generalize w5.setCell ⟨w6.heap.size, 9, none⟩ (.slice A5 (i + 1) c5) = w7 at N12 T12 OW HB hz y12 ⊢
              refine wpAny_done (by kernel_rfl) ?_ _
              try simp only [Norm]
              go_wp2_with fail
              go_roundw
              case rel => exact ⟨i + 1, A5, c5, by omega, by go_num, Lib.hid (fun j hj => by rcases (show j < i ∨ j = i by omega) with h | h <;> first | exact HAL.out j h | (subst h; exact HNE.out)), N12, T12, OW, HB, hz⟩
              case measure => simp [intOf]; omega
            exact fun j hj => by cases hj
          exact fun j hj => by cases hj
        exact fun j hj => by cases hj
    · obtain rfl : i = nW := by omega
      obtain ⟨F2, hC, hF2⟩ := HNEG.out HAL.out
      have HC := Lib.hid hC
      have HF2 := Lib.hid hF2
      have HLT : Hid (∀ g, (Value.slice AM i cM).ownBlock = some g → g < wr.heap.size) := Lib.hid (fun g h => own_lt OW.out h)
      clear hC hF2
      obtain ⟨wL, hwL⟩ : ∃ wL, wL = wr := ⟨_, rfl⟩
      go_wp2_with fail
      go_loopw [14] (fun u wr => ∃ (k : Nat) (AB : Option Addr) (cD : Nat), k ≤ nB ∧ u = .int .i64 k ∧ Hid (NodeAt w6.heap.size x0 x1 x2 x8 x11 x12 x13 x14 x15 x16 x17 x18 K S P O Z AM AB i cM k cD wr) ∧ Hid (wr.there w6.heap.size 0 19) ∧ Hid (wr.ownsRow W8.heap.size 27 1 (.slice AM i cM) i (I8s (rowL (negF ws) i))) ∧ Hid (wr.ownsRow wL.heap.size 21 1 (.slice AB k cD) k (I32v (rowL (negB bs) k))) ∧ Hid (Below w6.heap.size w6 wr) ∧ wL.heap.size ≤ wr.heap.size) (fun u _ => nB - (intOf u).toNat)
      case atStart => exact ⟨0, none, 0, Nat.zero_le _, rfl, N12, T12, OW, Lib.hid ⟨by simp [I32v, rowL], .inl ⟨rfl, rfl⟩⟩, HB, by rw [hwL]; exact Nat.le_refl _⟩
      case round =>
        rw [← hwL] at HLT hz y12
        clear hwL N12 T12 OW HB n9
        have hgb : w6.heap.size < wL.heap.size := y12
        clear y12
        obtain ⟨k, AB, cD, hk, rfl, N12, T12, OW, OB, HB, hz2⟩ := hrel
        clear hz
        have hz := hz2
        clear hz2
        have y12 : w6.heap.size < wr.heap.size := Nat.lt_of_lt_of_le hgb hz
        have n10 := (TN.out.below yTN HB.out).at 10 _ rfl
        by_cases hltk : k < nB
        · obtain ⟨bb, ob, rfl, hbb, hcb⟩ := ints_getD HRB.out (j := 0) (by have := HBS.out; omega)
          have hcx := (HB.out.cell (p := ⟨bb, ob + k, none⟩) hbb).trans (hcb k (by have := HBS.out; omega))
          have hk0 : (0 : Int) ≤ (k : Int) := by omega
          have hkI : (k : Int) < (nB : Int) := by omega
          obtain ⟨x, hxe⟩ : ∃ x, bs.getD k 0 = x := ⟨_, rfl⟩
          obtain ⟨z, hze⟩ : ∃ z, IntKind.i32.wrap (-x) = z := ⟨_, rfl⟩
          rw [hxe] at hcx
          have HXN : Hid (negB bs k = z) := Lib.hid (by unfold negB; rw [hxe]; exact hze)
          clear hcb hxe
          go_wp2_with fail
          refine wp_region_any (by kernel_rfl) ?_
          rw [show ({ wr with drawn := wr.drawn + 1 } : World) = wr.drew from rfl]
          have hdr : Below wr.heap.size wr wr.drew := (Below.refl _ _).drew
          replace N12 := Lib.hid (N12.out.below (B' := wr.heap.size) y12 hdr)
          replace T12 := Lib.hid (Kit.there_below T12.out hdr y12)
          replace OW := Lib.hid (Kit.own_below OW.out hdr)
          replace OB := Lib.hid (Kit.own_below OB.out hdr)
          replace HB := Lib.hid HB.out.drew
          replace hz : wL.heap.size ≤ wr.drew.heap.size := hz
          replace y12 : w6.heap.size < wr.drew.heap.size := y12
          replace n10 : wr.drew.cell? ⟨w.heap.size + 1, 10, none⟩ = _ := n10
          replace hcx : wr.drew.cell? _ = _ := hcx
          clear hdr
          generalize wr.drew = V at N12 T12 OW OB HB hz y12 n10 hcx ⊢
          have m9 := N12.out.at 10 _ rfl
          refine wpAny_take (i := 0) (oi := ({ dst := some 119, op := Op.fieldAddr 32 (Operand.tmp 12) 10, type := 0, pos := "top08.go:45", after := #[], guard := none } : Oper)) (v := ?_) rfl (by kernel_rfl) (by kernel_rfl) (by kernel_rfl) (fun _ _ _ h => h) (Or.inl ⟨by rfl, ?_⟩) ?_
          rotate_left
          · intro wS
            first
              | (go_simp; done)
              | (go_simp; with_reducible rfl)
          try simp only [Act.put, List.setIfInBounds_toArray, List.set_cons_zero, List.set_cons_succ]
          refine wpAny_take (i := 2) (oi := ({ dst := some 121, op := Op.fieldAddr 32 (Operand.tmp 3) 10, type := 0, pos := "top08.go:45", after := #[], guard := none } : Oper)) (v := ?_) rfl (by kernel_rfl) (by kernel_rfl) (by kernel_rfl) (fun _ _ _ h => h) (Or.inl ⟨by rfl, ?_⟩) ?_
          rotate_left
          · intro wS
            first
              | (go_simp; done)
              | (go_simp; with_reducible rfl)
          try simp only [Act.put, List.setIfInBounds_toArray, List.set_cons_zero, List.set_cons_succ]
          refine wpAny_take (i := 4) (oi := ({ dst := some 123, op := Op.move (Operand.tmp 14), type := 3, pos := "top08.go:45", after := #[], guard := none } : Oper)) (v := ?_) rfl (by kernel_rfl) (by kernel_rfl) (by kernel_rfl) (fun _ _ _ h => h) (Or.inl ⟨by rfl, ?_⟩) ?_
          rotate_left
          · intro wS
            first
              | (go_simp; done)
              | (go_simp; with_reducible rfl)
          try simp only [Act.put, List.setIfInBounds_toArray, List.set_cons_zero, List.set_cons_succ]
          refine wpAny_ready (rs := [1, 3]) (by kernel_rfl) (by simp) ?_
          refine AllReady.cons (o := ({ dst := some 120, op := Op.load 28 (Operand.tmp 119), type := 28, pos := "top08.go:45", after := #[{ on := 0, ground := Ground.data }], guard := none } : Oper)) rfl (fun Kq hK => ?_) ?_
          · go_simp
            refine hK _ _ ?_
            clear hK Kq
            try simp only [Act.put, List.setIfInBounds_toArray, List.set_cons_zero, List.set_cons_succ]
            refine wpAny_ready (rs := [3]) (by kernel_rfl) (by simp) ?_
            refine AllReady.cons (o := ({ dst := some 122, op := Op.load 28 (Operand.tmp 121), type := 28, pos := "top08.go:45", after := #[{ on := 2, ground := Ground.data }], guard := none } : Oper)) rfl (fun Kq hK => ?_) (fun j hj => by cases hj)
            go_simp
            refine hK _ _ ?_
            clear hK Kq
            try simp only [Act.put, List.setIfInBounds_toArray, List.set_cons_zero, List.set_cons_succ]
            refine wpAny_take (i := 5) (oi := ({ dst := some 124, op := Op.indexAddr 28 (Operand.tmp 122) (Operand.tmp 123), type := 0, pos := "top08.go:45", after := #[{ on := 3, ground := Ground.data }, { on := 4, ground := Ground.data }], guard := none } : Oper)) (v := ?_) rfl (by kernel_rfl) (by kernel_rfl) (by kernel_rfl) (fun _ _ _ h => h) (Or.inl ⟨by rfl, ?_⟩) ?_
            rotate_left
            · intro wS
              first
                | (go_simp; done)
                | (go_simp; with_reducible rfl)
            try simp only [Act.put, List.setIfInBounds_toArray, List.set_cons_zero, List.set_cons_succ]
            refine wpAny_ready (rs := [6]) (by kernel_rfl) (by simp) ?_
            refine AllReady.cons (o := ({ dst := some 125, op := Op.load 21 (Operand.tmp 124), type := 21, pos := "top08.go:45", after := #[{ on := 5, ground := Ground.data }], guard := none } : Oper)) rfl (fun Kq hK => ?_) (fun j hj => by cases hj)
            go_simp
            refine hK _ _ ?_
            clear hK Kq
            try simp only [Act.put, List.setIfInBounds_toArray, List.set_cons_zero, List.set_cons_succ]
            refine wpAny_take (i := 7) (oi := ({ dst := some 126, op := Op.unOp UnOp.neg 21 (Operand.tmp 125), type := 21, pos := "top08.go:45", after := #[{ on := 6, ground := Ground.data }], guard := none } : Oper)) (v := ?_) rfl (by kernel_rfl) (by kernel_rfl) (by kernel_rfl) (fun _ _ _ h => h) (Or.inl ⟨by rfl, ?_⟩) ?_
            rotate_left
            · intro wS
              first
                | (go_simp; done)
                | (go_simp; with_reducible rfl)
            try simp only [Act.put, List.setIfInBounds_toArray, List.set_cons_zero, List.set_cons_succ]
            refine wpAny_ready (rs := [8]) (by kernel_rfl) (by simp) ?_
            refine AllReady.cons (o := ({ dst := some 127, op := Op.buildSlice 28 1 #[(0, Operand.tmp 126)], type := 28, pos := "top08.go:45", after := #[{ on := 7, ground := Ground.data }], guard := none } : Oper)) rfl (fun Kq hK => ?_) (fun j hj => by cases hj)
            go_simp
            refine hK _ _ ?_
            clear hK Kq
            try simp only [Act.put, List.setIfInBounds_toArray, List.set_cons_zero, List.set_cons_succ]
            have hal := (Below.refl V.heap.size V).alloc (Nat.le_refl _) (.cells #[.int .i32 z] 21)
            have HXR := Lib.hid (Kit.Rd.new V [.int .i32 z] 21 (Nat.lt_succ_self _))
            replace N12 := Lib.hid (N12.out.below (B' := V.heap.size) y12 hal)
            replace T12 := Lib.hid (Kit.there_below T12.out hal y12)
            replace OW := Lib.hid (Kit.own_below OW.out hal)
            replace OB := Lib.hid (Kit.own_below OB.out hal)
            replace HB := Lib.hid (HB.out.trans (hal.mono HB.out.size))
            replace hz := Nat.le_trans hz hal.size
            replace y12 := Nat.lt_of_lt_of_le y12 hal.size
            clear hal m9 n10 hcx
            generalize V.alloc (.cells #[.int .i32 z] 21) = Vb at HXR N12 T12 OW OB HB hz y12 ⊢
            have m9 := N12.out.at 10 _ rfl
            refine wpAny_ready (rs := [9]) (by kernel_rfl) (by simp) ?_
            refine AllReady.cons (o := ({ dst := some 128, op := Op.call { callee := Callee.builtin Builtin.append, args := #[Operand.tmp 120, Operand.tmp 127], argTypes := #[28, 28] }, type := 28, pos := "top08.go:45", after := #[{ on := 1, ground := Ground.data }, { on := 8, ground := Ground.data }], guard := none } : Oper)) rfl (fun Kq hK => ?_) (fun j hj => by cases hj)
            refine Kit.step_append_rd _ rfl (.tmp 120) (.tmp 127) _ rfl (wL.heap.size) 21 i0b (.int .i32 0) 1 4 Try.underlying28 HI32.out.1 HI32.out.2.1 HI32.out.2.2.1 HI32.out.2.2.2 rfl (by decide) _ k (I32v (rowL (negB bs) k)) rfl OB.out _ _ 1 1 [.int .i32 z] rfl rfl HXR.out (Kit.ints_one .i32 [_]) (by unfold maxLen; omega) (by omega) (by omega) ?_
            intro v5 w5 hown5 hg5 _
            obtain ⟨A5, c5, rfl, -, -, -⟩ := Kit.own_rd hown5
            have hb5 : Below (wL.heap.size) Vb w5 := (Below.refl _ _).grown hg5 hz (Kit.own_block_ge OB.out)
            rw [rowL_succ _ k _ HXN.out] at hown5
            replace OW := Lib.hid (apart_kept OW.out (fun g h1 h2 => by have := Kit.own_block_ge OB.out g h1; have := HLT.out g h2; omega) hg5)
            replace N12 := Lib.hid (N12.out.below (B' := wL.heap.size) hgb hb5)
            replace T12 := Lib.hid (Kit.there_below T12.out hb5 hgb)
            replace HB := Lib.hid (HB.out.trans (hb5.mono (by omega)))
            replace OB := Lib.hid hown5
            replace hz := Nat.le_trans hz hb5.size
            replace y12 := Nat.lt_of_lt_of_le y12 hb5.size
            clear hown5 hg5 hb5 HXR m9
            dsimp only
            refine hK _ _ ?_
            clear hK Kq
            try simp only [Act.put, List.setIfInBounds_toArray, List.set_cons_zero, List.set_cons_succ]
            have m9 := N12.out.at 10 _ rfl
            have fm9 := there_at T12.out (i := 10) (by decide)
            refine wpAny_take (i := 10) (oi := ({ dst := some 129, op := Op.fieldAddr 32 (Operand.tmp 12) 10, type := 0, pos := "top08.go:45", after := #[{ on := 0, ground := Ground.phase }, { on := 1, ground := Ground.phase }, { on := 2, ground := Ground.phase }, { on := 3, ground := Ground.phase }, { on := 4, ground := Ground.phase }, { on := 5, ground := Ground.phase }, { on := 6, ground := Ground.phase }, { on := 7, ground := Ground.phase }, { on := 8, ground := Ground.phase }, { on := 9, ground := Ground.phase }], guard := none } : Oper)) (v := ?_) rfl (by kernel_rfl) (by kernel_rfl) (by kernel_rfl) (fun _ _ _ h => h) (Or.inl ⟨by rfl, ?_⟩) ?_
            rotate_left
            · intro wS
              first
                | (go_simp; done)
                | (go_simp; with_reducible rfl)
            try simp only [Act.put, List.setIfInBounds_toArray, List.set_cons_zero, List.set_cons_succ]
            refine wpAny_ready (rs := [11]) (by kernel_rfl) (by simp) ?_
            refine AllReady.cons (o := ({ dst := none, op := Op.store 28 (Operand.tmp 129) (Operand.tmp 128), type := 0, pos := "top08.go:45", after := #[{ on := 10, ground := Ground.data }, { on := 9, ground := Ground.data }, { on := 9, ground := Ground.chain }, { on := 0, ground := Ground.phase }, { on := 1, ground := Ground.phase }, { on := 2, ground := Ground.phase }, { on := 3, ground := Ground.phase }, { on := 4, ground := Ground.phase }, { on := 5, ground := Ground.phase }, { on := 6, ground := Ground.phase }, { on := 7, ground := Ground.phase }, { on := 8, ground := Ground.phase }, { on := 9, ground := Ground.phase }], guard := none } : Oper)) rfl (fun Kq hK => ?_) (fun j hj => by cases hj)
            go_simp
            refine hK _ _ ?_
            clear hK Kq
            try simp only [Act.put, List.setIfInBounds_toArray, List.set_cons_zero, List.set_cons_succ]
            have hs9 : (w5.cell? ⟨w6.heap.size, 10, none⟩).isSome = true := by rw [m9]; rfl
            replace N12 := Lib.hid (N12.out.set10 A5 (k + 1) c5)
            replace T12 := Lib.hid (there_set T12.out ⟨w6.heap.size, 10, none⟩ (.slice A5 (k + 1) c5) hs9)
            replace OW := Lib.hid (own_set OW.out ⟨w6.heap.size, 10, none⟩ (.slice A5 (k + 1) c5) (show w6.heap.size < W8.heap.size from y8))
            replace OB := Lib.hid (own_set OB.out ⟨w6.heap.size, 10, none⟩ (.slice A5 (k + 1) c5) (show w6.heap.size < wL.heap.size from hgb))
            replace HB := Lib.hid (HB.out.setCell (p := ⟨w6.heap.size, 10, none⟩) (Nat.le_refl _) (.slice A5 (k + 1) c5))
            replace hz : wL.heap.size ≤ (w5.setCell ⟨w6.heap.size, 10, none⟩ (.slice A5 (k + 1) c5)).heap.size := by simpa using hz
            replace y12 : w6.heap.size < (w5.setCell ⟨w6.heap.size, 10, none⟩ (.slice A5 (k + 1) c5)).heap.size := by simpa using y12
            clear m9 fm9 hs9
            generalize w5.setCell ⟨w6.heap.size, 10, none⟩ (.slice A5 (k + 1) c5) = w7 at N12 T12 OW OB HB hz y12 ⊢
            refine wpAny_done (by kernel_rfl) ?_ _
            try simp only [Norm]
            go_wp2_with fail
            go_roundw
            case rel => exact ⟨k + 1, A5, c5, by omega, by go_num, N12, T12, OW, OB, HB, hz⟩
            case measure => simp [intOf]; omega
          refine AllReady.cons (o := ({ dst := some 122, op := Op.load 28 (Operand.tmp 121), type := 28, pos := "top08.go:45", after := #[{ on := 2, ground := Ground.data }], guard := none } : Oper)) rfl (fun Kq hK => ?_) ?_
          · go_simp
            refine hK _ _ ?_
            clear hK Kq
            try simp only [Act.put, List.setIfInBounds_toArray, List.set_cons_zero, List.set_cons_succ]
            refine wpAny_take (i := 5) (oi := ({ dst := some 124, op := Op.indexAddr 28 (Operand.tmp 122) (Operand.tmp 123), type := 0, pos := "top08.go:45", after := #[{ on := 3, ground := Ground.data }, { on := 4, ground := Ground.data }], guard := none } : Oper)) (v := ?_) rfl (by kernel_rfl) (by kernel_rfl) (by kernel_rfl) (fun _ _ _ h => h) (Or.inl ⟨by rfl, ?_⟩) ?_
            rotate_left
            · intro wS
              first
                | (go_simp; done)
                | (go_simp; with_reducible rfl)
            try simp only [Act.put, List.setIfInBounds_toArray, List.set_cons_zero, List.set_cons_succ]
            refine wpAny_ready (rs := [1, 6]) (by kernel_rfl) (by simp) ?_
            refine AllReady.cons (o := ({ dst := some 120, op := Op.load 28 (Operand.tmp 119), type := 28, pos := "top08.go:45", after := #[{ on := 0, ground := Ground.data }], guard := none } : Oper)) rfl (fun Kq hK => ?_) ?_
            · go_simp
              refine hK _ _ ?_
              clear hK Kq
              try simp only [Act.put, List.setIfInBounds_toArray, List.set_cons_zero, List.set_cons_succ]
              refine wpAny_ready (rs := [6]) (by kernel_rfl) (by simp) ?_
              refine AllReady.cons (o := ({ dst := some 125, op := Op.load 21 (Operand.tmp 124), type := 21, pos := "top08.go:45", after := #[{ on := 5, ground := Ground.data }], guard := none } : Oper)) rfl (fun Kq hK => ?_) (fun j hj => by cases hj)
              go_simp
              refine hK _ _ ?_
              clear hK Kq
              try simp only [Act.put, List.setIfInBounds_toArray, List.set_cons_zero, List.set_cons_succ]
              refine wpAny_take (i := 7) (oi := ({ dst := some 126, op := Op.unOp UnOp.neg 21 (Operand.tmp 125), type := 21, pos := "top08.go:45", after := #[{ on := 6, ground := Ground.data }], guard := none } : Oper)) (v := ?_) rfl (by kernel_rfl) (by kernel_rfl) (by kernel_rfl) (fun _ _ _ h => h) (Or.inl ⟨by rfl, ?_⟩) ?_
              rotate_left
              · intro wS
                first
                  | (go_simp; done)
                  | (go_simp; with_reducible rfl)
              try simp only [Act.put, List.setIfInBounds_toArray, List.set_cons_zero, List.set_cons_succ]
              refine wpAny_ready (rs := [8]) (by kernel_rfl) (by simp) ?_
              refine AllReady.cons (o := ({ dst := some 127, op := Op.buildSlice 28 1 #[(0, Operand.tmp 126)], type := 28, pos := "top08.go:45", after := #[{ on := 7, ground := Ground.data }], guard := none } : Oper)) rfl (fun Kq hK => ?_) (fun j hj => by cases hj)
              go_simp
              refine hK _ _ ?_
              clear hK Kq
              try simp only [Act.put, List.setIfInBounds_toArray, List.set_cons_zero, List.set_cons_succ]
              have hal := (Below.refl V.heap.size V).alloc (Nat.le_refl _) (.cells #[.int .i32 z] 21)
              have HXR := Lib.hid (Kit.Rd.new V [.int .i32 z] 21 (Nat.lt_succ_self _))
              replace N12 := Lib.hid (N12.out.below (B' := V.heap.size) y12 hal)
              replace T12 := Lib.hid (Kit.there_below T12.out hal y12)
              replace OW := Lib.hid (Kit.own_below OW.out hal)
              replace OB := Lib.hid (Kit.own_below OB.out hal)
              replace HB := Lib.hid (HB.out.trans (hal.mono HB.out.size))
              replace hz := Nat.le_trans hz hal.size
              replace y12 := Nat.lt_of_lt_of_le y12 hal.size
              clear hal m9 n10 hcx
              generalize V.alloc (.cells #[.int .i32 z] 21) = Vb at HXR N12 T12 OW OB HB hz y12 ⊢
              have m9 := N12.out.at 10 _ rfl
              refine wpAny_ready (rs := [9]) (by kernel_rfl) (by simp) ?_
              refine AllReady.cons (o := ({ dst := some 128, op := Op.call { callee := Callee.builtin Builtin.append, args := #[Operand.tmp 120, Operand.tmp 127], argTypes := #[28, 28] }, type := 28, pos := "top08.go:45", after := #[{ on := 1, ground := Ground.data }, { on := 8, ground := Ground.data }], guard := none } : Oper)) rfl (fun Kq hK => ?_) (fun j hj => by cases hj)
              refine Kit.step_append_rd _ rfl (.tmp 120) (.tmp 127) _ rfl (wL.heap.size) 21 i0b (.int .i32 0) 1 4 Try.underlying28 HI32.out.1 HI32.out.2.1 HI32.out.2.2.1 HI32.out.2.2.2 rfl (by decide) _ k (I32v (rowL (negB bs) k)) rfl OB.out _ _ 1 1 [.int .i32 z] rfl rfl HXR.out (Kit.ints_one .i32 [_]) (by unfold maxLen; omega) (by omega) (by omega) ?_
              intro v5 w5 hown5 hg5 _
              obtain ⟨A5, c5, rfl, -, -, -⟩ := Kit.own_rd hown5
              have hb5 : Below (wL.heap.size) Vb w5 := (Below.refl _ _).grown hg5 hz (Kit.own_block_ge OB.out)
              rw [rowL_succ _ k _ HXN.out] at hown5
              replace OW := Lib.hid (apart_kept OW.out (fun g h1 h2 => by have := Kit.own_block_ge OB.out g h1; have := HLT.out g h2; omega) hg5)
              replace N12 := Lib.hid (N12.out.below (B' := wL.heap.size) hgb hb5)
              replace T12 := Lib.hid (Kit.there_below T12.out hb5 hgb)
              replace HB := Lib.hid (HB.out.trans (hb5.mono (by omega)))
              replace OB := Lib.hid hown5
              replace hz := Nat.le_trans hz hb5.size
              replace y12 := Nat.lt_of_lt_of_le y12 hb5.size
              clear hown5 hg5 hb5 HXR m9
              dsimp only
              refine hK _ _ ?_
              clear hK Kq
              try simp only [Act.put, List.setIfInBounds_toArray, List.set_cons_zero, List.set_cons_succ]
              have m9 := N12.out.at 10 _ rfl
              have fm9 := there_at T12.out (i := 10) (by decide)
              refine wpAny_take (i := 10) (oi := ({ dst := some 129, op := Op.fieldAddr 32 (Operand.tmp 12) 10, type := 0, pos := "top08.go:45", after := #[{ on := 0, ground := Ground.phase }, { on := 1, ground := Ground.phase }, { on := 2, ground := Ground.phase }, { on := 3, ground := Ground.phase }, { on := 4, ground := Ground.phase }, { on := 5, ground := Ground.phase }, { on := 6, ground := Ground.phase }, { on := 7, ground := Ground.phase }, { on := 8, ground := Ground.phase }, { on := 9, ground := Ground.phase }], guard := none } : Oper)) (v := ?_) rfl (by kernel_rfl) (by kernel_rfl) (by kernel_rfl) (fun _ _ _ h => h) (Or.inl ⟨by rfl, ?_⟩) ?_
              rotate_left
              · intro wS
                first
                  | (go_simp; done)
                  | (go_simp; with_reducible rfl)
              try simp only [Act.put, List.setIfInBounds_toArray, List.set_cons_zero, List.set_cons_succ]
              refine wpAny_ready (rs := [11]) (by kernel_rfl) (by simp) ?_
              refine AllReady.cons (o := ({ dst := none, op := Op.store 28 (Operand.tmp 129) (Operand.tmp 128), type := 0, pos := "top08.go:45", after := #[{ on := 10, ground := Ground.data }, { on := 9, ground := Ground.data }, { on := 9, ground := Ground.chain }, { on := 0, ground := Ground.phase }, { on := 1, ground := Ground.phase }, { on := 2, ground := Ground.phase }, { on := 3, ground := Ground.phase }, { on := 4, ground := Ground.phase }, { on := 5, ground := Ground.phase }, { on := 6, ground := Ground.phase }, { on := 7, ground := Ground.phase }, { on := 8, ground := Ground.phase }, { on := 9, ground := Ground.phase }], guard := none } : Oper)) rfl (fun Kq hK => ?_) (fun j hj => by cases hj)
              go_simp
              refine hK _ _ ?_
              clear hK Kq
              try simp only [Act.put, List.setIfInBounds_toArray, List.set_cons_zero, List.set_cons_succ]
              have hs9 : (w5.cell? ⟨w6.heap.size, 10, none⟩).isSome = true := by rw [m9]; rfl
              replace N12 := Lib.hid (N12.out.set10 A5 (k + 1) c5)
              replace T12 := Lib.hid (there_set T12.out ⟨w6.heap.size, 10, none⟩ (.slice A5 (k + 1) c5) hs9)
              replace OW := Lib.hid (own_set OW.out ⟨w6.heap.size, 10, none⟩ (.slice A5 (k + 1) c5) (show w6.heap.size < W8.heap.size from y8))
              replace OB := Lib.hid (own_set OB.out ⟨w6.heap.size, 10, none⟩ (.slice A5 (k + 1) c5) (show w6.heap.size < wL.heap.size from hgb))
              replace HB := Lib.hid (HB.out.setCell (p := ⟨w6.heap.size, 10, none⟩) (Nat.le_refl _) (.slice A5 (k + 1) c5))
              replace hz : wL.heap.size ≤ (w5.setCell ⟨w6.heap.size, 10, none⟩ (.slice A5 (k + 1) c5)).heap.size := by simpa using hz
              replace y12 : w6.heap.size < (w5.setCell ⟨w6.heap.size, 10, none⟩ (.slice A5 (k + 1) c5)).heap.size := by simpa using y12
              clear m9 fm9 hs9
              generalize w5.setCell ⟨w6.heap.size, 10, none⟩ (.slice A5 (k + 1) c5) = w7 at N12 T12 OW OB HB hz y12 ⊢
              refine wpAny_done (by kernel_rfl) ?_ _
              try simp only [Norm]
              go_wp2_with fail
              go_roundw
              case rel => exact ⟨k + 1, A5, c5, by omega, by go_num, N12, T12, OW, OB, HB, hz⟩
              case measure => simp [intOf]; omega
            refine AllReady.cons (o := ({ dst := some 125, op := Op.load 21 (Operand.tmp 124), type := 21, pos := "top08.go:45", after := #[{ on := 5, ground := Ground.data }], guard := none } : Oper)) rfl (fun Kq hK => ?_) ?_
            · go_simp
              refine hK _ _ ?_
              clear hK Kq
              try simp only [Act.put, List.setIfInBounds_toArray, List.set_cons_zero, List.set_cons_succ]
              refine wpAny_take (i := 7) (oi := ({ dst := some 126, op := Op.unOp UnOp.neg 21 (Operand.tmp 125), type := 21, pos := "top08.go:45", after := #[{ on := 6, ground := Ground.data }], guard := none } : Oper)) (v := ?_) rfl (by kernel_rfl) (by kernel_rfl) (by kernel_rfl) (fun _ _ _ h => h) (Or.inl ⟨by rfl, ?_⟩) ?_
              rotate_left
              · intro wS
                first
                  | (go_simp; done)
                  | (go_simp; with_reducible rfl)
              try simp only [Act.put, List.setIfInBounds_toArray, List.set_cons_zero, List.set_cons_succ]
              refine wpAny_ready (rs := [1, 8]) (by kernel_rfl) (by simp) ?_
              refine AllReady.cons (o := ({ dst := some 120, op := Op.load 28 (Operand.tmp 119), type := 28, pos := "top08.go:45", after := #[{ on := 0, ground := Ground.data }], guard := none } : Oper)) rfl (fun Kq hK => ?_) ?_
              · go_simp
                refine hK _ _ ?_
                clear hK Kq
                try simp only [Act.put, List.setIfInBounds_toArray, List.set_cons_zero, List.set_cons_succ]
                refine wpAny_ready (rs := [8]) (by kernel_rfl) (by simp) ?_
                refine AllReady.cons (o := ({ dst := some 127, op := Op.buildSlice 28 1 #[(0, Operand.tmp 126)], type := 28, pos := "top08.go:45", after := #[{ on := 7, ground := Ground.data }], guard := none } : Oper)) rfl (fun Kq hK => ?_) (fun j hj => by cases hj)
                go_simp
                refine hK _ _ ?_
                clear hK Kq
                try simp only [Act.put, List.setIfInBounds_toArray, List.set_cons_zero, List.set_cons_succ]
                have hal := (Below.refl V.heap.size V).alloc (Nat.le_refl _) (.cells #[.int .i32 z] 21)
                have HXR := Lib.hid (Kit.Rd.new V [.int .i32 z] 21 (Nat.lt_succ_self _))
                replace N12 := Lib.hid (N12.out.below (B' := V.heap.size) y12 hal)
                replace T12 := Lib.hid (Kit.there_below T12.out hal y12)
                replace OW := Lib.hid (Kit.own_below OW.out hal)
                replace OB := Lib.hid (Kit.own_below OB.out hal)
                replace HB := Lib.hid (HB.out.trans (hal.mono HB.out.size))
                replace hz := Nat.le_trans hz hal.size
                replace y12 := Nat.lt_of_lt_of_le y12 hal.size
                clear hal m9 n10 hcx
                generalize V.alloc (.cells #[.int .i32 z] 21) = Vb at HXR N12 T12 OW OB HB hz y12 ⊢
                have m9 := N12.out.at 10 _ rfl
                refine wpAny_ready (rs := [9]) (by kernel_rfl) (by simp) ?_
                refine AllReady.cons (o := ({ dst := some 128, op := Op.call { callee := Callee.builtin Builtin.append, args := #[Operand.tmp 120, Operand.tmp 127], argTypes := #[28, 28] }, type := 28, pos := "top08.go:45", after := #[{ on := 1, ground := Ground.data }, { on := 8, ground := Ground.data }], guard := none } : Oper)) rfl (fun Kq hK => ?_) (fun j hj => by cases hj)
                refine Kit.step_append_rd _ rfl (.tmp 120) (.tmp 127) _ rfl (wL.heap.size) 21 i0b (.int .i32 0) 1 4 Try.underlying28 HI32.out.1 HI32.out.2.1 HI32.out.2.2.1 HI32.out.2.2.2 rfl (by decide) _ k (I32v (rowL (negB bs) k)) rfl OB.out _ _ 1 1 [.int .i32 z] rfl rfl HXR.out (Kit.ints_one .i32 [_]) (by unfold maxLen; omega) (by omega) (by omega) ?_
                intro v5 w5 hown5 hg5 _
                obtain ⟨A5, c5, rfl, -, -, -⟩ := Kit.own_rd hown5
                have hb5 : Below (wL.heap.size) Vb w5 := (Below.refl _ _).grown hg5 hz (Kit.own_block_ge OB.out)
                rw [rowL_succ _ k _ HXN.out] at hown5
                replace OW := Lib.hid (apart_kept OW.out (fun g h1 h2 => by have := Kit.own_block_ge OB.out g h1; have := HLT.out g h2; omega) hg5)
                replace N12 := Lib.hid (N12.out.below (B' := wL.heap.size) hgb hb5)
                replace T12 := Lib.hid (Kit.there_below T12.out hb5 hgb)
                replace HB := Lib.hid (HB.out.trans (hb5.mono (by omega)))
                replace OB := Lib.hid hown5
                replace hz := Nat.le_trans hz hb5.size
                replace y12 := Nat.lt_of_lt_of_le y12 hb5.size
                clear hown5 hg5 hb5 HXR m9
                dsimp only
                refine hK _ _ ?_
                clear hK Kq
                try simp only [Act.put, List.setIfInBounds_toArray, List.set_cons_zero, List.set_cons_succ]
                have m9 := N12.out.at 10 _ rfl
                have fm9 := there_at T12.out (i := 10) (by decide)
                refine wpAny_take (i := 10) (oi := ({ dst := some 129, op := Op.fieldAddr 32 (Operand.tmp 12) 10, type := 0, pos := "top08.go:45", after := #[{ on := 0, ground := Ground.phase }, { on := 1, ground := Ground.phase }, { on := 2, ground := Ground.phase }, { on := 3, ground := Ground.phase }, { on := 4, ground := Ground.phase }, { on := 5, ground := Ground.phase }, { on := 6, ground := Ground.phase }, { on := 7, ground := Ground.phase }, { on := 8, ground := Ground.phase }, { on := 9, ground := Ground.phase }], guard := none } : Oper)) (v := ?_) rfl (by kernel_rfl) (by kernel_rfl) (by kernel_rfl) (fun _ _ _ h => h) (Or.inl ⟨by rfl, ?_⟩) ?_
                rotate_left
                · intro wS
                  first
                    | (go_simp; done)
                    | (go_simp; with_reducible rfl)
                try simp only [Act.put, List.setIfInBounds_toArray, List.set_cons_zero, List.set_cons_succ]
                refine wpAny_ready (rs := [11]) (by kernel_rfl) (by simp) ?_
                refine AllReady.cons (o := ({ dst := none, op := Op.store 28 (Operand.tmp 129) (Operand.tmp 128), type := 0, pos := "top08.go:45", after := #[{ on := 10, ground := Ground.data }, { on := 9, ground := Ground.data }, { on := 9, ground := Ground.chain }, { on := 0, ground := Ground.phase }, { on := 1, ground := Ground.phase }, { on := 2, ground := Ground.phase }, { on := 3, ground := Ground.phase }, { on := 4, ground := Ground.phase }, { on := 5, ground := Ground.phase }, { on := 6, ground := Ground.phase }, { on := 7, ground := Ground.phase }, { on := 8, ground := Ground.phase }, { on := 9, ground := Ground.phase }], guard := none } : Oper)) rfl (fun Kq hK => ?_) (fun j hj => by cases hj)
                go_simp
                refine hK _ _ ?_
                clear hK Kq
                try simp only [Act.put, List.setIfInBounds_toArray, List.set_cons_zero, List.set_cons_succ]
                have hs9 : (w5.cell? ⟨w6.heap.size, 10, none⟩).isSome = true := by rw [m9]; rfl
                replace N12 := Lib.hid (N12.out.set10 A5 (k + 1) c5)
                replace T12 := Lib.hid (there_set T12.out ⟨w6.heap.size, 10, none⟩ (.slice A5 (k + 1) c5) hs9)
                replace OW := Lib.hid (own_set OW.out ⟨w6.heap.size, 10, none⟩ (.slice A5 (k + 1) c5) (show w6.heap.size < W8.heap.size from y8))
                replace OB := Lib.hid (own_set OB.out ⟨w6.heap.size, 10, none⟩ (.slice A5 (k + 1) c5) (show w6.heap.size < wL.heap.size from hgb))
                replace HB := Lib.hid (HB.out.setCell (p := ⟨w6.heap.size, 10, none⟩) (Nat.le_refl _) (.slice A5 (k + 1) c5))
                replace hz : wL.heap.size ≤ (w5.setCell ⟨w6.heap.size, 10, none⟩ (.slice A5 (k + 1) c5)).heap.size := by simpa using hz
                replace y12 : w6.heap.size < (w5.setCell ⟨w6.heap.size, 10, none⟩ (.slice A5 (k + 1) c5)).heap.size := by simpa using y12
                clear m9 fm9 hs9
                generalize w5.setCell ⟨w6.heap.size, 10, none⟩ (.slice A5 (k + 1) c5) = w7 at N12 T12 OW OB HB hz y12 ⊢
                refine wpAny_done (by kernel_rfl) ?_ _
                try simp only [Norm]
                go_wp2_with fail
                go_roundw
                case rel => exact ⟨k + 1, A5, c5, by omega, by go_num, N12, T12, OW, OB, HB, hz⟩
                case measure => simp [intOf]; omega
              refine AllReady.cons (o := ({ dst := some 127, op := Op.buildSlice 28 1 #[(0, Operand.tmp 126)], type := 28, pos := "top08.go:45", after := #[{ on := 7, ground := Ground.data }], guard := none } : Oper)) rfl (fun Kq hK => ?_) ?_
              · go_simp
                refine hK _ _ ?_
                clear hK Kq
                try simp only [Act.put, List.setIfInBounds_toArray, List.set_cons_zero, List.set_cons_succ]
                have hal := (Below.refl V.heap.size V).alloc (Nat.le_refl _) (.cells #[.int .i32 z] 21)
                have HXR := Lib.hid (Kit.Rd.new V [.int .i32 z] 21 (Nat.lt_succ_self _))
                replace N12 := Lib.hid (N12.out.below (B' := V.heap.size) y12 hal)
                replace T12 := Lib.hid (Kit.there_below T12.out hal y12)
                replace OW := Lib.hid (Kit.own_below OW.out hal)
                replace OB := Lib.hid (Kit.own_below OB.out hal)
                replace HB := Lib.hid (HB.out.trans (hal.mono HB.out.size))
                replace hz := Nat.le_trans hz hal.size
                replace y12 := Nat.lt_of_lt_of_le y12 hal.size
                clear hal m9 n10 hcx
                generalize V.alloc (.cells #[.int .i32 z] 21) = Vb at HXR N12 T12 OW OB HB hz y12 ⊢
                have m9 := N12.out.at 10 _ rfl
                refine wpAny_ready (rs := [1]) (by kernel_rfl) (by simp) ?_
                refine AllReady.cons (o := ({ dst := some 120, op := Op.load 28 (Operand.tmp 119), type := 28, pos := "top08.go:45", after := #[{ on := 0, ground := Ground.data }], guard := none } : Oper)) rfl (fun Kq hK => ?_) (fun j hj => by cases hj)
                go_simp
                refine hK _ _ ?_
                clear hK Kq
                try simp only [Act.put, List.setIfInBounds_toArray, List.set_cons_zero, List.set_cons_succ]
                refine wpAny_ready (rs := [9]) (by kernel_rfl) (by simp) ?_
                refine AllReady.cons (o := ({ dst := some 128, op := Op.call { callee := Callee.builtin Builtin.append, args := #[Operand.tmp 120, Operand.tmp 127], argTypes := #[28, 28] }, type := 28, pos := "top08.go:45", after := #[{ on := 1, ground := Ground.data }, { on := 8, ground := Ground.data }], guard := none } : Oper)) rfl (fun Kq hK => ?_) (fun j hj => by cases hj)
                refine Kit.step_append_rd _ rfl (.tmp 120) (.tmp 127) _ rfl (wL.heap.size) 21 i0b (.int .i32 0) 1 4 Try.underlying28 HI32.out.1 HI32.out.2.1 HI32.out.2.2.1 HI32.out.2.2.2 rfl (by decide) _ k (I32v (rowL (negB bs) k)) rfl OB.out _ _ 1 1 [.int .i32 z] rfl rfl HXR.out (Kit.ints_one .i32 [_]) (by unfold maxLen; omega) (by omega) (by omega) ?_
                intro v5 w5 hown5 hg5 _
                obtain ⟨A5, c5, rfl, -, -, -⟩ := Kit.own_rd hown5
                have hb5 : Below (wL.heap.size) Vb w5 := (Below.refl _ _).grown hg5 hz (Kit.own_block_ge OB.out)
                rw [rowL_succ _ k _ HXN.out] at hown5
                replace OW := Lib.hid (apart_kept OW.out (fun g h1 h2 => by have := Kit.own_block_ge OB.out g h1; have := HLT.out g h2; omega) hg5)
                replace N12 := Lib.hid (N12.out.below (B' := wL.heap.size) hgb hb5)
                replace T12 := Lib.hid (Kit.there_below T12.out hb5 hgb)
                replace HB := Lib.hid (HB.out.trans (hb5.mono (by omega)))
                replace OB := Lib.hid hown5
                replace hz := Nat.le_trans hz hb5.size
                replace y12 := Nat.lt_of_lt_of_le y12 hb5.size
                clear hown5 hg5 hb5 HXR m9
                dsimp only
                refine hK _ _ ?_
                clear hK Kq
                try simp only [Act.put, List.setIfInBounds_toArray, List.set_cons_zero, List.set_cons_succ]
                have m9 := N12.out.at 10 _ rfl
                have fm9 := there_at T12.out (i := 10) (by decide)
                refine wpAny_take (i := 10) (oi := ({ dst := some 129, op := Op.fieldAddr 32 (Operand.tmp 12) 10, type := 0, pos := "top08.go:45", after := #[{ on := 0, ground := Ground.phase }, { on := 1, ground := Ground.phase }, { on := 2, ground := Ground.phase }, { on := 3, ground := Ground.phase }, { on := 4, ground := Ground.phase }, { on := 5, ground := Ground.phase }, { on := 6, ground := Ground.phase }, { on := 7, ground := Ground.phase }, { on := 8, ground := Ground.phase }, { on := 9, ground := Ground.phase }], guard := none } : Oper)) (v := ?_) rfl (by kernel_rfl) (by kernel_rfl) (by kernel_rfl) (fun _ _ _ h => h) (Or.inl ⟨by rfl, ?_⟩) ?_
                rotate_left
                · intro wS
                  first
                    | (go_simp; done)
                    | (go_simp; with_reducible rfl)
                try simp only [Act.put, List.setIfInBounds_toArray, List.set_cons_zero, List.set_cons_succ]
                refine wpAny_ready (rs := [11]) (by kernel_rfl) (by simp) ?_
                refine AllReady.cons (o := ({ dst := none, op := Op.store 28 (Operand.tmp 129) (Operand.tmp 128), type := 0, pos := "top08.go:45", after := #[{ on := 10, ground := Ground.data }, { on := 9, ground := Ground.data }, { on := 9, ground := Ground.chain }, { on := 0, ground := Ground.phase }, { on := 1, ground := Ground.phase }, { on := 2, ground := Ground.phase }, { on := 3, ground := Ground.phase }, { on := 4, ground := Ground.phase }, { on := 5, ground := Ground.phase }, { on := 6, ground := Ground.phase }, { on := 7, ground := Ground.phase }, { on := 8, ground := Ground.phase }, { on := 9, ground := Ground.phase }], guard := none } : Oper)) rfl (fun Kq hK => ?_) (fun j hj => by cases hj)
                go_simp
                refine hK _ _ ?_
                clear hK Kq
                try simp only [Act.put, List.setIfInBounds_toArray, List.set_cons_zero, List.set_cons_succ]
                have hs9 : (w5.cell? ⟨w6.heap.size, 10, none⟩).isSome = true := by rw [m9]; rfl
                replace N12 := Lib.hid (N12.out.set10 A5 (k + 1) c5)
                replace T12 := Lib.hid (there_set T12.out ⟨w6.heap.size, 10, none⟩ (.slice A5 (k + 1) c5) hs9)
                replace OW := Lib.hid (own_set OW.out ⟨w6.heap.size, 10, none⟩ (.slice A5 (k + 1) c5) (show w6.heap.size < W8.heap.size from y8))
                replace OB := Lib.hid (own_set OB.out ⟨w6.heap.size, 10, none⟩ (.slice A5 (k + 1) c5) (show w6.heap.size < wL.heap.size from hgb))
                replace HB := Lib.hid (HB.out.setCell (p := ⟨w6.heap.size, 10, none⟩) (Nat.le_refl _) (.slice A5 (k + 1) c5))
                replace hz : wL.heap.size ≤ (w5.setCell ⟨w6.heap.size, 10, none⟩ (.slice A5 (k + 1) c5)).heap.size := by simpa using hz
                replace y12 : w6.heap.size < (w5.setCell ⟨w6.heap.size, 10, none⟩ (.slice A5 (k + 1) c5)).heap.size := by simpa using y12
                clear m9 fm9 hs9
                generalize w5.setCell ⟨w6.heap.size, 10, none⟩ (.slice A5 (k + 1) c5) = w7 at N12 T12 OW OB HB hz y12 ⊢
                refine wpAny_done (by kernel_rfl) ?_ _
                try simp only [Norm]
                go_wp2_with fail
                go_roundw
                case rel => exact ⟨k + 1, A5, c5, by omega, by go_num, N12, T12, OW, OB, HB, hz⟩
                case measure => simp [intOf]; omega
              exact fun j hj => by cases hj
            exact fun j hj => by cases hj
          exact fun j hj => by cases hj
        · obtain rfl : k = nB := by omega
          obtain ⟨AM', cM', eM, hM1, hM2, hrM⟩ := Kit.own_rd OW.out
          cases eM
          obtain ⟨AB', cD', eB, -, -, hrB⟩ := Kit.own_rd OB.out
          cases eB
          have RM := Lib.hid hrM
          have RB := Lib.hid hrB
          clear hrM hrB OW OB T12
          obtain ⟨tbp0, tbp1, tbp2, tbp3⟩ := TB.out.below yTB HB.out
          go_upto_region 27 with (first
            | (refine wpList_load_mid rfl 32 (.tmp 12) rfl (w6.heap.size) 0 rfl [x0, x1, x2, .int .i64 K, .int .i64 S, .int .i64 P, .int .i64 O, .int .i8 Z, x8, .slice AM i cM, .slice AB k cD, x11, x12, x13, x14, x15, x16, x17, x18] _ (N12.out) Try.underlying32 rfl (by kernel_rfl) ?_)
            | (go_at_call 7; refine (HC.out _ AM AB cM cD hM1 hM2 ((HR.out.below HB.out).more HB.out.size) RM.out RB.out).mono ?_; rintro e wa ⟨va, rfl, hoa, hba⟩; obtain ⟨A8, c8, rfl, -, -, hra⟩ := Kit.own_rd hoa; have RA8 := Lib.hid hra; replace HB := Lib.hid (HB.out.trans (hba.mono HB.out.size)); clear hoa hba hra tbp0 tbp1 tbp2 tbp3))
          have hal : Below wa.heap.size wa (wa.alloc (.cells #[.int .i64 X, .int .i64 Y, .int .i64 U, .slice A8 N c8] 36)) := (Below.refl _ _).alloc (Nat.le_refl _) _
          have TA8 := Lib.hid (boxNew X Y U A8 N c8 36 wa)
          replace RA8 := Lib.hid ((RA8.out.below hal).more hal.size)
          replace HB := Lib.hid (HB.out.trans (hal.mono HB.out.size))
          clear hal N12
          generalize wa.alloc (.cells #[.int .i64 X, .int .i64 Y, .int .i64 U, .slice A8 N c8] 36) = wd at TA8 RA8 HB ⊢
          generalize wa.heap.size = gB at TA8 ⊢
          obtain ⟨p0, p1, p2, p3⟩ := TA4.out.below yTA4 HB.out
          obtain ⟨r0, r1, r2, r3⟩ := TA8.out
          replace RA4 := Lib.hid (RA4.out.below HB.out)
          have HBE := Lib.hid (HBW.out.trans (HB.out.mono HBW.out.size))
          clear TB TN TA4 HB RM RB HR HRW HRB HNEG HC HAL HLT
          go_wp2_with fail
          go_loopw [17] (fun u wr => ∃ q nq : Nat, q ≤ N ∧ u = .int .i64 q ∧ Hid (wr = wd.drewN nq)) (fun u _ => N - (intOf u).toNat)
          case atStart => exact ⟨0, 0, Nat.zero_le _, rfl, Lib.hid rfl⟩
          case round =>
            obtain ⟨q, nq, hq, rfl, hw⟩ := hrel
            obtain rfl := hw.out
            clear hw
            by_cases hltq : q < N
            · obtain ⟨b4, o4, e4, -, hc4⟩ := ints_getD RA4.out (j := 0) (by rw [rowL_len]; omega)
              subst e4
              obtain ⟨b8, o8, e8, -, hc8⟩ := ints_getD RA8.out (j := 0) (by rw [rowL_len]; omega)
              subst e8
              have k4 := hc4 q (by rw [rowL_len]; omega)
              have k8 := hc8 q (by rw [rowL_len]; omega)
              rw [rowL_getD _ hltq] at k4 k8
              have hng := HF2.out q hltq
              generalize F1 q = v at k4 hng
              generalize F2 q = u at k8 hng
              have i0 : (0 : Int) ≤ (q : Int) := by omega
              have i1 : (q : Int) < (N : Int) := by omega
              clear hc4 hc8
              go_wp2_with fail
              go_quiet (fail)
              go_wp2
              go_roundw
              case rel => exact ⟨q + 1, _, by omega, by go_num, Lib.hid rfl⟩
              case measure => simp [intOf]; omega
            · obtain rfl : q = N := by omega
              have HBF := Lib.hid (Kit.below_drewN HBE.out nq)
              go_wp2_with (go_at_call 11; refine (oneT _).mono ?_; rintro e wz ⟨rfl, hb⟩; replace HBF := Lib.hid (HBF.out.trans (hb.mono HBF.out.size)); clear hb)
              go_ret
              exact ⟨rfl, HBF.out⟩
end Go.Proofs.Ytceejjliboiciaa.lawTopThree
