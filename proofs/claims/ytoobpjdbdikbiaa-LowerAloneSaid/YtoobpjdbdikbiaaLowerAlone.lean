/- LowerAlone: each channel of a node alone makes what it makes together with the others; the call returns true and leaves its arguments as they were. No condition. -/
import Derived.Test.YtoobpjdbdikbiaaLowerAloneNum
import Derived.Test.YtoobpjdbdikbiaaOpenNode
namespace Go.Proofs.Ytoobpjdbdikbiaa.lawLowerAlone
open Go Go.ChangeShapes Go.WideShapes Go.ChangeAt Go.RowKit
open Plain CSat CShape CTensor CConv
set_option linter.unusedVariables false

set_option maxRecDepth 100000 in
set_option maxHeartbeats 4000000 in
theorem walk_no {w : World} (H W C : Int) (A : Option Addr) (n c : Nat) (x0 x1 x2 x8 x11 x12 x13 x14 x15 x16 x17 x18 : Value) (K S P O Z : Int) (WA BA : Option Addr) (nW cW nB cB : Nat) (at_ : Int) (hfew : ¬ (n ≤ 1024 ∧ nW ≤ 2000 ∧ nB ≤ 200)) :
    Calls Try.prog 6 #[.agg #[.int .i64 H, .int .i64 W, .int .i64 C, .slice A n c], .agg #[x0, x1, x2, .int .i64 K, .int .i64 S, .int .i64 P, .int .i64 O, .int .i8 Z, x8, .slice WA nW cW, .slice BA nB cB, x11, x12, x13, x14, x15, x16, x17, x18], .int .u8 at_] w fun e w' => e = .returned (.bool true) ∧ Below w.heap.size w w' := by
  have TN0 : Hid (NodeAt (w.heap.size + 1) x0 x1 x2 x8 x11 x12 x13 x14 x15 x16 x17 x18 K S P O Z WA BA nW cW nB cB ((w.alloc (.cells #[.int .i64 H, .int .i64 W, .int .i64 C, .slice A n c] 26)).alloc (.cells #[x0, x1, x2, .int .i64 K, .int .i64 S, .int .i64 P, .int .i64 O, .int .i8 Z, x8, .slice WA nW cW, .slice BA nB cB, x11, x12, x13, x14, x15, x16, x17, x18] 32))) := by
    have h := NodeAt.new x0 x1 x2 x8 x11 x12 x13 x14 x15 x16 x17 x18 K S P O Z WA BA nW cW nB cB 32 (w.alloc (.cells #[.int .i64 H, .int .i64 W, .int .i64 C, .slice A n c] 26))
    rw [World.size_alloc] at h
    exact Lib.hid h
  go_enter Try.func6, Try.ntmps6
  go_wp2_with (first
        | (go_at_call 7
           have hal : Below w.heap.size w ((w.alloc (.cells #[.int .i64 H, .int .i64 W, .int .i64 C, .slice A n c] 26)).alloc (.cells #[x0, x1, x2, .int .i64 K, .int .i64 S, .int .i64 P, .int .i64 O, .int .i8 Z, x8, .slice WA nW cW, .slice BA nB cB, x11, x12, x13, x14, x15, x16, x17, x18] 32)) := ((Below.refl _ _).alloc (by first | exact Nat.le_refl _ | (simp; done) | (simp; omega)) _).alloc (by first | exact Nat.le_refl _ | (simp; done) | (simp; omega)) _
           refine (few_no H W C A n c x0 x1 x2 x8 x11 x12 x13 x14 x15 x16 x17 x18 K S P O Z WA BA nW cW nB cB hfew _).mono ?_
           rintro e w1 ⟨rfl, hb⟩
           have hh : Below w.heap.size w w1 := hal.trans (hb.mono hal.size)
           have qTB := (boxNew H W C A n c 26) w
           try simp only [World.size_alloc] at qTB
           have TB := Lib.hid ((qTB.below (B' := w.heap.size + 1) (by omega) (((Below.refl _ _).alloc (by first | exact Nat.le_refl _ | (simp; done) | (simp; omega)) _).mono (by simp))).below (by first | (simp; done) | (simp; omega)) hb)
           have yTB : w.heap.size < w1.heap.size := by have := hb.size; simp at this; omega
           clear qTB
           have qTN := (NodeAt.new x0 x1 x2 x8 x11 x12 x13 x14 x15 x16 x17 x18 K S P O Z WA BA nW cW nB cB 32) (w.alloc (.cells #[.int .i64 H, .int .i64 W, .int .i64 C, .slice A n c] 26))
           try simp only [World.size_alloc] at qTN
           have TN := Lib.hid (qTN.below (by first | (simp; done) | (simp; omega)) hb)
           have yTN : w.heap.size + 1 < w1.heap.size := by have := hb.size; simp at this; omega
           clear qTN
           have HBW : Hid (Below w.heap.size w w1) := Lib.hid hh
           obtain ⟨tbp0, tbp1, tbp2, tbp3⟩ := TB.out
           clear hb hh hal)
        | (go_at_call 11
           have hal : Below w1.heap.size w1 w1 := Below.refl _ _
           refine (CLower.known13 _).mono ?_
           rintro e w2 ⟨rfl, hb⟩
           have hh : Below w1.heap.size w1 w2 := hal.trans (hb.mono hal.size)
           replace TB := Lib.hid (TB.out.below yTB hh)
           replace yTB := Nat.lt_of_lt_of_le yTB hh.size
           replace TN := Lib.hid (TN.out.below yTN hh)
           replace yTN := Nat.lt_of_lt_of_le yTN hh.size
           replace HBW := Lib.hid (HBW.out.trans (hh.mono HBW.out.size))
           clear tbp0 tbp1 tbp2 tbp3
           obtain ⟨tbp0, tbp1, tbp2, tbp3⟩ := TB.out
           clear hb hh hal)
        | (refine wpList_load_mid rfl 32 (.tmp 4) rfl (w.heap.size + 1) 0 rfl [x0, x1, x2, .int .i64 K, .int .i64 S, .int .i64 P, .int .i64 O, .int .i8 Z, x8, .slice WA nW cW, .slice BA nB cB, x11, x12, x13, x14, x15, x16, x17, x18] _ (TN0.out) Try.underlying32 rfl (by kernel_rfl) ?_)
        | (refine wpList_load_mid rfl 32 (.tmp 4) rfl (w.heap.size + 1) 0 rfl [x0, x1, x2, .int .i64 K, .int .i64 S, .int .i64 P, .int .i64 O, .int .i8 Z, x8, .slice WA nW cW, .slice BA nB cB, x11, x12, x13, x14, x15, x16, x17, x18] _ (TN.out) Try.underlying32 rfl (by kernel_rfl) ?_)
        | (refine wpList_load_mid rfl 32 (.tmp 4) rfl (w.heap.size + 1) 0 rfl [x0, x1, x2, .int .i64 K, .int .i64 S, .int .i64 P, .int .i64 O, .int .i8 Z, x8, .slice WA nW cW, .slice BA nB cB, x11, x12, x13, x14, x15, x16, x17, x18] _ (TN.out.below yTN ((Below.refl _ _).alloc (Nat.le_refl _) _)) Try.underlying32 rfl (by kernel_rfl) ?_))
  go_ret
  exact ⟨rfl, HBW.out⟩
set_option maxRecDepth 100000 in
set_option maxHeartbeats 8000000 in
theorem walk_end {w : World} (H W C : Int) (A : Option Addr) (zs : List Int) (n c : Nat) (x0 x1 x2 x8 x11 x12 x13 x14 x15 x16 x17 x18 : Value) (K S P O Z : Int) (WA BA : Option Addr) (nW cW nB cB : Nat) (at_ : Int) (ws : List Int) (bs : List Int) (er : Int)
    (hA1 : ∀ (w : World), Kit.Rd w w.heap.size A (I8s zs) → Kit.Rd w w.heap.size WA (I8s ws) → Kit.Rd w w.heap.size BA (I32v bs) → Calls Try.prog 12 #[.agg #[.int .i64 H, .int .i64 W, .int .i64 C, .slice A n c], .agg #[x0, x1, x2, .int .i64 K, .int .i64 S, .int .i64 P, .int .i64 O, .int .i8 Z, x8, .slice WA nW cW, .slice BA nB cB, x11, x12, x13, x14, x15, x16, x17, x18]] w (MadeA w 0 0 0 0 [] (.int .i64 er)))
    (hA2 : ∀ (w : World), Kit.Rd w w.heap.size A (I8s zs) → Kit.Rd w w.heap.size WA (I8s ws) → Kit.Rd w w.heap.size BA (I32v bs) → Calls Try.prog 10 #[.agg #[.int .i64 H, .int .i64 W, .int .i64 C, .slice A n c], .agg #[x0, x1, x2, .int .i64 K, .int .i64 S, .int .i64 P, .int .i64 O, .int .i8 Z, x8, .slice WA nW cW, .slice BA nB cB, x11, x12, x13, x14, x15, x16, x17, x18]] w (MadeA w 0 0 0 0 [] (.int .i64 er)))
    (h0 : er ≠ 0) (hf1 : n ≤ 1024) (hf2 : nW ≤ 2000) (hf3 : nB ≤ 200) (hr : Kit.Rd w w.heap.size A (I8s zs)) (hrw : Kit.Rd w w.heap.size WA (I8s ws)) (hrb : Kit.Rd w w.heap.size BA (I32v bs)) :
    Calls Try.prog 6 #[.agg #[.int .i64 H, .int .i64 W, .int .i64 C, .slice A n c], .agg #[x0, x1, x2, .int .i64 K, .int .i64 S, .int .i64 P, .int .i64 O, .int .i8 Z, x8, .slice WA nW cW, .slice BA nB cB, x11, x12, x13, x14, x15, x16, x17, x18], .int .u8 at_] w fun e w' => e = .returned (.bool true) ∧ Below w.heap.size w w' := by
  have HA1 := Lib.hid hA1
  have HA2 := Lib.hid hA2
  have HR := Lib.hid hr
  have HRW := Lib.hid hrw
  have HRB := Lib.hid hrb
  clear hA1 hA2 hr hrw hrb
  have TN0 : Hid (NodeAt (w.heap.size + 1) x0 x1 x2 x8 x11 x12 x13 x14 x15 x16 x17 x18 K S P O Z WA BA nW cW nB cB ((w.alloc (.cells #[.int .i64 H, .int .i64 W, .int .i64 C, .slice A n c] 26)).alloc (.cells #[x0, x1, x2, .int .i64 K, .int .i64 S, .int .i64 P, .int .i64 O, .int .i8 Z, x8, .slice WA nW cW, .slice BA nB cB, x11, x12, x13, x14, x15, x16, x17, x18] 32))) := by
    have h := NodeAt.new x0 x1 x2 x8 x11 x12 x13 x14 x15 x16 x17 x18 K S P O Z WA BA nW cW nB cB 32 (w.alloc (.cells #[.int .i64 H, .int .i64 W, .int .i64 C, .slice A n c] 26))
    rw [World.size_alloc] at h
    exact Lib.hid h
  have h0b : (er != 0) = true := by simpa using h0
  have h0c : (er == 0) = false := by simpa using h0
  go_enter Try.func6, Try.ntmps6
  go_wp2_with (first
        | (go_at_call 7
           have hal : Below w.heap.size w ((w.alloc (.cells #[.int .i64 H, .int .i64 W, .int .i64 C, .slice A n c] 26)).alloc (.cells #[x0, x1, x2, .int .i64 K, .int .i64 S, .int .i64 P, .int .i64 O, .int .i8 Z, x8, .slice WA nW cW, .slice BA nB cB, x11, x12, x13, x14, x15, x16, x17, x18] 32)) := ((Below.refl _ _).alloc (by first | exact Nat.le_refl _ | (simp; done) | (simp; omega)) _).alloc (by first | exact Nat.le_refl _ | (simp; done) | (simp; omega)) _
           refine (few_yes H W C A n c x0 x1 x2 x8 x11 x12 x13 x14 x15 x16 x17 x18 K S P O Z WA BA nW cW nB cB hf1 hf2 hf3 _).mono ?_
           rintro e w1 ⟨rfl, hb⟩
           have hh : Below w.heap.size w w1 := hal.trans (hb.mono hal.size)
           have qTB := (boxNew H W C A n c 26) w
           try simp only [World.size_alloc] at qTB
           have TB := Lib.hid ((qTB.below (B' := w.heap.size + 1) (by omega) (((Below.refl _ _).alloc (by first | exact Nat.le_refl _ | (simp; done) | (simp; omega)) _).mono (by simp))).below (by first | (simp; done) | (simp; omega)) hb)
           have yTB : w.heap.size < w1.heap.size := by have := hb.size; simp at this; omega
           clear qTB
           have qTN := (NodeAt.new x0 x1 x2 x8 x11 x12 x13 x14 x15 x16 x17 x18 K S P O Z WA BA nW cW nB cB 32) (w.alloc (.cells #[.int .i64 H, .int .i64 W, .int .i64 C, .slice A n c] 26))
           try simp only [World.size_alloc] at qTN
           have TN := Lib.hid (qTN.below (by first | (simp; done) | (simp; omega)) hb)
           have yTN : w.heap.size + 1 < w1.heap.size := by have := hb.size; simp at this; omega
           clear qTN
           replace HR := Lib.hid ((HR.out.below hh).more hh.size)
           replace HRW := Lib.hid ((HRW.out.below hh).more hh.size)
           replace HRB := Lib.hid ((HRB.out.below hh).more hh.size)
           have HBW : Hid (Below w.heap.size w w1) := Lib.hid hh
           obtain ⟨tbp0, tbp1, tbp2, tbp3⟩ := TB.out
           clear hb hh hal)
        | (go_at_call 12
           have hal : Below w1.heap.size w1 w1 := Below.refl _ _
           refine (HA1.out _ ((HR.out.below hal).more hal.size) ((HRW.out.below hal).more hal.size) ((HRB.out.below hal).more hal.size)).mono ?_
           rintro e w2 ⟨v2, rfl, ho2, hb⟩
           have hh : Below w1.heap.size w1 w2 := hal.trans (hb.mono hal.size)
           replace TB := Lib.hid (TB.out.below yTB hh)
           replace yTB := Nat.lt_of_lt_of_le yTB hh.size
           replace TN := Lib.hid (TN.out.below yTN hh)
           replace yTN := Nat.lt_of_lt_of_le yTN hh.size
           replace HR := Lib.hid ((HR.out.below hh).more hh.size)
           replace HRW := Lib.hid ((HRW.out.below hh).more hh.size)
           replace HRB := Lib.hid ((HRB.out.below hh).more hh.size)
           replace HBW := Lib.hid (HBW.out.trans (hh.mono HBW.out.size))
           clear tbp0 tbp1 tbp2 tbp3
           obtain ⟨A2, c2, rfl, -, -, hrd2⟩ := Kit.own_rd ho2
           have RA2 := Lib.hid hrd2
           clear ho2 hrd2
           obtain ⟨tbp0, tbp1, tbp2, tbp3⟩ := TB.out
           clear hb hh hal)
        | (go_at_call 10
           have hal : Below w2.heap.size w2 (w2.alloc (.cells #[.int .i64 0, .int .i64 0, .int .i64 0, .slice A2 0 c2] 36)) := (Below.refl _ _).alloc (by first | exact Nat.le_refl _ | (simp; done) | (simp; omega)) _
           refine (HA2.out _ ((HR.out.below hal).more hal.size) ((HRW.out.below hal).more hal.size) ((HRB.out.below hal).more hal.size)).mono ?_
           rintro e w3 ⟨v3, rfl, ho3, hb⟩
           have hh : Below w2.heap.size w2 w3 := hal.trans (hb.mono hal.size)
           have qTA2 := (boxNew 0 0 0 A2 0 c2 36) w2
           try simp only [World.size_alloc] at qTA2
           have TA2 := Lib.hid (qTA2.below (by first | (simp; done) | (simp; omega)) hb)
           have yTA2 : w2.heap.size < w3.heap.size := by have := hb.size; simp at this; omega
           clear qTA2
           replace TB := Lib.hid (TB.out.below yTB hh)
           replace yTB := Nat.lt_of_lt_of_le yTB hh.size
           replace TN := Lib.hid (TN.out.below yTN hh)
           replace yTN := Nat.lt_of_lt_of_le yTN hh.size
           replace HR := Lib.hid ((HR.out.below hh).more hh.size)
           replace HRW := Lib.hid ((HRW.out.below hh).more hh.size)
           replace HRB := Lib.hid ((HRB.out.below hh).more hh.size)
           replace RA2 := Lib.hid ((RA2.out.below hh).more hh.size)
           replace HBW := Lib.hid (HBW.out.trans (hh.mono HBW.out.size))
           clear tbp0 tbp1 tbp2 tbp3
           obtain ⟨A3, c3, rfl, -, -, hrd3⟩ := Kit.own_rd ho3
           have RA3 := Lib.hid hrd3
           clear ho3 hrd3
           obtain ⟨tbp0, tbp1, tbp2, tbp3⟩ := TB.out
           obtain ⟨ta2p0, ta2p1, ta2p2, ta2p3⟩ := TA2.out
           clear hb hh hal)
        | (go_at_call 11
           have hal : Below w3.heap.size w3 (w3.alloc (.cells #[.int .i64 0, .int .i64 0, .int .i64 0, .slice A3 0 c3] 36)) := (Below.refl _ _).alloc (by first | exact Nat.le_refl _ | (simp; done) | (simp; omega)) _
           refine (CLower.known13 _).mono ?_
           rintro e w4 ⟨rfl, hb⟩
           have hh : Below w3.heap.size w3 w4 := hal.trans (hb.mono hal.size)
           have qTA3 := (boxNew 0 0 0 A3 0 c3 36) w3
           try simp only [World.size_alloc] at qTA3
           have TA3 := Lib.hid (qTA3.below (by first | (simp; done) | (simp; omega)) hb)
           have yTA3 : w3.heap.size < w4.heap.size := by have := hb.size; simp at this; omega
           clear qTA3
           replace TB := Lib.hid (TB.out.below yTB hh)
           replace yTB := Nat.lt_of_lt_of_le yTB hh.size
           replace TN := Lib.hid (TN.out.below yTN hh)
           replace yTN := Nat.lt_of_lt_of_le yTN hh.size
           replace TA2 := Lib.hid (TA2.out.below yTA2 hh)
           replace yTA2 := Nat.lt_of_lt_of_le yTA2 hh.size
           replace HR := Lib.hid ((HR.out.below hh).more hh.size)
           replace HRW := Lib.hid ((HRW.out.below hh).more hh.size)
           replace HRB := Lib.hid ((HRB.out.below hh).more hh.size)
           replace RA2 := Lib.hid ((RA2.out.below hh).more hh.size)
           replace RA3 := Lib.hid ((RA3.out.below hh).more hh.size)
           replace HBW := Lib.hid (HBW.out.trans (hh.mono HBW.out.size))
           clear tbp0 tbp1 tbp2 tbp3 ta2p0 ta2p1 ta2p2 ta2p3
           obtain ⟨tbp0, tbp1, tbp2, tbp3⟩ := TB.out
           obtain ⟨ta2p0, ta2p1, ta2p2, ta2p3⟩ := TA2.out
           obtain ⟨ta3p0, ta3p1, ta3p2, ta3p3⟩ := TA3.out
           clear hb hh hal)
        | (refine wpList_load_mid rfl 32 (.tmp 4) rfl (w.heap.size + 1) 0 rfl [x0, x1, x2, .int .i64 K, .int .i64 S, .int .i64 P, .int .i64 O, .int .i8 Z, x8, .slice WA nW cW, .slice BA nB cB, x11, x12, x13, x14, x15, x16, x17, x18] _ (TN0.out) Try.underlying32 rfl (by kernel_rfl) ?_)
        | (refine wpList_load_mid rfl 32 (.tmp 4) rfl (w.heap.size + 1) 0 rfl [x0, x1, x2, .int .i64 K, .int .i64 S, .int .i64 P, .int .i64 O, .int .i8 Z, x8, .slice WA nW cW, .slice BA nB cB, x11, x12, x13, x14, x15, x16, x17, x18] _ (TN.out) Try.underlying32 rfl (by kernel_rfl) ?_)
        | (refine wpList_load_mid rfl 32 (.tmp 4) rfl (w.heap.size + 1) 0 rfl [x0, x1, x2, .int .i64 K, .int .i64 S, .int .i64 P, .int .i64 O, .int .i8 Z, x8, .slice WA nW cW, .slice BA nB cB, x11, x12, x13, x14, x15, x16, x17, x18] _ (TN.out.below yTN ((Below.refl _ _).alloc (Nat.le_refl _) _)) Try.underlying32 rfl (by kernel_rfl) ?_))
  go_ret
  exact ⟨rfl, HBW.out⟩
set_option maxRecDepth 100000 in
set_option maxHeartbeats 8000000 in
theorem walk_yes {w : World} (H W C : Int) (A : Option Addr) (zs : List Int) (n c : Nat) (hn : zs.length = n) (ht : tensB H W C n = true) (hz : I8b zs) (x0 x1 x2 x8 x11 x12 x13 x14 x15 x16 x17 x18 : Value) (K S P O Z : Int) (bw ow bb ob : Nat) (nW cW nB cB : Nat) (at_ : Int) (t1 : 0 ≤ at_) (t2 : at_ ≤ 255)
    (hone : ∀ v ∈ [x0, x1, x2, .int .i64 K, .int .i64 S, .int .i64 P, .int .i64 O, .int .i8 Z, x8, .slice (some ⟨bw, ow, none⟩) nW cW, .slice (some ⟨bb, ob, none⟩) nB cB, x11, x12, x13, x14, x15, x16, x17, x18], v.oneCell' = true) (ws : List Int) (hws : ws.length = nW) (hwc : nW ≤ cW) (hwm : cW ≤ maxLen) (hwb : I8b ws) (bs : List Int) (hbs : bs.length = nB) (hbc : nB ≤ cB) (hbm : cB ≤ maxLen) (hb32 : ∀ q, -2147483648 ≤ bs.getD q 0 ∧ bs.getD q 0 ≤ 2147483647)
    (he : convE H W C K S P O nW nB = 0) (z1 : -128 ≤ Z) (z2 : Z ≤ 127) (hf1 : n ≤ 1024) (hf2 : nW ≤ 2000) (hf3 : nB ≤ 200) (hr : Kit.Rd w w.heap.size A (I8s zs)) (hrw : Kit.Rd w w.heap.size (some ⟨bw, ow, none⟩) (I8s ws)) (hrb : Kit.Rd w w.heap.size (some ⟨bb, ob, none⟩) (I32v bs)) :
    Calls Try.prog 6 #[.agg #[.int .i64 H, .int .i64 W, .int .i64 C, .slice A n c], .agg #[x0, x1, x2, .int .i64 K, .int .i64 S, .int .i64 P, .int .i64 O, .int .i8 Z, x8, .slice (some ⟨bw, ow, none⟩) nW cW, .slice (some ⟨bb, ob, none⟩) nB cB, x11, x12, x13, x14, x15, x16, x17, x18], .int .u8 at_] w fun e w' => e = .returned (.bool true) ∧ Below w.heap.size w w' := by
  obtain ⟨hsl, hnW, hn16, hnB⟩ := convE_ok he
  obtain ⟨hs0, har1, har2, -, -, hsr⟩ := slide_ok hsl
  obtain ⟨q1, q2, q3, q4, q5, q6, q7⟩ := shapeB_yes hsr
  obtain ⟨g1, g2, g3, g4, c1, c2, g7⟩ := shapeB_yes hs0
  obtain ⟨-, -, k1, k2, st1, st2, pd1, pd2, -⟩ := argsB_yes har1
  obtain ⟨a, ha⟩ : ∃ a : Nat, stepsM H K S P = (a : Int) := ⟨(stepsM H K S P).toNat, by omega⟩
  obtain ⟨b, hb⟩ : ∃ b : Nat, stepsM W K S P = (b : Int) := ⟨(stepsM W K S P).toNat, by omega⟩
  obtain ⟨oo, hO⟩ : ∃ oo : Nat, O = (oo : Int) := ⟨O.toNat, by omega⟩
  obtain ⟨d, hd⟩ : ∃ d : Nat, C = (d : Int) := ⟨C.toNat, by omega⟩
  obtain ⟨kk, hk⟩ : ∃ kk : Nat, K = (kk : Int) := ⟨K.toNat, by omega⟩
  obtain ⟨wd, hwd⟩ : ∃ wd, kk * kk * d = wd := ⟨_, rfl⟩
  obtain ⟨N1, hN1⟩ : ∃ N1, a * b * 1 = N1 := ⟨_, rfl⟩
  obtain ⟨N, hN⟩ : ∃ N, a * b * oo = N := ⟨_, rfl⟩
  have hNN : N1 * oo = N := by rw [← hN1, Nat.mul_one]; exact hN
  have hN2 : (N : Int) ≤ 1024 := by
    have : (N : Int) = stepsM H K S P * stepsM W K S P * O := by rw [ha, hb, hO, ← hN]; simp
    omega
  obtain ⟨o, ho⟩ : ∃ o : Nat, at_.toNat % oo = o := ⟨_, rfl⟩
  have hoo : 0 < oo := by omega
  have hN1le : N1 ≤ 1024 := by have := Nat.le_mul_of_pos_right N1 hoo; omega
  have holt : o < oo := by rw [← ho]; exact Nat.mod_lt _ hoo
  have hoB : o < nB := by omega
  have hoI : at_.tmod O = (o : Int) := by
    rw [Int.tmod_eq_emod_of_nonneg t1, hO, ← ho, Int.natCast_emod, Int.toNat_of_nonneg t1]
  have hoE : at_ % O = (o : Int) := by rw [hO, ← ho, Int.natCast_emod, Int.toNat_of_nonneg t1]
  have hwd1 : 1 ≤ wd := by rw [← hwd]; exact Nat.mul_pos (Nat.mul_pos (by omega) (by omega)) (by omega)
  have hwdI : (wd : Int) = K * K * C := by rw [← hwd, hk, hd]; simp
  have hnWn : nW = oo * wd := by
    have : (nW : Int) = ((oo * wd : Nat) : Int) := by rw [hnW, hO, Int.natCast_mul, hwdI]; simp [Int.mul_assoc]
    omega
  have hwQ : (nW : Int).tdiv O = (wd : Int) := by
    rw [hnWn, hO, Int.natCast_mul, Int.mul_tdiv_cancel_left _ (by omega)]
  obtain ⟨p, hp⟩ : ∃ p, o * wd = p := ⟨_, rfl⟩
  have hp2 : p + wd ≤ nW := by
    have := Nat.mul_le_mul_right wd (show o + 1 ≤ oo by omega)
    rw [Nat.add_mul, Nat.one_mul, hp, ← hnWn] at this; exact this
  have hpI : (o : Int) * (wd : Int) = (p : Int) := by rw [← hp]; simp
  have hpJ : ((o : Int) + 1) * (wd : Int) = ((p + wd : Nat) : Int) := by rw [Int.add_mul, Int.one_mul, hpI]; simp
  obtain ⟨F1, hF1⟩ : ∃ F1, F1 = gridF b oo (sumF zs ws bs H W C S P d kk Z) := ⟨_, rfl⟩
  obtain ⟨F2, hF2⟩ : ∃ F2, F2 = gridF b 1 (sumF zs ((ws.drop p).take wd) [bs.getD o 0] H W C S P d kk Z) := ⟨_, rfl⟩
  have he1 : convE H W C K S P 1 wd 1 = 0 := CLower.conv_alone he hwdI
  have HA1 : Hid (∀ (w : World), Kit.Rd w w.heap.size A (I8s zs) → Kit.Rd w w.heap.size (some ⟨bw, ow, none⟩) (I8s ws) → Kit.Rd w w.heap.size (some ⟨bb, ob, none⟩) (I32v bs) → Calls Try.prog 12 #[.agg #[.int .i64 H, .int .i64 W, .int .i64 C, .slice A n c], .agg #[x0, x1, x2, .int .i64 K, .int .i64 S, .int .i64 P, .int .i64 O, .int .i8 Z, x8, .slice (some ⟨bw, ow, none⟩) nW cW, .slice (some ⟨bb, ob, none⟩) nB cB, x11, x12, x13, x14, x15, x16, x17, x18]] w (MadeA w (a : Int) (b : Int) O N (rowL F1 N) (.int .i64 0))) := Lib.hid (fun w hr hrw hrb => by
    rw [hF1]; exact CLower.lOf_good H W C A zs n c hn ht hz x0 x1 x2 x8 x11 x12 x13 x14 x15 x16 x17 x18 K S P O Z (some ⟨bw, ow, none⟩) (some ⟨bb, ob, none⟩) nW cW nB cB ws hws hwc hwm hwb bs hbs he a b oo d kk ha hb hO hd hk N hN z1 z2 w hr hrw hrb)
  have HA2 : Hid (∀ (w : World), Kit.Rd w w.heap.size A (I8s zs) → Kit.Rd w w.heap.size (some ⟨bw, ow, none⟩) (I8s ws) → Kit.Rd w w.heap.size (some ⟨bb, ob, none⟩) (I32v bs) → Calls Try.prog 10 #[.agg #[.int .i64 H, .int .i64 W, .int .i64 C, .slice A n c], .agg #[x0, x1, x2, .int .i64 K, .int .i64 S, .int .i64 P, .int .i64 O, .int .i8 Z, x8, .slice (some ⟨bw, ow, none⟩) nW cW, .slice (some ⟨bb, ob, none⟩) nB cB, x11, x12, x13, x14, x15, x16, x17, x18]] w (MadeA w (a : Int) (b : Int) O N (rowL F1 N) (.int .i64 0))) := Lib.hid (fun w hr hrw hrb => by
    rw [hF1]; exact refOf_yes H W C A zs n c hn ht hz x0 x1 x2 x8 x11 x12 x13 x14 x15 x16 x17 x18 K S P O Z (some ⟨bw, ow, none⟩) (some ⟨bb, ob, none⟩) nW cW nB cB ws hws hwc hwb bs hbs hb32 he a b oo d kk ha hb hO hd hk N hN z1 z2 w hr hrw hrb)
  have HAM : Hid (∀ (w : World), Kit.Rd w w.heap.size A (I8s zs) → Kit.Rd w w.heap.size (some ⟨bw, ow + p, none⟩) (I8s ((ws.drop p).take wd)) → Kit.Rd w w.heap.size (some ⟨bb, ob + o, none⟩) (I32v [bs.getD o 0]) → Calls Try.prog 12 #[.agg #[.int .i64 H, .int .i64 W, .int .i64 C, .slice A n c], .agg #[x0, x1, x2, .int .i64 K, .int .i64 S, .int .i64 P, .int .i64 1, .int .i8 Z, x8, .slice (some ⟨bw, ow + p, none⟩) wd (cW - p), .slice (some ⟨bb, ob + o, none⟩) 1 (cB - o), x11, x12, x13, x14, x15, x16, x17, x18]] w (MadeA w (a : Int) (b : Int) 1 N1 (rowL F2 N1) (.int .i64 0))) := Lib.hid (fun w hr hrw hrb => by
    rw [hF2]; exact CLower.lOf_good H W C A zs n c hn ht hz x0 x1 x2 x8 x11 x12 x13 x14 x15 x16 x17 x18 K S P 1 Z (some ⟨bw, ow + p, none⟩) (some ⟨bb, ob + o, none⟩) wd (cW - p) 1 (cB - o) ((ws.drop p).take wd) (by simp; omega) (by omega) (by omega) (CLower.part_I8b hwb p wd) [bs.getD o 0] rfl he1 a b 1 d kk ha hb rfl hd hk N1 hN1 z1 z2 w hr hrw hrb)
  have HF2 : Hid (∀ i, F2 i = F1 (i * oo + o)) := Lib.hid (fun i => by rw [hF2, hF1, ← hp]; exact CLower.grid_alone zs ws bs H W C S P d kk Z b oo o wd hwd holt i)
  have HONE := Lib.hid hone
  have HBS := Lib.hid hbs
  have HWS := Lib.hid hws
  have HR := Lib.hid hr
  have HRW := Lib.hid hrw
  have HRB := Lib.hid hrb
  have HOO := Lib.hid hO
  have HNN := Lib.hid hNN
  have hO0 : ¬ O = 0 := by omega
  have hOw : IntKind.i64.wrap (o : Int) = (o : Int) := IntWalk.i64_in _ (by omega)
  have hWw : IntKind.i64.wrap (wd : Int) = (wd : Int) := IntWalk.i64_in _ (by omega)
  have hO1 : 1 ≤ oo := by omega
  have HNBO : Hid (nB = oo) := Lib.hid (by omega)
  have HPI := Lib.hid hpI
  have HPJ := Lib.hid hpJ
  have HP2 := Lib.hid hp2
  clear hn ht hz hws hwb hbs hb32 he he1 ha hb hO hd hk hN hN1 hNN hF1 hF2 hr hrw hrb hsl hs0 har1 har2 hsr g7 q7 hnW hnB hone ho hwd hwdI hnWn hp hpI hpJ hp2
  have TN0 : Hid (NodeAt (w.heap.size + 1) x0 x1 x2 x8 x11 x12 x13 x14 x15 x16 x17 x18 K S P O Z (some ⟨bw, ow, none⟩) (some ⟨bb, ob, none⟩) nW cW nB cB ((w.alloc (.cells #[.int .i64 H, .int .i64 W, .int .i64 C, .slice A n c] 26)).alloc (.cells #[x0, x1, x2, .int .i64 K, .int .i64 S, .int .i64 P, .int .i64 O, .int .i8 Z, x8, .slice (some ⟨bw, ow, none⟩) nW cW, .slice (some ⟨bb, ob, none⟩) nB cB, x11, x12, x13, x14, x15, x16, x17, x18] 32))) := by
    have h := NodeAt.new x0 x1 x2 x8 x11 x12 x13 x14 x15 x16 x17 x18 K S P O Z (some ⟨bw, ow, none⟩) (some ⟨bb, ob, none⟩) nW cW nB cB 32 (w.alloc (.cells #[.int .i64 H, .int .i64 W, .int .i64 C, .slice A n c] 26))
    rw [World.size_alloc] at h
    exact Lib.hid h
  go_enter Try.func6, Try.ntmps6
  go_wp2_with (first
    | (go_at_call 7
       have hal : Below w.heap.size w ((w.alloc (.cells #[.int .i64 H, .int .i64 W, .int .i64 C, .slice A n c] 26)).alloc (.cells #[x0, x1, x2, .int .i64 K, .int .i64 S, .int .i64 P, .int .i64 O, .int .i8 Z, x8, .slice (some ⟨bw, ow, none⟩) nW cW, .slice (some ⟨bb, ob, none⟩) nB cB, x11, x12, x13, x14, x15, x16, x17, x18] 32)) := ((Below.refl _ _).alloc (by first | exact Nat.le_refl _ | (simp; done) | (simp; omega)) _).alloc (by first | exact Nat.le_refl _ | (simp; done) | (simp; omega)) _
       refine (few_yes H W C A n c x0 x1 x2 x8 x11 x12 x13 x14 x15 x16 x17 x18 K S P O Z (some ⟨bw, ow, none⟩) (some ⟨bb, ob, none⟩) nW cW nB cB hf1 hf2 hf3 _).mono ?_
       rintro e w1 ⟨rfl, hb⟩
       have hh : Below w.heap.size w w1 := hal.trans (hb.mono hal.size)
       have qTB := (boxNew H W C A n c 26) w
       try simp only [World.size_alloc] at qTB
       have TB := Lib.hid ((qTB.below (B' := w.heap.size + 1) (by omega) (((Below.refl _ _).alloc (by first | exact Nat.le_refl _ | (simp; done) | (simp; omega)) _).mono (by simp))).below (by first | (simp; done) | (simp; omega)) hb)
       have yTB : w.heap.size < w1.heap.size := by have := hb.size; simp at this; omega
       clear qTB
       have qTN := (NodeAt.new x0 x1 x2 x8 x11 x12 x13 x14 x15 x16 x17 x18 K S P O Z (some ⟨bw, ow, none⟩) (some ⟨bb, ob, none⟩) nW cW nB cB 32) (w.alloc (.cells #[.int .i64 H, .int .i64 W, .int .i64 C, .slice A n c] 26))
       try simp only [World.size_alloc] at qTN
       have TN := Lib.hid (qTN.below (by first | (simp; done) | (simp; omega)) hb)
       have yTN : w.heap.size + 1 < w1.heap.size := by have := hb.size; simp at this; omega
       clear qTN
       replace HR := Lib.hid ((HR.out.below hh).more hh.size)
       replace HRW := Lib.hid ((HRW.out.below hh).more hh.size)
       replace HRB := Lib.hid ((HRB.out.below hh).more hh.size)
       have HBW : Hid (Below w.heap.size w w1) := Lib.hid hh
       obtain ⟨tbp0, tbp1, tbp2, tbp3⟩ := TB.out
       clear hb hh hal)
    | (go_at_call 12
       have hal : Below w1.heap.size w1 w1 := Below.refl _ _
       refine (HA1.out _ ((HR.out.below hal).more hal.size) ((HRW.out.below hal).more hal.size) ((HRB.out.below hal).more hal.size)).mono ?_
       rintro e w2 ⟨v2, rfl, ho2, hb⟩
       have hh : Below w1.heap.size w1 w2 := hal.trans (hb.mono hal.size)
       replace TB := Lib.hid (TB.out.below yTB hh)
       replace yTB := Nat.lt_of_lt_of_le yTB hh.size
       replace TN := Lib.hid (TN.out.below yTN hh)
       replace yTN := Nat.lt_of_lt_of_le yTN hh.size
       replace HR := Lib.hid ((HR.out.below hh).more hh.size)
       replace HRW := Lib.hid ((HRW.out.below hh).more hh.size)
       replace HRB := Lib.hid ((HRB.out.below hh).more hh.size)
       replace HBW := Lib.hid (HBW.out.trans (hh.mono HBW.out.size))
       clear tbp0 tbp1 tbp2 tbp3
       obtain ⟨A2, c2, rfl, -, -, hrd2⟩ := Kit.own_rd ho2
       have RA2 := Lib.hid hrd2
       clear ho2 hrd2
       obtain ⟨tbp0, tbp1, tbp2, tbp3⟩ := TB.out
       clear hb hh hal)
    | (go_at_call 10
       have hal : Below w2.heap.size w2 (w2.alloc (.cells #[.int .i64 (a : Int), .int .i64 (b : Int), .int .i64 O, .slice A2 N c2] 36)) := (Below.refl _ _).alloc (by first | exact Nat.le_refl _ | (simp; done) | (simp; omega)) _
       refine (HA2.out _ ((HR.out.below hal).more hal.size) ((HRW.out.below hal).more hal.size) ((HRB.out.below hal).more hal.size)).mono ?_
       rintro e w3 ⟨v3, rfl, ho3, hb⟩
       have hh : Below w2.heap.size w2 w3 := hal.trans (hb.mono hal.size)
       have qTA2 := (boxNew (a : Int) (b : Int) O A2 N c2 36) w2
       try simp only [World.size_alloc] at qTA2
       have TA2 := Lib.hid (qTA2.below (by first | (simp; done) | (simp; omega)) hb)
       have yTA2 : w2.heap.size < w3.heap.size := by have := hb.size; simp at this; omega
       clear qTA2
       replace TB := Lib.hid (TB.out.below yTB hh)
       replace yTB := Nat.lt_of_lt_of_le yTB hh.size
       replace TN := Lib.hid (TN.out.below yTN hh)
       replace yTN := Nat.lt_of_lt_of_le yTN hh.size
       replace HR := Lib.hid ((HR.out.below hh).more hh.size)
       replace HRW := Lib.hid ((HRW.out.below hh).more hh.size)
       replace HRB := Lib.hid ((HRB.out.below hh).more hh.size)
       replace RA2 := Lib.hid ((RA2.out.below hh).more hh.size)
       replace HBW := Lib.hid (HBW.out.trans (hh.mono HBW.out.size))
       clear tbp0 tbp1 tbp2 tbp3
       obtain ⟨A3, c3, rfl, -, -, hrd3⟩ := Kit.own_rd ho3
       have RA3 := Lib.hid hrd3
       clear ho3 hrd3
       obtain ⟨tbp0, tbp1, tbp2, tbp3⟩ := TB.out
       obtain ⟨ta2p0, ta2p1, ta2p2, ta2p3⟩ := TA2.out
       clear hb hh hal)
    | (refine wpList_load_mid rfl 32 (.tmp 4) rfl (w.heap.size + 1) 0 rfl [x0, x1, x2, .int .i64 K, .int .i64 S, .int .i64 P, .int .i64 O, .int .i8 Z, x8, .slice (some ⟨bw, ow, none⟩) nW cW, .slice (some ⟨bb, ob, none⟩) nB cB, x11, x12, x13, x14, x15, x16, x17, x18] _ (TN0.out) Try.underlying32 rfl (by kernel_rfl) ?_)
    | (refine wpList_load_mid rfl 32 (.tmp 4) rfl (w.heap.size + 1) 0 rfl [x0, x1, x2, .int .i64 K, .int .i64 S, .int .i64 P, .int .i64 O, .int .i8 Z, x8, .slice (some ⟨bw, ow, none⟩) nW cW, .slice (some ⟨bb, ob, none⟩) nB cB, x11, x12, x13, x14, x15, x16, x17, x18] _ (TN.out) Try.underlying32 rfl (by kernel_rfl) ?_)
    | (refine wpList_load_mid rfl 32 (.tmp 4) rfl (w.heap.size + 1) 0 rfl [x0, x1, x2, .int .i64 K, .int .i64 S, .int .i64 P, .int .i64 O, .int .i8 Z, x8, .slice (some ⟨bw, ow, none⟩) nW cW, .slice (some ⟨bb, ob, none⟩) nB cB, x11, x12, x13, x14, x15, x16, x17, x18] _ (TN.out.below yTN ((Below.refl _ _).alloc (Nat.le_refl _) _)) Try.underlying32 rfl (by kernel_rfl) ?_))
  have hal : Below w3.heap.size w3 (w3.alloc (.cells #[.int .i64 (a : Int), .int .i64 (b : Int), .int .i64 O, .slice A3 N c3] 36)) := (Below.refl _ _).alloc (Nat.le_refl _) _
  replace TB := Lib.hid (TB.out.below yTB hal)
  replace TN := Lib.hid (TN.out.below yTN hal)
  replace TA2 := Lib.hid (TA2.out.below yTA2 hal)
  replace HR := Lib.hid ((HR.out.below hal).more hal.size)
  replace HRW := Lib.hid ((HRW.out.below hal).more hal.size)
  replace HRB := Lib.hid ((HRB.out.below hal).more hal.size)
  replace RA2 := Lib.hid ((RA2.out.below hal).more hal.size)
  replace HBW := Lib.hid (HBW.out.trans (hal.mono HBW.out.size))
  replace yTB := Nat.lt_of_lt_of_le yTB hal.size
  replace yTN := Nat.lt_of_lt_of_le yTN hal.size
  replace yTA2 := Nat.lt_of_lt_of_le yTA2 hal.size
  clear hal tbp0 tbp1 tbp2 tbp3 ta2p0 ta2p1 ta2p2 ta2p3 RA3
  generalize w3.alloc (.cells #[.int .i64 (a : Int), .int .i64 (b : Int), .int .i64 O, .slice A3 N c3] 36) = W3 at TB TN TA2 HR HRW HRB RA2 HBW yTB yTN yTA2 ⊢
  have n6 := TN.out.at 6 _ rfl
  have n9 := TN.out.at 9 _ rfl
  refine wp_region_held_drew (S := fun w' => w'.cell? ⟨w.heap.size + 1, 6, none⟩ = some (.int .i64 O) ∧ w'.cell? ⟨w.heap.size + 1, 9, none⟩ = some (.slice (some ⟨bw, ow, none⟩) nW cW)) (by kernel_rfl) ⟨n6, n9⟩ (fun hHeld => ?_)
  refine wpAnyH_take (i := 0) (oi := ({ dst := some 48, op := Op.move (Operand.tmp 2), type := 5, pos := "law.go:49", after := #[], guard := none } : Oper)) (v := ?_) rfl (by kernel_rfl) (by kernel_rfl) (by kernel_rfl) (fun _ _ _ h => h) (Or.inl ⟨by rfl, ?_⟩) (by assumption) ?_
  rotate_left
  · intro wS hSw
    first
      | (go_simp; done)
      | (go_simp; with_reducible rfl)
  try simp only [Act.put, List.setIfInBounds_toArray, List.set_cons_zero, List.set_cons_succ]
  refine wpAnyH_take (i := 1) (oi := ({ dst := some 49, op := Op.convert 5 3 (Operand.tmp 48), type := 3, pos := "law.go:49", after := #[{ on := 0, ground := Ground.data }], guard := none } : Oper)) (v := ?_) rfl (by kernel_rfl) (by kernel_rfl) (by kernel_rfl) (fun _ _ _ h => h) (Or.inl ⟨by rfl, ?_⟩) (by assumption) ?_
  rotate_left
  · intro wS hSw
    first
      | (go_simp; done)
      | (go_simp; with_reducible rfl)
  try simp only [Act.put, List.setIfInBounds_toArray, List.set_cons_zero, List.set_cons_succ]
  refine wpAnyH_take (i := 2) (oi := ({ dst := some 50, op := Op.fieldAddr 32 (Operand.tmp 4) 6, type := 0, pos := "law.go:49", after := #[], guard := none } : Oper)) (v := ?_) rfl (by kernel_rfl) (by kernel_rfl) (by kernel_rfl) (fun _ _ _ h => h) (Or.inl ⟨by rfl, ?_⟩) (by assumption) ?_
  rotate_left
  · intro wS hSw
    first
      | (go_simp; done)
      | (go_simp; with_reducible rfl)
  try simp only [Act.put, List.setIfInBounds_toArray, List.set_cons_zero, List.set_cons_succ]
  refine wpAnyH_take (i := 3) (oi := ({ dst := some 51, op := Op.load 3 (Operand.tmp 50), type := 3, pos := "law.go:49", after := #[{ on := 2, ground := Ground.data }], guard := none } : Oper)) (v := ?_) rfl (by kernel_rfl) (by kernel_rfl) (by kernel_rfl) (fun _ _ _ h => h) (Or.inl ⟨by rfl, ?_⟩) (by assumption) ?_
  rotate_left
  · intro wS hSw
    obtain ⟨v1, v2⟩ := hSw
    first
      | (go_simp; done)
      | (go_simp; with_reducible rfl)
  try simp only [Act.put, List.setIfInBounds_toArray, List.set_cons_zero, List.set_cons_succ]
  refine wpAnyH_take (i := 4) (oi := ({ dst := some 52, op := Op.binOp BinOp.rem 3 (Operand.tmp 49) (Operand.tmp 51) 3, type := 3, pos := "law.go:49", after := #[{ on := 1, ground := Ground.data }, { on := 3, ground := Ground.data }], guard := none } : Oper)) (v := ?_) rfl (by kernel_rfl) (by kernel_rfl) (by kernel_rfl) (fun _ _ _ h => h) (Or.inl ⟨by rfl, ?_⟩) (by assumption) ?_
  rotate_left
  · intro wS hSw
    first
      | (go_simp; done)
      | (go_simp; with_reducible rfl)
  try simp only [Act.put, List.setIfInBounds_toArray, List.set_cons_zero, List.set_cons_succ]
  refine wpAnyH_take (i := 5) (oi := ({ dst := some 53, op := Op.fieldAddr 32 (Operand.tmp 4) 9, type := 0, pos := "law.go:49", after := #[], guard := none } : Oper)) (v := ?_) rfl (by kernel_rfl) (by kernel_rfl) (by kernel_rfl) (fun _ _ _ h => h) (Or.inl ⟨by rfl, ?_⟩) (by assumption) ?_
  rotate_left
  · intro wS hSw
    first
      | (go_simp; done)
      | (go_simp; with_reducible rfl)
  try simp only [Act.put, List.setIfInBounds_toArray, List.set_cons_zero, List.set_cons_succ]
  refine wpAnyH_take (i := 6) (oi := ({ dst := some 54, op := Op.load 24 (Operand.tmp 53), type := 24, pos := "law.go:49", after := #[{ on := 5, ground := Ground.data }], guard := none } : Oper)) (v := ?_) rfl (by kernel_rfl) (by kernel_rfl) (by kernel_rfl) (fun _ _ _ h => h) (Or.inl ⟨by rfl, ?_⟩) (by assumption) ?_
  rotate_left
  · intro wS hSw
    obtain ⟨v1, v2⟩ := hSw
    first
      | (go_simp; done)
      | (go_simp; with_reducible rfl)
  try simp only [Act.put, List.setIfInBounds_toArray, List.set_cons_zero, List.set_cons_succ]
  refine wpAnyH_take (i := 7) (oi := ({ dst := some 55, op := Op.call { callee := Callee.builtin Builtin.len, args := #[Operand.tmp 54], argTypes := #[24] }, type := 3, pos := "law.go:49", after := #[{ on := 6, ground := Ground.data }], guard := none } : Oper)) (v := ?_) rfl (by kernel_rfl) (by kernel_rfl) (by kernel_rfl) (fun _ _ _ h => h) (Or.inl ⟨by rfl, ?_⟩) (by assumption) ?_
  rotate_left
  · intro wS hSw
    first
      | (go_simp; done)
      | (go_simp; with_reducible rfl)
  try simp only [Act.put, List.setIfInBounds_toArray, List.set_cons_zero, List.set_cons_succ]
  refine wpAnyH_take (i := 8) (oi := ({ dst := some 56, op := Op.fieldAddr 32 (Operand.tmp 4) 6, type := 0, pos := "law.go:49", after := #[{ on := 11, ground := Ground.gcOnly Departure.lateStores }], guard := none } : Oper)) (v := ?_) rfl (by kernel_rfl) (by kernel_rfl) (by kernel_rfl) (fun _ _ _ h => h) (Or.inl ⟨by rfl, ?_⟩) (by assumption) ?_
  rotate_left
  · intro wS hSw
    first
      | (go_simp; done)
      | (go_simp; with_reducible rfl)
  try simp only [Act.put, List.setIfInBounds_toArray, List.set_cons_zero, List.set_cons_succ]
  refine wpAnyH_take (i := 9) (oi := ({ dst := some 57, op := Op.load 3 (Operand.tmp 56), type := 3, pos := "law.go:49", after := #[{ on := 8, ground := Ground.data }, { on := 11, ground := Ground.gcOnly Departure.lateStores }], guard := none } : Oper)) (v := ?_) rfl (by kernel_rfl) (by kernel_rfl) (by kernel_rfl) (fun _ _ _ h => h) (Or.inl ⟨by rfl, ?_⟩) (by assumption) ?_
  rotate_left
  · intro wS hSw
    obtain ⟨v1, v2⟩ := hSw
    first
      | (go_simp; done)
      | (go_simp; with_reducible rfl)
  try simp only [Act.put, List.setIfInBounds_toArray, List.set_cons_zero, List.set_cons_succ]
  refine wpAnyH_take (i := 10) (oi := ({ dst := some 58, op := Op.binOp BinOp.quo 3 (Operand.tmp 55) (Operand.tmp 57) 3, type := 3, pos := "law.go:49", after := #[{ on := 7, ground := Ground.data }, { on := 9, ground := Ground.data }, { on := 11, ground := Ground.gcOnly Departure.lateStores }], guard := none } : Oper)) (v := ?_) rfl (by kernel_rfl) (by kernel_rfl) (by kernel_rfl) (fun _ _ _ h => h) (Or.inl ⟨by rfl, ?_⟩) (by assumption) ?_
  rotate_left
  · intro wS hSw
    first
      | (go_simp; done)
      | (go_simp; with_reducible rfl)
  try simp only [Act.put, List.setIfInBounds_toArray, List.set_cons_zero, List.set_cons_succ]
  refine wpAnyH_take (i := 11) (oi := ({ dst := some 11, op := Op.assign (Operand.tmp 52), type := 3, pos := "law.go:49", after := #[{ on := 4, ground := Ground.data }, { on := 0, ground := Ground.phase }, { on := 1, ground := Ground.phase }, { on := 2, ground := Ground.phase }, { on := 3, ground := Ground.phase }, { on := 4, ground := Ground.phase }, { on := 5, ground := Ground.textOnly Departure.lateStores }, { on := 6, ground := Ground.textOnly Departure.lateStores }, { on := 7, ground := Ground.textOnly Departure.lateStoresUnsure }, { on := 8, ground := Ground.textOnly Departure.lateStores }, { on := 9, ground := Ground.textOnly Departure.lateStores }, { on := 10, ground := Ground.textOnly Departure.lateStores }], guard := none } : Oper)) (v := ?_) rfl (by kernel_rfl) (by kernel_rfl) (by kernel_rfl) (fun _ _ _ h => h) (Or.inl ⟨by rfl, ?_⟩) (by assumption) ?_
  rotate_left
  · intro wS hSw
    first
      | (go_simp; done)
      | (go_simp; with_reducible rfl)
  try simp only [Act.put, List.setIfInBounds_toArray, List.set_cons_zero, List.set_cons_succ]
  refine wpAnyH_take (i := 12) (oi := ({ dst := some 12, op := Op.assign (Operand.tmp 58), type := 3, pos := "law.go:49", after := #[{ on := 10, ground := Ground.data }, { on := 11, ground := Ground.chain }, { on := 0, ground := Ground.phase }, { on := 1, ground := Ground.phase }, { on := 2, ground := Ground.phase }, { on := 3, ground := Ground.phase }, { on := 4, ground := Ground.phase }, { on := 5, ground := Ground.phase }, { on := 6, ground := Ground.phase }, { on := 7, ground := Ground.phase }, { on := 8, ground := Ground.phase }, { on := 9, ground := Ground.phase }, { on := 10, ground := Ground.phase }, { on := 11, ground := Ground.phase }], guard := none } : Oper)) (v := ?_) rfl (by kernel_rfl) (by kernel_rfl) (by kernel_rfl) (fun _ _ _ h => h) (Or.inl ⟨by rfl, ?_⟩) (by assumption) ?_
  rotate_left
  · intro wS hSw
    first
      | (go_simp; done)
      | (go_simp; with_reducible rfl)
  try simp only [Act.put, List.setIfInBounds_toArray, List.set_cons_zero, List.set_cons_succ]
  refine wpAnyH_done (by kernel_rfl) ?_ _
  clear hHeld n6 n9
  have hdr : Below W3.heap.size W3 W3.drew := (Below.refl _ _).drew
  replace TB := Lib.hid (TB.out.below yTB hdr)
  replace TN := Lib.hid (TN.out.below yTN hdr)
  replace TA2 := Lib.hid (TA2.out.below yTA2 hdr)
  replace HR := Lib.hid ((HR.out.below hdr).more hdr.size)
  replace HRW := Lib.hid ((HRW.out.below hdr).more hdr.size)
  replace HRB := Lib.hid ((HRB.out.below hdr).more hdr.size)
  replace RA2 := Lib.hid ((RA2.out.below hdr).more hdr.size)
  replace HBW := Lib.hid (HBW.out.trans (hdr.mono HBW.out.size))
  replace yTB := Nat.lt_of_lt_of_le yTB hdr.size
  replace yTN := Nat.lt_of_lt_of_le yTN hdr.size
  replace yTA2 := Nat.lt_of_lt_of_le yTA2 hdr.size
  clear hdr
  generalize W3.drew = W4 at TB TN TA2 HR HRW HRB RA2 HBW yTB yTN yTA2 ⊢
  have HT := Lib.hid (Kit.there_new W4 (cs := #[.int .i64 0, .int .i64 0, .int .i64 0, .int .i64 0, .int .i64 0, .int .i64 0, .int .i64 0, .int .i8 0, .int .i8 0, .slice none 0 0, .slice none 0 0, .int .i32 0, .int .i64 0, .int .i8 0, .int .i32 0, .int .i64 0, .int .i8 0, .int .i8 0, .int .i8 0]) 32 (n := 19) rfl)
  go_upto_region 9 with (first | (refine wpList_load_mid rfl 32 (.tmp 4) rfl (w.heap.size + 1) 0 rfl [x0, x1, x2, .int .i64 K, .int .i64 S, .int .i64 P, .int .i64 O, .int .i8 Z, x8, .slice (some ⟨bw, ow, none⟩) nW cW, .slice (some ⟨bb, ob, none⟩) nB cB, x11, x12, x13, x14, x15, x16, x17, x18] _ (TN.out) Try.underlying32 rfl (by kernel_rfl) ?_) | (refine wpList_store_mid rfl 32 (.tmp 13) (.tmp 59) rfl (W4.heap.size) 0 #[x0, x1, x2, .int .i64 K, .int .i64 S, .int .i64 P, .int .i64 O, .int .i8 Z, x8, .slice (some ⟨bw, ow, none⟩) nW cW, .slice (some ⟨bb, ob, none⟩) nB cB, x11, x12, x13, x14, x15, x16, x17, x18] rfl rfl HT.out (by kernel_rfl) (all_oneCell_toArray (cs := [x0, x1, x2, .int .i64 K, .int .i64 S, .int .i64 P, .int .i64 O, .int .i8 Z, x8, .slice (some ⟨bw, ow, none⟩) nW cW, .slice (some ⟨bb, ob, none⟩) nB cB, x11, x12, x13, x14, x15, x16, x17, x18]) HONE.out) ?_))
  have hal : Below W4.heap.size W4 (W4.alloc (.cells #[.int .i64 0, .int .i64 0, .int .i64 0, .int .i64 0, .int .i64 0, .int .i64 0, .int .i64 0, .int .i8 0, .int .i8 0, .slice none 0 0, .slice none 0 0, .int .i32 0, .int .i64 0, .int .i8 0, .int .i32 0, .int .i64 0, .int .i8 0, .int .i8 0, .int .i8 0] 32)) := (Below.refl _ _).alloc (Nat.le_refl _) _
  have N13 := Lib.hid (NodeAt.stored HT.out x0 x1 x2 x8 x11 x12 x13 x14 x15 x16 x17 x18 K S P O Z (some ⟨bw, ow, none⟩) (some ⟨bb, ob, none⟩) nW cW nB cB)
  have T13 := Lib.hid (Kit.there_cells HT.out [x0, x1, x2, .int .i64 K, .int .i64 S, .int .i64 P, .int .i64 O, .int .i8 Z, x8, .slice (some ⟨bw, ow, none⟩) nW cW, .slice (some ⟨bb, ob, none⟩) nB cB, x11, x12, x13, x14, x15, x16, x17, x18] HT.out)
  have HB3 := Lib.hid (Kit.below_cells (Nat.le_refl W4.heap.size) [x0, x1, x2, .int .i64 K, .int .i64 S, .int .i64 P, .int .i64 O, .int .i8 Z, x8, .slice (some ⟨bw, ow, none⟩) nW cW, .slice (some ⟨bb, ob, none⟩) nB cB, x11, x12, x13, x14, x15, x16, x17, x18] 0 _ hal)
  have y13 : W4.heap.size < ((W4.alloc (.cells #[.int .i64 0, .int .i64 0, .int .i64 0, .int .i64 0, .int .i64 0, .int .i64 0, .int .i64 0, .int .i8 0, .int .i8 0, .slice none 0 0, .slice none 0 0, .int .i32 0, .int .i64 0, .int .i8 0, .int .i32 0, .int .i64 0, .int .i8 0, .int .i8 0, .int .i8 0] 32)).setCells W4.heap.size 0 [x0, x1, x2, .int .i64 K, .int .i64 S, .int .i64 P, .int .i64 O, .int .i8 Z, x8, .slice (some ⟨bw, ow, none⟩) nW cW, .slice (some ⟨bb, ob, none⟩) nB cB, x11, x12, x13, x14, x15, x16, x17, x18]).heap.size := by rw [Kit.size_cells]; simp
  clear hal HT
  generalize ((W4.alloc (.cells #[.int .i64 0, .int .i64 0, .int .i64 0, .int .i64 0, .int .i64 0, .int .i64 0, .int .i64 0, .int .i8 0, .int .i8 0, .slice none 0 0, .slice none 0 0, .int .i32 0, .int .i64 0, .int .i8 0, .int .i32 0, .int .i64 0, .int .i8 0, .int .i8 0, .int .i8 0] 32)).setCells W4.heap.size 0 [x0, x1, x2, .int .i64 K, .int .i64 S, .int .i64 P, .int .i64 O, .int .i8 Z, x8, .slice (some ⟨bw, ow, none⟩) nW cW, .slice (some ⟨bb, ob, none⟩) nB cB, x11, x12, x13, x14, x15, x16, x17, x18]) = W5 at N13 T13 HB3 y13 ⊢
  have m6 := N13.out.at 6 _ rfl
  have fm6 := there_at T13.out (i := 6) (by decide)
  go_upto_region 10 with fail
  have hs6 : (W5.cell? ⟨W4.heap.size, 6, none⟩).isSome = true := by rw [m6]; rfl
  replace N13 := Lib.hid (N13.out.set6 1)
  replace T13 := Lib.hid (there_set T13.out ⟨W4.heap.size, 6, none⟩ (.int .i64 1) hs6)
  have hst : Below W4.heap.size W5 (W5.setCell ⟨W4.heap.size, 6, none⟩ (.int .i64 1)) := (Below.refl _ _).setCell (p := ⟨W4.heap.size, 6, none⟩) (Nat.le_refl _) _
  replace HB3 := Lib.hid (HB3.out.trans hst)
  replace y13 : W4.heap.size < (W5.setCell ⟨W4.heap.size, 6, none⟩ (.int .i64 1)).heap.size := by simpa using y13
  clear hst
  clear hs6
  clear m6
  clear fm6
  generalize W5.setCell ⟨W4.heap.size, 6, none⟩ (.int .i64 1) = W6 at N13 T13 HB3 y13 ⊢
  have m9 := N13.out.at 9 _ rfl
  have fm9 := there_at T13.out (i := 9) (by decide)
  have n9 := (TN.out.below yTN HB3.out).at 9 _ rfl
  obtain ⟨p2, hp2e⟩ : ∃ p2, p + wd = p2 := ⟨_, rfl⟩
  have r1 := HPI.out
  have r2 := HPJ.out
  obtain ⟨o1, ho1⟩ : ∃ o1, o + 1 = o1 := ⟨_, rfl⟩
  rw [show (o : Int) + 1 = (o1 : Int) by omega] at r2
  have r3 := HP2.out
  rw [hp2e] at r2 r3
  have r4 : IntKind.i64.wrap ((o : Int) + 1) = (o1 : Int) := by rw [IntWalk.i64_in _ (by omega)]; omega
  have r5 : IntKind.i64.wrap (p : Int) = (p : Int) := IntWalk.i64_in _ (by omega)
  have r6 : IntKind.i64.wrap (p2 : Int) = (p2 : Int) := IntWalk.i64_in _ (by omega)
  have r7 : p2 - p = wd := by omega
  have s1 : (0 : Int) ≤ (p : Int) := by omega
  have s2 : (p : Int) ≤ (p2 : Int) := by omega
  have s3 : (0 : Int) ≤ (p2 : Int) := by omega
  have s4 : (p2 : Int) ≤ (cW : Int) := by omega
  have s5 : ¬ cW = p := by omega
  clear hp2e
  go_upto_region 11 with fail
  have hs9 : (W6.cell? ⟨W4.heap.size, 9, none⟩).isSome = true := by rw [m9]; rfl
  replace N13 := Lib.hid (N13.out.set9 (some ⟨bw, ow + p, none⟩) wd (cW - p))
  replace T13 := Lib.hid (there_set T13.out ⟨W4.heap.size, 9, none⟩ (.slice (some ⟨bw, ow + p, none⟩) wd (cW - p)) hs9)
  have hst : Below W4.heap.size W6 (W6.setCell ⟨W4.heap.size, 9, none⟩ (.slice (some ⟨bw, ow + p, none⟩) wd (cW - p))) := (Below.refl _ _).setCell (p := ⟨W4.heap.size, 9, none⟩) (Nat.le_refl _) _
  replace HB3 := Lib.hid (HB3.out.trans hst)
  replace y13 : W4.heap.size < (W6.setCell ⟨W4.heap.size, 9, none⟩ (.slice (some ⟨bw, ow + p, none⟩) wd (cW - p))).heap.size := by simpa using y13
  clear hst
  clear hs9
  clear m9
  clear fm9
  generalize W6.setCell ⟨W4.heap.size, 9, none⟩ (.slice (some ⟨bw, ow + p, none⟩) wd (cW - p)) = W7 at N13 T13 HB3 y13 ⊢
  clear n9 r1 r2 r3 r5 r6 r7 s1 s2 s3 s4 s5
  have m10 := N13.out.at 10 _ rfl
  have fm10 := there_at T13.out (i := 10) (by decide)
  have n10 := (TN.out.below yTN HB3.out).at 10 _ rfl
  have r7 : o1 - o = 1 := by omega
  have s1 : (0 : Int) ≤ (o : Int) := by omega
  have s2 : (o : Int) ≤ (o1 : Int) := by omega
  have s3 : (0 : Int) ≤ (o1 : Int) := by omega
  have s4 : (o1 : Int) ≤ (cB : Int) := by omega
  have s5 : ¬ cB = o := by omega
  clear ho1
  go_upto_region 12 with fail
  have hs10 : (W7.cell? ⟨W4.heap.size, 10, none⟩).isSome = true := by rw [m10]; rfl
  replace N13 := Lib.hid (N13.out.set10 (some ⟨bb, ob + o, none⟩) 1 (cB - o))
  replace T13 := Lib.hid (there_set T13.out ⟨W4.heap.size, 10, none⟩ (.slice (some ⟨bb, ob + o, none⟩) 1 (cB - o)) hs10)
  have hst : Below W4.heap.size W7 (W7.setCell ⟨W4.heap.size, 10, none⟩ (.slice (some ⟨bb, ob + o, none⟩) 1 (cB - o))) := (Below.refl _ _).setCell (p := ⟨W4.heap.size, 10, none⟩) (Nat.le_refl _) _
  replace HB3 := Lib.hid (HB3.out.trans hst)
  replace y13 : W4.heap.size < (W7.setCell ⟨W4.heap.size, 10, none⟩ (.slice (some ⟨bb, ob + o, none⟩) 1 (cB - o))).heap.size := by simpa using y13
  clear hst
  clear hs10
  clear m10
  clear fm10
  generalize W7.setCell ⟨W4.heap.size, 10, none⟩ (.slice (some ⟨bb, ob + o, none⟩) 1 (cB - o)) = W8 at N13 T13 HB3 y13 ⊢
  clear n10 r4 r7 s1 s2 s3 s4 s5
  replace TB := Lib.hid (TB.out.below yTB HB3.out)
  replace TN := Lib.hid (TN.out.below yTN HB3.out)
  replace TA2 := Lib.hid (TA2.out.below yTA2 HB3.out)
  replace HR := Lib.hid ((HR.out.below HB3.out).more HB3.out.size)
  replace HRW := Lib.hid ((HRW.out.below HB3.out).more HB3.out.size)
  replace HRB := Lib.hid ((HRB.out.below HB3.out).more HB3.out.size)
  replace RA2 := Lib.hid ((RA2.out.below HB3.out).more HB3.out.size)
  replace HBW := Lib.hid (HBW.out.trans (HB3.out.mono HBW.out.size))
  replace yTB := Nat.lt_of_lt_of_le yTB HB3.out.size
  replace yTN := Nat.lt_of_lt_of_le yTN HB3.out.size
  replace yTA2 := Nat.lt_of_lt_of_le yTA2 HB3.out.size
  clear HB3 T13
  have RM : Hid (Kit.Rd W8 W8.heap.size (some ⟨bw, ow + p, none⟩) (I8s ((ws.drop p).take wd))) := Lib.hid (by rw [CLower.part_I8s]; exact CLower.rd_part HRW.out p wd)
  have RB : Hid (Kit.Rd W8 W8.heap.size (some ⟨bb, ob + o, none⟩) (I32v [bs.getD o 0])) := Lib.hid (by
    have h := CLower.rd_part HRB.out o 1
    rw [CLower.bias_one bs o (by have := HBS.out; omega)] at h
    exact h)
  have hNI : (N1 : Int) * O = (N : Int) := by rw [HOO.out, ← HNN.out]; simp
  have hNw : IntKind.i64.wrap (N : Int) = (N : Int) := IntWalk.i64_in _ (by omega)
  obtain ⟨tbp0, tbp1, tbp2, tbp3⟩ := TB.out
  obtain ⟨ta2p0, ta2p1, ta2p2, ta2p3⟩ := TA2.out
  have yN13 := y13
  clear y13 HRW HRB
  go_wp2_with (first
    | (go_at_call 12
       have hal : Below W8.heap.size W8 W8 := Below.refl _ _
       refine (HAM.out _ ((HR.out.below hal).more hal.size) ((RM.out.below hal).more hal.size) ((RB.out.below hal).more hal.size)).mono ?_
       rintro e w5 ⟨v5, rfl, ho5, hb⟩
       have hh : Below W8.heap.size W8 w5 := hal.trans (hb.mono hal.size)
       replace TB := Lib.hid (TB.out.below yTB hh)
       replace yTB := Nat.lt_of_lt_of_le yTB hh.size
       replace TN := Lib.hid (TN.out.below yTN hh)
       replace yTN := Nat.lt_of_lt_of_le yTN hh.size
       replace TA2 := Lib.hid (TA2.out.below yTA2 hh)
       replace yTA2 := Nat.lt_of_lt_of_le yTA2 hh.size
       replace N13 := Lib.hid (N13.out.below yN13 hh)
       replace yN13 := Nat.lt_of_lt_of_le yN13 hh.size
       replace HR := Lib.hid ((HR.out.below hh).more hh.size)
       replace RM := Lib.hid ((RM.out.below hh).more hh.size)
       replace RB := Lib.hid ((RB.out.below hh).more hh.size)
       replace RA2 := Lib.hid ((RA2.out.below hh).more hh.size)
       replace HBW := Lib.hid (HBW.out.trans (hh.mono HBW.out.size))
       clear tbp0 tbp1 tbp2 tbp3 ta2p0 ta2p1 ta2p2 ta2p3
       obtain ⟨A5, c5, rfl, -, -, hrd5⟩ := Kit.own_rd ho5
       have RA5 := Lib.hid hrd5
       clear ho5 hrd5
       obtain ⟨tbp0, tbp1, tbp2, tbp3⟩ := TB.out
       have n6 := TN.out.at 6 _ rfl
       obtain ⟨ta2p0, ta2p1, ta2p2, ta2p3⟩ := TA2.out
       clear hb hh hal)
    | (refine wpList_load_mid rfl 32 (.tmp 13) rfl (W4.heap.size) 0 rfl [x0, x1, x2, .int .i64 K, .int .i64 S, .int .i64 P, .int .i64 1, .int .i8 Z, x8, .slice (some ⟨bw, ow + p, none⟩) wd (cW - p), .slice (some ⟨bb, ob + o, none⟩) 1 (cB - o), x11, x12, x13, x14, x15, x16, x17, x18] _ (N13.out) Try.underlying32 rfl (by kernel_rfl) ?_))
  have hal : Below w5.heap.size w5 (w5.alloc (.cells #[.int .i64 (a : Int), .int .i64 (b : Int), .int .i64 1, .slice A5 N1 c5] 36)) := (Below.refl _ _).alloc (Nat.le_refl _) _
  replace TN := Lib.hid (TN.out.below yTN hal)
  replace TA2 := Lib.hid (TA2.out.below yTA2 hal)
  have TA5 := Lib.hid (boxNew (a : Int) (b : Int) 1 A5 N1 c5 36 w5)
  have yTA5 : w5.heap.size < (w5.alloc (.cells #[.int .i64 (a : Int), .int .i64 (b : Int), .int .i64 1, .slice A5 N1 c5] 36)).heap.size := by simp
  replace RA2 := Lib.hid ((RA2.out.below hal).more hal.size)
  replace RA5 := Lib.hid ((RA5.out.below hal).more hal.size)
  replace HBW := Lib.hid (HBW.out.trans (hal.mono HBW.out.size))
  replace yTN := Nat.lt_of_lt_of_le yTN hal.size
  replace yTA2 := Nat.lt_of_lt_of_le yTA2 hal.size
  clear hal tbp0 tbp1 tbp2 tbp3 ta2p0 ta2p1 ta2p2 ta2p3 n6 TB N13 yN13 HR RM RB hNI hNw
  generalize hWm : (w5.alloc (.cells #[.int .i64 (a : Int), .int .i64 (b : Int), .int .i64 1, .slice A5 N1 c5] 36)) = Wm at TN TA2 TA5 RA2 RA5 HBW yTN yTA2 yTA5
  have HWM := Lib.hid hWm
  clear hWm
  go_loopw [16] (fun u wr => ∃ i : Nat, i ≤ N1 ∧ u = .int .i64 i ∧ Hid (Below Wm.heap.size Wm wr)) (fun u _ => N1 - (intOf u).toNat)
  case atStart => exact ⟨0, Nat.zero_le _, rfl, Lib.hid (by have h := HWM.out; subst h; exact Below.refl _ _)⟩
  case round =>
    obtain ⟨i, hi, rfl, hB0⟩ := hrel
    obtain ⟨tb0, tb1, tb2, tb3⟩ := TA5.out.below yTA5 hB0.out
    by_cases hlt : i < N1
    · obtain ⟨ta0, ta1, ta2, ta3⟩ := TA2.out.below yTA2 hB0.out
      have n6 := (TN.out.below yTN hB0.out).at 6 _ rfl
      obtain ⟨q0, hq0⟩ : ∃ q0, i * oo = q0 := ⟨_, rfl⟩
      obtain ⟨q, hq⟩ : ∃ q, q0 + o = q := ⟨_, rfl⟩
      have hqN : q < N := by
        have h1 := Nat.mul_le_mul_right oo (show i + 1 ≤ N1 by omega)
        rw [Nat.add_mul, Nat.one_mul, HNN.out, hq0] at h1; omega
      have hi0 : (0 : Int) ≤ (i : Int) := by omega
      have hiI : (i : Int) < (N1 : Int) := by omega
      have hqm : (i : Int) * O = (q0 : Int) := by rw [HOO.out, ← hq0]; simp
      have hqw : IntKind.i64.wrap (q0 : Int) = (q0 : Int) := IntWalk.i64_in _ (by omega)
      have hqx : IntKind.i64.wrap ((q0 : Int) + (o : Int)) = (q : Int) := by rw [IntWalk.i64_in _ (by omega)]; omega
      have hq1 : (0 : Int) ≤ (q : Int) := by omega
      have hqI : (q : Int) < (N : Int) := by omega
      obtain ⟨b5, o5, rfl, -, hc5⟩ := ints_getD (RA5.out.below hB0.out) (j := i) (by rw [rowL_len]; omega)
      obtain ⟨b2, o2, rfl, -, hc2⟩ := ints_getD (RA2.out.below hB0.out) (j := q) (by rw [rowL_len]; omega)
      have k5 := hc5 i (by rw [rowL_len]; omega)
      have k2 := hc2 q (by rw [rowL_len]; omega)
      rw [rowL_getD _ hlt, HF2.out i, hq0, hq] at k5
      rw [rowL_getD _ hqN] at k2
      obtain ⟨f1, hf1'⟩ : ∃ f, F1 q = f := ⟨_, rfl⟩
      rw [hf1'] at k2 k5
      clear hc2 hc5 hq0 hq hf1' hqN
      go_wp2_with fail
      refine wp_region_held_drew (S := fun w' => w'.cell? ⟨w5.heap.size, 3, none⟩ = some (.slice (some ⟨b5, o5, none⟩) N1 c5) ∧ w'.cell? ⟨b5, o5 + i, none⟩ = some (.int .i32 f1) ∧ w'.cell? ⟨w2.heap.size, 3, none⟩ = some (.slice (some ⟨b2, o2, none⟩) N c2) ∧ w'.cell? ⟨b2, o2 + q, none⟩ = some (.int .i32 f1) ∧ w'.cell? ⟨w.heap.size + 1, 6, none⟩ = some (.int .i64 O)) (by kernel_rfl) ⟨tb3, k5, ta3, k2, n6⟩ (fun hHeld => ?_)
      refine wpAnyH_take (i := 0) (oi := ({ dst := some 110, op := Op.fieldAddr 36 (Operand.tmp 14) 1, type := 0, pos := "law.go:59", after := #[], guard := none } : Oper)) (v := ?_) rfl (by kernel_rfl) (by kernel_rfl) (by kernel_rfl) (fun _ _ _ h => h) (Or.inl ⟨by rfl, ?_⟩) (by assumption) ?_
      rotate_left
      · intro wS hSw
        first
          | (go_simp; done)
          | (go_simp; with_reducible rfl)
      try simp only [Act.put, List.setIfInBounds_toArray, List.set_cons_zero, List.set_cons_succ]
      refine wpAnyH_take (i := 1) (oi := ({ dst := some 111, op := Op.load 28 (Operand.tmp 110), type := 28, pos := "law.go:59", after := #[{ on := 0, ground := Ground.data }], guard := none } : Oper)) (v := ?_) rfl (by kernel_rfl) (by kernel_rfl) (by kernel_rfl) (fun _ _ _ h => h) (Or.inl ⟨by rfl, ?_⟩) (by assumption) ?_
      rotate_left
      · intro wS hSw
        first
          | (go_simp; done)
          | (go_simp; with_reducible rfl)
      try simp only [Act.put, List.setIfInBounds_toArray, List.set_cons_zero, List.set_cons_succ]
      refine wpAnyH_take (i := 2) (oi := ({ dst := some 112, op := Op.move (Operand.tmp 16), type := 3, pos := "law.go:59", after := #[], guard := none } : Oper)) (v := ?_) rfl (by kernel_rfl) (by kernel_rfl) (by kernel_rfl) (fun _ _ _ h => h) (Or.inl ⟨by rfl, ?_⟩) (by assumption) ?_
      rotate_left
      · intro wS hSw
        obtain ⟨v1, v2, v3, v4, v5⟩ := hSw
        first
          | (go_simp; done)
          | (go_simp; with_reducible rfl)
      try simp only [Act.put, List.setIfInBounds_toArray, List.set_cons_zero, List.set_cons_succ]
      refine wpAnyH_take (i := 3) (oi := ({ dst := some 113, op := Op.indexAddr 28 (Operand.tmp 111) (Operand.tmp 112), type := 0, pos := "law.go:59", after := #[{ on := 1, ground := Ground.data }, { on := 2, ground := Ground.data }], guard := none } : Oper)) (v := ?_) rfl (by kernel_rfl) (by kernel_rfl) (by kernel_rfl) (fun _ _ _ h => h) (Or.inl ⟨by rfl, ?_⟩) (by assumption) ?_
      rotate_left
      · intro wS hSw
        first
          | (go_simp; done)
          | (go_simp; with_reducible rfl)
      try simp only [Act.put, List.setIfInBounds_toArray, List.set_cons_zero, List.set_cons_succ]
      refine wpAnyH_take (i := 4) (oi := ({ dst := some 114, op := Op.load 21 (Operand.tmp 113), type := 21, pos := "law.go:59", after := #[{ on := 3, ground := Ground.data }], guard := none } : Oper)) (v := ?_) rfl (by kernel_rfl) (by kernel_rfl) (by kernel_rfl) (fun _ _ _ h => h) (Or.inl ⟨by rfl, ?_⟩) (by assumption) ?_
      rotate_left
      · intro wS hSw
        obtain ⟨v1, v2, v3, v4, v5⟩ := hSw
        first
          | (go_simp; done)
          | (go_simp; with_reducible rfl)
      try simp only [Act.put, List.setIfInBounds_toArray, List.set_cons_zero, List.set_cons_succ]
      refine wpAnyH_take (i := 5) (oi := ({ dst := some 115, op := Op.fieldAddr 36 (Operand.tmp 7) 1, type := 0, pos := "law.go:59", after := #[], guard := none } : Oper)) (v := ?_) rfl (by kernel_rfl) (by kernel_rfl) (by kernel_rfl) (fun _ _ _ h => h) (Or.inl ⟨by rfl, ?_⟩) (by assumption) ?_
      rotate_left
      · intro wS hSw
        first
          | (go_simp; done)
          | (go_simp; with_reducible rfl)
      try simp only [Act.put, List.setIfInBounds_toArray, List.set_cons_zero, List.set_cons_succ]
      refine wpAnyH_take (i := 6) (oi := ({ dst := some 116, op := Op.load 28 (Operand.tmp 115), type := 28, pos := "law.go:59", after := #[{ on := 5, ground := Ground.data }], guard := none } : Oper)) (v := ?_) rfl (by kernel_rfl) (by kernel_rfl) (by kernel_rfl) (fun _ _ _ h => h) (Or.inl ⟨by rfl, ?_⟩) (by assumption) ?_
      rotate_left
      · intro wS hSw
        obtain ⟨v1, v2, v3, v4, v5⟩ := hSw
        first
          | (go_simp; done)
          | (go_simp; with_reducible rfl)
      try simp only [Act.put, List.setIfInBounds_toArray, List.set_cons_zero, List.set_cons_succ]
      refine wpAnyH_take (i := 7) (oi := ({ dst := some 117, op := Op.move (Operand.tmp 16), type := 3, pos := "law.go:59", after := #[], guard := none } : Oper)) (v := ?_) rfl (by kernel_rfl) (by kernel_rfl) (by kernel_rfl) (fun _ _ _ h => h) (Or.inl ⟨by rfl, ?_⟩) (by assumption) ?_
      rotate_left
      · intro wS hSw
        first
          | (go_simp; done)
          | (go_simp; with_reducible rfl)
      try simp only [Act.put, List.setIfInBounds_toArray, List.set_cons_zero, List.set_cons_succ]
      refine wpAnyH_take (i := 8) (oi := ({ dst := some 118, op := Op.fieldAddr 32 (Operand.tmp 4) 6, type := 0, pos := "law.go:59", after := #[], guard := none } : Oper)) (v := ?_) rfl (by kernel_rfl) (by kernel_rfl) (by kernel_rfl) (fun _ _ _ h => h) (Or.inl ⟨by rfl, ?_⟩) (by assumption) ?_
      rotate_left
      · intro wS hSw
        first
          | (go_simp; done)
          | (go_simp; with_reducible rfl)
      try simp only [Act.put, List.setIfInBounds_toArray, List.set_cons_zero, List.set_cons_succ]
      refine wpAnyH_take (i := 9) (oi := ({ dst := some 119, op := Op.load 3 (Operand.tmp 118), type := 3, pos := "law.go:59", after := #[{ on := 8, ground := Ground.data }], guard := none } : Oper)) (v := ?_) rfl (by kernel_rfl) (by kernel_rfl) (by kernel_rfl) (fun _ _ _ h => h) (Or.inl ⟨by rfl, ?_⟩) (by assumption) ?_
      rotate_left
      · intro wS hSw
        obtain ⟨v1, v2, v3, v4, v5⟩ := hSw
        first
          | (go_simp; done)
          | (go_simp; with_reducible rfl)
      try simp only [Act.put, List.setIfInBounds_toArray, List.set_cons_zero, List.set_cons_succ]
      refine wpAnyH_take (i := 10) (oi := ({ dst := some 120, op := Op.binOp BinOp.mul 3 (Operand.tmp 117) (Operand.tmp 119) 3, type := 3, pos := "law.go:59", after := #[{ on := 7, ground := Ground.data }, { on := 9, ground := Ground.data }], guard := none } : Oper)) (v := ?_) rfl (by kernel_rfl) (by kernel_rfl) (by kernel_rfl) (fun _ _ _ h => h) (Or.inl ⟨by rfl, ?_⟩) (by assumption) ?_
      rotate_left
      · intro wS hSw
        first
          | (go_simp; done)
          | (go_simp; with_reducible rfl)
      try simp only [Act.put, List.setIfInBounds_toArray, List.set_cons_zero, List.set_cons_succ]
      refine wpAnyH_take (i := 11) (oi := ({ dst := some 121, op := Op.move (Operand.tmp 11), type := 3, pos := "law.go:59", after := #[], guard := none } : Oper)) (v := ?_) rfl (by kernel_rfl) (by kernel_rfl) (by kernel_rfl) (fun _ _ _ h => h) (Or.inl ⟨by rfl, ?_⟩) (by assumption) ?_
      rotate_left
      · intro wS hSw
        first
          | (go_simp; done)
          | (go_simp; with_reducible rfl)
      try simp only [Act.put, List.setIfInBounds_toArray, List.set_cons_zero, List.set_cons_succ]
      refine wpAnyH_take (i := 12) (oi := ({ dst := some 122, op := Op.binOp BinOp.add 3 (Operand.tmp 120) (Operand.tmp 121) 3, type := 3, pos := "law.go:59", after := #[{ on := 10, ground := Ground.data }, { on := 11, ground := Ground.data }], guard := none } : Oper)) (v := ?_) rfl (by kernel_rfl) (by kernel_rfl) (by kernel_rfl) (fun _ _ _ h => h) (Or.inl ⟨by rfl, ?_⟩) (by assumption) ?_
      rotate_left
      · intro wS hSw
        first
          | (go_simp; done)
          | (go_simp; with_reducible rfl)
      try simp only [Act.put, List.setIfInBounds_toArray, List.set_cons_zero, List.set_cons_succ]
      refine wpAnyH_take (i := 13) (oi := ({ dst := some 123, op := Op.indexAddr 28 (Operand.tmp 116) (Operand.tmp 122), type := 0, pos := "law.go:59", after := #[{ on := 6, ground := Ground.data }, { on := 12, ground := Ground.data }], guard := none } : Oper)) (v := ?_) rfl (by kernel_rfl) (by kernel_rfl) (by kernel_rfl) (fun _ _ _ h => h) (Or.inl ⟨by rfl, ?_⟩) (by assumption) ?_
      rotate_left
      · intro wS hSw
        first
          | (go_simp; done)
          | (go_simp; with_reducible rfl)
      try simp only [Act.put, List.setIfInBounds_toArray, List.set_cons_zero, List.set_cons_succ]
      refine wpAnyH_take (i := 14) (oi := ({ dst := some 124, op := Op.load 21 (Operand.tmp 123), type := 21, pos := "law.go:59", after := #[{ on := 13, ground := Ground.data }], guard := none } : Oper)) (v := ?_) rfl (by kernel_rfl) (by kernel_rfl) (by kernel_rfl) (fun _ _ _ h => h) (Or.inl ⟨by rfl, ?_⟩) (by assumption) ?_
      rotate_left
      · intro wS hSw
        obtain ⟨v1, v2, v3, v4, v5⟩ := hSw
        first
          | (go_simp; done)
          | (go_simp; with_reducible rfl)
      try simp only [Act.put, List.setIfInBounds_toArray, List.set_cons_zero, List.set_cons_succ]
      refine wpAnyH_take (i := 15) (oi := ({ dst := some 125, op := Op.binOp BinOp.neq 21 (Operand.tmp 114) (Operand.tmp 124) 21, type := 4, pos := "law.go:59", after := #[{ on := 4, ground := Ground.data }, { on := 14, ground := Ground.data }], guard := none } : Oper)) (v := ?_) rfl (by kernel_rfl) (by kernel_rfl) (by kernel_rfl) (fun _ _ _ h => h) (Or.inl ⟨by rfl, ?_⟩) (by assumption) ?_
      rotate_left
      · intro wS hSw
        first
          | (go_simp; done)
          | (go_simp; with_reducible rfl)
      try simp only [Act.put, List.setIfInBounds_toArray, List.set_cons_zero, List.set_cons_succ]
      refine wpAnyH_done (by kernel_rfl) ?_ _
      clear hHeld
      go_wp2_with fail
      go_roundw
      case rel => exact ⟨i + 1, by omega, by go_num, Lib.hid hB0.out.drew⟩
      case measure => simp [intOf]; omega
    · obtain rfl : i = N1 := by omega
      go_wp2_with (go_at_call 11; (refine (CLower.known13 _).mono ?_); rintro e w7 ⟨rfl, hb⟩; (have HB := Lib.hid ((HBW.out.trans (hB0.out.mono HBW.out.size)).trans (hb.mono (Nat.le_trans HBW.out.size hB0.out.size)))); clear hb)
      go_ret
      exact ⟨rfl, HB.out⟩
theorem walk {w : World} (H : Int) (wH : (Lit.int .i64 H).wf = true) (W : Int) (wW : (Lit.int .i64 W).wf = true) (C : Int) (wC : (Lit.int .i64 C).wf = true) (A : Option Addr) (zs : List Int) (c : Nat) (hc : zs.length ≤ c) (hm : c ≤ maxLen) (hw : ∀ n ∈ zs, (Lit.int .i8 n).wf = true) (hr : Kit.Rd w w.heap.size A (zs.map (.int .i8)))
    (x0 x1 x2 x8 x11 x12 x13 x14 x15 x16 x17 x18 : Value) (K S P O Z : Int) (WA : Option Addr) (ws : List Int) (cW : Nat) (BA : Option Addr) (bs : List Int) (cB : Nat) (wz : (Lit.int .i8 Z).wf = true) (hcw : ws.length ≤ cW) (hmw : cW ≤ maxLen) (hww : ∀ n ∈ ws, (Lit.int .i8 n).wf = true) (hrw : Kit.Rd w w.heap.size WA (ws.map (.int .i8)))
    (hcb : bs.length ≤ cB) (hmb : cB ≤ maxLen) (hwb : ∀ n ∈ bs, (Lit.int .i32 n).wf = true) (hrb : Kit.Rd w w.heap.size BA (bs.map (.int .i32))) (hone : ∀ v ∈ [x0, x1, x2, .int .i64 K, .int .i64 S, .int .i64 P, .int .i64 O, .int .i8 Z, x8, .slice WA ws.length cW, .slice BA bs.length cB, x11, x12, x13, x14, x15, x16, x17, x18], v.oneCell' = true) (at_ : Int) (wat : (Lit.int .u8 at_).wf = true) :
    Calls Try.prog 6 #[.agg #[.int .i64 H, .int .i64 W, .int .i64 C, .slice A zs.length c], .agg #[x0, x1, x2, .int .i64 K, .int .i64 S, .int .i64 P, .int .i64 O, .int .i8 Z, x8, .slice WA ws.length cW, .slice BA bs.length cB, x11, x12, x13, x14, x15, x16, x17, x18], .int .u8 at_] w fun e w' => e = .returned (.bool true) ∧ Below w.heap.size w w' := by
  have ⟨z1, z2⟩ : -128 ≤ Z ∧ Z ≤ 127 := by simpa [Lit.wf, IntKind.min, IntKind.max, IntKind.signed, IntKind.bits] using wz
  have ⟨t1, t2⟩ : 0 ≤ at_ ∧ at_ ≤ 255 := by simpa [Lit.wf, IntKind.min, IntKind.max, IntKind.signed, IntKind.bits] using wat
  have hz := I8b_of hw
  have hwb8 := I8b_of hww
  have hb32 := I32b_of hwb
  by_cases hf : zs.length ≤ 1024 ∧ ws.length ≤ 2000 ∧ bs.length ≤ 200
  · obtain ⟨f1, f2, f3⟩ := hf
    cases ht : tensB H W C zs.length
    · exact walk_end H W C A zs _ c x0 x1 x2 x8 x11 x12 x13 x14 x15 x16 x17 x18 K S P O Z WA BA ws.length cW bs.length cB at_ ws bs 5 (fun w _ _ _ => CLower.lOf_bad H W C A _ c x0 x1 x2 x8 x11 x12 x13 x14 x15 x16 x17 x18 K S P O Z WA BA ws.length cW bs.length cB ht w) (fun w _ _ _ => refOf_bad H W C A _ c x0 x1 x2 x8 x11 x12 x13 x14 x15 x16 x17 x18 K S P O Z WA BA ws.length cW bs.length cB ht w) (by decide) f1 f2 f3 hr hrw hrb
    · by_cases he : convE H W C K S P O ws.length bs.length = 0
      · obtain ⟨hsl, hnW, -, hnB⟩ := convE_ok he
        obtain ⟨hs0, har1, -, -, -, hsr⟩ := slide_ok hsl
        obtain ⟨-, -, -, -, q5, -, -⟩ := shapeB_yes hsr
        obtain ⟨-, -, -, -, c1, -, -⟩ := shapeB_yes hs0
        obtain ⟨-, -, k1, -⟩ := argsB_yes har1
        have hn1 : 0 < (ws.length : Int) := by rw [hnW]; exact Int.mul_pos (Int.mul_pos (Int.mul_pos (by omega) (by omega)) (by omega)) (by omega)
        obtain ⟨bw, ow, rfl, -, -⟩ := ints_getD hrw (j := 0) (by omega)
        obtain ⟨bb, ob, rfl, -, -⟩ := ints_getD hrb (j := 0) (by omega)
        exact walk_yes H W C A zs _ c rfl ht hz x0 x1 x2 x8 x11 x12 x13 x14 x15 x16 x17 x18 K S P O Z bw ow bb ob ws.length cW bs.length cB at_ t1 t2 hone ws rfl hcw hmw hwb8 bs rfl hcb hmb hb32 he z1 z2 f1 f2 f3 hr hrw hrb
      · exact walk_end H W C A zs _ c x0 x1 x2 x8 x11 x12 x13 x14 x15 x16 x17 x18 K S P O Z WA BA ws.length cW bs.length cB at_ ws bs _ (fun w _ _ _ => CLower.lOf_err H W C A _ c x0 x1 x2 x8 x11 x12 x13 x14 x15 x16 x17 x18 K S P O Z WA BA ws.length cW bs.length cB ht _ rfl he w) (fun w _ _ _ => refOf_err H W C A _ c x0 x1 x2 x8 x11 x12 x13 x14 x15 x16 x17 x18 K S P O Z WA BA ws.length cW bs.length cB ht _ rfl he w) he f1 f2 f3 hr hrw hrb
  · exact walk_no H W C A _ c x0 x1 x2 x8 x11 x12 x13 x14 x15 x16 x17 x18 K S P O Z WA BA ws.length cW bs.length cB at_ hf
/-! ### the frame: written by program -/
theorem own : ownKnob Try.prog.godebug = none := by kernel_rfl
theorem laid : laidOutB Try.prog = true := by kernel_rfl
theorem contract {H : Type} {enc : TypeId × Value → H} {W : World} {base : Nat} {args : Array Value} {ds gs : List (DataW H)} {before : List MemPlace}
    (hval0 : ∀ (j : Nat) t v, Try.f6.params[j]? = some t → args[j]? = some v → Value.okWide Try.prog W .any base t v)
    (hW : DataW.Whole enc Try.prog Try.f6.params.toList Rows.lowerAloneSpec.vars false W args.toList ds gs before) :
    Calls Try.prog 6 args W fun e W' => e = .returned (.bool true) ∧ Below W.heap.size W W' := by
  have hval : ∀ (j : Nat) t v, Try.f6.params[j]? = some t → args[j]? = some v → Value.okWide Try.prog W .any base t v := hval0
  obtain ⟨p, q, hA0, hV, rfl, hfz, hnd⟩ := hW
  have hA : DataW.TrodAll enc Try.prog W 0 (fun _ => true) true Try.f6.params.toList args.toList ds p := hA0
  rw [Try.params6] at hA hval
  obtain ⟨v0, vs0, d0, ds0, p0, q0, hargs, rfl, rfl, h0, r0⟩ := trodAll_cons hA
  obtain ⟨v1, vs1, d1, ds1, p1, q1, rfl, rfl, rfl, h1, r1⟩ := trodAll_cons r0
  obtain ⟨v2, vs2, d2, ds2, p2, q2, rfl, rfl, rfl, h2, r2⟩ := trodAll_cons r1
  obtain ⟨rfl, rfl, rfl⟩ := trodAll_nil r2
  obtain rfl : args = #[v0, v1, v2] := by cases args; simp_all
  clear hA0 hval0
  obtain ⟨x0, y0, t0, A0, z0, c0, rfl, wx0, wy0, wt0, hc0, hm0, hw0, hr0⟩ := Kit.open_tensor (s := 23) (d := 24) (e := 27) (i := 3) Try.underlying26 Try.underlying23 Try.underlying24 Try.underlying27 Try.underlying3 (by kernel_rfl) (by kernel_rfl) (by kernel_rfl) (by kernel_rfl) (by kernel_rfl) ⟨rfl, rfl, rfl, rfl⟩ ⟨rfl, rfl, rfl, rfl, rfl, rfl⟩ (hval 0 26 v0 rfl rfl) h0
  obtain ⟨n1_0, n1_1, n1_2, n1_8, n1_11, n1_12, n1_13, n1_14, n1_15, n1_16, n1_17, n1_18, K1, S1, Q1, O1, Z1, WA1, ws1, cW1, BA1, bs1, cB1, rfl, wz1, hcw1, hmw1, hww1, hrw1, hcb1, hmb1, hwb1, hrb1⟩ := Kit.open_node (i := 3) (b8 := 27) (d := 24) (e := 27) (d2 := 28) (e2 := 21) Try.underlying32 (by kernel_rfl) Try.underlying3 (by kernel_rfl) Try.underlying27 (by kernel_rfl) Try.underlying24 Try.underlying27 (by kernel_rfl) (by kernel_rfl) Try.underlying28 Try.underlying21 (by kernel_rfl) (by kernel_rfl) rfl rfl rfl rfl rfl rfl rfl ⟨rfl, rfl⟩ ⟨rfl, rfl⟩ ⟨rfl, rfl⟩ ⟨rfl, rfl⟩ ⟨rfl, rfl⟩ ⟨rfl, rfl⟩ ⟨rfl, rfl⟩ (hval 1 32 v1 rfl rfl) h1
  obtain ⟨a2, rfl, rfl, rfl, w2⟩ := open_int Try.underlying5 (hval 2 5 v2 rfl rfl) h2
  exact walk (w := W) x0 wx0 y0 wy0 t0 wt0 A0 z0 c0 hc0 hm0 hw0 hr0 n1_0 n1_1 n1_2 n1_8 n1_11 n1_12 n1_13 n1_14 n1_15 n1_16 n1_17 n1_18 K1 S1 Q1 O1 Z1 WA1 ws1 cW1 BA1 bs1 cB1 wz1 hcw1 hmw1 hww1 hrw1 hcb1 hmb1 hwb1 hrb1 (Kit.struct_ones Try.underlying32 (hval 1 32 _ rfl rfl)) a2 w2
theorem fnIs {H : Type} : ∀ ds : List (DataW H), ds.length = Try.f6.params.toList.length → Rows.lowerAloneSpec.fn H ds = { results := [.lit (.bool true)], args := ds } := by
  intro ds h
  rw [Try.params6] at h
  match ds, h with
  | [d1, d2, d3], _ => rfl
set_option maxRecDepth 100000 in
theorem lifted (os : Os) (started : os.Started) (H : Type) (enc : TypeId × Value → H) :
    ReturnsInHanded {} Try.checked os 6 .any (Rows.lowerAloneSpec.pre6 enc Try.prog Try.f6 Rows.lowerAloneRow.domain false) (Rows.lowerAloneSpec.post enc Try.prog Try.f6 false true false false) := by
  refine returnsInHanded_of_change (C := Try.checked) own started (by kernel_rfl) Try.func6
    (ChangeSpec.witness6 (enc := enc) (C := Try.checked) false ⟨#[], #[.agg #[.int .i64 0, .int .i64 0, .int .i64 0, .slice none 0 0], .agg #[.int .i64 0, .int .i64 0, .int .i64 0, .int .i64 0, .int .i64 0, .int .i64 0, .int .i64 0, .int .i8 0, .int .i8 0, .slice none 0 0, .slice none 0 0, .int .i32 0, .int .i64 0, .int .i8 0, .int .i32 0, .int .i64 0, .int .i8 0, .int .i8 0, .int .i8 0], .int .u8 0], []⟩ 8 (by kernel_rfl) (by kernel_rfl) (by kernel_rfl) (by kernel_rfl)) ?_
  intro W base args ds gs before hval hW _ _
  refine (contract hval hW).mono fun e W' ⟨he, hg⟩ => ?_
  subst he
  exact ⟨_, rfl, Kit.law_post (tb := 4) laid (by kernel_rfl) rfl (by kernel_rfl) Try.underlying4 fnIs hW hg⟩
theorem over : Rows.lowerAloneRow.holds Try.pinned (OpenSpec.ofChange Rows.lowerAloneSpec) :=
  OpenClaim.holds_of_wide 6 Try.f6 rfl rfl rfl rfl rfl rfl rfl ⟨rfl, rfl, rfl, rfl, rfl⟩ rfl rfl rfl rfl rfl (by kernel_rfl) Try.func6 (by kernel_rfl)
    (of_decide_eq_true (by kernel_rfl)) (by unfold Func.isWrapper; first | (rw [if_pos (by decide +kernel)]; kernel_rfl) | (rw [if_neg (by decide +kernel)]; exact ⟨rfl, rfl⟩))
    (fun os started H enc _ => lifted os started H enc)
/-- the statement. -/
theorem proved : Rows.LowerAloneSaid :=
  over
end Go.Proofs.Ytoobpjdbdikbiaa.lawLowerAlone
