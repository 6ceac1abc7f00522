/- ConvBias: a bias is in each sum of its channel, and with weights that are 0 each sum is its bias; the call returns true and leaves its arguments as they were. No condition. -/
import Derived.Test.YtoobpjdbdikbiaaBiasNum
import Derived.Test.YtoobpjdbdikbiaaOpenNode
import Derived.Deep.CutRange
namespace Go.Proofs.Ytoobpjdbdikbiaa.lawConvBias
open Go Go.ChangeShapes Go.WideShapes Go.ChangeAt Go.RowKit
open Plain CSat CShape CTensor CConv
set_option linter.unusedVariables false

theorem info_i32 : (Try.prog.info? 21).map (fun i => (i.zero, i.size, i.bytes)) = some (some (.int .i32 0), 1, 4) := by kernel_rfl
theorem info_i8 : (Try.prog.info? 27).map (fun i => (i.zero, i.size, i.bytes)) = some (some (.int .i8 0), 1, 1) := by kernel_rfl
theorem info_parts {T : Nat} {z : Value} {a b : Nat} (h : (Try.prog.info? T).map (fun i => (i.zero, i.size, i.bytes)) = some (some z, a, b)) : ∃ i, Try.prog.info? T = some i ∧ i.zero = some z ∧ i.size = a ∧ i.bytes = b := by
  cases hi : Try.prog.info? T with
  | none => rw [hi] at h; cases h
  | some i => rw [hi] at h; simp only [Option.map_some, Option.some.injEq, Prod.mk.injEq] at h; exact ⟨i, rfl, h.1, h.2.1, h.2.2⟩

set_option maxRecDepth 100000 in
set_option maxHeartbeats 4000000 in
theorem walk_no {w : World} (H W C : Int) (A : Option Addr) (n c : Nat) (x0 x1 x2 x8 x11 x12 x13 x14 x15 x16 x17 x18 : Value) (K S P O Z : Int) (WA BA : Option Addr) (nW cW nB cB : Nat) (at_ y : Int) (hfew : ¬ (n ≤ 1024 ∧ nW ≤ 2000 ∧ nB ≤ 200)) :
    Calls Try.prog 3 #[.agg #[.int .i64 H, .int .i64 W, .int .i64 C, .slice A n c], .agg #[x0, x1, x2, .int .i64 K, .int .i64 S, .int .i64 P, .int .i64 O, .int .i8 Z, x8, .slice WA nW cW, .slice BA nB cB, x11, x12, x13, x14, x15, x16, x17, x18], .int .u8 at_, .int .i32 y] w fun e w' => e = .returned (.bool true) ∧ Below w.heap.size w w' := by
  have TN0 : Hid (NodeAt (w.heap.size + 1) x0 x1 x2 x8 x11 x12 x13 x14 x15 x16 x17 x18 K S P O Z WA BA nW cW nB cB ((w.alloc (.cells #[.int .i64 H, .int .i64 W, .int .i64 C, .slice A n c] 26)).alloc (.cells #[x0, x1, x2, .int .i64 K, .int .i64 S, .int .i64 P, .int .i64 O, .int .i8 Z, x8, .slice WA nW cW, .slice BA nB cB, x11, x12, x13, x14, x15, x16, x17, x18] 32))) := by
    have h := NodeAt.new x0 x1 x2 x8 x11 x12 x13 x14 x15 x16 x17 x18 K S P O Z WA BA nW cW nB cB 32 (w.alloc (.cells #[.int .i64 H, .int .i64 W, .int .i64 C, .slice A n c] 26))
    rw [World.size_alloc] at h
    exact Lib.hid h
  go_enter Try.func3, Try.ntmps3
  go_wp2_with (first
        | (go_at_call 7
           have hal : Below w.heap.size w ((w.alloc (.cells #[.int .i64 H, .int .i64 W, .int .i64 C, .slice A n c] 26)).alloc (.cells #[x0, x1, x2, .int .i64 K, .int .i64 S, .int .i64 P, .int .i64 O, .int .i8 Z, x8, .slice WA nW cW, .slice BA nB cB, x11, x12, x13, x14, x15, x16, x17, x18] 32)) := ((Below.refl _ _).alloc (by first | exact Nat.le_refl _ | (simp; done) | (simp; omega)) _).alloc (by first | exact Nat.le_refl _ | (simp; done) | (simp; omega)) _
           refine (few_no H W C A n c x0 x1 x2 x8 x11 x12 x13 x14 x15 x16 x17 x18 K S P O Z WA BA nW cW nB cB hfew _).mono ?_
           rintro e w1 ⟨rfl, hb⟩
           have hh : Below w.heap.size w w1 := hal.trans (hb.mono hal.size)
           have qTB := (boxNew H W C A n c 26) w
           try simp only [World.size_alloc] at qTB
           have TB := Lib.hid ((qTB.below (B' := w.heap.size + 1) (by omega) (((Below.refl _ _).alloc (by first | exact Nat.le_refl _ | (simp; done) | (simp; omega)) _).mono (by simp))).below (by first | (simp; done) | (simp; omega)) hb)
           have yTB : w.heap.size < w1.heap.size := by have := hb.size; simp at this; omega
           clear qTB
           have qTN := (NodeAt.new x0 x1 x2 x8 x11 x12 x13 x14 x15 x16 x17 x18 K S P O Z WA BA nW cW nB cB 32) (w.alloc (.cells #[.int .i64 H, .int .i64 W, .int .i64 C, .slice A n c] 26))
           try simp only [World.size_alloc] at qTN
           have TN := Lib.hid (qTN.below (by first | (simp; done) | (simp; omega)) hb)
           have yTN : w.heap.size + 1 < w1.heap.size := by have := hb.size; simp at this; omega
           clear qTN
           have HBW : Hid (Below w.heap.size w w1) := Lib.hid hh
           obtain ⟨tbp0, tbp1, tbp2, tbp3⟩ := TB.out
           clear hb hh hal)
        | (go_at_call 8
           have hal : Below w1.heap.size w1 w1 := Below.refl _ _
           refine (known10 _).mono ?_
           rintro e w2 ⟨rfl, hb⟩
           have hh : Below w1.heap.size w1 w2 := hal.trans (hb.mono hal.size)
           replace TB := Lib.hid (TB.out.below yTB hh)
           replace yTB := Nat.lt_of_lt_of_le yTB hh.size
           replace TN := Lib.hid (TN.out.below yTN hh)
           replace yTN := Nat.lt_of_lt_of_le yTN hh.size
           replace HBW := Lib.hid (HBW.out.trans (hh.mono HBW.out.size))
           clear tbp0 tbp1 tbp2 tbp3
           obtain ⟨tbp0, tbp1, tbp2, tbp3⟩ := TB.out
           clear hb hh hal)
        | (refine wpList_load_mid rfl 32 (.tmp 5) rfl (w.heap.size + 1) 0 rfl [x0, x1, x2, .int .i64 K, .int .i64 S, .int .i64 P, .int .i64 O, .int .i8 Z, x8, .slice WA nW cW, .slice BA nB cB, x11, x12, x13, x14, x15, x16, x17, x18] _ (TN0.out) Try.underlying32 rfl (by kernel_rfl) ?_)
        | (refine wpList_load_mid rfl 32 (.tmp 5) rfl (w.heap.size + 1) 0 rfl [x0, x1, x2, .int .i64 K, .int .i64 S, .int .i64 P, .int .i64 O, .int .i8 Z, x8, .slice WA nW cW, .slice BA nB cB, x11, x12, x13, x14, x15, x16, x17, x18] _ (TN.out) Try.underlying32 rfl (by kernel_rfl) ?_)
        | (refine wpList_load_mid rfl 32 (.tmp 5) rfl (w.heap.size + 1) 0 rfl [x0, x1, x2, .int .i64 K, .int .i64 S, .int .i64 P, .int .i64 O, .int .i8 Z, x8, .slice WA nW cW, .slice BA nB cB, x11, x12, x13, x14, x15, x16, x17, x18] _ (TN.out.below yTN ((Below.refl _ _).alloc (Nat.le_refl _) _)) Try.underlying32 rfl (by kernel_rfl) ?_))
  go_ret
  exact ⟨rfl, HBW.out⟩
set_option maxRecDepth 100000 in
set_option maxHeartbeats 8000000 in
theorem walk_end {w : World} (H W C : Int) (A : Option Addr) (zs : List Int) (n c : Nat) (x0 x1 x2 x8 x11 x12 x13 x14 x15 x16 x17 x18 : Value) (K S P O Z : Int) (WA BA : Option Addr) (nW cW nB cB : Nat) (at_ y : Int) (ws : List Int) (bs : List Int) (er : Int)
    (hA1 : ∀ (w : World), Kit.Rd w w.heap.size A (I8s zs) → Kit.Rd w w.heap.size WA (I8s ws) → Kit.Rd w w.heap.size BA (I32v bs) → Calls Try.prog 9 #[.agg #[.int .i64 H, .int .i64 W, .int .i64 C, .slice A n c], .agg #[x0, x1, x2, .int .i64 K, .int .i64 S, .int .i64 P, .int .i64 O, .int .i8 Z, x8, .slice WA nW cW, .slice BA nB cB, x11, x12, x13, x14, x15, x16, x17, x18]] w (MadeA w 0 0 0 0 [] (.int .i64 er)))
    (hA2 : ∀ (w : World), Kit.Rd w w.heap.size A (I8s zs) → Kit.Rd w w.heap.size WA (I8s ws) → Kit.Rd w w.heap.size BA (I32v bs) → Calls Try.prog 10 #[.agg #[.int .i64 H, .int .i64 W, .int .i64 C, .slice A n c], .agg #[x0, x1, x2, .int .i64 K, .int .i64 S, .int .i64 P, .int .i64 O, .int .i8 Z, x8, .slice WA nW cW, .slice BA nB cB, x11, x12, x13, x14, x15, x16, x17, x18]] w (MadeA w 0 0 0 0 [] (.int .i64 er)))
    (h0 : er ≠ 0) (hf1 : n ≤ 1024) (hf2 : nW ≤ 2000) (hf3 : nB ≤ 200) (hr : Kit.Rd w w.heap.size A (I8s zs)) (hrw : Kit.Rd w w.heap.size WA (I8s ws)) (hrb : Kit.Rd w w.heap.size BA (I32v bs)) :
    Calls Try.prog 3 #[.agg #[.int .i64 H, .int .i64 W, .int .i64 C, .slice A n c], .agg #[x0, x1, x2, .int .i64 K, .int .i64 S, .int .i64 P, .int .i64 O, .int .i8 Z, x8, .slice WA nW cW, .slice BA nB cB, x11, x12, x13, x14, x15, x16, x17, x18], .int .u8 at_, .int .i32 y] w fun e w' => e = .returned (.bool true) ∧ Below w.heap.size w w' := by
  have HA1 := Lib.hid hA1
  have HA2 := Lib.hid hA2
  have HR := Lib.hid hr
  have HRW := Lib.hid hrw
  have HRB := Lib.hid hrb
  clear hA1 hA2 hr hrw hrb
  have TN0 : Hid (NodeAt (w.heap.size + 1) x0 x1 x2 x8 x11 x12 x13 x14 x15 x16 x17 x18 K S P O Z WA BA nW cW nB cB ((w.alloc (.cells #[.int .i64 H, .int .i64 W, .int .i64 C, .slice A n c] 26)).alloc (.cells #[x0, x1, x2, .int .i64 K, .int .i64 S, .int .i64 P, .int .i64 O, .int .i8 Z, x8, .slice WA nW cW, .slice BA nB cB, x11, x12, x13, x14, x15, x16, x17, x18] 32))) := by
    have h := NodeAt.new x0 x1 x2 x8 x11 x12 x13 x14 x15 x16 x17 x18 K S P O Z WA BA nW cW nB cB 32 (w.alloc (.cells #[.int .i64 H, .int .i64 W, .int .i64 C, .slice A n c] 26))
    rw [World.size_alloc] at h
    exact Lib.hid h
  have h0b : (er != 0) = true := by simpa using h0
  have h0c : (er == 0) = false := by simpa using h0
  go_enter Try.func3, Try.ntmps3
  go_wp2_with (first
        | (go_at_call 7
           have hal : Below w.heap.size w ((w.alloc (.cells #[.int .i64 H, .int .i64 W, .int .i64 C, .slice A n c] 26)).alloc (.cells #[x0, x1, x2, .int .i64 K, .int .i64 S, .int .i64 P, .int .i64 O, .int .i8 Z, x8, .slice WA nW cW, .slice BA nB cB, x11, x12, x13, x14, x15, x16, x17, x18] 32)) := ((Below.refl _ _).alloc (by first | exact Nat.le_refl _ | (simp; done) | (simp; omega)) _).alloc (by first | exact Nat.le_refl _ | (simp; done) | (simp; omega)) _
           refine (few_yes H W C A n c x0 x1 x2 x8 x11 x12 x13 x14 x15 x16 x17 x18 K S P O Z WA BA nW cW nB cB hf1 hf2 hf3 _).mono ?_
           rintro e w1 ⟨rfl, hb⟩
           have hh : Below w.heap.size w w1 := hal.trans (hb.mono hal.size)
           have qTB := (boxNew H W C A n c 26) w
           try simp only [World.size_alloc] at qTB
           have TB := Lib.hid ((qTB.below (B' := w.heap.size + 1) (by omega) (((Below.refl _ _).alloc (by first | exact Nat.le_refl _ | (simp; done) | (simp; omega)) _).mono (by simp))).below (by first | (simp; done) | (simp; omega)) hb)
           have yTB : w.heap.size < w1.heap.size := by have := hb.size; simp at this; omega
           clear qTB
           have qTN := (NodeAt.new x0 x1 x2 x8 x11 x12 x13 x14 x15 x16 x17 x18 K S P O Z WA BA nW cW nB cB 32) (w.alloc (.cells #[.int .i64 H, .int .i64 W, .int .i64 C, .slice A n c] 26))
           try simp only [World.size_alloc] at qTN
           have TN := Lib.hid (qTN.below (by first | (simp; done) | (simp; omega)) hb)
           have yTN : w.heap.size + 1 < w1.heap.size := by have := hb.size; simp at this; omega
           clear qTN
           replace HR := Lib.hid ((HR.out.below hh).more hh.size)
           replace HRW := Lib.hid ((HRW.out.below hh).more hh.size)
           replace HRB := Lib.hid ((HRB.out.below hh).more hh.size)
           have HBW : Hid (Below w.heap.size w w1) := Lib.hid hh
           obtain ⟨tbp0, tbp1, tbp2, tbp3⟩ := TB.out
           clear hb hh hal)
        | (go_at_call 9
           have hal : Below w1.heap.size w1 w1 := Below.refl _ _
           refine (HA1.out _ ((HR.out.below hal).more hal.size) ((HRW.out.below hal).more hal.size) ((HRB.out.below hal).more hal.size)).mono ?_
           rintro e w2 ⟨v2, rfl, ho2, hb⟩
           have hh : Below w1.heap.size w1 w2 := hal.trans (hb.mono hal.size)
           replace TB := Lib.hid (TB.out.below yTB hh)
           replace yTB := Nat.lt_of_lt_of_le yTB hh.size
           replace TN := Lib.hid (TN.out.below yTN hh)
           replace yTN := Nat.lt_of_lt_of_le yTN hh.size
           replace HR := Lib.hid ((HR.out.below hh).more hh.size)
           replace HRW := Lib.hid ((HRW.out.below hh).more hh.size)
           replace HRB := Lib.hid ((HRB.out.below hh).more hh.size)
           replace HBW := Lib.hid (HBW.out.trans (hh.mono HBW.out.size))
           clear tbp0 tbp1 tbp2 tbp3
           obtain ⟨A2, c2, rfl, -, -, hrd2⟩ := Kit.own_rd ho2
           have RA2 := Lib.hid hrd2
           clear ho2 hrd2
           obtain ⟨tbp0, tbp1, tbp2, tbp3⟩ := TB.out
           clear hb hh hal)
        | (go_at_call 10
           have hal : Below w2.heap.size w2 (w2.alloc (.cells #[.int .i64 0, .int .i64 0, .int .i64 0, .slice A2 0 c2] 36)) := (Below.refl _ _).alloc (by first | exact Nat.le_refl _ | (simp; done) | (simp; omega)) _
           refine (HA2.out _ ((HR.out.below hal).more hal.size) ((HRW.out.below hal).more hal.size) ((HRB.out.below hal).more hal.size)).mono ?_
           rintro e w3 ⟨v3, rfl, ho3, hb⟩
           have hh : Below w2.heap.size w2 w3 := hal.trans (hb.mono hal.size)
           have qTA2 := (boxNew 0 0 0 A2 0 c2 36) w2
           try simp only [World.size_alloc] at qTA2
           have TA2 := Lib.hid (qTA2.below (by first | (simp; done) | (simp; omega)) hb)
           have yTA2 : w2.heap.size < w3.heap.size := by have := hb.size; simp at this; omega
           clear qTA2
           replace TB := Lib.hid (TB.out.below yTB hh)
           replace yTB := Nat.lt_of_lt_of_le yTB hh.size
           replace TN := Lib.hid (TN.out.below yTN hh)
           replace yTN := Nat.lt_of_lt_of_le yTN hh.size
           replace HR := Lib.hid ((HR.out.below hh).more hh.size)
           replace HRW := Lib.hid ((HRW.out.below hh).more hh.size)
           replace HRB := Lib.hid ((HRB.out.below hh).more hh.size)
           replace RA2 := Lib.hid ((RA2.out.below hh).more hh.size)
           replace HBW := Lib.hid (HBW.out.trans (hh.mono HBW.out.size))
           clear tbp0 tbp1 tbp2 tbp3
           obtain ⟨A3, c3, rfl, -, -, hrd3⟩ := Kit.own_rd ho3
           have RA3 := Lib.hid hrd3
           clear ho3 hrd3
           obtain ⟨tbp0, tbp1, tbp2, tbp3⟩ := TB.out
           obtain ⟨ta2p0, ta2p1, ta2p2, ta2p3⟩ := TA2.out
           clear hb hh hal)
        | (go_at_call 8
           have hal : Below w3.heap.size w3 (w3.alloc (.cells #[.int .i64 0, .int .i64 0, .int .i64 0, .slice A3 0 c3] 36)) := (Below.refl _ _).alloc (by first | exact Nat.le_refl _ | (simp; done) | (simp; omega)) _
           refine (known10 _).mono ?_
           rintro e w4 ⟨rfl, hb⟩
           have hh : Below w3.heap.size w3 w4 := hal.trans (hb.mono hal.size)
           have qTA3 := (boxNew 0 0 0 A3 0 c3 36) w3
           try simp only [World.size_alloc] at qTA3
           have TA3 := Lib.hid (qTA3.below (by first | (simp; done) | (simp; omega)) hb)
           have yTA3 : w3.heap.size < w4.heap.size := by have := hb.size; simp at this; omega
           clear qTA3
           replace TB := Lib.hid (TB.out.below yTB hh)
           replace yTB := Nat.lt_of_lt_of_le yTB hh.size
           replace TN := Lib.hid (TN.out.below yTN hh)
           replace yTN := Nat.lt_of_lt_of_le yTN hh.size
           replace TA2 := Lib.hid (TA2.out.below yTA2 hh)
           replace yTA2 := Nat.lt_of_lt_of_le yTA2 hh.size
           replace HR := Lib.hid ((HR.out.below hh).more hh.size)
           replace HRW := Lib.hid ((HRW.out.below hh).more hh.size)
           replace HRB := Lib.hid ((HRB.out.below hh).more hh.size)
           replace RA2 := Lib.hid ((RA2.out.below hh).more hh.size)
           replace RA3 := Lib.hid ((RA3.out.below hh).more hh.size)
           replace HBW := Lib.hid (HBW.out.trans (hh.mono HBW.out.size))
           clear tbp0 tbp1 tbp2 tbp3 ta2p0 ta2p1 ta2p2 ta2p3
           obtain ⟨tbp0, tbp1, tbp2, tbp3⟩ := TB.out
           obtain ⟨ta2p0, ta2p1, ta2p2, ta2p3⟩ := TA2.out
           obtain ⟨ta3p0, ta3p1, ta3p2, ta3p3⟩ := TA3.out
           clear hb hh hal)
        | (refine wpList_load_mid rfl 32 (.tmp 5) rfl (w.heap.size + 1) 0 rfl [x0, x1, x2, .int .i64 K, .int .i64 S, .int .i64 P, .int .i64 O, .int .i8 Z, x8, .slice WA nW cW, .slice BA nB cB, x11, x12, x13, x14, x15, x16, x17, x18] _ (TN0.out) Try.underlying32 rfl (by kernel_rfl) ?_)
        | (refine wpList_load_mid rfl 32 (.tmp 5) rfl (w.heap.size + 1) 0 rfl [x0, x1, x2, .int .i64 K, .int .i64 S, .int .i64 P, .int .i64 O, .int .i8 Z, x8, .slice WA nW cW, .slice BA nB cB, x11, x12, x13, x14, x15, x16, x17, x18] _ (TN.out) Try.underlying32 rfl (by kernel_rfl) ?_)
        | (refine wpList_load_mid rfl 32 (.tmp 5) rfl (w.heap.size + 1) 0 rfl [x0, x1, x2, .int .i64 K, .int .i64 S, .int .i64 P, .int .i64 O, .int .i8 Z, x8, .slice WA nW cW, .slice BA nB cB, x11, x12, x13, x14, x15, x16, x17, x18] _ (TN.out.below yTN ((Below.refl _ _).alloc (Nat.le_refl _) _)) Try.underlying32 rfl (by kernel_rfl) ?_))
  go_ret
  exact ⟨rfl, HBW.out⟩
set_option maxRecDepth 100000 in
set_option maxHeartbeats 8000000 in
theorem walk_yes {w : World} (H W C : Int) (A : Option Addr) (zs : List Int) (n c : Nat) (hn : zs.length = n) (ht : tensB H W C n = true) (hz : I8b zs) (x0 x1 x2 x8 x11 x12 x13 x14 x15 x16 x17 x18 : Value) (K S P O Z : Int) (WA BA : Option Addr) (nW cW nB cB : Nat) (at_ y : Int) (t1 : 0 ≤ at_) (t2 : at_ ≤ 255) (y1 : -2147483648 ≤ y) (y2 : y ≤ 2147483647)
    (hone : ∀ v ∈ [x0, x1, x2, .int .i64 K, .int .i64 S, .int .i64 P, .int .i64 O, .int .i8 Z, x8, .slice WA nW cW, .slice BA nB cB, x11, x12, x13, x14, x15, x16, x17, x18], v.oneCell' = true) (ws : List Int) (hws : ws.length = nW) (hwc : nW ≤ cW) (hwb : I8b ws) (bs : List Int) (hbs : bs.length = nB) (hb32 : ∀ q, -2147483648 ≤ bs.getD q 0 ∧ bs.getD q 0 ≤ 2147483647)
    (he : convE H W C K S P O nW nB = 0) (z1 : -128 ≤ Z) (z2 : Z ≤ 127) (hf1 : n ≤ 1024) (hf2 : nW ≤ 2000) (hf3 : nB ≤ 200) (hr : Kit.Rd w w.heap.size A (I8s zs)) (hrw : Kit.Rd w w.heap.size WA (I8s ws)) (hrb : Kit.Rd w w.heap.size BA (I32v bs)) :
    Calls Try.prog 3 #[.agg #[.int .i64 H, .int .i64 W, .int .i64 C, .slice A n c], .agg #[x0, x1, x2, .int .i64 K, .int .i64 S, .int .i64 P, .int .i64 O, .int .i8 Z, x8, .slice WA nW cW, .slice BA nB cB, x11, x12, x13, x14, x15, x16, x17, x18], .int .u8 at_, .int .i32 y] w fun e w' => e = .returned (.bool true) ∧ Below w.heap.size w w' := by
  obtain ⟨hsl, hnW, hn16, hnB⟩ := convE_ok he
  obtain ⟨hs0, har1, har2, -, -, hsr⟩ := slide_ok hsl
  obtain ⟨q1, q2, q3, q4, q5, q6, q7⟩ := shapeB_yes hsr
  obtain ⟨g1, g2, g3, g4, c1, c2, g7⟩ := shapeB_yes hs0
  obtain ⟨-, -, k1, k2, st1, st2, pd1, pd2, -⟩ := argsB_yes har1
  obtain ⟨a, ha⟩ : ∃ a : Nat, stepsM H K S P = (a : Int) := ⟨(stepsM H K S P).toNat, by omega⟩
  obtain ⟨b, hb⟩ : ∃ b : Nat, stepsM W K S P = (b : Int) := ⟨(stepsM W K S P).toNat, by omega⟩
  obtain ⟨oo, hO⟩ : ∃ oo : Nat, O = (oo : Int) := ⟨O.toNat, by omega⟩
  obtain ⟨d, hd⟩ : ∃ d : Nat, C = (d : Int) := ⟨C.toNat, by omega⟩
  obtain ⟨kk, hk⟩ : ∃ kk : Nat, K = (kk : Int) := ⟨K.toNat, by omega⟩
  obtain ⟨N, hN⟩ : ∃ N, a * b * oo = N := ⟨_, rfl⟩
  have hN2 : (N : Int) ≤ 1024 := by
    have : (N : Int) = stepsM H K S P * stepsM W K S P * O := by rw [ha, hb, hO, ← hN]; simp
    omega
  obtain ⟨o, ho⟩ : ∃ o : Nat, at_.toNat % oo = o := ⟨_, rfl⟩
  have hoo : 0 < oo := by omega
  have holt : o < oo := by rw [← ho]; exact Nat.mod_lt _ hoo
  have hoB : o < nB := by omega
  have hoI : at_.tmod O = (o : Int) := by
    rw [Int.tmod_eq_emod_of_nonneg t1, hO, ← ho, Int.natCast_emod, Int.toNat_of_nonneg t1]
  obtain ⟨bs2, hbs2⟩ : ∃ l, l = bs.set o (IntKind.i32.wrap (bs.getD o 0 + y)) := ⟨_, rfl⟩
  obtain ⟨F1, hF1⟩ : ∃ F1, F1 = gridF b oo (sumF zs ws bs H W C S P d kk Z) := ⟨_, rfl⟩
  obtain ⟨F2, hF2⟩ : ∃ F2, F2 = gridF b oo (sumF zs ws bs2 H W C S P d kk Z) := ⟨_, rfl⟩
  obtain ⟨F3, hF3⟩ : ∃ F3, F3 = gridF b oo (sumF zs (List.replicate nW 0) bs H W C S P d kk Z) := ⟨_, rfl⟩
  have HA1 : Hid (∀ (w : World), Kit.Rd w w.heap.size A (I8s zs) → Kit.Rd w w.heap.size WA (I8s ws) → Kit.Rd w w.heap.size BA (I32v bs) → Calls Try.prog 9 #[.agg #[.int .i64 H, .int .i64 W, .int .i64 C, .slice A n c], .agg #[x0, x1, x2, .int .i64 K, .int .i64 S, .int .i64 P, .int .i64 O, .int .i8 Z, x8, .slice WA nW cW, .slice BA nB cB, x11, x12, x13, x14, x15, x16, x17, x18]] w (MadeA w (a : Int) (b : Int) O N (rowL F1 N) (.int .i64 0))) := Lib.hid (fun w hr hrw hrb => by
    rw [hF1]; exact of_yes H W C A zs n c hn ht hz x0 x1 x2 x8 x11 x12 x13 x14 x15 x16 x17 x18 K S P O Z WA BA nW cW nB cB ws hws hwc hwb bs hbs he a b oo d kk ha hb hO hd hk N hN z1 z2 w hr hrw hrb)
  have HA2 : Hid (∀ (w : World), Kit.Rd w w.heap.size A (I8s zs) → Kit.Rd w w.heap.size WA (I8s ws) → Kit.Rd w w.heap.size BA (I32v bs) → Calls Try.prog 10 #[.agg #[.int .i64 H, .int .i64 W, .int .i64 C, .slice A n c], .agg #[x0, x1, x2, .int .i64 K, .int .i64 S, .int .i64 P, .int .i64 O, .int .i8 Z, x8, .slice WA nW cW, .slice BA nB cB, x11, x12, x13, x14, x15, x16, x17, x18]] w (MadeA w (a : Int) (b : Int) O N (rowL F1 N) (.int .i64 0))) := Lib.hid (fun w hr hrw hrb => by
    rw [hF1]; exact refOf_yes H W C A zs n c hn ht hz x0 x1 x2 x8 x11 x12 x13 x14 x15 x16 x17 x18 K S P O Z WA BA nW cW nB cB ws hws hwc hwb bs hbs hb32 he a b oo d kk ha hb hO hd hk N hN z1 z2 w hr hrw hrb)
  have HAM : Hid (∀ (w : World) (g6 c6 : Nat), Kit.Rd w w.heap.size A (I8s zs) → Kit.Rd w w.heap.size WA (I8s ws) → Kit.Rd w w.heap.size (some ⟨g6, 0, none⟩) (I32v bs2) → Calls Try.prog 9 #[.agg #[.int .i64 H, .int .i64 W, .int .i64 C, .slice A n c], .agg #[x0, x1, x2, .int .i64 K, .int .i64 S, .int .i64 P, .int .i64 O, .int .i8 Z, x8, .slice WA nW cW, .slice (some ⟨g6, 0, none⟩) nB c6, x11, x12, x13, x14, x15, x16, x17, x18]] w (MadeA w (a : Int) (b : Int) O N (rowL F2 N) (.int .i64 0))) := Lib.hid (fun w g6 c6 hr hrw hrb => by
    rw [hF2]; exact of_yes H W C A zs n c hn ht hz x0 x1 x2 x8 x11 x12 x13 x14 x15 x16 x17 x18 K S P O Z WA (some ⟨g6, 0, none⟩) nW cW nB c6 ws hws hwc hwb bs2 (by rw [hbs2, List.length_set]; exact hbs) he a b oo d kk ha hb hO hd hk N hN z1 z2 w hr hrw hrb)
  have HAZ : Hid (∀ (w : World) (A7 : Option Addr), Kit.Rd w w.heap.size A (I8s zs) → Kit.Rd w w.heap.size A7 (I8s (List.replicate nW 0)) → Kit.Rd w w.heap.size BA (I32v bs) → Calls Try.prog 9 #[.agg #[.int .i64 H, .int .i64 W, .int .i64 C, .slice A n c], .agg #[x0, x1, x2, .int .i64 K, .int .i64 S, .int .i64 P, .int .i64 O, .int .i8 Z, x8, .slice A7 nW nW, .slice BA nB cB, x11, x12, x13, x14, x15, x16, x17, x18]] w (MadeA w (a : Int) (b : Int) O N (rowL F3 N) (.int .i64 0))) := Lib.hid (fun w A7 hr hrw hrb => by
    rw [hF3]; exact of_yes H W C A zs n c hn ht hz x0 x1 x2 x8 x11 x12 x13 x14 x15 x16 x17 x18 K S P O Z A7 BA nW nW nB cB (List.replicate nW 0) (by simp) (Nat.le_refl _) (zeros_I8b nW) bs hbs he a b oo d kk ha hb hO hd hk N hN z1 z2 w hr hrw hrb)
  have HF2 : Hid (∀ i, F2 i = if i % oo = o then IntKind.i32.wrap (F1 i + y) else F1 i) := Lib.hid (fun i => by rw [hF2, hF1, hbs2]; exact bias_raised zs ws bs H W C S P d kk Z b oo o (by omega) y i)
  have HF3 : Hid (∀ i, F3 i = bs.getD (i % oo) 0) := Lib.hid (fun i => by rw [hF3]; exact bias_alone zs bs nW H W C S P d kk Z b oo hb32 i)
  have HONE := Lib.hid hone
  have HBS2 := Lib.hid hbs2
  have HBS := Lib.hid hbs
  have HR := Lib.hid hr
  have HRW := Lib.hid hrw
  have HRB := Lib.hid hrb
  have HOO := Lib.hid hO
  have HB32 := Lib.hid hb32
  have hO0 : ¬ O = 0 := by omega
  have hOw : IntKind.i64.wrap (o : Int) = (o : Int) := IntWalk.i64_in _ (by omega)
  have hO1 : 1 ≤ oo := by omega
  have HNBO : Hid (nB = oo) := Lib.hid (by omega)
  clear hn ht hz hws hwb hbs hb32 he ha hb hO hd hk hN hF1 hF2 hF3 hr hrw hrb hsl hs0 har1 har2 hsr g7 q7 hnW hnB hbs2 hone ho
  have TN0 : Hid (NodeAt (w.heap.size + 1) x0 x1 x2 x8 x11 x12 x13 x14 x15 x16 x17 x18 K S P O Z WA BA nW cW nB cB ((w.alloc (.cells #[.int .i64 H, .int .i64 W, .int .i64 C, .slice A n c] 26)).alloc (.cells #[x0, x1, x2, .int .i64 K, .int .i64 S, .int .i64 P, .int .i64 O, .int .i8 Z, x8, .slice WA nW cW, .slice BA nB cB, x11, x12, x13, x14, x15, x16, x17, x18] 32))) := by
    have h := NodeAt.new x0 x1 x2 x8 x11 x12 x13 x14 x15 x16 x17 x18 K S P O Z WA BA nW cW nB cB 32 (w.alloc (.cells #[.int .i64 H, .int .i64 W, .int .i64 C, .slice A n c] 26))
    rw [World.size_alloc] at h
    exact Lib.hid h
  go_enter Try.func3, Try.ntmps3
  go_wp2_with (first
    | (go_at_call 7
       have hal : Below w.heap.size w ((w.alloc (.cells #[.int .i64 H, .int .i64 W, .int .i64 C, .slice A n c] 26)).alloc (.cells #[x0, x1, x2, .int .i64 K, .int .i64 S, .int .i64 P, .int .i64 O, .int .i8 Z, x8, .slice WA nW cW, .slice BA nB cB, x11, x12, x13, x14, x15, x16, x17, x18] 32)) := ((Below.refl _ _).alloc (by first | exact Nat.le_refl _ | (simp; done) | (simp; omega)) _).alloc (by first | exact Nat.le_refl _ | (simp; done) | (simp; omega)) _
       refine (few_yes H W C A n c x0 x1 x2 x8 x11 x12 x13 x14 x15 x16 x17 x18 K S P O Z WA BA nW cW nB cB hf1 hf2 hf3 _).mono ?_
       rintro e w1 ⟨rfl, hb⟩
       have hh : Below w.heap.size w w1 := hal.trans (hb.mono hal.size)
       have qTB := (boxNew H W C A n c 26) w
       try simp only [World.size_alloc] at qTB
       have TB := Lib.hid ((qTB.below (B' := w.heap.size + 1) (by omega) (((Below.refl _ _).alloc (by first | exact Nat.le_refl _ | (simp; done) | (simp; omega)) _).mono (by simp))).below (by first | (simp; done) | (simp; omega)) hb)
       have yTB : w.heap.size < w1.heap.size := by have := hb.size; simp at this; omega
       clear qTB
       have qTN := (NodeAt.new x0 x1 x2 x8 x11 x12 x13 x14 x15 x16 x17 x18 K S P O Z WA BA nW cW nB cB 32) (w.alloc (.cells #[.int .i64 H, .int .i64 W, .int .i64 C, .slice A n c] 26))
       try simp only [World.size_alloc] at qTN
       have TN := Lib.hid (qTN.below (by first | (simp; done) | (simp; omega)) hb)
       have yTN : w.heap.size + 1 < w1.heap.size := by have := hb.size; simp at this; omega
       clear qTN
       replace HR := Lib.hid ((HR.out.below hh).more hh.size)
       replace HRW := Lib.hid ((HRW.out.below hh).more hh.size)
       replace HRB := Lib.hid ((HRB.out.below hh).more hh.size)
       have HBW : Hid (Below w.heap.size w w1) := Lib.hid hh
       obtain ⟨tbp0, tbp1, tbp2, tbp3⟩ := TB.out
       clear hb hh hal)
    | (go_at_call 9
       have hal : Below w1.heap.size w1 w1 := Below.refl _ _
       refine (HA1.out _ ((HR.out.below hal).more hal.size) ((HRW.out.below hal).more hal.size) ((HRB.out.below hal).more hal.size)).mono ?_
       rintro e w2 ⟨v2, rfl, ho2, hb⟩
       have hh : Below w1.heap.size w1 w2 := hal.trans (hb.mono hal.size)
       replace TB := Lib.hid (TB.out.below yTB hh)
       replace yTB := Nat.lt_of_lt_of_le yTB hh.size
       replace TN := Lib.hid (TN.out.below yTN hh)
       replace yTN := Nat.lt_of_lt_of_le yTN hh.size
       replace HR := Lib.hid ((HR.out.below hh).more hh.size)
       replace HRW := Lib.hid ((HRW.out.below hh).more hh.size)
       replace HRB := Lib.hid ((HRB.out.below hh).more hh.size)
       replace HBW := Lib.hid (HBW.out.trans (hh.mono HBW.out.size))
       clear tbp0 tbp1 tbp2 tbp3
       obtain ⟨A2, c2, rfl, -, -, hrd2⟩ := Kit.own_rd ho2
       have RA2 := Lib.hid hrd2
       clear ho2 hrd2
       obtain ⟨tbp0, tbp1, tbp2, tbp3⟩ := TB.out
       clear hb hh hal)
    | (go_at_call 10
       have hal : Below w2.heap.size w2 (w2.alloc (.cells #[.int .i64 (a : Int), .int .i64 (b : Int), .int .i64 O, .slice A2 N c2] 36)) := (Below.refl _ _).alloc (by first | exact Nat.le_refl _ | (simp; done) | (simp; omega)) _
       refine (HA2.out _ ((HR.out.below hal).more hal.size) ((HRW.out.below hal).more hal.size) ((HRB.out.below hal).more hal.size)).mono ?_
       rintro e w3 ⟨v3, rfl, ho3, hb⟩
       have hh : Below w2.heap.size w2 w3 := hal.trans (hb.mono hal.size)
       have qTA2 := (boxNew (a : Int) (b : Int) O A2 N c2 36) w2
       try simp only [World.size_alloc] at qTA2
       have TA2 := Lib.hid (qTA2.below (by first | (simp; done) | (simp; omega)) hb)
       have yTA2 : w2.heap.size < w3.heap.size := by have := hb.size; simp at this; omega
       clear qTA2
       replace TB := Lib.hid (TB.out.below yTB hh)
       replace yTB := Nat.lt_of_lt_of_le yTB hh.size
       replace TN := Lib.hid (TN.out.below yTN hh)
       replace yTN := Nat.lt_of_lt_of_le yTN hh.size
       replace HR := Lib.hid ((HR.out.below hh).more hh.size)
       replace HRW := Lib.hid ((HRW.out.below hh).more hh.size)
       replace HRB := Lib.hid ((HRB.out.below hh).more hh.size)
       replace RA2 := Lib.hid ((RA2.out.below hh).more hh.size)
       replace HBW := Lib.hid (HBW.out.trans (hh.mono HBW.out.size))
       clear tbp0 tbp1 tbp2 tbp3
       obtain ⟨A3, c3, rfl, -, -, hrd3⟩ := Kit.own_rd ho3
       have RA3 := Lib.hid hrd3
       clear ho3 hrd3
       obtain ⟨tbp0, tbp1, tbp2, tbp3⟩ := TB.out
       obtain ⟨ta2p0, ta2p1, ta2p2, ta2p3⟩ := TA2.out
       clear hb hh hal)
    | (refine wpList_load_mid rfl 32 (.tmp 5) rfl (w.heap.size + 1) 0 rfl [x0, x1, x2, .int .i64 K, .int .i64 S, .int .i64 P, .int .i64 O, .int .i8 Z, x8, .slice WA nW cW, .slice BA nB cB, x11, x12, x13, x14, x15, x16, x17, x18] _ (TN0.out) Try.underlying32 rfl (by kernel_rfl) ?_)
    | (refine wpList_load_mid rfl 32 (.tmp 5) rfl (w.heap.size + 1) 0 rfl [x0, x1, x2, .int .i64 K, .int .i64 S, .int .i64 P, .int .i64 O, .int .i8 Z, x8, .slice WA nW cW, .slice BA nB cB, x11, x12, x13, x14, x15, x16, x17, x18] _ (TN.out) Try.underlying32 rfl (by kernel_rfl) ?_)
    | (refine wpList_load_mid rfl 32 (.tmp 5) rfl (w.heap.size + 1) 0 rfl [x0, x1, x2, .int .i64 K, .int .i64 S, .int .i64 P, .int .i64 O, .int .i8 Z, x8, .slice WA nW cW, .slice BA nB cB, x11, x12, x13, x14, x15, x16, x17, x18] _ (TN.out.below yTN ((Below.refl _ _).alloc (Nat.le_refl _) _)) Try.underlying32 rfl (by kernel_rfl) ?_))
  have hal : Below w3.heap.size w3 (w3.alloc (.cells #[.int .i64 (a : Int), .int .i64 (b : Int), .int .i64 O, .slice A3 N c3] 36)) := (Below.refl _ _).alloc (Nat.le_refl _) _
  replace TB := Lib.hid (TB.out.below yTB hal)
  replace TN := Lib.hid (TN.out.below yTN hal)
  replace TA2 := Lib.hid (TA2.out.below yTA2 hal)
  replace HR := Lib.hid ((HR.out.below hal).more hal.size)
  replace HRW := Lib.hid ((HRW.out.below hal).more hal.size)
  replace HRB := Lib.hid ((HRB.out.below hal).more hal.size)
  replace RA2 := Lib.hid ((RA2.out.below hal).more hal.size)
  replace HBW := Lib.hid (HBW.out.trans (hal.mono HBW.out.size))
  replace yTB := Nat.lt_of_lt_of_le yTB hal.size
  replace yTN := Nat.lt_of_lt_of_le yTN hal.size
  replace yTA2 := Nat.lt_of_lt_of_le yTA2 hal.size
  clear hal tbp0 tbp1 tbp2 tbp3 ta2p0 ta2p1 ta2p2 ta2p3 RA3
  generalize w3.alloc (.cells #[.int .i64 (a : Int), .int .i64 (b : Int), .int .i64 O, .slice A3 N c3] 36) = W3 at TB TN TA2 HR HRW HRB RA2 HBW yTB yTN yTA2 ⊢
  go_cut [13, 14] from 53 to 55 (fun s13 s14 wx => ∃ g13 g14 : Nat, s13 = .pointer (some ⟨g13, 0, none⟩) ∧ s14 = .pointer (some ⟨g14, 0, none⟩) ∧ W3.heap.size ≤ g13 ∧ W3.heap.size ≤ g14 ∧ g13 ≠ g14 ∧ Hid (NodeAt g13 x0 x1 x2 x8 x11 x12 x13 x14 x15 x16 x17 x18 K S P O Z WA BA nW cW nB cB wx) ∧ Hid (wx.there g13 0 19) ∧ Hid (NodeAt g14 x0 x1 x2 x8 x11 x12 x13 x14 x15 x16 x17 x18 K S P O Z WA BA nW cW nB cB wx) ∧ Hid (wx.there g14 0 19) ∧ g13 < wx.heap.size ∧ g14 < wx.heap.size ∧ Hid (Below W3.heap.size W3 wx))
  case first =>
    refine wp_region_held_drew (S := fun W' => NodeAt (w.heap.size + 1) x0 x1 x2 x8 x11 x12 x13 x14 x15 x16 x17 x18 K S P O Z WA BA nW cW nB cB W') (by kernel_rfl) (TN.out.below yTN (Below.refl _ _).drew) (fun hHeld => ?_)
    have HB3 := Lib.hid ((Below.refl W3.heap.size W3).drew)
    generalize W3.drew = V0 at HB3 hHeld ⊢
    refine wpAnyH_take (i := 0) (oi := ({ dst := some 53, op := Op.load 32 (Operand.tmp 5), type := 32, pos := "law.go:37", after := #[], guard := none } : Oper)) (v := .agg #[x0, x1, x2, .int .i64 K, .int .i64 S, .int .i64 P, .int .i64 O, .int .i8 Z, x8, .slice WA nW cW, .slice BA nB cB, x11, x12, x13, x14, x15, x16, x17, x18]) rfl (by kernel_rfl) (by kernel_rfl) (by kernel_rfl) (fun _ _ _ h => h) (yieldsIf_load_mid (by rfl) _ _ rfl (w.heap.size + 1) 0 rfl [x0, x1, x2, .int .i64 K, .int .i64 S, .int .i64 P, .int .i64 O, .int .i8 Z, x8, .slice WA nW cW, .slice BA nB cB, x11, x12, x13, x14, x15, x16, x17, x18] _ (fun w' h => h) Try.underlying32 rfl (by kernel_rfl)) (by assumption) ?_
    try simp only [Act.put, List.setIfInBounds_toArray, List.set_cons_zero, List.set_cons_succ]
    refine wpAnyH_take (i := 1) (oi := ({ dst := some 54, op := Op.load 32 (Operand.tmp 5), type := 32, pos := "law.go:37", after := #[{ on := 4, ground := Ground.gcOnly Departure.lateStores }], guard := none } : Oper)) (v := .agg #[x0, x1, x2, .int .i64 K, .int .i64 S, .int .i64 P, .int .i64 O, .int .i8 Z, x8, .slice WA nW cW, .slice BA nB cB, x11, x12, x13, x14, x15, x16, x17, x18]) rfl (by kernel_rfl) (by kernel_rfl) (by kernel_rfl) (fun _ _ _ h => h) (yieldsIf_load_mid (by rfl) _ _ rfl (w.heap.size + 1) 0 rfl [x0, x1, x2, .int .i64 K, .int .i64 S, .int .i64 P, .int .i64 O, .int .i8 Z, x8, .slice WA nW cW, .slice BA nB cB, x11, x12, x13, x14, x15, x16, x17, x18] _ (fun w' h => h) Try.underlying32 rfl (by kernel_rfl)) (by assumption) ?_
    try simp only [Act.put, List.setIfInBounds_toArray, List.set_cons_zero, List.set_cons_succ]
    refine wpAnyH_ready (rs := [2, 3]) (by kernel_rfl) (by simp) ?_
    refine AllReadyH.cons (o := ({ dst := some 13, op := Op.alloc 32, type := 0, pos := "law.go:37", after := #[], guard := none } : Oper)) rfl (fun Kq hK => ?_) ?_
    · go_simp
      have hal := (Below.refl V0.heap.size V0).alloc (Nat.le_refl _) (.cells #[.int .i64 0, .int .i64 0, .int .i64 0, .int .i64 0, .int .i64 0, .int .i64 0, .int .i64 0, .int .i8 0, .int .i8 0, .slice none 0 0, .slice none 0 0, .int .i32 0, .int .i64 0, .int .i8 0, .int .i32 0, .int .i64 0, .int .i8 0, .int .i8 0, .int .i8 0] 32)
      have HT2 := Lib.hid (Kit.there_new V0 (cs := #[.int .i64 0, .int .i64 0, .int .i64 0, .int .i64 0, .int .i64 0, .int .i64 0, .int .i64 0, .int .i8 0, .int .i8 0, .slice none 0 0, .slice none 0 0, .int .i32 0, .int .i64 0, .int .i8 0, .int .i32 0, .int .i64 0, .int .i8 0, .int .i8 0, .int .i8 0]) 32 (n := 19) rfl)
      have hb2 : V0.heap.size < (V0.alloc (.cells #[.int .i64 0, .int .i64 0, .int .i64 0, .int .i64 0, .int .i64 0, .int .i64 0, .int .i64 0, .int .i8 0, .int .i8 0, .slice none 0 0, .slice none 0 0, .int .i32 0, .int .i64 0, .int .i8 0, .int .i32 0, .int .i64 0, .int .i8 0, .int .i8 0, .int .i8 0] 32)).heap.size := by simp
      have hw2 := HB3.out.size
      replace HB3 := Lib.hid (HB3.out.alloc HB3.out.size (.cells #[.int .i64 0, .int .i64 0, .int .i64 0, .int .i64 0, .int .i64 0, .int .i64 0, .int .i64 0, .int .i8 0, .int .i8 0, .slice none 0 0, .slice none 0 0, .int .i32 0, .int .i64 0, .int .i8 0, .int .i32 0, .int .i64 0, .int .i8 0, .int .i8 0, .int .i8 0] 32))
      clear hal hHeld
      refine hK.out _ _ ?_ (fun hHeld => ?_)
      · exact TN.out.below yTN HB3.out
      clear hK Kq
      try simp only [Act.put, List.setIfInBounds_toArray, List.set_cons_zero, List.set_cons_succ]
      generalize V0.alloc (.cells #[.int .i64 0, .int .i64 0, .int .i64 0, .int .i64 0, .int .i64 0, .int .i64 0, .int .i64 0, .int .i8 0, .int .i8 0, .slice none 0 0, .slice none 0 0, .int .i32 0, .int .i64 0, .int .i8 0, .int .i32 0, .int .i64 0, .int .i8 0, .int .i8 0, .int .i8 0] 32) = V1 at HB3 HT2 hb2 ⊢
      refine wpAnyH_ready (rs := [3]) (by kernel_rfl) (by simp) ?_
      refine AllReadyH.cons (o := ({ dst := some 14, op := Op.alloc 32, type := 0, pos := "law.go:37", after := #[], guard := none } : Oper)) rfl (fun Kq hK => ?_) ?_
      · go_simp
        have hq := hb2
        have hal := (Below.refl V1.heap.size V1).alloc (Nat.le_refl _) (.cells #[.int .i64 0, .int .i64 0, .int .i64 0, .int .i64 0, .int .i64 0, .int .i64 0, .int .i64 0, .int .i8 0, .int .i8 0, .slice none 0 0, .slice none 0 0, .int .i32 0, .int .i64 0, .int .i8 0, .int .i32 0, .int .i64 0, .int .i8 0, .int .i8 0, .int .i8 0] 32)
        replace HT2 := Lib.hid (Kit.there_below HT2.out hal hb2)
        replace hb2 := Nat.lt_of_lt_of_le hb2 hal.size
        have HT3 := Lib.hid (Kit.there_new V1 (cs := #[.int .i64 0, .int .i64 0, .int .i64 0, .int .i64 0, .int .i64 0, .int .i64 0, .int .i64 0, .int .i8 0, .int .i8 0, .slice none 0 0, .slice none 0 0, .int .i32 0, .int .i64 0, .int .i8 0, .int .i32 0, .int .i64 0, .int .i8 0, .int .i8 0, .int .i8 0]) 32 (n := 19) rfl)
        have hb3 : V1.heap.size < (V1.alloc (.cells #[.int .i64 0, .int .i64 0, .int .i64 0, .int .i64 0, .int .i64 0, .int .i64 0, .int .i64 0, .int .i8 0, .int .i8 0, .slice none 0 0, .slice none 0 0, .int .i32 0, .int .i64 0, .int .i8 0, .int .i32 0, .int .i64 0, .int .i8 0, .int .i8 0, .int .i8 0] 32)).heap.size := by simp
        have hw3 := HB3.out.size
        have hne : V0.heap.size ≠ V1.heap.size := Nat.ne_of_lt hq
        replace HB3 := Lib.hid (HB3.out.alloc HB3.out.size (.cells #[.int .i64 0, .int .i64 0, .int .i64 0, .int .i64 0, .int .i64 0, .int .i64 0, .int .i64 0, .int .i8 0, .int .i8 0, .slice none 0 0, .slice none 0 0, .int .i32 0, .int .i64 0, .int .i8 0, .int .i32 0, .int .i64 0, .int .i8 0, .int .i8 0, .int .i8 0] 32))
        clear hal hHeld
        refine hK.out _ _ ?_ (fun hHeld => ?_)
        · exact TN.out.below yTN HB3.out
        clear hK Kq
        try simp only [Act.put, List.setIfInBounds_toArray, List.set_cons_zero, List.set_cons_succ]
        generalize V1.alloc (.cells #[.int .i64 0, .int .i64 0, .int .i64 0, .int .i64 0, .int .i64 0, .int .i64 0, .int .i64 0, .int .i8 0, .int .i8 0, .slice none 0 0, .slice none 0 0, .int .i32 0, .int .i64 0, .int .i8 0, .int .i32 0, .int .i64 0, .int .i8 0, .int .i8 0, .int .i8 0] 32) = V2 at HB3 HT2 hb2 HT3 hb3 ⊢
        refine wpAnyH_ready (rs := [4]) (by kernel_rfl) (by simp) ?_
        refine AllReadyH.cons (o := ({ dst := none, op := Op.store 32 (Operand.tmp 13) (Operand.tmp 53), type := 0, pos := "law.go:37", after := #[{ on := 2, ground := Ground.data }, { on := 0, ground := Ground.data }, { on := 0, ground := Ground.phase }, { on := 1, ground := Ground.textOnly Departure.lateStores }, { on := 2, ground := Ground.phase }, { on := 3, ground := Ground.phase }], guard := none } : Oper)) rfl (fun Kq hK => ?_) ?_
        · refine Eq.mpr (if_pos (by kernel_rfl)) ?_
          refine wp_store_mid 32 _ _ rfl (V0.heap.size) 0 #[x0, x1, x2, .int .i64 K, .int .i64 S, .int .i64 P, .int .i64 O, .int .i8 Z, x8, .slice WA nW cW, .slice BA nB cB, x11, x12, x13, x14, x15, x16, x17, x18] rfl rfl HT2.out (by kernel_rfl) (all_oneCell_toArray (cs := [x0, x1, x2, .int .i64 K, .int .i64 S, .int .i64 P, .int .i64 O, .int .i8 Z, x8, .slice WA nW cW, .slice BA nB cB, x11, x12, x13, x14, x15, x16, x17, x18]) HONE.out) ?_
          change Kq _ (V2.setCells (V0.heap.size) 0 [x0, x1, x2, .int .i64 K, .int .i64 S, .int .i64 P, .int .i64 O, .int .i8 Z, x8, .slice WA nW cW, .slice BA nB cB, x11, x12, x13, x14, x15, x16, x17, x18])
          have HN4 := Lib.hid (NodeAt.stored HT2.out x0 x1 x2 x8 x11 x12 x13 x14 x15 x16 x17 x18 K S P O Z WA BA nW cW nB cB)
          replace HT3 := Lib.hid (Kit.there_cells HT3.out [x0, x1, x2, .int .i64 K, .int .i64 S, .int .i64 P, .int .i64 O, .int .i8 Z, x8, .slice WA nW cW, .slice BA nB cB, x11, x12, x13, x14, x15, x16, x17, x18] HT2.out)
          replace hb2 : V0.heap.size < (V2.setCells (V0.heap.size) 0 [x0, x1, x2, .int .i64 K, .int .i64 S, .int .i64 P, .int .i64 O, .int .i8 Z, x8, .slice WA nW cW, .slice BA nB cB, x11, x12, x13, x14, x15, x16, x17, x18]).heap.size := by rw [Kit.size_cells]; exact hb2
          replace hb3 : V1.heap.size < (V2.setCells (V0.heap.size) 0 [x0, x1, x2, .int .i64 K, .int .i64 S, .int .i64 P, .int .i64 O, .int .i8 Z, x8, .slice WA nW cW, .slice BA nB cB, x11, x12, x13, x14, x15, x16, x17, x18]).heap.size := by rw [Kit.size_cells]; exact hb3
          replace HB3 := Lib.hid (Kit.below_cells hw2 [x0, x1, x2, .int .i64 K, .int .i64 S, .int .i64 P, .int .i64 O, .int .i8 Z, x8, .slice WA nW cW, .slice BA nB cB, x11, x12, x13, x14, x15, x16, x17, x18] 0 V2 HB3.out)
          replace HT2 := Lib.hid (Kit.there_cells HT2.out [x0, x1, x2, .int .i64 K, .int .i64 S, .int .i64 P, .int .i64 O, .int .i8 Z, x8, .slice WA nW cW, .slice BA nB cB, x11, x12, x13, x14, x15, x16, x17, x18] HT2.out)
          clear hHeld
          refine hK.out _ _ ?_ (fun hHeld => ?_)
          · exact TN.out.below yTN HB3.out
          clear hK Kq
          try simp only [Act.put]
          generalize V2.setCells (V0.heap.size) 0 [x0, x1, x2, .int .i64 K, .int .i64 S, .int .i64 P, .int .i64 O, .int .i8 Z, x8, .slice WA nW cW, .slice BA nB cB, x11, x12, x13, x14, x15, x16, x17, x18] = V3 at HB3 HT2 hb2 HT3 hb3 HN4 ⊢
          refine wpAnyH_ready (rs := [5]) (by kernel_rfl) (by simp) ?_
          refine AllReadyH.cons (o := ({ dst := none, op := Op.store 32 (Operand.tmp 14) (Operand.tmp 54), type := 0, pos := "law.go:37", after := #[{ on := 3, ground := Ground.data }, { on := 1, ground := Ground.data }, { on := 4, ground := Ground.chain }, { on := 0, ground := Ground.phase }, { on := 1, ground := Ground.phase }, { on := 2, ground := Ground.phase }, { on := 3, ground := Ground.phase }, { on := 4, ground := Ground.phase }], guard := none } : Oper)) rfl (fun Kq hK => ?_) ?_
          · refine Eq.mpr (if_pos (by kernel_rfl)) ?_
            refine wp_store_mid 32 _ _ rfl (V1.heap.size) 0 #[x0, x1, x2, .int .i64 K, .int .i64 S, .int .i64 P, .int .i64 O, .int .i8 Z, x8, .slice WA nW cW, .slice BA nB cB, x11, x12, x13, x14, x15, x16, x17, x18] rfl rfl HT3.out (by kernel_rfl) (all_oneCell_toArray (cs := [x0, x1, x2, .int .i64 K, .int .i64 S, .int .i64 P, .int .i64 O, .int .i8 Z, x8, .slice WA nW cW, .slice BA nB cB, x11, x12, x13, x14, x15, x16, x17, x18]) HONE.out) ?_
            change Kq _ (V3.setCells (V1.heap.size) 0 [x0, x1, x2, .int .i64 K, .int .i64 S, .int .i64 P, .int .i64 O, .int .i8 Z, x8, .slice WA nW cW, .slice BA nB cB, x11, x12, x13, x14, x15, x16, x17, x18])
            have HN5 := Lib.hid (NodeAt.stored HT3.out x0 x1 x2 x8 x11 x12 x13 x14 x15 x16 x17 x18 K S P O Z WA BA nW cW nB cB)
            replace HN4 := Lib.hid (HN4.out.apart hne 0 [x0, x1, x2, .int .i64 K, .int .i64 S, .int .i64 P, .int .i64 O, .int .i8 Z, x8, .slice WA nW cW, .slice BA nB cB, x11, x12, x13, x14, x15, x16, x17, x18])
            replace HT2 := Lib.hid (Kit.there_cells HT2.out [x0, x1, x2, .int .i64 K, .int .i64 S, .int .i64 P, .int .i64 O, .int .i8 Z, x8, .slice WA nW cW, .slice BA nB cB, x11, x12, x13, x14, x15, x16, x17, x18] HT3.out)
            replace hb2 : V0.heap.size < (V3.setCells (V1.heap.size) 0 [x0, x1, x2, .int .i64 K, .int .i64 S, .int .i64 P, .int .i64 O, .int .i8 Z, x8, .slice WA nW cW, .slice BA nB cB, x11, x12, x13, x14, x15, x16, x17, x18]).heap.size := by rw [Kit.size_cells]; exact hb2
            replace hb3 : V1.heap.size < (V3.setCells (V1.heap.size) 0 [x0, x1, x2, .int .i64 K, .int .i64 S, .int .i64 P, .int .i64 O, .int .i8 Z, x8, .slice WA nW cW, .slice BA nB cB, x11, x12, x13, x14, x15, x16, x17, x18]).heap.size := by rw [Kit.size_cells]; exact hb3
            replace HB3 := Lib.hid (Kit.below_cells hw3 [x0, x1, x2, .int .i64 K, .int .i64 S, .int .i64 P, .int .i64 O, .int .i8 Z, x8, .slice WA nW cW, .slice BA nB cB, x11, x12, x13, x14, x15, x16, x17, x18] 0 V3 HB3.out)
            replace HT3 := Lib.hid (Kit.there_cells HT3.out [x0, x1, x2, .int .i64 K, .int .i64 S, .int .i64 P, .int .i64 O, .int .i8 Z, x8, .slice WA nW cW, .slice BA nB cB, x11, x12, x13, x14, x15, x16, x17, x18] HT3.out)
            clear hHeld
            refine hK.out _ _ ?_ (fun hHeld => ?_)
            · exact TN.out.below yTN HB3.out
            clear hK Kq
            try simp only [Act.put]
            generalize V3.setCells (V1.heap.size) 0 [x0, x1, x2, .int .i64 K, .int .i64 S, .int .i64 P, .int .i64 O, .int .i8 Z, x8, .slice WA nW cW, .slice BA nB cB, x11, x12, x13, x14, x15, x16, x17, x18] = V4 at HB3 HT2 hb2 HT3 hb3 HN4 HN5 ⊢
            refine wpAnyH_done (by kernel_rfl) ?_ _
            go_wp2_with fail
            go_meet
            exact ⟨V0.heap.size, V1.heap.size, rfl, rfl, hw2, hw3, hne, HN4, HT2, HN5, HT3, hb2, hb3, HB3⟩
          exact AllReadyH.nil
        exact AllReadyH.nil
      exact AllReadyH.nil
    refine AllReadyH.cons (o := ({ dst := some 14, op := Op.alloc 32, type := 0, pos := "law.go:37", after := #[], guard := none } : Oper)) rfl (fun Kq hK => ?_) ?_
    · go_simp
      have hal := (Below.refl V0.heap.size V0).alloc (Nat.le_refl _) (.cells #[.int .i64 0, .int .i64 0, .int .i64 0, .int .i64 0, .int .i64 0, .int .i64 0, .int .i64 0, .int .i8 0, .int .i8 0, .slice none 0 0, .slice none 0 0, .int .i32 0, .int .i64 0, .int .i8 0, .int .i32 0, .int .i64 0, .int .i8 0, .int .i8 0, .int .i8 0] 32)
      have HT3 := Lib.hid (Kit.there_new V0 (cs := #[.int .i64 0, .int .i64 0, .int .i64 0, .int .i64 0, .int .i64 0, .int .i64 0, .int .i64 0, .int .i8 0, .int .i8 0, .slice none 0 0, .slice none 0 0, .int .i32 0, .int .i64 0, .int .i8 0, .int .i32 0, .int .i64 0, .int .i8 0, .int .i8 0, .int .i8 0]) 32 (n := 19) rfl)
      have hb3 : V0.heap.size < (V0.alloc (.cells #[.int .i64 0, .int .i64 0, .int .i64 0, .int .i64 0, .int .i64 0, .int .i64 0, .int .i64 0, .int .i8 0, .int .i8 0, .slice none 0 0, .slice none 0 0, .int .i32 0, .int .i64 0, .int .i8 0, .int .i32 0, .int .i64 0, .int .i8 0, .int .i8 0, .int .i8 0] 32)).heap.size := by simp
      have hw3 := HB3.out.size
      replace HB3 := Lib.hid (HB3.out.alloc HB3.out.size (.cells #[.int .i64 0, .int .i64 0, .int .i64 0, .int .i64 0, .int .i64 0, .int .i64 0, .int .i64 0, .int .i8 0, .int .i8 0, .slice none 0 0, .slice none 0 0, .int .i32 0, .int .i64 0, .int .i8 0, .int .i32 0, .int .i64 0, .int .i8 0, .int .i8 0, .int .i8 0] 32))
      clear hal hHeld
      refine hK.out _ _ ?_ (fun hHeld => ?_)
      · exact TN.out.below yTN HB3.out
      clear hK Kq
      try simp only [Act.put, List.setIfInBounds_toArray, List.set_cons_zero, List.set_cons_succ]
      generalize V0.alloc (.cells #[.int .i64 0, .int .i64 0, .int .i64 0, .int .i64 0, .int .i64 0, .int .i64 0, .int .i64 0, .int .i8 0, .int .i8 0, .slice none 0 0, .slice none 0 0, .int .i32 0, .int .i64 0, .int .i8 0, .int .i32 0, .int .i64 0, .int .i8 0, .int .i8 0, .int .i8 0] 32) = V5 at HB3 HT3 hb3 ⊢
      refine wpAnyH_ready (rs := [2]) (by kernel_rfl) (by simp) ?_
      refine AllReadyH.cons (o := ({ dst := some 13, op := Op.alloc 32, type := 0, pos := "law.go:37", after := #[], guard := none } : Oper)) rfl (fun Kq hK => ?_) ?_
      · go_simp
        have hq := hb3
        have hal := (Below.refl V5.heap.size V5).alloc (Nat.le_refl _) (.cells #[.int .i64 0, .int .i64 0, .int .i64 0, .int .i64 0, .int .i64 0, .int .i64 0, .int .i64 0, .int .i8 0, .int .i8 0, .slice none 0 0, .slice none 0 0, .int .i32 0, .int .i64 0, .int .i8 0, .int .i32 0, .int .i64 0, .int .i8 0, .int .i8 0, .int .i8 0] 32)
        replace HT3 := Lib.hid (Kit.there_below HT3.out hal hb3)
        replace hb3 := Nat.lt_of_lt_of_le hb3 hal.size
        have HT2 := Lib.hid (Kit.there_new V5 (cs := #[.int .i64 0, .int .i64 0, .int .i64 0, .int .i64 0, .int .i64 0, .int .i64 0, .int .i64 0, .int .i8 0, .int .i8 0, .slice none 0 0, .slice none 0 0, .int .i32 0, .int .i64 0, .int .i8 0, .int .i32 0, .int .i64 0, .int .i8 0, .int .i8 0, .int .i8 0]) 32 (n := 19) rfl)
        have hb2 : V5.heap.size < (V5.alloc (.cells #[.int .i64 0, .int .i64 0, .int .i64 0, .int .i64 0, .int .i64 0, .int .i64 0, .int .i64 0, .int .i8 0, .int .i8 0, .slice none 0 0, .slice none 0 0, .int .i32 0, .int .i64 0, .int .i8 0, .int .i32 0, .int .i64 0, .int .i8 0, .int .i8 0, .int .i8 0] 32)).heap.size := by simp
        have hw2 := HB3.out.size
        have hne : V0.heap.size ≠ V5.heap.size := Nat.ne_of_lt hq
        replace HB3 := Lib.hid (HB3.out.alloc HB3.out.size (.cells #[.int .i64 0, .int .i64 0, .int .i64 0, .int .i64 0, .int .i64 0, .int .i64 0, .int .i64 0, .int .i8 0, .int .i8 0, .slice none 0 0, .slice none 0 0, .int .i32 0, .int .i64 0, .int .i8 0, .int .i32 0, .int .i64 0, .int .i8 0, .int .i8 0, .int .i8 0] 32))
        clear hal hHeld
        refine hK.out _ _ ?_ (fun hHeld => ?_)
        · exact TN.out.below yTN HB3.out
        clear hK Kq
        try simp only [Act.put, List.setIfInBounds_toArray, List.set_cons_zero, List.set_cons_succ]
        generalize V5.alloc (.cells #[.int .i64 0, .int .i64 0, .int .i64 0, .int .i64 0, .int .i64 0, .int .i64 0, .int .i64 0, .int .i8 0, .int .i8 0, .slice none 0 0, .slice none 0 0, .int .i32 0, .int .i64 0, .int .i8 0, .int .i32 0, .int .i64 0, .int .i8 0, .int .i8 0, .int .i8 0] 32) = V6 at HB3 HT3 hb3 HT2 hb2 ⊢
        refine wpAnyH_ready (rs := [4]) (by kernel_rfl) (by simp) ?_
        refine AllReadyH.cons (o := ({ dst := none, op := Op.store 32 (Operand.tmp 13) (Operand.tmp 53), type := 0, pos := "law.go:37", after := #[{ on := 2, ground := Ground.data }, { on := 0, ground := Ground.data }, { on := 0, ground := Ground.phase }, { on := 1, ground := Ground.textOnly Departure.lateStores }, { on := 2, ground := Ground.phase }, { on := 3, ground := Ground.phase }], guard := none } : Oper)) rfl (fun Kq hK => ?_) ?_
        · refine Eq.mpr (if_pos (by kernel_rfl)) ?_
          refine wp_store_mid 32 _ _ rfl (V5.heap.size) 0 #[x0, x1, x2, .int .i64 K, .int .i64 S, .int .i64 P, .int .i64 O, .int .i8 Z, x8, .slice WA nW cW, .slice BA nB cB, x11, x12, x13, x14, x15, x16, x17, x18] rfl rfl HT2.out (by kernel_rfl) (all_oneCell_toArray (cs := [x0, x1, x2, .int .i64 K, .int .i64 S, .int .i64 P, .int .i64 O, .int .i8 Z, x8, .slice WA nW cW, .slice BA nB cB, x11, x12, x13, x14, x15, x16, x17, x18]) HONE.out) ?_
          change Kq _ (V6.setCells (V5.heap.size) 0 [x0, x1, x2, .int .i64 K, .int .i64 S, .int .i64 P, .int .i64 O, .int .i8 Z, x8, .slice WA nW cW, .slice BA nB cB, x11, x12, x13, x14, x15, x16, x17, x18])
          have HN4 := Lib.hid (NodeAt.stored HT2.out x0 x1 x2 x8 x11 x12 x13 x14 x15 x16 x17 x18 K S P O Z WA BA nW cW nB cB)
          replace HT3 := Lib.hid (Kit.there_cells HT3.out [x0, x1, x2, .int .i64 K, .int .i64 S, .int .i64 P, .int .i64 O, .int .i8 Z, x8, .slice WA nW cW, .slice BA nB cB, x11, x12, x13, x14, x15, x16, x17, x18] HT2.out)
          replace hb2 : V5.heap.size < (V6.setCells (V5.heap.size) 0 [x0, x1, x2, .int .i64 K, .int .i64 S, .int .i64 P, .int .i64 O, .int .i8 Z, x8, .slice WA nW cW, .slice BA nB cB, x11, x12, x13, x14, x15, x16, x17, x18]).heap.size := by rw [Kit.size_cells]; exact hb2
          replace hb3 : V0.heap.size < (V6.setCells (V5.heap.size) 0 [x0, x1, x2, .int .i64 K, .int .i64 S, .int .i64 P, .int .i64 O, .int .i8 Z, x8, .slice WA nW cW, .slice BA nB cB, x11, x12, x13, x14, x15, x16, x17, x18]).heap.size := by rw [Kit.size_cells]; exact hb3
          replace HB3 := Lib.hid (Kit.below_cells hw2 [x0, x1, x2, .int .i64 K, .int .i64 S, .int .i64 P, .int .i64 O, .int .i8 Z, x8, .slice WA nW cW, .slice BA nB cB, x11, x12, x13, x14, x15, x16, x17, x18] 0 V6 HB3.out)
          replace HT2 := Lib.hid (Kit.there_cells HT2.out [x0, x1, x2, .int .i64 K, .int .i64 S, .int .i64 P, .int .i64 O, .int .i8 Z, x8, .slice WA nW cW, .slice BA nB cB, x11, x12, x13, x14, x15, x16, x17, x18] HT2.out)
          clear hHeld
          refine hK.out _ _ ?_ (fun hHeld => ?_)
          · exact TN.out.below yTN HB3.out
          clear hK Kq
          try simp only [Act.put]
          generalize V6.setCells (V5.heap.size) 0 [x0, x1, x2, .int .i64 K, .int .i64 S, .int .i64 P, .int .i64 O, .int .i8 Z, x8, .slice WA nW cW, .slice BA nB cB, x11, x12, x13, x14, x15, x16, x17, x18] = V7 at HB3 HT3 hb3 HT2 hb2 HN4 ⊢
          refine wpAnyH_ready (rs := [5]) (by kernel_rfl) (by simp) ?_
          refine AllReadyH.cons (o := ({ dst := none, op := Op.store 32 (Operand.tmp 14) (Operand.tmp 54), type := 0, pos := "law.go:37", after := #[{ on := 3, ground := Ground.data }, { on := 1, ground := Ground.data }, { on := 4, ground := Ground.chain }, { on := 0, ground := Ground.phase }, { on := 1, ground := Ground.phase }, { on := 2, ground := Ground.phase }, { on := 3, ground := Ground.phase }, { on := 4, ground := Ground.phase }], guard := none } : Oper)) rfl (fun Kq hK => ?_) ?_
          · refine Eq.mpr (if_pos (by kernel_rfl)) ?_
            refine wp_store_mid 32 _ _ rfl (V0.heap.size) 0 #[x0, x1, x2, .int .i64 K, .int .i64 S, .int .i64 P, .int .i64 O, .int .i8 Z, x8, .slice WA nW cW, .slice BA nB cB, x11, x12, x13, x14, x15, x16, x17, x18] rfl rfl HT3.out (by kernel_rfl) (all_oneCell_toArray (cs := [x0, x1, x2, .int .i64 K, .int .i64 S, .int .i64 P, .int .i64 O, .int .i8 Z, x8, .slice WA nW cW, .slice BA nB cB, x11, x12, x13, x14, x15, x16, x17, x18]) HONE.out) ?_
            change Kq _ (V7.setCells (V0.heap.size) 0 [x0, x1, x2, .int .i64 K, .int .i64 S, .int .i64 P, .int .i64 O, .int .i8 Z, x8, .slice WA nW cW, .slice BA nB cB, x11, x12, x13, x14, x15, x16, x17, x18])
            have HN5 := Lib.hid (NodeAt.stored HT3.out x0 x1 x2 x8 x11 x12 x13 x14 x15 x16 x17 x18 K S P O Z WA BA nW cW nB cB)
            replace HN4 := Lib.hid (HN4.out.apart hne.symm 0 [x0, x1, x2, .int .i64 K, .int .i64 S, .int .i64 P, .int .i64 O, .int .i8 Z, x8, .slice WA nW cW, .slice BA nB cB, x11, x12, x13, x14, x15, x16, x17, x18])
            replace HT2 := Lib.hid (Kit.there_cells HT2.out [x0, x1, x2, .int .i64 K, .int .i64 S, .int .i64 P, .int .i64 O, .int .i8 Z, x8, .slice WA nW cW, .slice BA nB cB, x11, x12, x13, x14, x15, x16, x17, x18] HT3.out)
            replace hb2 : V5.heap.size < (V7.setCells (V0.heap.size) 0 [x0, x1, x2, .int .i64 K, .int .i64 S, .int .i64 P, .int .i64 O, .int .i8 Z, x8, .slice WA nW cW, .slice BA nB cB, x11, x12, x13, x14, x15, x16, x17, x18]).heap.size := by rw [Kit.size_cells]; exact hb2
            replace hb3 : V0.heap.size < (V7.setCells (V0.heap.size) 0 [x0, x1, x2, .int .i64 K, .int .i64 S, .int .i64 P, .int .i64 O, .int .i8 Z, x8, .slice WA nW cW, .slice BA nB cB, x11, x12, x13, x14, x15, x16, x17, x18]).heap.size := by rw [Kit.size_cells]; exact hb3
            replace HB3 := Lib.hid (Kit.below_cells hw3 [x0, x1, x2, .int .i64 K, .int .i64 S, .int .i64 P, .int .i64 O, .int .i8 Z, x8, .slice WA nW cW, .slice BA nB cB, x11, x12, x13, x14, x15, x16, x17, x18] 0 V7 HB3.out)
            replace HT3 := Lib.hid (Kit.there_cells HT3.out [x0, x1, x2, .int .i64 K, .int .i64 S, .int .i64 P, .int .i64 O, .int .i8 Z, x8, .slice WA nW cW, .slice BA nB cB, x11, x12, x13, x14, x15, x16, x17, x18] HT3.out)
            clear hHeld
            refine hK.out _ _ ?_ (fun hHeld => ?_)
            · exact TN.out.below yTN HB3.out
            clear hK Kq
            try simp only [Act.put]
            generalize V7.setCells (V0.heap.size) 0 [x0, x1, x2, .int .i64 K, .int .i64 S, .int .i64 P, .int .i64 O, .int .i8 Z, x8, .slice WA nW cW, .slice BA nB cB, x11, x12, x13, x14, x15, x16, x17, x18] = V8 at HB3 HT3 hb3 HT2 hb2 HN4 HN5 ⊢
            refine wpAnyH_done (by kernel_rfl) ?_ _
            go_wp2_with fail
            go_meet
            exact ⟨V5.heap.size, V0.heap.size, rfl, rfl, hw2, hw3, hne.symm, HN4, HT2, HN5, HT3, hb2, hb3, HB3⟩
          exact AllReadyH.nil
        exact AllReadyH.nil
      exact AllReadyH.nil
    exact AllReadyH.nil
  case rest =>
    obtain ⟨g13, g14, rfl, rfl, hg13, hg14, hg34, N13, T13, N14, T14, y13, y14, HB3⟩ := hcut
    have n6 := (TN.out.below yTN HB3.out).at 6 _ rfl
    have n10 := (TN.out.below yTN HB3.out).at 10 _ rfl
    have yN : w.heap.size + 1 < wc.heap.size := Nat.lt_of_lt_of_le yTN HB3.out.size
    go_upto_region 9 with fail
    go_cut [63] from 60 to 65 (fun s63 wx => ∃ g6 c6 : Nat, W3.heap.size ≤ g6 ∧ g6 ≠ g13 ∧ g6 ≠ g14 ∧ g6 < wx.heap.size ∧ Hid (∀ j u, (I32v bs)[j]? = some u → wx.cell? ⟨g6, j, none⟩ = some u) ∧ Hid (∀ j, wx.frozen? ⟨g6, j, none⟩ = false) ∧ Hid (NodeAt g13 x0 x1 x2 x8 x11 x12 x13 x14 x15 x16 x17 x18 K S P O Z WA (some ⟨g6, 0, none⟩) nW cW nB c6 wx) ∧ Hid (wx.there g13 0 19) ∧ Hid (NodeAt g14 x0 x1 x2 x8 x11 x12 x13 x14 x15 x16 x17 x18 K S P O Z WA BA nW cW nB cB wx) ∧ Hid (wx.there g14 0 19) ∧ g13 < wx.heap.size ∧ g14 < wx.heap.size ∧ Hid (Below W3.heap.size W3 wx))
    case first =>
      obtain ⟨i0, hi0, hi1, hi2, hi3⟩ := info_parts info_i32
      go_wp2_with (at_builtin
                   refine Kit.wpList_append_rd _ rfl (.tmp 60) (.tmp 62) _ rfl wc.heap.size 21 i0 (.int .i32 0) 1 4 Try.underlying28 hi0 hi1 hi2 hi3 rfl (by decide) _ 0 [] rfl (own_empty32 wc _) W3.heap.size BA nB cB (I32v bs) rfl (by simp [I32v, HBS.out]) ((HRB.out.below HB3.out).alloc HB3.out.size _) (Kit.ints_one .i32 bs) (by unfold maxLen; omega) (by omega) (by simp) ?_
                   intro v1 w1 hown1 hg1 hat1
                   have hB : Below wc.heap.size wc w1 := ((Below.refl _ _).alloc (Nat.le_refl _) _).grown hg1 (by simp) (fun q hq => Kit.own_block_ge (own_empty32 wc 21) q hq)
                   rw [Nat.zero_add, List.nil_append] at hown1
                   obtain ⟨g6, c6, rfl, hgb, hgs, hnc, hcm, hcells, hfrz⟩ := own_cells hown1 (by omega)
                   have hz6 := HB3.out.size
                   have hq3 : g6 ≠ g13 := by omega
                   have hq4 : g6 ≠ g14 := by omega
                   have hq0 : W3.heap.size ≤ g6 := by omega
                   replace HB3 := Lib.hid (HB3.out.trans (hB.mono HB3.out.size))
                   replace N13 := Lib.hid (N13.out.below y13 hB)
                   replace T13 := Lib.hid (Kit.there_below T13.out hB y13)
                   replace N14 := Lib.hid (N14.out.below y14 hB)
                   replace T14 := Lib.hid (Kit.there_below T14.out hB y14)
                   replace y13 := Nat.lt_of_lt_of_le y13 hB.size
                   replace y14 := Nat.lt_of_lt_of_le y14 hB.size
                   have m10 := N13.out.at 10 _ rfl
                   have fm10 := there_at T13.out (i := 10) (by decide)
                   have HC6 := Lib.hid hcells
                   have HF6 := Lib.hid hfrz
                   clear hown1 hg1 hat1 hcells hfrz hB hgb hnc hcm hz6)
      go_meet
      have hs10 : (w1.cell? ⟨g13, 10, none⟩).isSome = true := by rw [m10]; rfl
      refine ⟨g6, c6, hq0, hq3, hq4, by simpa using hgs, Lib.hid (fun j u h => ?_), Lib.hid (fun j => ?_), Lib.hid (N13.out.set10 _ _ _), Lib.hid (there_set T13.out _ _ hs10), Lib.hid (N14.out.oth hg34.symm _), Lib.hid (there_set T14.out _ _ hs10), by simpa using y13, by simpa using y14, Lib.hid (HB3.out.setCell (p := ⟨g13, 10, none⟩) hg13 _)⟩
      · rw [World.cell?_setCell_other _ _ _ _ (by intro q; cases q; exact hq3 rfl)]; exact HC6.out j u h
      · rw [World.frozen?_setCell]; exact HF6.out j
    case rest =>
      clear N13 T13 N14 T14 y13 y14 HB3 n6 n10 yN
      obtain ⟨g6, c6, hq0, hq3, hq4, y6, HC6, HF6, N13, T13, N14, T14, y13, y14, HB3⟩ := hcut
      have m10 := N13.out.at 10 _ rfl
      have hIo : (I32v bs)[o]? = some (.int .i32 (bs.getD o 0)) := by
        unfold I32v
        rw [List.getElem?_map, List.getElem?_eq_getElem (by have := HBS.out; omega), List.getD_eq_getElem?_getD, List.getElem?_eq_getElem (by have := HBS.out; omega)]; rfl
      have k6 := HC6.out o _ hIo
      have f6 := HF6.out o
      have hob := HB32.out o
      obtain ⟨bo, hbo⟩ : ∃ v, bs.getD o 0 = v := ⟨_, rfl⟩
      rw [hbo] at k6 hob
      obtain ⟨v2, hv2⟩ : ∃ v, IntKind.i32.wrap (bo + y) = v := ⟨_, rfl⟩
      have HB2 : Hid (I32v bs2 = (I32v bs).set o (.int .i32 v2)) := Lib.hid (by rw [HBS2.out, hbo, hv2]; unfold I32v; rw [List.map_set])
      have HV2 := Lib.hid hv2
      have o0 : (0 : Int) ≤ (o : Int) := by omega
      have o1 : (o : Int) < (nB : Int) := by omega
      clear hbo hIo
      go_upto_region 10 with fail
      go_cut [66] from 65 to 73 (fun s66 wx => g6 < wx.heap.size ∧ Hid (Kit.Rd wx wx.heap.size (some ⟨g6, 0, none⟩) (I32v bs2)) ∧ Hid (NodeAt g13 x0 x1 x2 x8 x11 x12 x13 x14 x15 x16 x17 x18 K S P O Z WA (some ⟨g6, 0, none⟩) nW cW nB c6 wx) ∧ Hid (wx.there g13 0 19) ∧ Hid (NodeAt g14 x0 x1 x2 x8 x11 x12 x13 x14 x15 x16 x17 x18 K S P O Z WA BA nW cW nB cB wx) ∧ Hid (wx.there g14 0 19) ∧ g13 < wx.heap.size ∧ g14 < wx.heap.size ∧ Hid (Below W3.heap.size W3 wx))
      case first =>
        go_wp2_with fail
        go_meet
        have hs6 : (wc.cell? ⟨g6, o, none⟩).isSome = true := by rw [k6]; rfl
        refine ⟨by simpa using y6, Lib.hid ?_, Lib.hid (N13.out.oth hq3.symm _), Lib.hid (there_set T13.out _ _ hs6), Lib.hid (N14.out.oth hq4.symm _), Lib.hid (there_set T14.out _ _ hs6), by simpa using y13, by simpa using y14, Lib.hid (HB3.out.setCell (p := ⟨g6, o, none⟩) hq0 _)⟩
        rw [HB2.out]
        exact rd_set _ (by simpa using y6) HC6.out
      case rest =>
        clear N13 T13 N14 T14 y13 y14 HB3 m10 k6 f6 y6 HC6 HF6 o0 o1 hob hv2
        obtain ⟨y6, RM, N13, T13, N14, T14, y13, y14, HB3⟩ := hcut
        have n9 := (TN.out.below yTN HB3.out).at 9 _ rfl
        have z9 := N14.out.at 9 _ rfl
        have fz9 := there_at T14.out (i := 9) (by decide)
        obtain ⟨i0, hi0, hi1, hi2, hi3⟩ := info_parts info_i8
        have hmk : ∀ w : World, (Instr.makeSlice 24 (.int .i64 (nW : Int)) (.int .i64 (nW : Int))).run Try.prog w = .ok (.slice (some ⟨w.heap.size, 0, none⟩) nW nW) (w.alloc (.cells (List.replicate nW (.int .i8 0)).toArray 27)) := fun w => by
          have h := run_make (P := Try.prog) w 24 27 i0 (.int .i8 0) Try.underlying24 hi0 hi1 .i64 .i64 nW nW (by omega) (Int.le_refl _) (by rw [hi3]; omega) (by omega)
          rw [hi2, Nat.mul_one, show (Value.int .i8 0).cells = #[.int .i8 0] from rfl] at h
          have e : madeCells #[Value.int .i8 0] nW = (List.replicate nW (.int .i8 0)).toArray := by
            apply Array.ext'
            rw [toList_madeCells_one]
          simp only [Int.toNat_natCast] at h
          rw [e] at h
          exact h
        clear hi0 hi1 hi2 hi3
        go_upto_region 11 with fail
        go_cut [75] from 73 to 78 (fun s75 wx => ∃ A7 : Option Addr, Hid (Kit.Rd wx wx.heap.size A7 (I8s (List.replicate nW 0))) ∧ Hid (Kit.Rd wx wx.heap.size (some ⟨g6, 0, none⟩) (I32v bs2)) ∧ Hid (NodeAt g13 x0 x1 x2 x8 x11 x12 x13 x14 x15 x16 x17 x18 K S P O Z WA (some ⟨g6, 0, none⟩) nW cW nB c6 wx) ∧ Hid (wx.there g13 0 19) ∧ Hid (NodeAt g14 x0 x1 x2 x8 x11 x12 x13 x14 x15 x16 x17 x18 K S P O Z A7 BA nW nW nB cB wx) ∧ Hid (wx.there g14 0 19) ∧ g13 < wx.heap.size ∧ g14 < wx.heap.size ∧ Hid (Below W3.heap.size W3 wx))
        case first =>
          have hne14 : g14 ≠ wc.heap.size := by omega
          have hne14' : ¬ wc.heap.size = g14 := by omega
          go_wp2_with fail
          go_meet
          have hz9 : (wc.cell? ⟨g14, 9, none⟩).isSome = true := by rw [z9]; rfl
          obtain ⟨W5, hW5⟩ : ∃ W5, wc.setCell ⟨g14, 9, none⟩ (.slice (some ⟨wc.heap.size, 0, none⟩) nW nW) = W5 := ⟨_, rfl⟩
          have e5 : W5.heap.size = wc.heap.size := by rw [← hW5]; simp
          have a13 := N13.out.oth (i := 9) hg34 (.slice (some ⟨wc.heap.size, 0, none⟩) nW nW)
          have a14 := N14.out.set9 (some ⟨wc.heap.size, 0, none⟩) nW nW
          have b13 := there_set T13.out _ (.slice (some ⟨wc.heap.size, 0, none⟩) nW nW) hz9
          have b14 := there_set T14.out _ (.slice (some ⟨wc.heap.size, 0, none⟩) nW nW) hz9
          have aR := rd_oth RM.out (q := ⟨g14, 9, none⟩) hq4 (.slice (some ⟨wc.heap.size, 0, none⟩) nW nW)
          have aB := HB3.out.setCell (p := ⟨g14, 9, none⟩) hg14 (.slice (some ⟨wc.heap.size, 0, none⟩) nW nW)
          rw [hW5] at a13 a14 b13 b14 aR aB ⊢
          have hal5 : Below W5.heap.size W5 (W5.alloc (.cells (List.replicate nW (.int .i8 0)).toArray 27)) := (Below.refl _ _).alloc (Nat.le_refl _) _
          have RZ0 := Kit.Rd.new W5 (List.replicate nW (.int .i8 0)) 27 (B := W5.heap.size + 1) (Nat.lt_succ_self _)
          rw [e5] at RZ0
          have RZ1 := RZ0.more (B' := (W5.alloc (.cells (List.replicate nW (.int .i8 0)).toArray 27)).heap.size) (by simp [e5])
          exact ⟨some ⟨wc.heap.size, 0, none⟩, Lib.hid (by simpa [I8s] using RZ1), Lib.hid (((aR.more (B' := W5.heap.size) (by omega)).below hal5).more hal5.size), Lib.hid (a13.below (by omega) hal5), Lib.hid (Kit.there_below b13 hal5 (by omega)), Lib.hid (a14.below (by omega) hal5), Lib.hid (Kit.there_below b14 hal5 (by omega)), by simp; omega, by simp; omega, Lib.hid (aB.alloc (by have := aB.size; omega) _)⟩
        case rest =>
          clear RM N13 T13 N14 T14 y13 y14 HB3 n9 z9 fz9 hmk y6
          obtain ⟨A7, RZ, RM, N13, T13, N14, T14, yN13, yN14, HB3⟩ := hcut
          replace TB := Lib.hid (TB.out.below yTB HB3.out)
          replace TN := Lib.hid (TN.out.below yTN HB3.out)
          replace TA2 := Lib.hid (TA2.out.below yTA2 HB3.out)
          replace HR := Lib.hid ((HR.out.below HB3.out).more HB3.out.size)
          replace HRW := Lib.hid ((HRW.out.below HB3.out).more HB3.out.size)
          replace HRB := Lib.hid ((HRB.out.below HB3.out).more HB3.out.size)
          replace RA2 := Lib.hid ((RA2.out.below HB3.out).more HB3.out.size)
          replace HBW := Lib.hid (HBW.out.trans (HB3.out.mono HBW.out.size))
          replace yTB := Nat.lt_of_lt_of_le yTB HB3.out.size
          replace yTN := Nat.lt_of_lt_of_le yTN HB3.out.size
          replace yTA2 := Nat.lt_of_lt_of_le yTA2 HB3.out.size
          clear HB3 T13 T14
          obtain ⟨tbp0, tbp1, tbp2, tbp3⟩ := TB.out
          obtain ⟨ta2p0, ta2p1, ta2p2, ta2p3⟩ := TA2.out
          go_wp2_with (first
            | (go_at_call 9
               have hal : Below wc.heap.size wc wc := Below.refl _ _
               refine (HAM.out _ g6 c6 ((HR.out.below hal).more hal.size) ((HRW.out.below hal).more hal.size) ((RM.out.below hal).more hal.size)).mono ?_
               rintro e w5 ⟨v5, rfl, ho5, hb⟩
               have hh : Below wc.heap.size wc w5 := hal.trans (hb.mono hal.size)
               replace TB := Lib.hid (TB.out.below yTB hh)
               replace yTB := Nat.lt_of_lt_of_le yTB hh.size
               replace TN := Lib.hid (TN.out.below yTN hh)
               replace yTN := Nat.lt_of_lt_of_le yTN hh.size
               replace TA2 := Lib.hid (TA2.out.below yTA2 hh)
               replace yTA2 := Nat.lt_of_lt_of_le yTA2 hh.size
               replace N13 := Lib.hid (N13.out.below yN13 hh)
               replace yN13 := Nat.lt_of_lt_of_le yN13 hh.size
               replace N14 := Lib.hid (N14.out.below yN14 hh)
               replace yN14 := Nat.lt_of_lt_of_le yN14 hh.size
               replace HR := Lib.hid ((HR.out.below hh).more hh.size)
               replace HRW := Lib.hid ((HRW.out.below hh).more hh.size)
               replace HRB := Lib.hid ((HRB.out.below hh).more hh.size)
               replace RA2 := Lib.hid ((RA2.out.below hh).more hh.size)
               replace RM := Lib.hid ((RM.out.below hh).more hh.size)
               replace RZ := Lib.hid ((RZ.out.below hh).more hh.size)
               replace HBW := Lib.hid (HBW.out.trans (hh.mono HBW.out.size))
               clear tbp0 tbp1 tbp2 tbp3 ta2p0 ta2p1 ta2p2 ta2p3
               obtain ⟨A5, c5, rfl, -, -, hrd5⟩ := Kit.own_rd ho5
               have RA5 := Lib.hid hrd5
               clear ho5 hrd5
               obtain ⟨tbp0, tbp1, tbp2, tbp3⟩ := TB.out
               obtain ⟨ta2p0, ta2p1, ta2p2, ta2p3⟩ := TA2.out
               clear hb hh hal)
            | (go_at_call 9
               have hal : Below w5.heap.size w5 (w5.alloc (.cells #[.int .i64 (a : Int), .int .i64 (b : Int), .int .i64 O, .slice A5 N c5] 36)) := (Below.refl _ _).alloc (by first | exact Nat.le_refl _ | (simp; done) | (simp; omega)) _
               refine (HAZ.out _ A7 ((HR.out.below hal).more hal.size) ((RZ.out.below hal).more hal.size) ((HRB.out.below hal).more hal.size)).mono ?_
               rintro e w6 ⟨v6, rfl, ho6, hb⟩
               have hh : Below w5.heap.size w5 w6 := hal.trans (hb.mono hal.size)
               have qTA5 := (boxNew (a : Int) (b : Int) O A5 N c5 36) w5
               try simp only [World.size_alloc] at qTA5
               have TA5 := Lib.hid (qTA5.below (by first | (simp; done) | (simp; omega)) hb)
               have yTA5 : w5.heap.size < w6.heap.size := by have := hb.size; simp at this; omega
               clear qTA5
               replace TB := Lib.hid (TB.out.below yTB hh)
               replace yTB := Nat.lt_of_lt_of_le yTB hh.size
               replace TN := Lib.hid (TN.out.below yTN hh)
               replace yTN := Nat.lt_of_lt_of_le yTN hh.size
               replace TA2 := Lib.hid (TA2.out.below yTA2 hh)
               replace yTA2 := Nat.lt_of_lt_of_le yTA2 hh.size
               replace N13 := Lib.hid (N13.out.below yN13 hh)
               replace yN13 := Nat.lt_of_lt_of_le yN13 hh.size
               replace N14 := Lib.hid (N14.out.below yN14 hh)
               replace yN14 := Nat.lt_of_lt_of_le yN14 hh.size
               replace HR := Lib.hid ((HR.out.below hh).more hh.size)
               replace HRW := Lib.hid ((HRW.out.below hh).more hh.size)
               replace HRB := Lib.hid ((HRB.out.below hh).more hh.size)
               replace RA2 := Lib.hid ((RA2.out.below hh).more hh.size)
               replace RM := Lib.hid ((RM.out.below hh).more hh.size)
               replace RZ := Lib.hid ((RZ.out.below hh).more hh.size)
               replace RA5 := Lib.hid ((RA5.out.below hh).more hh.size)
               replace HBW := Lib.hid (HBW.out.trans (hh.mono HBW.out.size))
               clear tbp0 tbp1 tbp2 tbp3 ta2p0 ta2p1 ta2p2 ta2p3
               obtain ⟨A6, c6', rfl, -, -, hrd6⟩ := Kit.own_rd ho6
               have RA6 := Lib.hid hrd6
               clear ho6 hrd6
               obtain ⟨tbp0, tbp1, tbp2, tbp3⟩ := TB.out
               obtain ⟨ta2p0, ta2p1, ta2p2, ta2p3⟩ := TA2.out
               obtain ⟨ta5p0, ta5p1, ta5p2, ta5p3⟩ := TA5.out
               clear hb hh hal)
            | (refine wpList_load_mid rfl 32 (.tmp 13) rfl (g13) 0 rfl [x0, x1, x2, .int .i64 K, .int .i64 S, .int .i64 P, .int .i64 O, .int .i8 Z, x8, .slice WA nW cW, .slice (some ⟨g6, 0, none⟩) nB c6, x11, x12, x13, x14, x15, x16, x17, x18] _ (N13.out) Try.underlying32 rfl (by kernel_rfl) ?_)
            | (refine wpList_load_mid rfl 32 (.tmp 14) rfl (g14) 0 rfl [x0, x1, x2, .int .i64 K, .int .i64 S, .int .i64 P, .int .i64 O, .int .i8 Z, x8, .slice A7 nW nW, .slice BA nB cB, x11, x12, x13, x14, x15, x16, x17, x18] _ (N14.out.below yN14 ((Below.refl _ _).alloc (Nat.le_refl _) _)) Try.underlying32 rfl (by kernel_rfl) ?_))
          have hal : Below w6.heap.size w6 (w6.alloc (.cells #[.int .i64 (a : Int), .int .i64 (b : Int), .int .i64 O, .slice A6 N c6'] 36)) := (Below.refl _ _).alloc (Nat.le_refl _) _
          replace TN := Lib.hid (TN.out.below yTN hal)
          replace TA2 := Lib.hid (TA2.out.below yTA2 hal)
          replace TA5 := Lib.hid (TA5.out.below yTA5 hal)
          have TA6 := Lib.hid (boxNew (a : Int) (b : Int) O A6 N c6' 36 w6)
          have yTA6 : w6.heap.size < (w6.alloc (.cells #[.int .i64 (a : Int), .int .i64 (b : Int), .int .i64 O, .slice A6 N c6'] 36)).heap.size := by simp
          replace HRB := Lib.hid ((HRB.out.below hal).more hal.size)
          replace RA2 := Lib.hid ((RA2.out.below hal).more hal.size)
          replace RA5 := Lib.hid ((RA5.out.below hal).more hal.size)
          replace RA6 := Lib.hid ((RA6.out.below hal).more hal.size)
          replace HBW := Lib.hid (HBW.out.trans (hal.mono HBW.out.size))
          replace yTN := Nat.lt_of_lt_of_le yTN hal.size
          replace yTA2 := Nat.lt_of_lt_of_le yTA2 hal.size
          replace yTA5 := Nat.lt_of_lt_of_le yTA5 hal.size
          clear hal tbp0 tbp1 tbp2 tbp3 ta2p0 ta2p1 ta2p2 ta2p3 ta5p0 ta5p1 ta5p2 ta5p3 TB N13 N14 yN13 yN14 HR HRW RM RZ
          generalize hWm : (w6.alloc (.cells #[.int .i64 (a : Int), .int .i64 (b : Int), .int .i64 O, .slice A6 N c6'] 36)) = Wm at TN TA2 TA5 TA6 HRB RA2 RA5 RA6 HBW yTN yTA2 yTA5 yTA6
          have HWM := Lib.hid hWm
          clear hWm
          go_loopw [20] (fun u wr => ∃ i : Nat, i ≤ N ∧ u = .int .i64 i ∧ Hid (Below Wm.heap.size Wm wr)) (fun u _ => N - (intOf u).toNat)
          case atStart => exact ⟨0, Nat.zero_le _, rfl, Lib.hid (by have h := HWM.out; subst h; exact Below.refl _ _)⟩
          case round =>
            obtain ⟨i, hi, rfl, hB0⟩ := hrel
            obtain ⟨ta0, ta1, ta2, ta3⟩ := TA2.out.below yTA2 hB0.out
            by_cases hlt : i < N
            · obtain ⟨tb0, tb1, tb2, tb3⟩ := TA5.out.below yTA5 hB0.out
              obtain ⟨tc0, tc1, tc2, tc3⟩ := TA6.out.below yTA6 hB0.out
              have n6 := (TN.out.below yTN hB0.out).at 6 _ rfl
              have n10 := (TN.out.below yTN hB0.out).at 10 _ rfl
              obtain ⟨q, hq⟩ : ∃ q, i % oo = q := ⟨_, rfl⟩
              have hqlt : q < oo := by rw [← hq]; exact Nat.mod_lt _ (by omega)
              have hi0 : (0 : Int) ≤ (i : Int) := by omega
              have hiI : (i : Int) < (N : Int) := by omega
              have hq0 : (0 : Int) ≤ (q : Int) := by omega
              have hqI : (q : Int) < (nB : Int) := by have := HNBO.out; omega
              have hqm : (i : Int).tmod O = (q : Int) := by rw [Int.tmod_eq_emod_of_nonneg hi0, HOO.out, ← hq, Int.natCast_emod]
              have hqw : IntKind.i64.wrap (q : Int) = (q : Int) := IntWalk.i64_in _ (by omega)
              obtain ⟨b2, o2, rfl, -, hc2⟩ := ints_getD (RA2.out.below hB0.out) (j := i) (by rw [rowL_len]; omega)
              obtain ⟨b5, o5, rfl, -, hc5⟩ := ints_getD (RA5.out.below hB0.out) (j := i) (by rw [rowL_len]; omega)
              obtain ⟨b6, o6, rfl, -, hc6⟩ := ints_getD (RA6.out.below hB0.out) (j := i) (by rw [rowL_len]; omega)
              obtain ⟨bb, ob, rfl, -, hcb⟩ := ints_getD (HRB.out.below hB0.out) (j := q) (by have := HNBO.out; have := HBS.out; omega)
              have k2 := hc2 i (by rw [rowL_len]; omega)
              have k5 := hc5 i (by rw [rowL_len]; omega)
              have k6 := hc6 i (by rw [rowL_len]; omega)
              have kb := hcb q (by have := HNBO.out; have := HBS.out; omega)
              rw [rowL_getD _ hlt] at k2 k5 k6
              have e2 := HF2.out i
              have e3 := HF3.out i
              rw [hq] at e2 e3
              rw [← e3] at kb
              clear hc2 hc5 hc6 hcb hq e3
              obtain ⟨f1, hf1'⟩ : ∃ f, F1 i = f := ⟨_, rfl⟩
              obtain ⟨f2, hf2'⟩ : ∃ f, F2 i = f := ⟨_, rfl⟩
              obtain ⟨f3, hf3'⟩ : ∃ f, F3 i = f := ⟨_, rfl⟩
              rw [hf1'] at k2 e2
              rw [hf2'] at k5 e2
              rw [hf3'] at k6 kb
              clear hf1' hf2' hf3'
              by_cases hio : q = o
              · rw [if_pos hio] at e2
                have r1 : ((q : Int) == (o : Int)) = true := by simp; omega
                have r2 : decide ((q : Int) = (o : Int)) = true := by simp; omega
                have r3 := e2.symm
                clear e2 hio
                go_wp2_with fail
                refine wp_region_held_drew (S := fun w' => w'.cell? ⟨w5.heap.size, 3, none⟩ = some (.slice (some ⟨b5, o5, none⟩) N c5) ∧ w'.cell? ⟨b5, o5 + i, none⟩ = some (.int .i32 f2) ∧ w'.cell? ⟨w6.heap.size, 3, none⟩ = some (.slice (some ⟨b6, o6, none⟩) N c6') ∧ w'.cell? ⟨b6, o6 + i, none⟩ = some (.int .i32 f3) ∧ w'.cell? ⟨w.heap.size + 1, 10, none⟩ = some (.slice (some ⟨bb, ob, none⟩) nB cB) ∧ w'.cell? ⟨w.heap.size + 1, 6, none⟩ = some (.int .i64 O) ∧ w'.cell? ⟨bb, ob + q, none⟩ = some (.int .i32 f3)) (by kernel_rfl) ⟨tb3, k5, tc3, k6, n10, n6, kb⟩ (fun hHeld => ?_)
                refine wpAnyH_take (i := 0) (oi := ({ dst := some 139, op := Op.fieldAddr 36 (Operand.tmp 16) 1, type := 0, pos := "law.go:52", after := #[], guard := none } : Oper)) (v := ?_) rfl (by kernel_rfl) (by kernel_rfl) (by kernel_rfl) (fun _ _ _ h => h) (Or.inl ⟨by rfl, ?_⟩) (by assumption) ?_
                rotate_left
                · intro wS hSw
                  first
                    | (go_simp; done)
                    | (go_simp; with_reducible rfl)
                try simp only [Act.put, List.setIfInBounds_toArray, List.set_cons_zero, List.set_cons_succ]
                refine wpAnyH_take (i := 1) (oi := ({ dst := some 140, op := Op.load 28 (Operand.tmp 139), type := 28, pos := "law.go:52", after := #[{ on := 0, ground := Ground.data }], guard := none } : Oper)) (v := ?_) rfl (by kernel_rfl) (by kernel_rfl) (by kernel_rfl) (fun _ _ _ h => h) (Or.inl ⟨by rfl, ?_⟩) (by assumption) ?_
                rotate_left
                · intro wS hSw
                  obtain ⟨v1, v2, v3, v4, v5, v6, v7⟩ := hSw
                  first
                    | (go_simp; done)
                    | (go_simp; with_reducible rfl)
                try simp only [Act.put, List.setIfInBounds_toArray, List.set_cons_zero, List.set_cons_succ]
                refine wpAnyH_take (i := 2) (oi := ({ dst := some 141, op := Op.move (Operand.tmp 20), type := 3, pos := "law.go:52", after := #[], guard := none } : Oper)) (v := ?_) rfl (by kernel_rfl) (by kernel_rfl) (by kernel_rfl) (fun _ _ _ h => h) (Or.inl ⟨by rfl, ?_⟩) (by assumption) ?_
                rotate_left
                · intro wS hSw
                  first
                    | (go_simp; done)
                    | (go_simp; with_reducible rfl)
                try simp only [Act.put, List.setIfInBounds_toArray, List.set_cons_zero, List.set_cons_succ]
                refine wpAnyH_take (i := 3) (oi := ({ dst := some 142, op := Op.indexAddr 28 (Operand.tmp 140) (Operand.tmp 141), type := 0, pos := "law.go:52", after := #[{ on := 1, ground := Ground.data }, { on := 2, ground := Ground.data }], guard := none } : Oper)) (v := ?_) rfl (by kernel_rfl) (by kernel_rfl) (by kernel_rfl) (fun _ _ _ h => h) (Or.inl ⟨by rfl, ?_⟩) (by assumption) ?_
                rotate_left
                · intro wS hSw
                  first
                    | (go_simp; done)
                    | (go_simp; with_reducible rfl)
                try simp only [Act.put, List.setIfInBounds_toArray, List.set_cons_zero, List.set_cons_succ]
                refine wpAnyH_take (i := 4) (oi := ({ dst := some 143, op := Op.load 21 (Operand.tmp 142), type := 21, pos := "law.go:52", after := #[{ on := 3, ground := Ground.data }], guard := none } : Oper)) (v := ?_) rfl (by kernel_rfl) (by kernel_rfl) (by kernel_rfl) (fun _ _ _ h => h) (Or.inl ⟨by rfl, ?_⟩) (by assumption) ?_
                rotate_left
                · intro wS hSw
                  obtain ⟨v1, v2, v3, v4, v5, v6, v7⟩ := hSw
                  first
                    | (go_simp; done)
                    | (go_simp; with_reducible rfl)
                try simp only [Act.put, List.setIfInBounds_toArray, List.set_cons_zero, List.set_cons_succ]
                refine wpAnyH_take (i := 5) (oi := ({ dst := some 144, op := Op.move (Operand.tmp 21), type := 21, pos := "law.go:52", after := #[], guard := none } : Oper)) (v := ?_) rfl (by kernel_rfl) (by kernel_rfl) (by kernel_rfl) (fun _ _ _ h => h) (Or.inl ⟨by rfl, ?_⟩) (by assumption) ?_
                rotate_left
                · intro wS hSw
                  first
                    | (go_simp; done)
                    | (go_simp; with_reducible rfl)
                try simp only [Act.put, List.setIfInBounds_toArray, List.set_cons_zero, List.set_cons_succ]
                refine wpAnyH_take (i := 6) (oi := ({ dst := some 145, op := Op.binOp BinOp.neq 21 (Operand.tmp 143) (Operand.tmp 144) 21, type := 4, pos := "law.go:52", after := #[{ on := 4, ground := Ground.data }, { on := 5, ground := Ground.data }], guard := none } : Oper)) (v := ?_) rfl (by kernel_rfl) (by kernel_rfl) (by kernel_rfl) (fun _ _ _ h => h) (Or.inl ⟨by rfl, ?_⟩) (by assumption) ?_
                rotate_left
                · intro wS hSw
                  first
                    | (go_simp; done)
                    | (go_simp; with_reducible rfl)
                try simp only [Act.put, List.setIfInBounds_toArray, List.set_cons_zero, List.set_cons_succ]
                refine wpAnyH_take (i := 7) (oi := ({ dst := some 146, op := Op.move (Operand.tmp 145), type := 4, pos := "law.go:52", after := #[{ on := 6, ground := Ground.data }], guard := none } : Oper)) (v := ?_) rfl (by kernel_rfl) (by kernel_rfl) (by kernel_rfl) (fun _ _ _ h => h) (Or.inl ⟨by rfl, ?_⟩) (by assumption) ?_
                rotate_left
                · intro wS hSw
                  first
                    | (go_simp; done)
                    | (go_simp; with_reducible rfl)
                try simp only [Act.put, List.setIfInBounds_toArray, List.set_cons_zero, List.set_cons_succ]
                refine wpAnyH_take (i := 8) (oi := ({ dst := some 147, op := Op.fieldAddr 36 (Operand.tmp 18) 1, type := 0, pos := "law.go:52", after := #[{ on := 7, ground := Ground.guard }], guard := some (7, false) } : Oper)) (v := ?_) rfl (by kernel_rfl) (by kernel_rfl) (by kernel_rfl) (fun _ _ _ h => h) (Or.inl ⟨by rfl, ?_⟩) (by assumption) ?_
                rotate_left
                · intro wS hSw
                  first
                    | (go_simp; done)
                    | (go_simp; with_reducible rfl)
                try simp only [Act.put, List.setIfInBounds_toArray, List.set_cons_zero, List.set_cons_succ]
                refine wpAnyH_take (i := 9) (oi := ({ dst := some 148, op := Op.load 28 (Operand.tmp 147), type := 28, pos := "law.go:52", after := #[{ on := 8, ground := Ground.data }, { on := 7, ground := Ground.guard }], guard := some (7, false) } : Oper)) (v := ?_) rfl (by kernel_rfl) (by kernel_rfl) (by kernel_rfl) (fun _ _ _ h => h) (Or.inl ⟨by rfl, ?_⟩) (by assumption) ?_
                rotate_left
                · intro wS hSw
                  obtain ⟨v1, v2, v3, v4, v5, v6, v7⟩ := hSw
                  first
                    | (go_simp; done)
                    | (go_simp; with_reducible rfl)
                try simp only [Act.put, List.setIfInBounds_toArray, List.set_cons_zero, List.set_cons_succ]
                refine wpAnyH_take (i := 10) (oi := ({ dst := some 149, op := Op.move (Operand.tmp 20), type := 3, pos := "law.go:52", after := #[{ on := 7, ground := Ground.guard }], guard := some (7, false) } : Oper)) (v := ?_) rfl (by kernel_rfl) (by kernel_rfl) (by kernel_rfl) (fun _ _ _ h => h) (Or.inl ⟨by rfl, ?_⟩) (by assumption) ?_
                rotate_left
                · intro wS hSw
                  first
                    | (go_simp; done)
                    | (go_simp; with_reducible rfl)
                try simp only [Act.put, List.setIfInBounds_toArray, List.set_cons_zero, List.set_cons_succ]
                refine wpAnyH_take (i := 11) (oi := ({ dst := some 150, op := Op.indexAddr 28 (Operand.tmp 148) (Operand.tmp 149), type := 0, pos := "law.go:52", after := #[{ on := 9, ground := Ground.data }, { on := 10, ground := Ground.data }, { on := 7, ground := Ground.guard }], guard := some (7, false) } : Oper)) (v := ?_) rfl (by kernel_rfl) (by kernel_rfl) (by kernel_rfl) (fun _ _ _ h => h) (Or.inl ⟨by rfl, ?_⟩) (by assumption) ?_
                rotate_left
                · intro wS hSw
                  first
                    | (go_simp; done)
                    | (go_simp; with_reducible rfl)
                try simp only [Act.put, List.setIfInBounds_toArray, List.set_cons_zero, List.set_cons_succ]
                refine wpAnyH_take (i := 12) (oi := ({ dst := some 151, op := Op.load 21 (Operand.tmp 150), type := 21, pos := "law.go:52", after := #[{ on := 11, ground := Ground.data }, { on := 7, ground := Ground.guard }], guard := some (7, false) } : Oper)) (v := ?_) rfl (by kernel_rfl) (by kernel_rfl) (by kernel_rfl) (fun _ _ _ h => h) (Or.inl ⟨by rfl, ?_⟩) (by assumption) ?_
                rotate_left
                · intro wS hSw
                  obtain ⟨v1, v2, v3, v4, v5, v6, v7⟩ := hSw
                  first
                    | (go_simp; done)
                    | (go_simp; with_reducible rfl)
                try simp only [Act.put, List.setIfInBounds_toArray, List.set_cons_zero, List.set_cons_succ]
                refine wpAnyH_take (i := 13) (oi := ({ dst := some 152, op := Op.fieldAddr 32 (Operand.tmp 5) 10, type := 0, pos := "law.go:52", after := #[{ on := 7, ground := Ground.guard }], guard := some (7, false) } : Oper)) (v := ?_) rfl (by kernel_rfl) (by kernel_rfl) (by kernel_rfl) (fun _ _ _ h => h) (Or.inl ⟨by rfl, ?_⟩) (by assumption) ?_
                rotate_left
                · intro wS hSw
                  first
                    | (go_simp; done)
                    | (go_simp; with_reducible rfl)
                try simp only [Act.put, List.setIfInBounds_toArray, List.set_cons_zero, List.set_cons_succ]
                refine wpAnyH_take (i := 14) (oi := ({ dst := some 153, op := Op.load 28 (Operand.tmp 152), type := 28, pos := "law.go:52", after := #[{ on := 13, ground := Ground.data }, { on := 7, ground := Ground.guard }], guard := some (7, false) } : Oper)) (v := ?_) rfl (by kernel_rfl) (by kernel_rfl) (by kernel_rfl) (fun _ _ _ h => h) (Or.inl ⟨by rfl, ?_⟩) (by assumption) ?_
                rotate_left
                · intro wS hSw
                  obtain ⟨v1, v2, v3, v4, v5, v6, v7⟩ := hSw
                  first
                    | (go_simp; done)
                    | (go_simp; with_reducible rfl)
                try simp only [Act.put, List.setIfInBounds_toArray, List.set_cons_zero, List.set_cons_succ]
                refine wpAnyH_take (i := 15) (oi := ({ dst := some 154, op := Op.move (Operand.tmp 20), type := 3, pos := "law.go:52", after := #[{ on := 7, ground := Ground.guard }], guard := some (7, false) } : Oper)) (v := ?_) rfl (by kernel_rfl) (by kernel_rfl) (by kernel_rfl) (fun _ _ _ h => h) (Or.inl ⟨by rfl, ?_⟩) (by assumption) ?_
                rotate_left
                · intro wS hSw
                  first
                    | (go_simp; done)
                    | (go_simp; with_reducible rfl)
                try simp only [Act.put, List.setIfInBounds_toArray, List.set_cons_zero, List.set_cons_succ]
                refine wpAnyH_take (i := 16) (oi := ({ dst := some 155, op := Op.fieldAddr 32 (Operand.tmp 5) 6, type := 0, pos := "law.go:52", after := #[{ on := 7, ground := Ground.guard }], guard := some (7, false) } : Oper)) (v := ?_) rfl (by kernel_rfl) (by kernel_rfl) (by kernel_rfl) (fun _ _ _ h => h) (Or.inl ⟨by rfl, ?_⟩) (by assumption) ?_
                rotate_left
                · intro wS hSw
                  first
                    | (go_simp; done)
                    | (go_simp; with_reducible rfl)
                try simp only [Act.put, List.setIfInBounds_toArray, List.set_cons_zero, List.set_cons_succ]
                refine wpAnyH_take (i := 17) (oi := ({ dst := some 156, op := Op.load 3 (Operand.tmp 155), type := 3, pos := "law.go:52", after := #[{ on := 16, ground := Ground.data }, { on := 7, ground := Ground.guard }], guard := some (7, false) } : Oper)) (v := ?_) rfl (by kernel_rfl) (by kernel_rfl) (by kernel_rfl) (fun _ _ _ h => h) (Or.inl ⟨by rfl, ?_⟩) (by assumption) ?_
                rotate_left
                · intro wS hSw
                  obtain ⟨v1, v2, v3, v4, v5, v6, v7⟩ := hSw
                  first
                    | (go_simp; done)
                    | (go_simp; with_reducible rfl)
                try simp only [Act.put, List.setIfInBounds_toArray, List.set_cons_zero, List.set_cons_succ]
                refine wpAnyH_take (i := 18) (oi := ({ dst := some 157, op := Op.binOp BinOp.rem 3 (Operand.tmp 154) (Operand.tmp 156) 3, type := 3, pos := "law.go:52", after := #[{ on := 15, ground := Ground.data }, { on := 17, ground := Ground.data }, { on := 7, ground := Ground.guard }], guard := some (7, false) } : Oper)) (v := ?_) rfl (by kernel_rfl) (by kernel_rfl) (by kernel_rfl) (fun _ _ _ h => h) (Or.inl ⟨by rfl, ?_⟩) (by assumption) ?_
                rotate_left
                · intro wS hSw
                  first
                    | (go_simp; done)
                    | (go_simp; with_reducible rfl)
                try simp only [Act.put, List.setIfInBounds_toArray, List.set_cons_zero, List.set_cons_succ]
                refine wpAnyH_take (i := 19) (oi := ({ dst := some 158, op := Op.indexAddr 28 (Operand.tmp 153) (Operand.tmp 157), type := 0, pos := "law.go:52", after := #[{ on := 14, ground := Ground.data }, { on := 18, ground := Ground.data }, { on := 7, ground := Ground.guard }], guard := some (7, false) } : Oper)) (v := ?_) rfl (by kernel_rfl) (by kernel_rfl) (by kernel_rfl) (fun _ _ _ h => h) (Or.inl ⟨by rfl, ?_⟩) (by assumption) ?_
                rotate_left
                · intro wS hSw
                  first
                    | (go_simp; done)
                    | (go_simp; with_reducible rfl)
                try simp only [Act.put, List.setIfInBounds_toArray, List.set_cons_zero, List.set_cons_succ]
                refine wpAnyH_take (i := 20) (oi := ({ dst := some 159, op := Op.load 21 (Operand.tmp 158), type := 21, pos := "law.go:52", after := #[{ on := 19, ground := Ground.data }, { on := 7, ground := Ground.guard }], guard := some (7, false) } : Oper)) (v := ?_) rfl (by kernel_rfl) (by kernel_rfl) (by kernel_rfl) (fun _ _ _ h => h) (Or.inl ⟨by rfl, ?_⟩) (by assumption) ?_
                rotate_left
                · intro wS hSw
                  obtain ⟨v1, v2, v3, v4, v5, v6, v7⟩ := hSw
                  first
                    | (go_simp; done)
                    | (go_simp; with_reducible rfl)
                try simp only [Act.put, List.setIfInBounds_toArray, List.set_cons_zero, List.set_cons_succ]
                refine wpAnyH_take (i := 21) (oi := ({ dst := some 160, op := Op.binOp BinOp.neq 21 (Operand.tmp 151) (Operand.tmp 159) 21, type := 4, pos := "law.go:52", after := #[{ on := 12, ground := Ground.data }, { on := 20, ground := Ground.data }, { on := 7, ground := Ground.guard }], guard := some (7, false) } : Oper)) (v := ?_) rfl (by kernel_rfl) (by kernel_rfl) (by kernel_rfl) (fun _ _ _ h => h) (Or.inl ⟨by rfl, ?_⟩) (by assumption) ?_
                rotate_left
                · intro wS hSw
                  first
                    | (go_simp; done)
                    | (go_simp; with_reducible rfl)
                try simp only [Act.put, List.setIfInBounds_toArray, List.set_cons_zero, List.set_cons_succ]
                refine wpAnyH_take (i := 22) (oi := ({ dst := some 161, op := Op.pick (Operand.tmp 146) (Operand.const (Value.bool true)) (Operand.tmp 160), type := 4, pos := "law.go:52", after := #[{ on := 7, ground := Ground.data }, { on := 21, ground := Ground.data }], guard := none } : Oper)) (v := ?_) rfl (by kernel_rfl) (by kernel_rfl) (by kernel_rfl) (fun _ _ _ h => h) (Or.inl ⟨by rfl, ?_⟩) (by assumption) ?_
                rotate_left
                · intro wS hSw
                  first
                    | (go_simp; done)
                    | (go_simp; with_reducible rfl)
                try simp only [Act.put, List.setIfInBounds_toArray, List.set_cons_zero, List.set_cons_succ]
                refine wpAnyH_done (by kernel_rfl) ?_ _
                clear hHeld
                go_wp2_with fail
                go_roundw
                case rel => exact ⟨i + 1, by omega, by go_num, Lib.hid hB0.out.drew⟩
                case measure => simp [intOf]; omega
              · rw [if_neg hio] at e2
                subst e2
                have r1 : ((q : Int) == (o : Int)) = false := by simp; omega
                have r2 : decide ((q : Int) = (o : Int)) = false := by simp; omega
                have r4 : ¬ (q : Int) = (o : Int) := by omega
                clear hio
                go_wp2_with fail
                refine wp_region_held_drew (S := fun w' => w'.cell? ⟨w5.heap.size, 3, none⟩ = some (.slice (some ⟨b5, o5, none⟩) N c5) ∧ w'.cell? ⟨b5, o5 + i, none⟩ = some (.int .i32 f2) ∧ w'.cell? ⟨w6.heap.size, 3, none⟩ = some (.slice (some ⟨b6, o6, none⟩) N c6') ∧ w'.cell? ⟨b6, o6 + i, none⟩ = some (.int .i32 f3) ∧ w'.cell? ⟨w.heap.size + 1, 10, none⟩ = some (.slice (some ⟨bb, ob, none⟩) nB cB) ∧ w'.cell? ⟨w.heap.size + 1, 6, none⟩ = some (.int .i64 O) ∧ w'.cell? ⟨bb, ob + q, none⟩ = some (.int .i32 f3)) (by kernel_rfl) ⟨tb3, k5, tc3, k6, n10, n6, kb⟩ (fun hHeld => ?_)
                refine wpAnyH_take (i := 0) (oi := ({ dst := some 139, op := Op.fieldAddr 36 (Operand.tmp 16) 1, type := 0, pos := "law.go:52", after := #[], guard := none } : Oper)) (v := ?_) rfl (by kernel_rfl) (by kernel_rfl) (by kernel_rfl) (fun _ _ _ h => h) (Or.inl ⟨by rfl, ?_⟩) (by assumption) ?_
                rotate_left
                · intro wS hSw
                  first
                    | (go_simp; done)
                    | (go_simp; with_reducible rfl)
                try simp only [Act.put, List.setIfInBounds_toArray, List.set_cons_zero, List.set_cons_succ]
                refine wpAnyH_take (i := 1) (oi := ({ dst := some 140, op := Op.load 28 (Operand.tmp 139), type := 28, pos := "law.go:52", after := #[{ on := 0, ground := Ground.data }], guard := none } : Oper)) (v := ?_) rfl (by kernel_rfl) (by kernel_rfl) (by kernel_rfl) (fun _ _ _ h => h) (Or.inl ⟨by rfl, ?_⟩) (by assumption) ?_
                rotate_left
                · intro wS hSw
                  obtain ⟨v1, v2, v3, v4, v5, v6, v7⟩ := hSw
                  first
                    | (go_simp; done)
                    | (go_simp; with_reducible rfl)
                try simp only [Act.put, List.setIfInBounds_toArray, List.set_cons_zero, List.set_cons_succ]
                refine wpAnyH_take (i := 2) (oi := ({ dst := some 141, op := Op.move (Operand.tmp 20), type := 3, pos := "law.go:52", after := #[], guard := none } : Oper)) (v := ?_) rfl (by kernel_rfl) (by kernel_rfl) (by kernel_rfl) (fun _ _ _ h => h) (Or.inl ⟨by rfl, ?_⟩) (by assumption) ?_
                rotate_left
                · intro wS hSw
                  first
                    | (go_simp; done)
                    | (go_simp; with_reducible rfl)
                try simp only [Act.put, List.setIfInBounds_toArray, List.set_cons_zero, List.set_cons_succ]
                refine wpAnyH_take (i := 3) (oi := ({ dst := some 142, op := Op.indexAddr 28 (Operand.tmp 140) (Operand.tmp 141), type := 0, pos := "law.go:52", after := #[{ on := 1, ground := Ground.data }, { on := 2, ground := Ground.data }], guard := none } : Oper)) (v := ?_) rfl (by kernel_rfl) (by kernel_rfl) (by kernel_rfl) (fun _ _ _ h => h) (Or.inl ⟨by rfl, ?_⟩) (by assumption) ?_
                rotate_left
                · intro wS hSw
                  first
                    | (go_simp; done)
                    | (go_simp; with_reducible rfl)
                try simp only [Act.put, List.setIfInBounds_toArray, List.set_cons_zero, List.set_cons_succ]
                refine wpAnyH_take (i := 4) (oi := ({ dst := some 143, op := Op.load 21 (Operand.tmp 142), type := 21, pos := "law.go:52", after := #[{ on := 3, ground := Ground.data }], guard := none } : Oper)) (v := ?_) rfl (by kernel_rfl) (by kernel_rfl) (by kernel_rfl) (fun _ _ _ h => h) (Or.inl ⟨by rfl, ?_⟩) (by assumption) ?_
                rotate_left
                · intro wS hSw
                  obtain ⟨v1, v2, v3, v4, v5, v6, v7⟩ := hSw
                  first
                    | (go_simp; done)
                    | (go_simp; with_reducible rfl)
                try simp only [Act.put, List.setIfInBounds_toArray, List.set_cons_zero, List.set_cons_succ]
                refine wpAnyH_take (i := 5) (oi := ({ dst := some 144, op := Op.move (Operand.tmp 21), type := 21, pos := "law.go:52", after := #[], guard := none } : Oper)) (v := ?_) rfl (by kernel_rfl) (by kernel_rfl) (by kernel_rfl) (fun _ _ _ h => h) (Or.inl ⟨by rfl, ?_⟩) (by assumption) ?_
                rotate_left
                · intro wS hSw
                  first
                    | (go_simp; done)
                    | (go_simp; with_reducible rfl)
                try simp only [Act.put, List.setIfInBounds_toArray, List.set_cons_zero, List.set_cons_succ]
                refine wpAnyH_take (i := 6) (oi := ({ dst := some 145, op := Op.binOp BinOp.neq 21 (Operand.tmp 143) (Operand.tmp 144) 21, type := 4, pos := "law.go:52", after := #[{ on := 4, ground := Ground.data }, { on := 5, ground := Ground.data }], guard := none } : Oper)) (v := ?_) rfl (by kernel_rfl) (by kernel_rfl) (by kernel_rfl) (fun _ _ _ h => h) (Or.inl ⟨by rfl, ?_⟩) (by assumption) ?_
                rotate_left
                · intro wS hSw
                  first
                    | (go_simp; done)
                    | (go_simp; with_reducible rfl)
                try simp only [Act.put, List.setIfInBounds_toArray, List.set_cons_zero, List.set_cons_succ]
                refine wpAnyH_take (i := 7) (oi := ({ dst := some 146, op := Op.move (Operand.tmp 145), type := 4, pos := "law.go:52", after := #[{ on := 6, ground := Ground.data }], guard := none } : Oper)) (v := ?_) rfl (by kernel_rfl) (by kernel_rfl) (by kernel_rfl) (fun _ _ _ h => h) (Or.inl ⟨by rfl, ?_⟩) (by assumption) ?_
                rotate_left
                · intro wS hSw
                  first
                    | (go_simp; done)
                    | (go_simp; with_reducible rfl)
                try simp only [Act.put, List.setIfInBounds_toArray, List.set_cons_zero, List.set_cons_succ]
                refine wpAnyH_take (i := 8) (oi := ({ dst := some 147, op := Op.fieldAddr 36 (Operand.tmp 18) 1, type := 0, pos := "law.go:52", after := #[{ on := 7, ground := Ground.guard }], guard := some (7, false) } : Oper)) (v := ?_) rfl (by kernel_rfl) (by kernel_rfl) (by kernel_rfl) (fun _ _ _ h => h) (Or.inl ⟨by rfl, ?_⟩) (by assumption) ?_
                rotate_left
                · intro wS hSw
                  first
                    | (go_simp; done)
                    | (go_simp; with_reducible rfl)
                try simp only [Act.put, List.setIfInBounds_toArray, List.set_cons_zero, List.set_cons_succ]
                refine wpAnyH_take (i := 9) (oi := ({ dst := some 148, op := Op.load 28 (Operand.tmp 147), type := 28, pos := "law.go:52", after := #[{ on := 8, ground := Ground.data }, { on := 7, ground := Ground.guard }], guard := some (7, false) } : Oper)) (v := ?_) rfl (by kernel_rfl) (by kernel_rfl) (by kernel_rfl) (fun _ _ _ h => h) (Or.inl ⟨by rfl, ?_⟩) (by assumption) ?_
                rotate_left
                · intro wS hSw
                  obtain ⟨v1, v2, v3, v4, v5, v6, v7⟩ := hSw
                  first
                    | (go_simp; done)
                    | (go_simp; with_reducible rfl)
                try simp only [Act.put, List.setIfInBounds_toArray, List.set_cons_zero, List.set_cons_succ]
                refine wpAnyH_take (i := 10) (oi := ({ dst := some 149, op := Op.move (Operand.tmp 20), type := 3, pos := "law.go:52", after := #[{ on := 7, ground := Ground.guard }], guard := some (7, false) } : Oper)) (v := ?_) rfl (by kernel_rfl) (by kernel_rfl) (by kernel_rfl) (fun _ _ _ h => h) (Or.inl ⟨by rfl, ?_⟩) (by assumption) ?_
                rotate_left
                · intro wS hSw
                  first
                    | (go_simp; done)
                    | (go_simp; with_reducible rfl)
                try simp only [Act.put, List.setIfInBounds_toArray, List.set_cons_zero, List.set_cons_succ]
                refine wpAnyH_take (i := 11) (oi := ({ dst := some 150, op := Op.indexAddr 28 (Operand.tmp 148) (Operand.tmp 149), type := 0, pos := "law.go:52", after := #[{ on := 9, ground := Ground.data }, { on := 10, ground := Ground.data }, { on := 7, ground := Ground.guard }], guard := some (7, false) } : Oper)) (v := ?_) rfl (by kernel_rfl) (by kernel_rfl) (by kernel_rfl) (fun _ _ _ h => h) (Or.inl ⟨by rfl, ?_⟩) (by assumption) ?_
                rotate_left
                · intro wS hSw
                  first
                    | (go_simp; done)
                    | (go_simp; with_reducible rfl)
                try simp only [Act.put, List.setIfInBounds_toArray, List.set_cons_zero, List.set_cons_succ]
                refine wpAnyH_take (i := 12) (oi := ({ dst := some 151, op := Op.load 21 (Operand.tmp 150), type := 21, pos := "law.go:52", after := #[{ on := 11, ground := Ground.data }, { on := 7, ground := Ground.guard }], guard := some (7, false) } : Oper)) (v := ?_) rfl (by kernel_rfl) (by kernel_rfl) (by kernel_rfl) (fun _ _ _ h => h) (Or.inl ⟨by rfl, ?_⟩) (by assumption) ?_
                rotate_left
                · intro wS hSw
                  obtain ⟨v1, v2, v3, v4, v5, v6, v7⟩ := hSw
                  first
                    | (go_simp; done)
                    | (go_simp; with_reducible rfl)
                try simp only [Act.put, List.setIfInBounds_toArray, List.set_cons_zero, List.set_cons_succ]
                refine wpAnyH_take (i := 13) (oi := ({ dst := some 152, op := Op.fieldAddr 32 (Operand.tmp 5) 10, type := 0, pos := "law.go:52", after := #[{ on := 7, ground := Ground.guard }], guard := some (7, false) } : Oper)) (v := ?_) rfl (by kernel_rfl) (by kernel_rfl) (by kernel_rfl) (fun _ _ _ h => h) (Or.inl ⟨by rfl, ?_⟩) (by assumption) ?_
                rotate_left
                · intro wS hSw
                  first
                    | (go_simp; done)
                    | (go_simp; with_reducible rfl)
                try simp only [Act.put, List.setIfInBounds_toArray, List.set_cons_zero, List.set_cons_succ]
                refine wpAnyH_take (i := 14) (oi := ({ dst := some 153, op := Op.load 28 (Operand.tmp 152), type := 28, pos := "law.go:52", after := #[{ on := 13, ground := Ground.data }, { on := 7, ground := Ground.guard }], guard := some (7, false) } : Oper)) (v := ?_) rfl (by kernel_rfl) (by kernel_rfl) (by kernel_rfl) (fun _ _ _ h => h) (Or.inl ⟨by rfl, ?_⟩) (by assumption) ?_
                rotate_left
                · intro wS hSw
                  obtain ⟨v1, v2, v3, v4, v5, v6, v7⟩ := hSw
                  first
                    | (go_simp; done)
                    | (go_simp; with_reducible rfl)
                try simp only [Act.put, List.setIfInBounds_toArray, List.set_cons_zero, List.set_cons_succ]
                refine wpAnyH_take (i := 15) (oi := ({ dst := some 154, op := Op.move (Operand.tmp 20), type := 3, pos := "law.go:52", after := #[{ on := 7, ground := Ground.guard }], guard := some (7, false) } : Oper)) (v := ?_) rfl (by kernel_rfl) (by kernel_rfl) (by kernel_rfl) (fun _ _ _ h => h) (Or.inl ⟨by rfl, ?_⟩) (by assumption) ?_
                rotate_left
                · intro wS hSw
                  first
                    | (go_simp; done)
                    | (go_simp; with_reducible rfl)
                try simp only [Act.put, List.setIfInBounds_toArray, List.set_cons_zero, List.set_cons_succ]
                refine wpAnyH_take (i := 16) (oi := ({ dst := some 155, op := Op.fieldAddr 32 (Operand.tmp 5) 6, type := 0, pos := "law.go:52", after := #[{ on := 7, ground := Ground.guard }], guard := some (7, false) } : Oper)) (v := ?_) rfl (by kernel_rfl) (by kernel_rfl) (by kernel_rfl) (fun _ _ _ h => h) (Or.inl ⟨by rfl, ?_⟩) (by assumption) ?_
                rotate_left
                · intro wS hSw
                  first
                    | (go_simp; done)
                    | (go_simp; with_reducible rfl)
                try simp only [Act.put, List.setIfInBounds_toArray, List.set_cons_zero, List.set_cons_succ]
                refine wpAnyH_take (i := 17) (oi := ({ dst := some 156, op := Op.load 3 (Operand.tmp 155), type := 3, pos := "law.go:52", after := #[{ on := 16, ground := Ground.data }, { on := 7, ground := Ground.guard }], guard := some (7, false) } : Oper)) (v := ?_) rfl (by kernel_rfl) (by kernel_rfl) (by kernel_rfl) (fun _ _ _ h => h) (Or.inl ⟨by rfl, ?_⟩) (by assumption) ?_
                rotate_left
                · intro wS hSw
                  obtain ⟨v1, v2, v3, v4, v5, v6, v7⟩ := hSw
                  first
                    | (go_simp; done)
                    | (go_simp; with_reducible rfl)
                try simp only [Act.put, List.setIfInBounds_toArray, List.set_cons_zero, List.set_cons_succ]
                refine wpAnyH_take (i := 18) (oi := ({ dst := some 157, op := Op.binOp BinOp.rem 3 (Operand.tmp 154) (Operand.tmp 156) 3, type := 3, pos := "law.go:52", after := #[{ on := 15, ground := Ground.data }, { on := 17, ground := Ground.data }, { on := 7, ground := Ground.guard }], guard := some (7, false) } : Oper)) (v := ?_) rfl (by kernel_rfl) (by kernel_rfl) (by kernel_rfl) (fun _ _ _ h => h) (Or.inl ⟨by rfl, ?_⟩) (by assumption) ?_
                rotate_left
                · intro wS hSw
                  first
                    | (go_simp; done)
                    | (go_simp; with_reducible rfl)
                try simp only [Act.put, List.setIfInBounds_toArray, List.set_cons_zero, List.set_cons_succ]
                refine wpAnyH_take (i := 19) (oi := ({ dst := some 158, op := Op.indexAddr 28 (Operand.tmp 153) (Operand.tmp 157), type := 0, pos := "law.go:52", after := #[{ on := 14, ground := Ground.data }, { on := 18, ground := Ground.data }, { on := 7, ground := Ground.guard }], guard := some (7, false) } : Oper)) (v := ?_) rfl (by kernel_rfl) (by kernel_rfl) (by kernel_rfl) (fun _ _ _ h => h) (Or.inl ⟨by rfl, ?_⟩) (by assumption) ?_
                rotate_left
                · intro wS hSw
                  first
                    | (go_simp; done)
                    | (go_simp; with_reducible rfl)
                try simp only [Act.put, List.setIfInBounds_toArray, List.set_cons_zero, List.set_cons_succ]
                refine wpAnyH_take (i := 20) (oi := ({ dst := some 159, op := Op.load 21 (Operand.tmp 158), type := 21, pos := "law.go:52", after := #[{ on := 19, ground := Ground.data }, { on := 7, ground := Ground.guard }], guard := some (7, false) } : Oper)) (v := ?_) rfl (by kernel_rfl) (by kernel_rfl) (by kernel_rfl) (fun _ _ _ h => h) (Or.inl ⟨by rfl, ?_⟩) (by assumption) ?_
                rotate_left
                · intro wS hSw
                  obtain ⟨v1, v2, v3, v4, v5, v6, v7⟩ := hSw
                  first
                    | (go_simp; done)
                    | (go_simp; with_reducible rfl)
                try simp only [Act.put, List.setIfInBounds_toArray, List.set_cons_zero, List.set_cons_succ]
                refine wpAnyH_take (i := 21) (oi := ({ dst := some 160, op := Op.binOp BinOp.neq 21 (Operand.tmp 151) (Operand.tmp 159) 21, type := 4, pos := "law.go:52", after := #[{ on := 12, ground := Ground.data }, { on := 20, ground := Ground.data }, { on := 7, ground := Ground.guard }], guard := some (7, false) } : Oper)) (v := ?_) rfl (by kernel_rfl) (by kernel_rfl) (by kernel_rfl) (fun _ _ _ h => h) (Or.inl ⟨by rfl, ?_⟩) (by assumption) ?_
                rotate_left
                · intro wS hSw
                  first
                    | (go_simp; done)
                    | (go_simp; with_reducible rfl)
                try simp only [Act.put, List.setIfInBounds_toArray, List.set_cons_zero, List.set_cons_succ]
                refine wpAnyH_take (i := 22) (oi := ({ dst := some 161, op := Op.pick (Operand.tmp 146) (Operand.const (Value.bool true)) (Operand.tmp 160), type := 4, pos := "law.go:52", after := #[{ on := 7, ground := Ground.data }, { on := 21, ground := Ground.data }], guard := none } : Oper)) (v := ?_) rfl (by kernel_rfl) (by kernel_rfl) (by kernel_rfl) (fun _ _ _ h => h) (Or.inl ⟨by rfl, ?_⟩) (by assumption) ?_
                rotate_left
                · intro wS hSw
                  first
                    | (go_simp; done)
                    | (go_simp; with_reducible rfl)
                try simp only [Act.put, List.setIfInBounds_toArray, List.set_cons_zero, List.set_cons_succ]
                refine wpAnyH_done (by kernel_rfl) ?_ _
                clear hHeld
                go_wp2_with fail
                go_roundw
                case rel => exact ⟨i + 1, by omega, by go_num, Lib.hid hB0.out.drew⟩
                case measure => simp [intOf]; omega
            · obtain rfl : i = N := by omega
              go_wp2_with (go_at_call 8; (refine (known10 _).mono ?_); rintro e w7 ⟨rfl, hb⟩; (have HB := Lib.hid ((HBW.out.trans (hB0.out.mono HBW.out.size)).trans (hb.mono (Nat.le_trans HBW.out.size hB0.out.size)))); clear hb)
              go_ret
              exact ⟨rfl, HB.out⟩
theorem walk {w : World} (H : Int) (wH : (Lit.int .i64 H).wf = true) (W : Int) (wW : (Lit.int .i64 W).wf = true) (C : Int) (wC : (Lit.int .i64 C).wf = true) (A : Option Addr) (zs : List Int) (c : Nat) (hc : zs.length ≤ c) (hm : c ≤ maxLen) (hw : ∀ n ∈ zs, (Lit.int .i8 n).wf = true) (hr : Kit.Rd w w.heap.size A (zs.map (.int .i8)))
    (x0 x1 x2 x8 x11 x12 x13 x14 x15 x16 x17 x18 : Value) (K S P O Z : Int) (WA : Option Addr) (ws : List Int) (cW : Nat) (BA : Option Addr) (bs : List Int) (cB : Nat) (wz : (Lit.int .i8 Z).wf = true) (hcw : ws.length ≤ cW) (hmw : cW ≤ maxLen) (hww : ∀ n ∈ ws, (Lit.int .i8 n).wf = true) (hrw : Kit.Rd w w.heap.size WA (ws.map (.int .i8)))
    (hcb : bs.length ≤ cB) (hmb : cB ≤ maxLen) (hwb : ∀ n ∈ bs, (Lit.int .i32 n).wf = true) (hrb : Kit.Rd w w.heap.size BA (bs.map (.int .i32))) (hone : ∀ v ∈ [x0, x1, x2, .int .i64 K, .int .i64 S, .int .i64 P, .int .i64 O, .int .i8 Z, x8, .slice WA ws.length cW, .slice BA bs.length cB, x11, x12, x13, x14, x15, x16, x17, x18], v.oneCell' = true) (at_ : Int) (wat : (Lit.int .u8 at_).wf = true) (y : Int) (wy : (Lit.int .i32 y).wf = true) :
    Calls Try.prog 3 #[.agg #[.int .i64 H, .int .i64 W, .int .i64 C, .slice A zs.length c], .agg #[x0, x1, x2, .int .i64 K, .int .i64 S, .int .i64 P, .int .i64 O, .int .i8 Z, x8, .slice WA ws.length cW, .slice BA bs.length cB, x11, x12, x13, x14, x15, x16, x17, x18], .int .u8 at_, .int .i32 y] w fun e w' => e = .returned (.bool true) ∧ Below w.heap.size w w' := by
  have ⟨z1, z2⟩ : -128 ≤ Z ∧ Z ≤ 127 := by simpa [Lit.wf, IntKind.min, IntKind.max, IntKind.signed, IntKind.bits] using wz
  have ⟨t1, t2⟩ : 0 ≤ at_ ∧ at_ ≤ 255 := by simpa [Lit.wf, IntKind.min, IntKind.max, IntKind.signed, IntKind.bits] using wat
  have ⟨y1, y2⟩ : -2147483648 ≤ y ∧ y ≤ 2147483647 := by simpa [Lit.wf, IntKind.min, IntKind.max, IntKind.signed, IntKind.bits] using wy
  have hz := I8b_of hw
  have hwb8 := I8b_of hww
  have hb32 := I32b_of hwb
  by_cases hf : zs.length ≤ 1024 ∧ ws.length ≤ 2000 ∧ bs.length ≤ 200
  · obtain ⟨f1, f2, f3⟩ := hf
    cases ht : tensB H W C zs.length
    · exact walk_end H W C A zs _ c x0 x1 x2 x8 x11 x12 x13 x14 x15 x16 x17 x18 K S P O Z WA BA ws.length cW bs.length cB at_ y ws bs 5 (fun w _ _ _ => of_bad H W C A _ c x0 x1 x2 x8 x11 x12 x13 x14 x15 x16 x17 x18 K S P O Z WA BA ws.length cW bs.length cB ht w) (fun w _ _ _ => refOf_bad H W C A _ c x0 x1 x2 x8 x11 x12 x13 x14 x15 x16 x17 x18 K S P O Z WA BA ws.length cW bs.length cB ht w) (by decide) f1 f2 f3 hr hrw hrb
    · by_cases he : convE H W C K S P O ws.length bs.length = 0
      · exact walk_yes H W C A zs _ c rfl ht hz x0 x1 x2 x8 x11 x12 x13 x14 x15 x16 x17 x18 K S P O Z WA BA ws.length cW bs.length cB at_ y t1 t2 y1 y2 hone ws rfl hcw hwb8 bs rfl hb32 he z1 z2 f1 f2 f3 hr hrw hrb
      · exact walk_end H W C A zs _ c x0 x1 x2 x8 x11 x12 x13 x14 x15 x16 x17 x18 K S P O Z WA BA ws.length cW bs.length cB at_ y ws bs _ (fun w _ _ _ => of_err H W C A _ c x0 x1 x2 x8 x11 x12 x13 x14 x15 x16 x17 x18 K S P O Z WA BA ws.length cW bs.length cB ht _ rfl he w) (fun w _ _ _ => refOf_err H W C A _ c x0 x1 x2 x8 x11 x12 x13 x14 x15 x16 x17 x18 K S P O Z WA BA ws.length cW bs.length cB ht _ rfl he w) he f1 f2 f3 hr hrw hrb
  · exact walk_no H W C A _ c x0 x1 x2 x8 x11 x12 x13 x14 x15 x16 x17 x18 K S P O Z WA BA ws.length cW bs.length cB at_ y hf
/-! ### the frame: written by program -/
theorem own : ownKnob Try.prog.godebug = none := by kernel_rfl
theorem laid : laidOutB Try.prog = true := by kernel_rfl
theorem contract {H : Type} {enc : TypeId × Value → H} {W : World} {base : Nat} {args : Array Value} {ds gs : List (DataW H)} {before : List MemPlace}
    (hval0 : ∀ (j : Nat) t v, Try.f3.params[j]? = some t → args[j]? = some v → Value.okWide Try.prog W .any base t v)
    (hW : DataW.Whole enc Try.prog Try.f3.params.toList Rows.convBiasSpec.vars false W args.toList ds gs before) :
    Calls Try.prog 3 args W fun e W' => e = .returned (.bool true) ∧ Below W.heap.size W W' := by
  have hval : ∀ (j : Nat) t v, Try.f3.params[j]? = some t → args[j]? = some v → Value.okWide Try.prog W .any base t v := hval0
  obtain ⟨p, q, hA0, hV, rfl, hfz, hnd⟩ := hW
  have hA : DataW.TrodAll enc Try.prog W 0 (fun _ => true) true Try.f3.params.toList args.toList ds p := hA0
  rw [Try.params3] at hA hval
  obtain ⟨v0, vs0, d0, ds0, p0, q0, hargs, rfl, rfl, h0, r0⟩ := trodAll_cons hA
  obtain ⟨v1, vs1, d1, ds1, p1, q1, rfl, rfl, rfl, h1, r1⟩ := trodAll_cons r0
  obtain ⟨v2, vs2, d2, ds2, p2, q2, rfl, rfl, rfl, h2, r2⟩ := trodAll_cons r1
  obtain ⟨v3, vs3, d3, ds3, p3, q3, rfl, rfl, rfl, h3, r3⟩ := trodAll_cons r2
  obtain ⟨rfl, rfl, rfl⟩ := trodAll_nil r3
  obtain rfl : args = #[v0, v1, v2, v3] := by cases args; simp_all
  clear hA0 hval0
  obtain ⟨x0, y0, t0, A0, z0, c0, rfl, wx0, wy0, wt0, hc0, hm0, hw0, hr0⟩ := Kit.open_tensor (s := 23) (d := 24) (e := 27) (i := 3) Try.underlying26 Try.underlying23 Try.underlying24 Try.underlying27 Try.underlying3 (by kernel_rfl) (by kernel_rfl) (by kernel_rfl) (by kernel_rfl) (by kernel_rfl) ⟨rfl, rfl, rfl, rfl⟩ ⟨rfl, rfl, rfl, rfl, rfl, rfl⟩ (hval 0 26 v0 rfl rfl) h0
  obtain ⟨n1_0, n1_1, n1_2, n1_8, n1_11, n1_12, n1_13, n1_14, n1_15, n1_16, n1_17, n1_18, K1, S1, Q1, O1, Z1, WA1, ws1, cW1, BA1, bs1, cB1, rfl, wz1, hcw1, hmw1, hww1, hrw1, hcb1, hmb1, hwb1, hrb1⟩ := Kit.open_node (i := 3) (b8 := 27) (d := 24) (e := 27) (d2 := 28) (e2 := 21) Try.underlying32 (by kernel_rfl) Try.underlying3 (by kernel_rfl) Try.underlying27 (by kernel_rfl) Try.underlying24 Try.underlying27 (by kernel_rfl) (by kernel_rfl) Try.underlying28 Try.underlying21 (by kernel_rfl) (by kernel_rfl) rfl rfl rfl rfl rfl rfl rfl ⟨rfl, rfl⟩ ⟨rfl, rfl⟩ ⟨rfl, rfl⟩ ⟨rfl, rfl⟩ ⟨rfl, rfl⟩ ⟨rfl, rfl⟩ ⟨rfl, rfl⟩ (hval 1 32 v1 rfl rfl) h1
  obtain ⟨a2, rfl, rfl, rfl, w2⟩ := open_int Try.underlying5 (hval 2 5 v2 rfl rfl) h2
  obtain ⟨a3, rfl, rfl, rfl, w3⟩ := open_int Try.underlying21 (hval 3 21 v3 rfl rfl) h3
  exact walk (w := W) x0 wx0 y0 wy0 t0 wt0 A0 z0 c0 hc0 hm0 hw0 hr0 n1_0 n1_1 n1_2 n1_8 n1_11 n1_12 n1_13 n1_14 n1_15 n1_16 n1_17 n1_18 K1 S1 Q1 O1 Z1 WA1 ws1 cW1 BA1 bs1 cB1 wz1 hcw1 hmw1 hww1 hrw1 hcb1 hmb1 hwb1 hrb1 (Kit.struct_ones Try.underlying32 (hval 1 32 _ rfl rfl)) a2 w2 a3 w3
theorem fnIs {H : Type} : ∀ ds : List (DataW H), ds.length = Try.f3.params.toList.length → Rows.convBiasSpec.fn H ds = { results := [.lit (.bool true)], args := ds } := by
  intro ds h
  rw [Try.params3] at h
  match ds, h with
  | [d1, d2, d3, d4], _ => rfl
set_option maxRecDepth 100000 in
theorem lifted (os : Os) (started : os.Started) (H : Type) (enc : TypeId × Value → H) :
    ReturnsInHanded {} Try.checked os 3 .any (Rows.convBiasSpec.pre6 enc Try.prog Try.f3 Rows.convBiasRow.domain false) (Rows.convBiasSpec.post enc Try.prog Try.f3 false true false false) := by
  refine returnsInHanded_of_change (C := Try.checked) own started (by kernel_rfl) Try.func3
    (ChangeSpec.witness6 (enc := enc) (C := Try.checked) false ⟨#[], #[.agg #[.int .i64 0, .int .i64 0, .int .i64 0, .slice none 0 0], .agg #[.int .i64 0, .int .i64 0, .int .i64 0, .int .i64 0, .int .i64 0, .int .i64 0, .int .i64 0, .int .i8 0, .int .i8 0, .slice none 0 0, .slice none 0 0, .int .i32 0, .int .i64 0, .int .i8 0, .int .i32 0, .int .i64 0, .int .i8 0, .int .i8 0, .int .i8 0], .int .u8 0, .int .i32 0], []⟩ 8 (by kernel_rfl) (by kernel_rfl) (by kernel_rfl) (by kernel_rfl)) ?_
  intro W base args ds gs before hval hW _ _
  refine (contract hval hW).mono fun e W' ⟨he, hg⟩ => ?_
  subst he
  exact ⟨_, rfl, Kit.law_post (tb := 4) laid (by kernel_rfl) rfl (by kernel_rfl) Try.underlying4 fnIs hW hg⟩
theorem over : Rows.convBiasRow.holds Try.pinned (OpenSpec.ofChange Rows.convBiasSpec) :=
  OpenClaim.holds_of_wide 3 Try.f3 rfl rfl rfl rfl rfl rfl rfl ⟨rfl, rfl, rfl, rfl, rfl⟩ rfl rfl rfl rfl rfl (by kernel_rfl) Try.func3 (by kernel_rfl)
    (of_decide_eq_true (by kernel_rfl)) (by unfold Func.isWrapper; first | (rw [if_pos (by decide +kernel)]; kernel_rfl) | (rw [if_neg (by decide +kernel)]; exact ⟨rfl, rfl⟩))
    (fun os started H enc _ => lifted os started H enc)
/-- the statement. -/
theorem proved : Rows.ConvBiasSaid :=
  over
end Go.Proofs.Ytoobpjdbdikbiaa.lawConvBias
