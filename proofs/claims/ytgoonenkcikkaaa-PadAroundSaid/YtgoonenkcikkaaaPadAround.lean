/- PadAround: any tensor with more around it, and with less, or why that can't be, is that of the document; the call returns true and leaves its arguments as they were. No condition. -/
import Derived.Test.YtgoonenkcikkaaaPadBoth
import Derived.Test.YtgoonenkcikkaaaOpenTensor
namespace Go.Proofs.Ytgoonenkcikkaaa.lawPadAround
open Go Go.ChangeShapes Go.WideShapes Go.ChangeAt Go.RowKit
open Plain CSat CShape CTensor CPad
set_option linter.unusedVariables false

theorem walk_long {w : World} (H W C : Int) (A : Option Addr) (n c : Nat) (hl : 1024 < n) (p z : Int) :
    Calls Try.prog 3 #[.agg #[.int .i64 H, .int .i64 W, .int .i64 C, .slice A n c], .int .i64 p, .int .i8 z] w fun e w' => e = .returned (.bool true) ∧ Below w.heap.size w w' := by
  have hlI : (1024 : Int) < (n : Int) := by omega
  go_enter Try.func3, Try.ntmps3
  go_wp2_with (go_at_call 6; (refine (known09 _).mono ?_); rintro e w1 ⟨rfl, hb1⟩; (have HB := Lib.hid ((((Below.refl w.heap.size w).alloc (Nat.le_refl _) _)).trans (hb1.mono (by simp)))); clear hb1)
  go_ret
  exact ⟨rfl, HB.out⟩
set_option maxHeartbeats 2000000 in
theorem walk_bad {w : World} (H W C : Int) (A : Option Addr) (n c : Nat) (hl : n ≤ 1024) (p z er : Int) (he : mayZ H W C n p = er) (h0 : er ≠ 0) :
    Calls Try.prog 3 #[.agg #[.int .i64 H, .int .i64 W, .int .i64 C, .slice A n c], .int .i64 p, .int .i8 z] w fun e w' => e = .returned (.bool true) ∧ Below w.heap.size w w' := by
  have hlI : (n : Int) ≤ 1024 := by omega
  have HE := Lib.hid he
  have h0b : (er != 0) = true := by simpa using h0
  have h0c : (er == 0) = false := by simpa using h0
  clear he
  go_enter Try.func3, Try.ntmps3
  go_wp2_with (first
        | (go_at_call 7
           have hal : Below w.heap.size w (w.alloc (.cells #[.int .i64 H, .int .i64 W, .int .i64 C, .slice A n c] 26)) := (Below.refl _ _).alloc (by first | exact Nat.le_refl _ | (simp; done) | (simp; omega)) _
           refine (around_err H W C A n c p z er HE.out h0 _).mono ?_
           rintro e w1 ⟨v1, rfl, ho1, hb⟩
           have hh : Below w.heap.size w w1 := hal.trans (hb.mono hal.size)
           have qTB := (BoxAt.newq (H) (W) (C) (A) (n) (c) 26) w
           try simp only [World.size_alloc] at qTB
           have TB := Lib.hid (qTB.below (by first | (simp; done) | (simp; omega)) hb)
           have yTB : w.heap.size < w1.heap.size := by have := hb.size; simp at this; omega
           clear qTB
           have HBW : Hid (Below w.heap.size w w1) := Lib.hid hh
           obtain ⟨A1, c1, rfl, -, -, hrd1⟩ := Kit.own_rd ho1
           have RA1 := Lib.hid hrd1
           clear ho1 hrd1
           obtain ⟨tbp0, tbp1, tbp2, tbp3⟩ := TB.out
           clear hb hh hal)
        | (go_at_call 8
           have hal : Below w1.heap.size w1 (w1.alloc (.cells #[.int .i64 0, .int .i64 0, .int .i64 0, .slice A1 0 c1] 26)) := (Below.refl _ _).alloc (by first | exact Nat.le_refl _ | (simp; done) | (simp; omega)) _
           refine (crop_err H W C A n c p er HE.out h0 _).mono ?_
           rintro e w2 ⟨v2, rfl, ho2, hb⟩
           have hh : Below w1.heap.size w1 w2 := hal.trans (hb.mono hal.size)
           have qTA := (BoxAt.newq (0) (0) (0) (A1) (0) (c1) 26) w1
           try simp only [World.size_alloc] at qTA
           have TA := Lib.hid (qTA.below (by first | (simp; done) | (simp; omega)) hb)
           have yTA : w1.heap.size < w2.heap.size := by have := hb.size; simp at this; omega
           clear qTA
           replace TB := Lib.hid (TB.out.below yTB hh)
           replace yTB := Nat.lt_of_lt_of_le yTB hh.size
           replace RA1 := Lib.hid ((RA1.out.below hh).more hh.size)
           replace HBW := Lib.hid (HBW.out.trans (hh.mono HBW.out.size))
           clear tbp0 tbp1 tbp2 tbp3
           obtain ⟨A2, c2, rfl, -, -, hrd2⟩ := Kit.own_rd ho2
           have RA2 := Lib.hid hrd2
           clear ho2 hrd2
           obtain ⟨tbp0, tbp1, tbp2, tbp3⟩ := TB.out
           obtain ⟨tap0, tap1, tap2, tap3⟩ := TA.out
           clear hb hh hal)
        | (go_at_call 9
           have hal : Below w2.heap.size w2 (w2.alloc (.cells #[.int .i64 0, .int .i64 0, .int .i64 0, .slice A2 0 c2] 26)) := (Below.refl _ _).alloc (by first | exact Nat.le_refl _ | (simp; done) | (simp; omega)) _
           refine (refMay_to H W C A n c p er HE.out _).mono ?_
           rintro e w3 ⟨rfl, hb⟩
           have hh : Below w2.heap.size w2 w3 := hal.trans (hb.mono hal.size)
           have qTC := (BoxAt.newq (0) (0) (0) (A2) (0) (c2) 26) w2
           try simp only [World.size_alloc] at qTC
           have TC := Lib.hid (qTC.below (by first | (simp; done) | (simp; omega)) hb)
           have yTC : w2.heap.size < w3.heap.size := by have := hb.size; simp at this; omega
           clear qTC
           replace TB := Lib.hid (TB.out.below yTB hh)
           replace yTB := Nat.lt_of_lt_of_le yTB hh.size
           replace TA := Lib.hid (TA.out.below yTA hh)
           replace yTA := Nat.lt_of_lt_of_le yTA hh.size
           replace RA1 := Lib.hid ((RA1.out.below hh).more hh.size)
           replace RA2 := Lib.hid ((RA2.out.below hh).more hh.size)
           replace HBW := Lib.hid (HBW.out.trans (hh.mono HBW.out.size))
           clear tbp0 tbp1 tbp2 tbp3 tap0 tap1 tap2 tap3
           obtain ⟨tbp0, tbp1, tbp2, tbp3⟩ := TB.out
           obtain ⟨tap0, tap1, tap2, tap3⟩ := TA.out
           obtain ⟨tcp0, tcp1, tcp2, tcp3⟩ := TC.out
           clear hb hh hal)
        | (go_at_call 10
           have hal : Below w3.heap.size w3 w3 := Below.refl _ _
           refine (refSame_to 0 0 0 A1 none [] [] 0 c1 0 rfl rfl (by omega) true (by decide) _ hal.size (Nat.zero_le _) (RA1.out.below hal) (Kit.Rd.nil (B := 0))).mono ?_
           rintro e w4 ⟨rfl, hb⟩
           have hh : Below w3.heap.size w3 w4 := hal.trans (hb.mono hal.size)
           replace TB := Lib.hid (TB.out.below yTB hh)
           replace yTB := Nat.lt_of_lt_of_le yTB hh.size
           replace TA := Lib.hid (TA.out.below yTA hh)
           replace yTA := Nat.lt_of_lt_of_le yTA hh.size
           replace TC := Lib.hid (TC.out.below yTC hh)
           replace yTC := Nat.lt_of_lt_of_le yTC hh.size
           replace RA1 := Lib.hid ((RA1.out.below hh).more hh.size)
           replace RA2 := Lib.hid ((RA2.out.below hh).more hh.size)
           replace HBW := Lib.hid (HBW.out.trans (hh.mono HBW.out.size))
           clear tbp0 tbp1 tbp2 tbp3 tap0 tap1 tap2 tap3 tcp0 tcp1 tcp2 tcp3
           obtain ⟨tbp0, tbp1, tbp2, tbp3⟩ := TB.out
           obtain ⟨tap0, tap1, tap2, tap3⟩ := TA.out
           obtain ⟨tcp0, tcp1, tcp2, tcp3⟩ := TC.out
           clear hb hh hal)
        | (go_at_call 10
           have hal : Below w4.heap.size w4 w4 := Below.refl _ _
           refine (refSame_to 0 0 0 A2 none [] [] 0 c2 0 rfl rfl (by omega) true (by decide) _ hal.size (Nat.zero_le _) (RA2.out.below hal) (Kit.Rd.nil (B := 0))).mono ?_
           rintro e w5 ⟨rfl, hb⟩
           have hh : Below w4.heap.size w4 w5 := hal.trans (hb.mono hal.size)
           replace TB := Lib.hid (TB.out.below yTB hh)
           replace yTB := Nat.lt_of_lt_of_le yTB hh.size
           replace TA := Lib.hid (TA.out.below yTA hh)
           replace yTA := Nat.lt_of_lt_of_le yTA hh.size
           replace TC := Lib.hid (TC.out.below yTC hh)
           replace yTC := Nat.lt_of_lt_of_le yTC hh.size
           replace RA1 := Lib.hid ((RA1.out.below hh).more hh.size)
           replace RA2 := Lib.hid ((RA2.out.below hh).more hh.size)
           replace HBW := Lib.hid (HBW.out.trans (hh.mono HBW.out.size))
           clear tbp0 tbp1 tbp2 tbp3 tap0 tap1 tap2 tap3 tcp0 tcp1 tcp2 tcp3
           obtain ⟨tbp0, tbp1, tbp2, tbp3⟩ := TB.out
           obtain ⟨tap0, tap1, tap2, tap3⟩ := TA.out
           obtain ⟨tcp0, tcp1, tcp2, tcp3⟩ := TC.out
           clear hb hh hal)
        | (go_at_call 6
           have hal : Below w5.heap.size w5 w5 := Below.refl _ _
           refine (known09 _).mono ?_
           rintro e w6 ⟨rfl, hb⟩
           have hh : Below w5.heap.size w5 w6 := hal.trans (hb.mono hal.size)
           replace TB := Lib.hid (TB.out.below yTB hh)
           replace yTB := Nat.lt_of_lt_of_le yTB hh.size
           replace TA := Lib.hid (TA.out.below yTA hh)
           replace yTA := Nat.lt_of_lt_of_le yTA hh.size
           replace TC := Lib.hid (TC.out.below yTC hh)
           replace yTC := Nat.lt_of_lt_of_le yTC hh.size
           replace RA1 := Lib.hid ((RA1.out.below hh).more hh.size)
           replace RA2 := Lib.hid ((RA2.out.below hh).more hh.size)
           replace HBW := Lib.hid (HBW.out.trans (hh.mono HBW.out.size))
           clear tbp0 tbp1 tbp2 tbp3 tap0 tap1 tap2 tap3 tcp0 tcp1 tcp2 tcp3
           obtain ⟨tbp0, tbp1, tbp2, tbp3⟩ := TB.out
           obtain ⟨tap0, tap1, tap2, tap3⟩ := TA.out
           obtain ⟨tcp0, tcp1, tcp2, tcp3⟩ := TC.out
           clear hb hh hal))
  go_ret
  exact ⟨rfl, HBW.out⟩
set_option maxHeartbeats 4000000 in
theorem walk_good {w : World} (H W C : Int) (A : Option Addr) (zs : List Int) (n c : Nat) (hn : zs.length = n) (hc : n ≤ c) (hl : n ≤ 1024) (hr : Kit.Rd w w.heap.size A (I8s zs)) (p z : Int) (ht : tensB H W C n = true) (p0 : 0 ≤ p) (p4 : p ≤ 4) :
    Calls Try.prog 3 #[.agg #[.int .i64 H, .int .i64 W, .int .i64 C, .slice A n c], .int .i64 p, .int .i8 z] w fun e w' => e = .returned (.bool true) ∧ Below w.heap.size w w' := by
  have hlI : (n : Int) ≤ 1024 := by omega
  obtain ⟨U, V, K, m, xs, er, hx, hm6, hA1, hA2⟩ := around_both H W C A zs n c hn hc ht p z p0 p4
  obtain ⟨X, Y, Z, m2, ys, fr, hy, hm7, hC1, hC2⟩ := crop_both H W C A zs n c hn hc ht p p0 p4
  have HE : Hid (mayZ H W C n p = 0) := Lib.hid (by unfold mayZ; rw [if_pos ht, if_neg (by omega)])
  have HA1 := Lib.hid hA1
  have HA2 := Lib.hid hA2
  have HC1 := Lib.hid hC1
  have HC2 := Lib.hid hC2
  have HR := Lib.hid hr
  have HX := Lib.hid hx
  have HY := Lib.hid hy
  have hnp : IntKind.i64.wrap (-p) = -p := IntWalk.i64_in _ (by omega)
  clear hA1 hA2 hC1 hC2 hr ht hn hx hy
  go_enter Try.func3, Try.ntmps3
  go_wp2_with (first
        | (go_at_call 7
           have hal : Below w.heap.size w (w.alloc (.cells #[.int .i64 H, .int .i64 W, .int .i64 C, .slice A n c] 26)) := (Below.refl _ _).alloc (by first | exact Nat.le_refl _ | (simp; done) | (simp; omega)) _
           refine (HA1.out _ ((HR.out.below hal).more hal.size)).mono ?_
           rintro e w1 ⟨v1, rfl, ho1, hb⟩
           have hh : Below w.heap.size w w1 := hal.trans (hb.mono hal.size)
           have qTB := (BoxAt.newq (H) (W) (C) (A) (n) (c) 26) w
           try simp only [World.size_alloc] at qTB
           have TB := Lib.hid (qTB.below (by first | (simp; done) | (simp; omega)) hb)
           have yTB : w.heap.size < w1.heap.size := by have := hb.size; simp at this; omega
           clear qTB
           replace HR := Lib.hid ((HR.out.below hh).more hh.size)
           have HBW : Hid (Below w.heap.size w w1) := Lib.hid hh
           obtain ⟨A1, c1, rfl, -, -, hrd1⟩ := Kit.own_rd ho1
           have RA1 := Lib.hid hrd1
           clear ho1 hrd1
           obtain ⟨tbp0, tbp1, tbp2, tbp3⟩ := TB.out
           clear hb hh hal)
        | (go_at_call 8
           have hal : Below w1.heap.size w1 (w1.alloc (.cells #[.int .i64 U, .int .i64 V, .int .i64 K, .slice A1 m c1] 26)) := (Below.refl _ _).alloc (by first | exact Nat.le_refl _ | (simp; done) | (simp; omega)) _
           refine (HC1.out _ ((HR.out.below hal).more hal.size)).mono ?_
           rintro e w2 ⟨v2, rfl, ho2, hb⟩
           have hh : Below w1.heap.size w1 w2 := hal.trans (hb.mono hal.size)
           have qTA := (BoxAt.newq (U) (V) (K) (A1) (m) (c1) 26) w1
           try simp only [World.size_alloc] at qTA
           have TA := Lib.hid (qTA.below (by first | (simp; done) | (simp; omega)) hb)
           have yTA : w1.heap.size < w2.heap.size := by have := hb.size; simp at this; omega
           clear qTA
           replace TB := Lib.hid (TB.out.below yTB hh)
           replace yTB := Nat.lt_of_lt_of_le yTB hh.size
           replace HR := Lib.hid ((HR.out.below hh).more hh.size)
           replace RA1 := Lib.hid ((RA1.out.below hh).more hh.size)
           replace HBW := Lib.hid (HBW.out.trans (hh.mono HBW.out.size))
           clear tbp0 tbp1 tbp2 tbp3
           obtain ⟨A2, c2, rfl, -, -, hrd2⟩ := Kit.own_rd ho2
           have RA2 := Lib.hid hrd2
           clear ho2 hrd2
           obtain ⟨tbp0, tbp1, tbp2, tbp3⟩ := TB.out
           obtain ⟨tap0, tap1, tap2, tap3⟩ := TA.out
           clear hb hh hal)
        | (go_at_call 9
           have hal : Below w2.heap.size w2 (w2.alloc (.cells #[.int .i64 X, .int .i64 Y, .int .i64 Z, .slice A2 m2 c2] 26)) := (Below.refl _ _).alloc (by first | exact Nat.le_refl _ | (simp; done) | (simp; omega)) _
           refine (refMay_to H W C A n c p 0 HE.out _).mono ?_
           rintro e w3 ⟨rfl, hb⟩
           have hh : Below w2.heap.size w2 w3 := hal.trans (hb.mono hal.size)
           have qTC := (BoxAt.newq (X) (Y) (Z) (A2) (m2) (c2) 26) w2
           try simp only [World.size_alloc] at qTC
           have TC := Lib.hid (qTC.below (by first | (simp; done) | (simp; omega)) hb)
           have yTC : w2.heap.size < w3.heap.size := by have := hb.size; simp at this; omega
           clear qTC
           replace TB := Lib.hid (TB.out.below yTB hh)
           replace yTB := Nat.lt_of_lt_of_le yTB hh.size
           replace TA := Lib.hid (TA.out.below yTA hh)
           replace yTA := Nat.lt_of_lt_of_le yTA hh.size
           replace HR := Lib.hid ((HR.out.below hh).more hh.size)
           replace RA1 := Lib.hid ((RA1.out.below hh).more hh.size)
           replace RA2 := Lib.hid ((RA2.out.below hh).more hh.size)
           replace HBW := Lib.hid (HBW.out.trans (hh.mono HBW.out.size))
           clear tbp0 tbp1 tbp2 tbp3 tap0 tap1 tap2 tap3
           obtain ⟨tbp0, tbp1, tbp2, tbp3⟩ := TB.out
           obtain ⟨tap0, tap1, tap2, tap3⟩ := TA.out
           obtain ⟨tcp0, tcp1, tcp2, tcp3⟩ := TC.out
           clear hb hh hal)
        | (go_at_call 11
           have hal : Below w3.heap.size w3 w3 := Below.refl _ _
           refine (HA2.out _ ((HR.out.below hal).more hal.size)).mono ?_
           rintro e w4 ⟨v4, rfl, ho4, hb⟩
           have hh : Below w3.heap.size w3 w4 := hal.trans (hb.mono hal.size)
           replace TB := Lib.hid (TB.out.below yTB hh)
           replace yTB := Nat.lt_of_lt_of_le yTB hh.size
           replace TA := Lib.hid (TA.out.below yTA hh)
           replace yTA := Nat.lt_of_lt_of_le yTA hh.size
           replace TC := Lib.hid (TC.out.below yTC hh)
           replace yTC := Nat.lt_of_lt_of_le yTC hh.size
           replace HR := Lib.hid ((HR.out.below hh).more hh.size)
           replace RA1 := Lib.hid ((RA1.out.below hh).more hh.size)
           replace RA2 := Lib.hid ((RA2.out.below hh).more hh.size)
           replace HBW := Lib.hid (HBW.out.trans (hh.mono HBW.out.size))
           clear tbp0 tbp1 tbp2 tbp3 tap0 tap1 tap2 tap3 tcp0 tcp1 tcp2 tcp3
           obtain ⟨A4, c4, rfl, -, -, hrd4⟩ := Kit.own_rd ho4
           have RA4 := Lib.hid hrd4
           clear ho4 hrd4
           obtain ⟨tbp0, tbp1, tbp2, tbp3⟩ := TB.out
           obtain ⟨tap0, tap1, tap2, tap3⟩ := TA.out
           obtain ⟨tcp0, tcp1, tcp2, tcp3⟩ := TC.out
           clear hb hh hal)
        | (go_at_call 11
           have hal : Below w4.heap.size w4 (w4.alloc (.cells #[.int .i64 U, .int .i64 V, .int .i64 K, .slice A4 m c4] 26)) := (Below.refl _ _).alloc (by first | exact Nat.le_refl _ | (simp; done) | (simp; omega)) _
           refine (HC2.out _ ((HR.out.below hal).more hal.size)).mono ?_
           rintro e w5 ⟨v5, rfl, ho5, hb⟩
           have hh : Below w4.heap.size w4 w5 := hal.trans (hb.mono hal.size)
           have qTD := (BoxAt.newq (U) (V) (K) (A4) (m) (c4) 26) w4
           try simp only [World.size_alloc] at qTD
           have TD := Lib.hid (qTD.below (by first | (simp; done) | (simp; omega)) hb)
           have yTD : w4.heap.size < w5.heap.size := by have := hb.size; simp at this; omega
           clear qTD
           replace TB := Lib.hid (TB.out.below yTB hh)
           replace yTB := Nat.lt_of_lt_of_le yTB hh.size
           replace TA := Lib.hid (TA.out.below yTA hh)
           replace yTA := Nat.lt_of_lt_of_le yTA hh.size
           replace TC := Lib.hid (TC.out.below yTC hh)
           replace yTC := Nat.lt_of_lt_of_le yTC hh.size
           replace HR := Lib.hid ((HR.out.below hh).more hh.size)
           replace RA1 := Lib.hid ((RA1.out.below hh).more hh.size)
           replace RA2 := Lib.hid ((RA2.out.below hh).more hh.size)
           replace RA4 := Lib.hid ((RA4.out.below hh).more hh.size)
           replace HBW := Lib.hid (HBW.out.trans (hh.mono HBW.out.size))
           clear tbp0 tbp1 tbp2 tbp3 tap0 tap1 tap2 tap3 tcp0 tcp1 tcp2 tcp3
           obtain ⟨A5, c5, rfl, -, -, hrd5⟩ := Kit.own_rd ho5
           have RA5 := Lib.hid hrd5
           clear ho5 hrd5
           obtain ⟨tbp0, tbp1, tbp2, tbp3⟩ := TB.out
           obtain ⟨tap0, tap1, tap2, tap3⟩ := TA.out
           obtain ⟨tcp0, tcp1, tcp2, tcp3⟩ := TC.out
           obtain ⟨tdp0, tdp1, tdp2, tdp3⟩ := TD.out
           clear hb hh hal)
        | (go_at_call 10
           have hal : Below w5.heap.size w5 (w5.alloc (.cells #[.int .i64 X, .int .i64 Y, .int .i64 Z, .slice A5 m2 c5] 26)) := (Below.refl _ _).alloc (by first | exact Nat.le_refl _ | (simp; done) | (simp; omega)) _
           refine (refSame_to U V K A1 A4 xs xs m c1 c4 HX.out HX.out hm6 true (by simp) _ hal.size hal.size (RA1.out.below hal) (RA4.out.below hal)).mono ?_
           rintro e w6 ⟨rfl, hb⟩
           have hh : Below w5.heap.size w5 w6 := hal.trans (hb.mono hal.size)
           have qTE := (BoxAt.newq (X) (Y) (Z) (A5) (m2) (c5) 26) w5
           try simp only [World.size_alloc] at qTE
           have TE := Lib.hid (qTE.below (by first | (simp; done) | (simp; omega)) hb)
           have yTE : w5.heap.size < w6.heap.size := by have := hb.size; simp at this; omega
           clear qTE
           replace TB := Lib.hid (TB.out.below yTB hh)
           replace yTB := Nat.lt_of_lt_of_le yTB hh.size
           replace TA := Lib.hid (TA.out.below yTA hh)
           replace yTA := Nat.lt_of_lt_of_le yTA hh.size
           replace TC := Lib.hid (TC.out.below yTC hh)
           replace yTC := Nat.lt_of_lt_of_le yTC hh.size
           replace TD := Lib.hid (TD.out.below yTD hh)
           replace yTD := Nat.lt_of_lt_of_le yTD hh.size
           replace HR := Lib.hid ((HR.out.below hh).more hh.size)
           replace RA1 := Lib.hid ((RA1.out.below hh).more hh.size)
           replace RA2 := Lib.hid ((RA2.out.below hh).more hh.size)
           replace RA4 := Lib.hid ((RA4.out.below hh).more hh.size)
           replace RA5 := Lib.hid ((RA5.out.below hh).more hh.size)
           replace HBW := Lib.hid (HBW.out.trans (hh.mono HBW.out.size))
           clear tbp0 tbp1 tbp2 tbp3 tap0 tap1 tap2 tap3 tcp0 tcp1 tcp2 tcp3 tdp0 tdp1 tdp2 tdp3
           obtain ⟨tbp0, tbp1, tbp2, tbp3⟩ := TB.out
           obtain ⟨tap0, tap1, tap2, tap3⟩ := TA.out
           obtain ⟨tcp0, tcp1, tcp2, tcp3⟩ := TC.out
           obtain ⟨tdp0, tdp1, tdp2, tdp3⟩ := TD.out
           obtain ⟨tep0, tep1, tep2, tep3⟩ := TE.out
           clear hb hh hal)
        | (go_at_call 10
           have hal : Below w6.heap.size w6 w6 := Below.refl _ _
           refine (refSame_to X Y Z A2 A5 ys ys m2 c2 c5 HY.out HY.out hm7 true (by simp) _ hal.size hal.size (RA2.out.below hal) (RA5.out.below hal)).mono ?_
           rintro e w7 ⟨rfl, hb⟩
           have hh : Below w6.heap.size w6 w7 := hal.trans (hb.mono hal.size)
           replace TB := Lib.hid (TB.out.below yTB hh)
           replace yTB := Nat.lt_of_lt_of_le yTB hh.size
           replace TA := Lib.hid (TA.out.below yTA hh)
           replace yTA := Nat.lt_of_lt_of_le yTA hh.size
           replace TC := Lib.hid (TC.out.below yTC hh)
           replace yTC := Nat.lt_of_lt_of_le yTC hh.size
           replace TD := Lib.hid (TD.out.below yTD hh)
           replace yTD := Nat.lt_of_lt_of_le yTD hh.size
           replace TE := Lib.hid (TE.out.below yTE hh)
           replace yTE := Nat.lt_of_lt_of_le yTE hh.size
           replace HR := Lib.hid ((HR.out.below hh).more hh.size)
           replace RA1 := Lib.hid ((RA1.out.below hh).more hh.size)
           replace RA2 := Lib.hid ((RA2.out.below hh).more hh.size)
           replace RA4 := Lib.hid ((RA4.out.below hh).more hh.size)
           replace RA5 := Lib.hid ((RA5.out.below hh).more hh.size)
           replace HBW := Lib.hid (HBW.out.trans (hh.mono HBW.out.size))
           clear tbp0 tbp1 tbp2 tbp3 tap0 tap1 tap2 tap3 tcp0 tcp1 tcp2 tcp3 tdp0 tdp1 tdp2 tdp3 tep0 tep1 tep2 tep3
           obtain ⟨tbp0, tbp1, tbp2, tbp3⟩ := TB.out
           obtain ⟨tap0, tap1, tap2, tap3⟩ := TA.out
           obtain ⟨tcp0, tcp1, tcp2, tcp3⟩ := TC.out
           obtain ⟨tdp0, tdp1, tdp2, tdp3⟩ := TD.out
           obtain ⟨tep0, tep1, tep2, tep3⟩ := TE.out
           clear hb hh hal)
        | (go_at_call 6
           have hal : Below w7.heap.size w7 w7 := Below.refl _ _
           refine (known09 _).mono ?_
           rintro e w8 ⟨rfl, hb⟩
           have hh : Below w7.heap.size w7 w8 := hal.trans (hb.mono hal.size)
           replace TB := Lib.hid (TB.out.below yTB hh)
           replace yTB := Nat.lt_of_lt_of_le yTB hh.size
           replace TA := Lib.hid (TA.out.below yTA hh)
           replace yTA := Nat.lt_of_lt_of_le yTA hh.size
           replace TC := Lib.hid (TC.out.below yTC hh)
           replace yTC := Nat.lt_of_lt_of_le yTC hh.size
           replace TD := Lib.hid (TD.out.below yTD hh)
           replace yTD := Nat.lt_of_lt_of_le yTD hh.size
           replace TE := Lib.hid (TE.out.below yTE hh)
           replace yTE := Nat.lt_of_lt_of_le yTE hh.size
           replace HR := Lib.hid ((HR.out.below hh).more hh.size)
           replace RA1 := Lib.hid ((RA1.out.below hh).more hh.size)
           replace RA2 := Lib.hid ((RA2.out.below hh).more hh.size)
           replace RA4 := Lib.hid ((RA4.out.below hh).more hh.size)
           replace RA5 := Lib.hid ((RA5.out.below hh).more hh.size)
           replace HBW := Lib.hid (HBW.out.trans (hh.mono HBW.out.size))
           clear tbp0 tbp1 tbp2 tbp3 tap0 tap1 tap2 tap3 tcp0 tcp1 tcp2 tcp3 tdp0 tdp1 tdp2 tdp3 tep0 tep1 tep2 tep3
           obtain ⟨tbp0, tbp1, tbp2, tbp3⟩ := TB.out
           obtain ⟨tap0, tap1, tap2, tap3⟩ := TA.out
           obtain ⟨tcp0, tcp1, tcp2, tcp3⟩ := TC.out
           obtain ⟨tdp0, tdp1, tdp2, tdp3⟩ := TD.out
           obtain ⟨tep0, tep1, tep2, tep3⟩ := TE.out
           clear hb hh hal))
  go_ret
  exact ⟨rfl, HBW.out⟩
theorem walk {w : World} (H : Int) (wH : (Lit.int .i64 H).wf = true) (W : Int) (wW : (Lit.int .i64 W).wf = true) (C : Int) (wC : (Lit.int .i64 C).wf = true) (A : Option Addr) (zs : List Int) (c : Nat) (hc : zs.length ≤ c) (hm : c ≤ maxLen) (hw : ∀ n ∈ zs, (Lit.int .i8 n).wf = true) (hr : Kit.Rd w w.heap.size A (zs.map (.int .i8)))
    (p : Int) (wp : (Lit.int .i64 p).wf = true) (z : Int) (wz : (Lit.int .i8 z).wf = true) :
    Calls Try.prog 3 #[.agg #[.int .i64 H, .int .i64 W, .int .i64 C, .slice A zs.length c], .int .i64 p, .int .i8 z] w fun e w' => e = .returned (.bool true) ∧ Below w.heap.size w w' := by
  by_cases hl : 1024 < zs.length
  · exact walk_long H W C A _ c hl p z
  · by_cases h : tensB H W C zs.length = true ∧ 0 ≤ p ∧ p ≤ 4
    · exact walk_good H W C A zs _ c rfl hc (by omega) hr p z h.1 h.2.1 h.2.2
    · refine walk_bad H W C A _ c (by omega) p z _ rfl ?_
      unfold mayZ
      cases ht : tensB H W C zs.length
      · simp
      · rw [if_pos rfl]
        rw [ht] at h
        have h2 : ¬ (0 ≤ p ∧ p ≤ 4) := fun hh => h ⟨rfl, hh.1, hh.2⟩
        rw [if_pos (by omega)]
        decide
/-! ### the frame: written by program -/
theorem own : ownKnob Try.prog.godebug = none := by kernel_rfl
theorem laid : laidOutB Try.prog = true := by kernel_rfl
theorem contract {H : Type} {enc : TypeId × Value → H} {W : World} {base : Nat} {args : Array Value} {ds gs : List (DataW H)} {before : List MemPlace}
    (hval0 : ∀ (j : Nat) t v, Try.f3.params[j]? = some t → args[j]? = some v → Value.okWide Try.prog W .any base t v)
    (hW : DataW.Whole enc Try.prog Try.f3.params.toList Rows.padAroundSpec.vars false W args.toList ds gs before) :
    Calls Try.prog 3 args W fun e W' => e = .returned (.bool true) ∧ Below W.heap.size W W' := by
  have hval : ∀ (j : Nat) t v, Try.f3.params[j]? = some t → args[j]? = some v → Value.okWide Try.prog W .any base t v := hval0
  obtain ⟨p, q, hA0, hV, rfl, hfz, hnd⟩ := hW
  have hA : DataW.TrodAll enc Try.prog W 0 (fun _ => true) true Try.f3.params.toList args.toList ds p := hA0
  rw [Try.params3] at hA hval
  obtain ⟨v0, vs0, d0, ds0, p0, q0, hargs, rfl, rfl, h0, r0⟩ := trodAll_cons hA
  obtain ⟨v1, vs1, d1, ds1, p1, q1, rfl, rfl, rfl, h1, r1⟩ := trodAll_cons r0
  obtain ⟨v2, vs2, d2, ds2, p2, q2, rfl, rfl, rfl, h2, r2⟩ := trodAll_cons r1
  obtain ⟨rfl, rfl, rfl⟩ := trodAll_nil r2
  obtain rfl : args = #[v0, v1, v2] := by cases args; simp_all
  clear hA0 hval0
  obtain ⟨x0, y0, t0, A0, z0, c0, rfl, wx0, wy0, wt0, hc0, hm0, hw0, hr0⟩ := Kit.open_tensor (s := 23) (d := 24) (e := 27) (i := 3) Try.underlying26 Try.underlying23 Try.underlying24 Try.underlying27 Try.underlying3 (by kernel_rfl) (by kernel_rfl) (by kernel_rfl) (by kernel_rfl) (by kernel_rfl) ⟨rfl, rfl, rfl, rfl⟩ ⟨rfl, rfl, rfl, rfl, rfl, rfl⟩ (hval 0 26 v0 rfl rfl) h0
  obtain ⟨a1, rfl, rfl, rfl, w1⟩ := open_int Try.underlying3 (hval 1 3 v1 rfl rfl) h1
  obtain ⟨a2, rfl, rfl, rfl, w2⟩ := open_int Try.underlying27 (hval 2 27 v2 rfl rfl) h2
  exact walk (w := W) x0 wx0 y0 wy0 t0 wt0 A0 z0 c0 hc0 hm0 hw0 hr0 a1 w1 a2 w2
theorem fnIs {H : Type} : ∀ ds : List (DataW H), ds.length = Try.f3.params.toList.length → Rows.padAroundSpec.fn H ds = { results := [.lit (.bool true)], args := ds } := by
  intro ds h
  rw [Try.params3] at h
  match ds, h with
  | [d1, d2, d3], _ => rfl
set_option maxRecDepth 100000 in
theorem lifted (os : Os) (started : os.Started) (H : Type) (enc : TypeId × Value → H) :
    ReturnsInHanded {} Try.checked os 3 .any (Rows.padAroundSpec.pre6 enc Try.prog Try.f3 Rows.padAroundRow.domain false) (Rows.padAroundSpec.post enc Try.prog Try.f3 false true false false) := by
  refine returnsInHanded_of_change (C := Try.checked) own started (by kernel_rfl) Try.func3
    (ChangeSpec.witness6 (enc := enc) (C := Try.checked) false ⟨#[], #[.agg #[.int .i64 0, .int .i64 0, .int .i64 0, .slice none 0 0], .int .i64 0, .int .i8 0], []⟩ 8 (by kernel_rfl) (by kernel_rfl) (by kernel_rfl) (by kernel_rfl)) ?_
  intro W base args ds gs before hval hW _ _
  refine (contract hval hW).mono fun e W' ⟨he, hg⟩ => ?_
  subst he
  exact ⟨_, rfl, Kit.law_post (tb := 4) laid (by kernel_rfl) rfl (by kernel_rfl) Try.underlying4 fnIs hW hg⟩
theorem over : Rows.padAroundRow.holds Try.pinned (OpenSpec.ofChange Rows.padAroundSpec) :=
  OpenClaim.holds_of_wide 3 Try.f3 rfl rfl rfl rfl rfl rfl rfl ⟨rfl, rfl, rfl, rfl, rfl⟩ rfl rfl rfl rfl rfl (by kernel_rfl) Try.func3 (by kernel_rfl)
    (of_decide_eq_true (by kernel_rfl)) (by unfold Func.isWrapper; first | (rw [if_pos (by decide +kernel)]; kernel_rfl) | (rw [if_neg (by decide +kernel)]; exact ⟨rfl, rfl⟩))
    (fun os started H enc _ => lifted os started H enc)
/-- the statement. -/
theorem proved : Rows.PadAroundSaid :=
  over
end Go.Proofs.Ytgoonenkcikkaaa.lawPadAround
