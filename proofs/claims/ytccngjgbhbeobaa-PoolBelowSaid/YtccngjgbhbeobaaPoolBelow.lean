/- PoolBelow: a mean is never above the greatest number; of one number alone both are it; the call returns true and leaves its arguments as they were. No condition. -/
import Derived.Test.YtccngjgbhbeobaaPoolBoth
import Derived.Test.YtccngjgbhbeobaaOpenNode
import Derived.Test.YtccngjgbhbeobaaTensorSameTwo
import Derived.Deep.CutRange
import Derived.BigQuiet
namespace Go.Proofs.Ytccngjgbhbeobaa.lawPoolBelow
open Go Go.ChangeShapes Go.WideShapes Go.ChangeAt Go.RowKit Go.Deep
open Plain CSat CShape CTensor CConv CPool
set_option linter.unusedVariables false

set_option maxRecDepth 100000 in
set_option maxHeartbeats 4000000 in
theorem walk_no {w : World} (H W C : Int) (A : Option Addr) (n c : Nat) (x0 x1 x2 x8 x11 x12 x13 x14 x15 x16 x17 x18 : Value) (K S P O Z : Int) (WA BA : Option Addr) (nW cW nB cB : Nat) (hfew : ¬ n ≤ 1024) :
    Calls Try.prog 6 #[.agg #[.int .i64 H, .int .i64 W, .int .i64 C, .slice A n c], .agg #[x0, x1, x2, .int .i64 K, .int .i64 S, .int .i64 P, .int .i64 O, .int .i8 Z, x8, .slice WA nW cW, .slice BA nB cB, x11, x12, x13, x14, x15, x16, x17, x18]] w fun e w' => e = .returned (.bool true) ∧ Below w.heap.size w w' := by
  have hal : Below w.heap.size w ((w.alloc (.cells #[.int .i64 H, .int .i64 W, .int .i64 C, .slice A n c] 29)).alloc (.cells #[x0, x1, x2, .int .i64 K, .int .i64 S, .int .i64 P, .int .i64 O, .int .i8 Z, x8, .slice WA nW cW, .slice BA nB cB, x11, x12, x13, x14, x15, x16, x17, x18] 35)) := ((Below.refl _ _).alloc (Nat.le_refl _) _).alloc (by simp) _
  have h3 : (n : Int) > 1024 := by omega
  go_enter Try.func6, Try.ntmps6
  go_wp2_with (go_at_call 9; (refine (known19 _).mono ?_); rintro e w4 ⟨rfl, hb4⟩)
  go_ret
  exact ⟨rfl, hal.trans (hb4.mono hal.size)⟩
set_option maxRecDepth 100000 in
set_option maxHeartbeats 8000000 in
theorem walk_yes {w : World} (H W C : Int) (A : Option Addr) (zs : List Int) (n c : Nat) (hn : zs.length = n) (hz : I8b zs) (x0 x1 x2 x8 x11 x12 x13 x14 x15 x16 x17 x18 : Value) (K S P O Z : Int) (WA BA : Option Addr) (nW cW nB cB : Nat) (hf1 : n ≤ 1024) (ht : tensB H W C n = true) (hr : Kit.Rd w w.heap.size A (I8s zs)) :
    Calls Try.prog 6 #[.agg #[.int .i64 H, .int .i64 W, .int .i64 C, .slice A n c], .agg #[x0, x1, x2, .int .i64 K, .int .i64 S, .int .i64 P, .int .i64 O, .int .i8 Z, x8, .slice WA nW cW, .slice BA nB cB, x11, x12, x13, x14, x15, x16, x17, x18]] w fun e w' => e = .returned (.bool true) ∧ Below w.heap.size w w' := by
  obtain ⟨X, Y, U, m, xs, ys, er, hx, hy, hm6, hle, hC1, hC2, hC3, hC4⟩ := pool_both H W C A zs n c hn hz x0 x1 x2 x8 x11 x12 x13 x14 x15 x16 x17 x18 K S P O Z WA BA nW cW nB cB
  have HC1 := Lib.hid hC1
  have HC2 := Lib.hid hC2
  have HC3 := Lib.hid hC3
  have HC4 := Lib.hid hC4
  have HX := Lib.hid hx
  have HY := Lib.hid hy
  have HLE := Lib.hid hle
  have HR := Lib.hid hr
  obtain ⟨hQ1, hQ2⟩ := pool_one H W C A zs n c hn hz ht
  have HQ1 := Lib.hid hQ1
  have HQ2 := Lib.hid hQ2
  have HT := Lib.hid ht
  have HN := Lib.hid hn
  clear hC1 hC2 hC3 hC4 hx hy hle hr hn hz hQ1 hQ2 ht
  have h1 : ¬ (n : Int) > 1024 := by omega
  have TN0 : Hid (NodeAt (w.heap.size + 1) x0 x1 x2 x8 x11 x12 x13 x14 x15 x16 x17 x18 K S P O Z WA BA nW cW nB cB ((w.alloc (.cells #[.int .i64 H, .int .i64 W, .int .i64 C, .slice A n c] 29)).alloc (.cells #[x0, x1, x2, .int .i64 K, .int .i64 S, .int .i64 P, .int .i64 O, .int .i8 Z, x8, .slice WA nW cW, .slice BA nB cB, x11, x12, x13, x14, x15, x16, x17, x18] 35))) := by
    have h := NodeAt.new x0 x1 x2 x8 x11 x12 x13 x14 x15 x16 x17 x18 K S P O Z WA BA nW cW nB cB 35 (w.alloc (.cells #[.int .i64 H, .int .i64 W, .int .i64 C, .slice A n c] 29))
    rw [World.size_alloc] at h
    exact Lib.hid h
  go_enter Try.func6, Try.ntmps6
  go_upto_region 5 with (first
    | (go_at_call 10
       have hal : Below w.heap.size w ((w.alloc (.cells #[.int .i64 H, .int .i64 W, .int .i64 C, .slice A n c] 29)).alloc (.cells #[x0, x1, x2, .int .i64 K, .int .i64 S, .int .i64 P, .int .i64 O, .int .i8 Z, x8, .slice WA nW cW, .slice BA nB cB, x11, x12, x13, x14, x15, x16, x17, x18] 35)) := ((Below.refl _ _).alloc (by first | exact Nat.le_refl _ | (simp; done) | (simp; omega)) _).alloc (by first | exact Nat.le_refl _ | (simp; done) | (simp; omega)) _
       refine (HC1.out _ ((HR.out.below hal).more hal.size)).mono ?_
       rintro e w1 ⟨v1, rfl, ho1, hb⟩
       have hh : Below w.heap.size w w1 := hal.trans (hb.mono hal.size)
       have qTB := (boxNew H W C A n c 29) w
       try simp only [World.size_alloc] at qTB
       have TB := Lib.hid ((qTB.below (B' := w.heap.size + 1) (by omega) (((Below.refl _ _).alloc (by first | exact Nat.le_refl _ | (simp; done) | (simp; omega)) _).mono (by simp))).below (by first | (simp; done) | (simp; omega)) hb)
       have yTB : w.heap.size < w1.heap.size := by have := hb.size; simp at this; omega
       clear qTB
       have qTN := (NodeAt.new x0 x1 x2 x8 x11 x12 x13 x14 x15 x16 x17 x18 K S P O Z WA BA nW cW nB cB 35) (w.alloc (.cells #[.int .i64 H, .int .i64 W, .int .i64 C, .slice A n c] 29))
       try simp only [World.size_alloc] at qTN
       have TN := Lib.hid (qTN.below (by first | (simp; done) | (simp; omega)) hb)
       have yTN : w.heap.size + 1 < w1.heap.size := by have := hb.size; simp at this; omega
       clear qTN
       replace HR := Lib.hid ((HR.out.below hh).more hh.size)
       have HBW : Hid (Below w.heap.size w w1) := Lib.hid hh
       obtain ⟨A1, c1, rfl, -, -, hrd1⟩ := Kit.own_rd ho1
       have RA1 := Lib.hid hrd1
       clear ho1 hrd1
       obtain ⟨tbp0, tbp1, tbp2, tbp3⟩ := TB.out
       clear hb hh hal)
    | (go_at_call 11
       have hal : Below w1.heap.size w1 (w1.alloc (.cells #[.int .i64 X, .int .i64 Y, .int .i64 U, .slice A1 m c1] 29)) := (Below.refl _ _).alloc (by first | exact Nat.le_refl _ | (simp; done) | (simp; omega)) _
       refine (HC2.out _ ((HR.out.below hal).more hal.size)).mono ?_
       rintro e w2 ⟨v2, rfl, ho2, hb⟩
       have hh : Below w1.heap.size w1 w2 := hal.trans (hb.mono hal.size)
       have qT1 := (boxNew X Y U A1 m c1 29) w1
       try simp only [World.size_alloc] at qT1
       have T1 := Lib.hid (qT1.below (by first | (simp; done) | (simp; omega)) hb)
       have yT1 : w1.heap.size < w2.heap.size := by have := hb.size; simp at this; omega
       clear qT1
       replace TB := Lib.hid (TB.out.below yTB hh)
       replace yTB := Nat.lt_of_lt_of_le yTB hh.size
       replace TN := Lib.hid (TN.out.below yTN hh)
       replace yTN := Nat.lt_of_lt_of_le yTN hh.size
       replace HR := Lib.hid ((HR.out.below hh).more hh.size)
       replace RA1 := Lib.hid ((RA1.out.below hh).more hh.size)
       replace HBW := Lib.hid (HBW.out.trans (hh.mono HBW.out.size))
       clear tbp0 tbp1 tbp2 tbp3
       obtain ⟨A2, c2, rfl, -, -, hrd2⟩ := Kit.own_rd ho2
       have RA2 := Lib.hid hrd2
       clear ho2 hrd2
       obtain ⟨tbp0, tbp1, tbp2, tbp3⟩ := TB.out
       obtain ⟨t1p0, t1p1, t1p2, t1p3⟩ := T1.out
       clear hb hh hal)
    | (refine wpList_load_mid rfl 35 (.tmp 3) rfl (w.heap.size + 1) 0 rfl [x0, x1, x2, .int .i64 K, .int .i64 S, .int .i64 P, .int .i64 O, .int .i8 Z, x8, .slice WA nW cW, .slice BA nB cB, x11, x12, x13, x14, x15, x16, x17, x18] _ (TN0.out) Try.underlying35 rfl (by kernel_rfl) ?_)
    | (refine wpList_load_mid rfl 35 (.tmp 3) rfl (w.heap.size + 1) 0 rfl [x0, x1, x2, .int .i64 K, .int .i64 S, .int .i64 P, .int .i64 O, .int .i8 Z, x8, .slice WA nW cW, .slice BA nB cB, x11, x12, x13, x14, x15, x16, x17, x18] _ (TN.out) Try.underlying35 rfl (by kernel_rfl) ?_)
    | (refine wpList_load_mid rfl 35 (.tmp 3) rfl (w.heap.size + 1) 0 rfl [x0, x1, x2, .int .i64 K, .int .i64 S, .int .i64 P, .int .i64 O, .int .i8 Z, x8, .slice WA nW cW, .slice BA nB cB, x11, x12, x13, x14, x15, x16, x17, x18] _ (TN.out.below yTN ((Below.refl _ _).alloc (Nat.le_refl _) _)) Try.underlying35 rfl (by kernel_rfl) ?_))
  have qT2 := boxNew X Y U A2 m c2 29 w2
  have hb2 : Below w2.heap.size w2 (w2.alloc (.cells #[.int .i64 X, .int .i64 Y, .int .i64 U, .slice A2 m c2] 29)) := (Below.refl _ _).alloc (Nat.le_refl _) _
  have hs2 : (w2.alloc (.cells #[.int .i64 X, .int .i64 Y, .int .i64 U, .slice A2 m c2] 29)).heap.size = w2.heap.size + 1 := by simp
  generalize (w2.alloc (.cells #[.int .i64 X, .int .i64 Y, .int .i64 U, .slice A2 m c2] 29)) = W0 at qT2 hb2 hs2 ⊢
  replace TB := Lib.hid (TB.out.below yTB hb2)
  replace T1 := Lib.hid (T1.out.below yT1 hb2)
  have T2 := Lib.hid qT2
  replace HR : Hid (Kit.Rd W0 W0.heap.size A (I8s zs)) := Lib.hid ((HR.out.below hb2).more hb2.size)
  replace RA1 : Hid (Kit.Rd W0 W0.heap.size A1 (I8s xs)) := Lib.hid ((RA1.out.below hb2).more hb2.size)
  replace RA2 : Hid (Kit.Rd W0 W0.heap.size A2 (I8s ys)) := Lib.hid ((RA2.out.below hb2).more hb2.size)
  replace HBW := Lib.hid (HBW.out.trans (hb2.mono HBW.out.size))
  replace yTB := Nat.lt_of_lt_of_le yTB hb2.size
  have y1 : w1.heap.size < W0.heap.size := Nat.lt_of_lt_of_le yT1 hb2.size
  clear hb2 hs2 qT2 tbp0 tbp1 tbp2 tbp3 t1p0 t1p1 t1p2 t1p3 TN yTN yT1 HC1 HC2 HC3 HC4 TN0
  generalize w1.heap.size = g1 at T1 y1 ⊢
  generalize w2.heap.size = g2 at T2 ⊢
  obtain ⟨za1, za2, za3, za4⟩ := T1.out
  obtain ⟨zb1, zb2, zb3, zb4⟩ := T2.out
  go_wp2_with fail
  go_loopw [9] (fun u wr => ∃ k nq : Nat, k ≤ m ∧ u = .int .i64 k ∧ Hid (wr = W0.drewN nq)) (fun u _ => m - (intOf u).toNat)
  case atStart => exact ⟨0, 0, Nat.zero_le _, rfl, Lib.hid rfl⟩
  case round =>
    obtain ⟨k, nq, hk, rfl, hw⟩ := hrel
    obtain rfl := hw.out
    clear hw
    by_cases hlt : k < m
    · obtain ⟨b1, o1, rfl, _, hcx0⟩ := ints_getD RA1.out (j := 0) (by have := HX.out; omega)
      obtain ⟨b2, o2, rfl, _, hcy0⟩ := ints_getD RA2.out (j := 0) (by have := HY.out; omega)
      have hcx := hcx0 k (by have := HX.out; omega)
      have hcy := hcy0 k (by have := HY.out; omega)
      have hle := HLE.out k
      generalize xs.getD k 0 = x at hcx hle
      generalize ys.getD k 0 = y at hcy hle
      have hgt : ¬ y > x := by omega
      have hk0 : (0 : Int) ≤ (k : Int) := by omega
      have hkm : (k : Int) < (m : Int) := by omega
      clear hcx0 hcy0 hle
      go_wp2_with fail
      go_quiet (fail)
      go_wp2_with fail
      go_roundw
      case rel => exact ⟨k + 1, _, by omega, by go_num, Lib.hid rfl⟩
      case measure => simp [intOf]; omega
    · obtain rfl : k = m := by omega
      have hbq : Below W0.heap.size W0 (W0.drewN nq) := Kit.below_drewN (Below.refl _ _) nq
      replace TB := Lib.hid (TB.out.below yTB hbq)
      replace HR := Lib.hid (HR.out.below hbq)
      replace HBW := Lib.hid (HBW.out.trans (hbq.mono HBW.out.size))
      have sz : (W0.drewN nq).heap.size = W0.heap.size := rfl
      rw [← sz] at yTB HR
      replace T1 := Lib.hid (T1.out.below y1 hbq)
      clear za1 za2 za3 za4 zb1 zb2 zb3 zb4
      generalize W0.drewN nq = V0 at TB HR HBW yTB T1 hbq sz ⊢
      clear hbq sz T2 RA1 RA2 HX HY HLE
      obtain ⟨za1, za2, za3, za4⟩ := T1.out
      obtain ⟨tbp0, tbp1, tbp2, tbp3⟩ := TB.out
      go_wp2_with (first
    | (go_at_call 10
       have hal : Below V0.heap.size V0 V0 := Below.refl _ _
       refine (HQ1.out _ ((HR.out.below hal).more hal.size)).mono ?_
       rintro e w3 ⟨v3, rfl, ho3, hb⟩
       have hh : Below V0.heap.size V0 w3 := hal.trans (hb.mono hal.size)
       replace TB := Lib.hid (TB.out.below yTB hh)
       replace yTB := Nat.lt_of_lt_of_le yTB hh.size
       replace HR := Lib.hid ((HR.out.below hh).more hh.size)
       replace HBW := Lib.hid (HBW.out.trans (hh.mono HBW.out.size))
       clear tbp0 tbp1 tbp2 tbp3
       obtain ⟨A3, c3, rfl, -, -, hrd3⟩ := Kit.own_rd ho3
       have RA3 := Lib.hid hrd3
       clear ho3 hrd3
       obtain ⟨tbp0, tbp1, tbp2, tbp3⟩ := TB.out
       clear hb hh hal)
    | (go_at_call 11
       have hal : Below w3.heap.size w3 (w3.alloc (.cells #[.int .i64 H, .int .i64 W, .int .i64 C, .slice A3 n c3] 29)) := (Below.refl _ _).alloc (by first | exact Nat.le_refl _ | (simp; done) | (simp; omega)) _
       refine (HQ2.out _ ((HR.out.below hal).more hal.size)).mono ?_
       rintro e w4 ⟨v4, rfl, ho4, hb⟩
       have hh : Below w3.heap.size w3 w4 := hal.trans (hb.mono hal.size)
       have qT3 := (boxNew H W C A3 n c3 29) w3
       try simp only [World.size_alloc] at qT3
       have T3 := Lib.hid (qT3.below (by first | (simp; done) | (simp; omega)) hb)
       have yT3 : w3.heap.size < w4.heap.size := by have := hb.size; simp at this; omega
       clear qT3
       replace TB := Lib.hid (TB.out.below yTB hh)
       replace yTB := Nat.lt_of_lt_of_le yTB hh.size
       replace HR := Lib.hid ((HR.out.below hh).more hh.size)
       replace RA3 := Lib.hid ((RA3.out.below hh).more hh.size)
       replace HBW := Lib.hid (HBW.out.trans (hh.mono HBW.out.size))
       clear tbp0 tbp1 tbp2 tbp3
       obtain ⟨A4, c4, rfl, -, -, hrd4⟩ := Kit.own_rd ho4
       have RA4 := Lib.hid hrd4
       clear ho4 hrd4
       obtain ⟨tbp0, tbp1, tbp2, tbp3⟩ := TB.out
       obtain ⟨t3p0, t3p1, t3p2, t3p3⟩ := T3.out
       clear hb hh hal)
    | (go_at_call 15
       have hal : Below w4.heap.size w4 (w4.alloc (.cells #[.int .i64 H, .int .i64 W, .int .i64 C, .slice A4 n c4] 29)) := (Below.refl _ _).alloc (by first | exact Nat.le_refl _ | (simp; done) | (simp; omega)) _
       refine (refRight_to H W C A n c true HT.out _).mono ?_
       rintro e w5 ⟨rfl, hb⟩
       have hh : Below w4.heap.size w4 w5 := hal.trans (hb.mono hal.size)
       have qT4 := (boxNew H W C A4 n c4 29) w4
       try simp only [World.size_alloc] at qT4
       have T4 := Lib.hid (qT4.below (by first | (simp; done) | (simp; omega)) hb)
       have yT4 : w4.heap.size < w5.heap.size := by have := hb.size; simp at this; omega
       clear qT4
       replace TB := Lib.hid (TB.out.below yTB hh)
       replace yTB := Nat.lt_of_lt_of_le yTB hh.size
       replace T3 := Lib.hid (T3.out.below yT3 hh)
       replace yT3 := Nat.lt_of_lt_of_le yT3 hh.size
       replace HR := Lib.hid ((HR.out.below hh).more hh.size)
       replace RA3 := Lib.hid ((RA3.out.below hh).more hh.size)
       replace RA4 := Lib.hid ((RA4.out.below hh).more hh.size)
       replace HBW := Lib.hid (HBW.out.trans (hh.mono HBW.out.size))
       clear tbp0 tbp1 tbp2 tbp3 t3p0 t3p1 t3p2 t3p3
       obtain ⟨tbp0, tbp1, tbp2, tbp3⟩ := TB.out
       obtain ⟨t3p0, t3p1, t3p2, t3p3⟩ := T3.out
       obtain ⟨t4p0, t4p1, t4p2, t4p3⟩ := T4.out
       clear hb hh hal)
    | (go_at_call 13
       have hchk := w6
       clear hchk
       have hal : Below w6.heap.size w6 w6 := Below.refl _ _
       refine (refSame_to H W C A4 A zs zs n c4 c HN.out HN.out (by omega) true (by simp) _ hal.size hal.size (RA4.out.below hal) (HR.out.below hal)).mono ?_
       rintro e w7 ⟨rfl, hb⟩
       have hh : Below w6.heap.size w6 w7 := hal.trans (hb.mono hal.size)
       replace TB := Lib.hid (TB.out.below yTB hh)
       replace yTB := Nat.lt_of_lt_of_le yTB hh.size
       replace T3 := Lib.hid (T3.out.below yT3 hh)
       replace yT3 := Nat.lt_of_lt_of_le yT3 hh.size
       replace T4 := Lib.hid (T4.out.below yT4 hh)
       replace yT4 := Nat.lt_of_lt_of_le yT4 hh.size
       replace HR := Lib.hid ((HR.out.below hh).more hh.size)
       replace RA3 := Lib.hid ((RA3.out.below hh).more hh.size)
       replace RA4 := Lib.hid ((RA4.out.below hh).more hh.size)
       replace HBW := Lib.hid (HBW.out.trans (hh.mono HBW.out.size))
       clear tbp0 tbp1 tbp2 tbp3 t3p0 t3p1 t3p2 t3p3 t4p0 t4p1 t4p2 t4p3
       obtain ⟨tbp0, tbp1, tbp2, tbp3⟩ := TB.out
       obtain ⟨t3p0, t3p1, t3p2, t3p3⟩ := T3.out
       obtain ⟨t4p0, t4p1, t4p2, t4p3⟩ := T4.out
       clear hb hh hal)
    | (go_at_call 13
       have hal : Below w5.heap.size w5 w5 := Below.refl _ _
       refine (refSame_to H W C A3 A zs zs n c3 c HN.out HN.out (by omega) true (by simp) _ hal.size hal.size (RA3.out.below hal) (HR.out.below hal)).mono ?_
       rintro e w6 ⟨rfl, hb⟩
       have hh : Below w5.heap.size w5 w6 := hal.trans (hb.mono hal.size)
       replace TB := Lib.hid (TB.out.below yTB hh)
       replace yTB := Nat.lt_of_lt_of_le yTB hh.size
       replace T3 := Lib.hid (T3.out.below yT3 hh)
       replace yT3 := Nat.lt_of_lt_of_le yT3 hh.size
       replace T4 := Lib.hid (T4.out.below yT4 hh)
       replace yT4 := Nat.lt_of_lt_of_le yT4 hh.size
       replace HR := Lib.hid ((HR.out.below hh).more hh.size)
       replace RA3 := Lib.hid ((RA3.out.below hh).more hh.size)
       replace RA4 := Lib.hid ((RA4.out.below hh).more hh.size)
       replace HBW := Lib.hid (HBW.out.trans (hh.mono HBW.out.size))
       clear tbp0 tbp1 tbp2 tbp3 t3p0 t3p1 t3p2 t3p3 t4p0 t4p1 t4p2 t4p3
       obtain ⟨tbp0, tbp1, tbp2, tbp3⟩ := TB.out
       obtain ⟨t3p0, t3p1, t3p2, t3p3⟩ := T3.out
       obtain ⟨t4p0, t4p1, t4p2, t4p3⟩ := T4.out
       clear hb hh hal)
    | (go_at_call 9
       have hal : Below w7.heap.size w7 w7 := Below.refl _ _
       refine (known19 _).mono ?_
       rintro e w8 ⟨rfl, hb⟩
       have hh : Below w7.heap.size w7 w8 := hal.trans (hb.mono hal.size)
       replace TB := Lib.hid (TB.out.below yTB hh)
       replace yTB := Nat.lt_of_lt_of_le yTB hh.size
       replace T3 := Lib.hid (T3.out.below yT3 hh)
       replace yT3 := Nat.lt_of_lt_of_le yT3 hh.size
       replace T4 := Lib.hid (T4.out.below yT4 hh)
       replace yT4 := Nat.lt_of_lt_of_le yT4 hh.size
       replace HR := Lib.hid ((HR.out.below hh).more hh.size)
       replace RA3 := Lib.hid ((RA3.out.below hh).more hh.size)
       replace RA4 := Lib.hid ((RA4.out.below hh).more hh.size)
       replace HBW := Lib.hid (HBW.out.trans (hh.mono HBW.out.size))
       clear tbp0 tbp1 tbp2 tbp3 t3p0 t3p1 t3p2 t3p3 t4p0 t4p1 t4p2 t4p3
       obtain ⟨tbp0, tbp1, tbp2, tbp3⟩ := TB.out
       obtain ⟨t3p0, t3p1, t3p2, t3p3⟩ := T3.out
       obtain ⟨t4p0, t4p1, t4p2, t4p3⟩ := T4.out
       clear hb hh hal))
      go_ret
      exact ⟨rfl, HBW.out⟩
set_option maxRecDepth 100000 in
set_option maxHeartbeats 8000000 in
theorem walk_bad {w : World} (H W C : Int) (A : Option Addr) (zs : List Int) (n c : Nat) (hn : zs.length = n) (hz : I8b zs) (x0 x1 x2 x8 x11 x12 x13 x14 x15 x16 x17 x18 : Value) (K S P O Z : Int) (WA BA : Option Addr) (nW cW nB cB : Nat) (hf1 : n ≤ 1024) (ht : tensB H W C n = false) (hr : Kit.Rd w w.heap.size A (I8s zs)) :
    Calls Try.prog 6 #[.agg #[.int .i64 H, .int .i64 W, .int .i64 C, .slice A n c], .agg #[x0, x1, x2, .int .i64 K, .int .i64 S, .int .i64 P, .int .i64 O, .int .i8 Z, x8, .slice WA nW cW, .slice BA nB cB, x11, x12, x13, x14, x15, x16, x17, x18]] w fun e w' => e = .returned (.bool true) ∧ Below w.heap.size w w' := by
  obtain ⟨X, Y, U, m, xs, ys, er, hx, hy, hm6, hle, hC1, hC2, hC3, hC4⟩ := pool_both H W C A zs n c hn hz x0 x1 x2 x8 x11 x12 x13 x14 x15 x16 x17 x18 K S P O Z WA BA nW cW nB cB
  have HC1 := Lib.hid hC1
  have HC2 := Lib.hid hC2
  have HC3 := Lib.hid hC3
  have HC4 := Lib.hid hC4
  have HX := Lib.hid hx
  have HY := Lib.hid hy
  have HLE := Lib.hid hle
  have HR := Lib.hid hr
  obtain ⟨hQ1, hQ2⟩ := pool_none H W C A zs n c ht
  have HQ1 := Lib.hid hQ1
  have HQ2 := Lib.hid hQ2
  have HT := Lib.hid ht
  have HN := Lib.hid hn
  clear hC1 hC2 hC3 hC4 hx hy hle hr hn hz hQ1 hQ2 ht
  have h1 : ¬ (n : Int) > 1024 := by omega
  have TN0 : Hid (NodeAt (w.heap.size + 1) x0 x1 x2 x8 x11 x12 x13 x14 x15 x16 x17 x18 K S P O Z WA BA nW cW nB cB ((w.alloc (.cells #[.int .i64 H, .int .i64 W, .int .i64 C, .slice A n c] 29)).alloc (.cells #[x0, x1, x2, .int .i64 K, .int .i64 S, .int .i64 P, .int .i64 O, .int .i8 Z, x8, .slice WA nW cW, .slice BA nB cB, x11, x12, x13, x14, x15, x16, x17, x18] 35))) := by
    have h := NodeAt.new x0 x1 x2 x8 x11 x12 x13 x14 x15 x16 x17 x18 K S P O Z WA BA nW cW nB cB 35 (w.alloc (.cells #[.int .i64 H, .int .i64 W, .int .i64 C, .slice A n c] 29))
    rw [World.size_alloc] at h
    exact Lib.hid h
  go_enter Try.func6, Try.ntmps6
  go_upto_region 5 with (first
    | (go_at_call 10
       have hal : Below w.heap.size w ((w.alloc (.cells #[.int .i64 H, .int .i64 W, .int .i64 C, .slice A n c] 29)).alloc (.cells #[x0, x1, x2, .int .i64 K, .int .i64 S, .int .i64 P, .int .i64 O, .int .i8 Z, x8, .slice WA nW cW, .slice BA nB cB, x11, x12, x13, x14, x15, x16, x17, x18] 35)) := ((Below.refl _ _).alloc (by first | exact Nat.le_refl _ | (simp; done) | (simp; omega)) _).alloc (by first | exact Nat.le_refl _ | (simp; done) | (simp; omega)) _
       refine (HC1.out _ ((HR.out.below hal).more hal.size)).mono ?_
       rintro e w1 ⟨v1, rfl, ho1, hb⟩
       have hh : Below w.heap.size w w1 := hal.trans (hb.mono hal.size)
       have qTB := (boxNew H W C A n c 29) w
       try simp only [World.size_alloc] at qTB
       have TB := Lib.hid ((qTB.below (B' := w.heap.size + 1) (by omega) (((Below.refl _ _).alloc (by first | exact Nat.le_refl _ | (simp; done) | (simp; omega)) _).mono (by simp))).below (by first | (simp; done) | (simp; omega)) hb)
       have yTB : w.heap.size < w1.heap.size := by have := hb.size; simp at this; omega
       clear qTB
       have qTN := (NodeAt.new x0 x1 x2 x8 x11 x12 x13 x14 x15 x16 x17 x18 K S P O Z WA BA nW cW nB cB 35) (w.alloc (.cells #[.int .i64 H, .int .i64 W, .int .i64 C, .slice A n c] 29))
       try simp only [World.size_alloc] at qTN
       have TN := Lib.hid (qTN.below (by first | (simp; done) | (simp; omega)) hb)
       have yTN : w.heap.size + 1 < w1.heap.size := by have := hb.size; simp at this; omega
       clear qTN
       replace HR := Lib.hid ((HR.out.below hh).more hh.size)
       have HBW : Hid (Below w.heap.size w w1) := Lib.hid hh
       obtain ⟨A1, c1, rfl, -, -, hrd1⟩ := Kit.own_rd ho1
       have RA1 := Lib.hid hrd1
       clear ho1 hrd1
       obtain ⟨tbp0, tbp1, tbp2, tbp3⟩ := TB.out
       clear hb hh hal)
    | (go_at_call 11
       have hal : Below w1.heap.size w1 (w1.alloc (.cells #[.int .i64 X, .int .i64 Y, .int .i64 U, .slice A1 m c1] 29)) := (Below.refl _ _).alloc (by first | exact Nat.le_refl _ | (simp; done) | (simp; omega)) _
       refine (HC2.out _ ((HR.out.below hal).more hal.size)).mono ?_
       rintro e w2 ⟨v2, rfl, ho2, hb⟩
       have hh : Below w1.heap.size w1 w2 := hal.trans (hb.mono hal.size)
       have qT1 := (boxNew X Y U A1 m c1 29) w1
       try simp only [World.size_alloc] at qT1
       have T1 := Lib.hid (qT1.below (by first | (simp; done) | (simp; omega)) hb)
       have yT1 : w1.heap.size < w2.heap.size := by have := hb.size; simp at this; omega
       clear qT1
       replace TB := Lib.hid (TB.out.below yTB hh)
       replace yTB := Nat.lt_of_lt_of_le yTB hh.size
       replace TN := Lib.hid (TN.out.below yTN hh)
       replace yTN := Nat.lt_of_lt_of_le yTN hh.size
       replace HR := Lib.hid ((HR.out.below hh).more hh.size)
       replace RA1 := Lib.hid ((RA1.out.below hh).more hh.size)
       replace HBW := Lib.hid (HBW.out.trans (hh.mono HBW.out.size))
       clear tbp0 tbp1 tbp2 tbp3
       obtain ⟨A2, c2, rfl, -, -, hrd2⟩ := Kit.own_rd ho2
       have RA2 := Lib.hid hrd2
       clear ho2 hrd2
       obtain ⟨tbp0, tbp1, tbp2, tbp3⟩ := TB.out
       obtain ⟨t1p0, t1p1, t1p2, t1p3⟩ := T1.out
       clear hb hh hal)
    | (refine wpList_load_mid rfl 35 (.tmp 3) rfl (w.heap.size + 1) 0 rfl [x0, x1, x2, .int .i64 K, .int .i64 S, .int .i64 P, .int .i64 O, .int .i8 Z, x8, .slice WA nW cW, .slice BA nB cB, x11, x12, x13, x14, x15, x16, x17, x18] _ (TN0.out) Try.underlying35 rfl (by kernel_rfl) ?_)
    | (refine wpList_load_mid rfl 35 (.tmp 3) rfl (w.heap.size + 1) 0 rfl [x0, x1, x2, .int .i64 K, .int .i64 S, .int .i64 P, .int .i64 O, .int .i8 Z, x8, .slice WA nW cW, .slice BA nB cB, x11, x12, x13, x14, x15, x16, x17, x18] _ (TN.out) Try.underlying35 rfl (by kernel_rfl) ?_)
    | (refine wpList_load_mid rfl 35 (.tmp 3) rfl (w.heap.size + 1) 0 rfl [x0, x1, x2, .int .i64 K, .int .i64 S, .int .i64 P, .int .i64 O, .int .i8 Z, x8, .slice WA nW cW, .slice BA nB cB, x11, x12, x13, x14, x15, x16, x17, x18] _ (TN.out.below yTN ((Below.refl _ _).alloc (Nat.le_refl _) _)) Try.underlying35 rfl (by kernel_rfl) ?_))
  have qT2 := boxNew X Y U A2 m c2 29 w2
  have hb2 : Below w2.heap.size w2 (w2.alloc (.cells #[.int .i64 X, .int .i64 Y, .int .i64 U, .slice A2 m c2] 29)) := (Below.refl _ _).alloc (Nat.le_refl _) _
  have hs2 : (w2.alloc (.cells #[.int .i64 X, .int .i64 Y, .int .i64 U, .slice A2 m c2] 29)).heap.size = w2.heap.size + 1 := by simp
  generalize (w2.alloc (.cells #[.int .i64 X, .int .i64 Y, .int .i64 U, .slice A2 m c2] 29)) = W0 at qT2 hb2 hs2 ⊢
  replace TB := Lib.hid (TB.out.below yTB hb2)
  replace T1 := Lib.hid (T1.out.below yT1 hb2)
  have T2 := Lib.hid qT2
  replace HR : Hid (Kit.Rd W0 W0.heap.size A (I8s zs)) := Lib.hid ((HR.out.below hb2).more hb2.size)
  replace RA1 : Hid (Kit.Rd W0 W0.heap.size A1 (I8s xs)) := Lib.hid ((RA1.out.below hb2).more hb2.size)
  replace RA2 : Hid (Kit.Rd W0 W0.heap.size A2 (I8s ys)) := Lib.hid ((RA2.out.below hb2).more hb2.size)
  replace HBW := Lib.hid (HBW.out.trans (hb2.mono HBW.out.size))
  replace yTB := Nat.lt_of_lt_of_le yTB hb2.size
  have y1 : w1.heap.size < W0.heap.size := Nat.lt_of_lt_of_le yT1 hb2.size
  clear hb2 hs2 qT2 tbp0 tbp1 tbp2 tbp3 t1p0 t1p1 t1p2 t1p3 TN yTN yT1 HC1 HC2 HC3 HC4 TN0
  generalize w1.heap.size = g1 at T1 y1 ⊢
  generalize w2.heap.size = g2 at T2 ⊢
  obtain ⟨za1, za2, za3, za4⟩ := T1.out
  obtain ⟨zb1, zb2, zb3, zb4⟩ := T2.out
  go_wp2_with fail
  go_loopw [9] (fun u wr => ∃ k nq : Nat, k ≤ m ∧ u = .int .i64 k ∧ Hid (wr = W0.drewN nq)) (fun u _ => m - (intOf u).toNat)
  case atStart => exact ⟨0, 0, Nat.zero_le _, rfl, Lib.hid rfl⟩
  case round =>
    obtain ⟨k, nq, hk, rfl, hw⟩ := hrel
    obtain rfl := hw.out
    clear hw
    by_cases hlt : k < m
    · obtain ⟨b1, o1, rfl, _, hcx0⟩ := ints_getD RA1.out (j := 0) (by have := HX.out; omega)
      obtain ⟨b2, o2, rfl, _, hcy0⟩ := ints_getD RA2.out (j := 0) (by have := HY.out; omega)
      have hcx := hcx0 k (by have := HX.out; omega)
      have hcy := hcy0 k (by have := HY.out; omega)
      have hle := HLE.out k
      generalize xs.getD k 0 = x at hcx hle
      generalize ys.getD k 0 = y at hcy hle
      have hgt : ¬ y > x := by omega
      have hk0 : (0 : Int) ≤ (k : Int) := by omega
      have hkm : (k : Int) < (m : Int) := by omega
      clear hcx0 hcy0 hle
      go_wp2_with fail
      go_quiet (fail)
      go_wp2_with fail
      go_roundw
      case rel => exact ⟨k + 1, _, by omega, by go_num, Lib.hid rfl⟩
      case measure => simp [intOf]; omega
    · obtain rfl : k = m := by omega
      have hbq : Below W0.heap.size W0 (W0.drewN nq) := Kit.below_drewN (Below.refl _ _) nq
      replace TB := Lib.hid (TB.out.below yTB hbq)
      replace HR := Lib.hid (HR.out.below hbq)
      replace HBW := Lib.hid (HBW.out.trans (hbq.mono HBW.out.size))
      have sz : (W0.drewN nq).heap.size = W0.heap.size := rfl
      rw [← sz] at yTB HR
      replace T1 := Lib.hid (T1.out.below y1 hbq)
      clear za1 za2 za3 za4 zb1 zb2 zb3 zb4
      generalize W0.drewN nq = V0 at TB HR HBW yTB T1 hbq sz ⊢
      clear hbq sz T2 RA1 RA2 HX HY HLE
      obtain ⟨za1, za2, za3, za4⟩ := T1.out
      obtain ⟨tbp0, tbp1, tbp2, tbp3⟩ := TB.out
      go_wp2_with (first
    | (go_at_call 10
       have hal : Below V0.heap.size V0 V0 := Below.refl _ _
       refine (HQ1.out _ ((HR.out.below hal).more hal.size)).mono ?_
       rintro e w3 ⟨v3, rfl, ho3, hb⟩
       have hh : Below V0.heap.size V0 w3 := hal.trans (hb.mono hal.size)
       replace TB := Lib.hid (TB.out.below yTB hh)
       replace yTB := Nat.lt_of_lt_of_le yTB hh.size
       replace HR := Lib.hid ((HR.out.below hh).more hh.size)
       replace HBW := Lib.hid (HBW.out.trans (hh.mono HBW.out.size))
       clear tbp0 tbp1 tbp2 tbp3
       obtain ⟨A3, c3, rfl, -, -, hrd3⟩ := Kit.own_rd ho3
       have RA3 := Lib.hid hrd3
       clear ho3 hrd3
       obtain ⟨tbp0, tbp1, tbp2, tbp3⟩ := TB.out
       clear hb hh hal)
    | (go_at_call 11
       have hal : Below w3.heap.size w3 (w3.alloc (.cells #[.int .i64 0, .int .i64 0, .int .i64 0, .slice A3 0 c3] 29)) := (Below.refl _ _).alloc (by first | exact Nat.le_refl _ | (simp; done) | (simp; omega)) _
       refine (HQ2.out _ ((HR.out.below hal).more hal.size)).mono ?_
       rintro e w4 ⟨v4, rfl, ho4, hb⟩
       have hh : Below w3.heap.size w3 w4 := hal.trans (hb.mono hal.size)
       have qT3 := (boxNew 0 0 0 A3 0 c3 29) w3
       try simp only [World.size_alloc] at qT3
       have T3 := Lib.hid (qT3.below (by first | (simp; done) | (simp; omega)) hb)
       have yT3 : w3.heap.size < w4.heap.size := by have := hb.size; simp at this; omega
       clear qT3
       replace TB := Lib.hid (TB.out.below yTB hh)
       replace yTB := Nat.lt_of_lt_of_le yTB hh.size
       replace HR := Lib.hid ((HR.out.below hh).more hh.size)
       replace RA3 := Lib.hid ((RA3.out.below hh).more hh.size)
       replace HBW := Lib.hid (HBW.out.trans (hh.mono HBW.out.size))
       clear tbp0 tbp1 tbp2 tbp3
       obtain ⟨A4, c4, rfl, -, -, hrd4⟩ := Kit.own_rd ho4
       have RA4 := Lib.hid hrd4
       clear ho4 hrd4
       obtain ⟨tbp0, tbp1, tbp2, tbp3⟩ := TB.out
       obtain ⟨t3p0, t3p1, t3p2, t3p3⟩ := T3.out
       clear hb hh hal)
    | (go_at_call 15
       have hal : Below w4.heap.size w4 (w4.alloc (.cells #[.int .i64 0, .int .i64 0, .int .i64 0, .slice A4 0 c4] 29)) := (Below.refl _ _).alloc (by first | exact Nat.le_refl _ | (simp; done) | (simp; omega)) _
       refine (refRight_to H W C A n c false HT.out _).mono ?_
       rintro e w5 ⟨rfl, hb⟩
       have hh : Below w4.heap.size w4 w5 := hal.trans (hb.mono hal.size)
       have qT4 := (boxNew 0 0 0 A4 0 c4 29) w4
       try simp only [World.size_alloc] at qT4
       have T4 := Lib.hid (qT4.below (by first | (simp; done) | (simp; omega)) hb)
       have yT4 : w4.heap.size < w5.heap.size := by have := hb.size; simp at this; omega
       clear qT4
       replace TB := Lib.hid (TB.out.below yTB hh)
       replace yTB := Nat.lt_of_lt_of_le yTB hh.size
       replace T3 := Lib.hid (T3.out.below yT3 hh)
       replace yT3 := Nat.lt_of_lt_of_le yT3 hh.size
       replace HR := Lib.hid ((HR.out.below hh).more hh.size)
       replace RA3 := Lib.hid ((RA3.out.below hh).more hh.size)
       replace RA4 := Lib.hid ((RA4.out.below hh).more hh.size)
       replace HBW := Lib.hid (HBW.out.trans (hh.mono HBW.out.size))
       clear tbp0 tbp1 tbp2 tbp3 t3p0 t3p1 t3p2 t3p3
       obtain ⟨tbp0, tbp1, tbp2, tbp3⟩ := TB.out
       obtain ⟨t3p0, t3p1, t3p2, t3p3⟩ := T3.out
       obtain ⟨t4p0, t4p1, t4p2, t4p3⟩ := T4.out
       clear hb hh hal)
    | (go_at_call 9
       have hal : Below w5.heap.size w5 w5 := Below.refl _ _
       refine (known19 _).mono ?_
       rintro e w8 ⟨rfl, hb⟩
       have hh : Below w5.heap.size w5 w8 := hal.trans (hb.mono hal.size)
       replace TB := Lib.hid (TB.out.below yTB hh)
       replace yTB := Nat.lt_of_lt_of_le yTB hh.size
       replace T3 := Lib.hid (T3.out.below yT3 hh)
       replace yT3 := Nat.lt_of_lt_of_le yT3 hh.size
       replace T4 := Lib.hid (T4.out.below yT4 hh)
       replace yT4 := Nat.lt_of_lt_of_le yT4 hh.size
       replace HR := Lib.hid ((HR.out.below hh).more hh.size)
       replace RA3 := Lib.hid ((RA3.out.below hh).more hh.size)
       replace RA4 := Lib.hid ((RA4.out.below hh).more hh.size)
       replace HBW := Lib.hid (HBW.out.trans (hh.mono HBW.out.size))
       clear tbp0 tbp1 tbp2 tbp3 t3p0 t3p1 t3p2 t3p3 t4p0 t4p1 t4p2 t4p3
       obtain ⟨tbp0, tbp1, tbp2, tbp3⟩ := TB.out
       obtain ⟨t3p0, t3p1, t3p2, t3p3⟩ := T3.out
       obtain ⟨t4p0, t4p1, t4p2, t4p3⟩ := T4.out
       clear hb hh hal))
      go_ret
      exact ⟨rfl, HBW.out⟩
theorem walk {w : World} (H : Int) (wH : (Lit.int .i64 H).wf = true) (W : Int) (wW : (Lit.int .i64 W).wf = true) (C : Int) (wC : (Lit.int .i64 C).wf = true) (A : Option Addr) (zs : List Int) (c : Nat) (hc : zs.length ≤ c) (hm : c ≤ maxLen) (hw : ∀ n ∈ zs, (Lit.int .i8 n).wf = true) (hr : Kit.Rd w w.heap.size A (zs.map (.int .i8)))
    (x0 x1 x2 x8 x11 x12 x13 x14 x15 x16 x17 x18 : Value) (K S P O Z : Int) (WA : Option Addr) (ws : List Int) (cW : Nat) (BA : Option Addr) (bs : List Int) (cB : Nat) (wZ : (Lit.int .i8 Z).wf = true)
    (hcw : ws.length ≤ cW) (hmw : cW ≤ maxLen) (hww : ∀ n ∈ ws, (Lit.int .i8 n).wf = true) (hrw : Kit.Rd w w.heap.size WA (ws.map (.int .i8))) (hcb : bs.length ≤ cB) (hmb : cB ≤ maxLen) (hwb : ∀ n ∈ bs, (Lit.int .i32 n).wf = true) (hrb : Kit.Rd w w.heap.size BA (bs.map (.int .i32))) :
    Calls Try.prog 6 #[.agg #[.int .i64 H, .int .i64 W, .int .i64 C, .slice A zs.length c], .agg #[x0, x1, x2, .int .i64 K, .int .i64 S, .int .i64 P, .int .i64 O, .int .i8 Z, x8, .slice WA ws.length cW, .slice BA bs.length cB, x11, x12, x13, x14, x15, x16, x17, x18]] w fun e w' => e = .returned (.bool true) ∧ Below w.heap.size w w' := by
  by_cases hf : zs.length ≤ 1024
  · cases ht : tensB H W C zs.length
    · exact walk_bad H W C A zs _ c rfl (i8b_of hw) x0 x1 x2 x8 x11 x12 x13 x14 x15 x16 x17 x18 K S P O Z WA BA ws.length cW bs.length cB hf ht hr
    · exact walk_yes H W C A zs _ c rfl (i8b_of hw) x0 x1 x2 x8 x11 x12 x13 x14 x15 x16 x17 x18 K S P O Z WA BA ws.length cW bs.length cB hf ht hr
  · exact walk_no H W C A _ c x0 x1 x2 x8 x11 x12 x13 x14 x15 x16 x17 x18 K S P O Z WA BA ws.length cW bs.length cB hf
/-! ### the frame: written by program -/
theorem own : ownKnob Try.prog.godebug = none := by kernel_rfl
theorem laid : laidOutB Try.prog = true := by kernel_rfl
theorem contract {H : Type} {enc : TypeId × Value → H} {W : World} {base : Nat} {args : Array Value} {ds gs : List (DataW H)} {before : List MemPlace}
    (hval0 : ∀ (j : Nat) t v, Try.f6.params[j]? = some t → args[j]? = some v → Value.okWide Try.prog W .any base t v)
    (hW : DataW.Whole enc Try.prog Try.f6.params.toList Rows.poolBelowSpec.vars false W args.toList ds gs before) :
    Calls Try.prog 6 args W fun e W' => e = .returned (.bool true) ∧ Below W.heap.size W W' := by
  have hval : ∀ (j : Nat) t v, Try.f6.params[j]? = some t → args[j]? = some v → Value.okWide Try.prog W .any base t v := hval0
  obtain ⟨p, q, hA0, hV, rfl, hfz, hnd⟩ := hW
  have hA : DataW.TrodAll enc Try.prog W 0 (fun _ => true) true Try.f6.params.toList args.toList ds p := hA0
  rw [Try.params6] at hA hval
  obtain ⟨v0, vs0, d0, ds0, p0, q0, hargs, rfl, rfl, h0, r0⟩ := trodAll_cons hA
  obtain ⟨v1, vs1, d1, ds1, p1, q1, rfl, rfl, rfl, h1, r1⟩ := trodAll_cons r0
  obtain ⟨rfl, rfl, rfl⟩ := trodAll_nil r1
  obtain rfl : args = #[v0, v1] := by cases args; simp_all
  clear hA0 hval0
  obtain ⟨x0, y0, t0, A0, z0, c0, rfl, wx0, wy0, wt0, hc0, hm0, hw0, hr0⟩ := Kit.open_tensor (s := 26) (d := 27) (e := 30) (i := 3) Try.underlying29 Try.underlying26 Try.underlying27 Try.underlying30 Try.underlying3 (by kernel_rfl) (by kernel_rfl) (by kernel_rfl) (by kernel_rfl) (by kernel_rfl) ⟨rfl, rfl, rfl, rfl⟩ ⟨rfl, rfl, rfl, rfl, rfl, rfl⟩ (hval 0 29 v0 rfl rfl) h0
  obtain ⟨n1_0, n1_1, n1_2, n1_8, n1_11, n1_12, n1_13, n1_14, n1_15, n1_16, n1_17, n1_18, K1, S1, Q1, O1, Z1, WA1, ws1, cW1, BA1, bs1, cB1, rfl, wz1, hcw1, hmw1, hww1, hrw1, hcb1, hmb1, hwb1, hrb1⟩ := Kit.open_node (i := 3) (b8 := 30) (d := 27) (e := 30) (d2 := 31) (e2 := 21) Try.underlying35 (by kernel_rfl) Try.underlying3 (by kernel_rfl) Try.underlying30 (by kernel_rfl) Try.underlying27 Try.underlying30 (by kernel_rfl) (by kernel_rfl) Try.underlying31 Try.underlying21 (by kernel_rfl) (by kernel_rfl) rfl rfl rfl rfl rfl rfl rfl ⟨rfl, rfl⟩ ⟨rfl, rfl⟩ ⟨rfl, rfl⟩ ⟨rfl, rfl⟩ ⟨rfl, rfl⟩ ⟨rfl, rfl⟩ ⟨rfl, rfl⟩ (hval 1 35 v1 rfl rfl) h1
  exact walk (w := W) x0 wx0 y0 wy0 t0 wt0 A0 z0 c0 hc0 hm0 hw0 hr0 n1_0 n1_1 n1_2 n1_8 n1_11 n1_12 n1_13 n1_14 n1_15 n1_16 n1_17 n1_18 K1 S1 Q1 O1 Z1 WA1 ws1 cW1 BA1 bs1 cB1 wz1 hcw1 hmw1 hww1 hrw1 hcb1 hmb1 hwb1 hrb1
theorem fnIs {H : Type} : ∀ ds : List (DataW H), ds.length = Try.f6.params.toList.length → Rows.poolBelowSpec.fn H ds = { results := [.lit (.bool true)], args := ds } := by
  intro ds h
  rw [Try.params6] at h
  match ds, h with
  | [d1, d2], _ => rfl
set_option maxRecDepth 100000 in
theorem lifted (os : Os) (started : os.Started) (H : Type) (enc : TypeId × Value → H) :
    ReturnsInHanded {} Try.checked os 6 .any (Rows.poolBelowSpec.pre6 enc Try.prog Try.f6 Rows.poolBelowRow.domain false) (Rows.poolBelowSpec.post enc Try.prog Try.f6 false true false false) := by
  refine returnsInHanded_of_change (C := Try.checked) own started (by kernel_rfl) Try.func6
    (ChangeSpec.witness6 (enc := enc) (C := Try.checked) false ⟨#[], #[.agg #[.int .i64 0, .int .i64 0, .int .i64 0, .slice none 0 0], .agg #[.int .i64 0, .int .i64 0, .int .i64 0, .int .i64 0, .int .i64 0, .int .i64 0, .int .i64 0, .int .i8 0, .int .i8 0, .slice none 0 0, .slice none 0 0, .int .i32 0, .int .i64 0, .int .i8 0, .int .i32 0, .int .i64 0, .int .i8 0, .int .i8 0, .int .i8 0]], []⟩ 8 (by kernel_rfl) (by kernel_rfl) (by kernel_rfl) (by kernel_rfl)) ?_
  intro W base args ds gs before hval hW _ _
  refine (contract hval hW).mono fun e W' ⟨he, hg⟩ => ?_
  subst he
  exact ⟨_, rfl, Kit.law_post (tb := 4) laid (by kernel_rfl) rfl (by kernel_rfl) Try.underlying4 fnIs hW hg⟩
theorem over : Rows.poolBelowRow.holds Try.pinned (OpenSpec.ofChange Rows.poolBelowSpec) :=
  OpenClaim.holds_of_wide 6 Try.f6 rfl rfl rfl rfl rfl rfl rfl ⟨rfl, rfl, rfl, rfl, rfl⟩ rfl rfl rfl rfl rfl (by kernel_rfl) Try.func6 (by kernel_rfl)
    (of_decide_eq_true (by kernel_rfl)) (by unfold Func.isWrapper; first | (rw [if_pos (by decide +kernel)]; kernel_rfl) | (rw [if_neg (by decide +kernel)]; exact ⟨rfl, rfl⟩))
    (fun os started H enc _ => lifted os started H enc)
/-- the statement. -/
theorem proved : Rows.PoolBelowSaid :=
  over
end Go.Proofs.Ytccngjgbhbeobaa.lawPoolBelow
