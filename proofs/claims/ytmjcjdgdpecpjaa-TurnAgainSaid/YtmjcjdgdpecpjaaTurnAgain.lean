/- TurnAgain: turned by some quarters, and then by others, a tensor is turned by all of them; four change nothing; turned over twice it is as it was; the call returns true and leaves its arguments as they were. No condition. -/
import Derived.Test.YtmjcjdgdpecpjaaTurnKnown
import Derived.Test.YtmjcjdgdpecpjaaOpenTensor
namespace Go.Proofs.Ytmjcjdgdpecpjaa.lawTurnAgain
open Go Go.ChangeShapes Go.WideShapes Go.ChangeAt Go.RowKit Go.Deep
open Plain CSat CShape CTensor CPad CTurn FloatNum
set_option linter.unusedVariables false

theorem walk_long {w : World} (H W C : Int) (A : Option Addr) (n c : Nat) (hl : 1024 < n) (p q : Int) :
    Calls Try.prog 4 #[.agg #[.int .i64 H, .int .i64 W, .int .i64 C, .slice A n c], .int .i8 p, .int .i8 q] w fun e w' => e = .returned (.bool true) ∧ Below w.heap.size w w' := by
  have hlI : (1024 : Int) < (n : Int) := by omega
  go_enter Try.func4, Try.ntmps4
  go_wp2_with (go_at_call 6; (refine (known23 _).mono ?_); rintro e w1 ⟨rfl, hb1⟩; (have HB := Lib.hid ((((Below.refl w.heap.size w).alloc (Nat.le_refl _) _)).trans (hb1.mono (by simp)))); clear hb1)
  go_ret
  exact ⟨rfl, HB.out⟩
set_option maxRecDepth 100000 in
set_option maxHeartbeats 4000000 in
theorem walk_bad {w : World} (H W C : Int) (A : Option Addr) (n c : Nat) (hl : n ≤ 1024) (p q : Int) (ht : tensB H W C n = false) :
    Calls Try.prog 4 #[.agg #[.int .i64 H, .int .i64 W, .int .i64 C, .slice A n c], .int .i8 p, .int .i8 q] w fun e w' => e = .returned (.bool true) ∧ Below w.heap.size w w' := by
  have hlI : (n : Int) ≤ 1024 := by omega
  have HT := Lib.hid ht
  clear ht
  go_enter Try.func4, Try.ntmps4
  go_wp2_with (first
        | (go_at_call 9
           have hal : Below w.heap.size w (w.alloc (.cells #[.int .i64 H, .int .i64 W, .int .i64 C, .slice A n c] 26)) := (Below.refl _ _).alloc (by first | exact Nat.le_refl _ | (simp; done) | (simp; omega)) _
           refine (refRight_to H W C A n c false HT.out _).mono ?_
           rintro e w1 ⟨rfl, hb⟩
           have hh : Below w.heap.size w w1 := hal.trans (hb.mono hal.size)
           have qTB := (boxT (H) (W) (C) (A) (n) (c) 26) w
           try simp only [World.size_alloc] at qTB
           have TB := Lib.hid (qTB.below (by first | (simp; done) | (simp; omega)) hb)
           have yTB : w.heap.size < w1.heap.size := by have := hb.size; simp at this; omega
           clear qTB
           have HBW : Hid (Below w.heap.size w w1) := Lib.hid hh
           obtain ⟨tbp0, tbp1, tbp2, tbp3⟩ := TB.out
           clear hb hh hal)
        | (go_at_call 6
           have hal : Below w1.heap.size w1 w1 := Below.refl _ _
           refine (known23 _).mono ?_
           rintro e w2 ⟨rfl, hb⟩
           have hh : Below w1.heap.size w1 w2 := hal.trans (hb.mono hal.size)
           replace TB := Lib.hid (TB.out.below yTB hh)
           replace yTB := Nat.lt_of_lt_of_le yTB hh.size
           replace HBW := Lib.hid (HBW.out.trans (hh.mono HBW.out.size))
           clear tbp0 tbp1 tbp2 tbp3
           obtain ⟨tbp0, tbp1, tbp2, tbp3⟩ := TB.out
           clear hb hh hal))
  go_ret
  exact ⟨rfl, HBW.out⟩
set_option maxRecDepth 100000 in
set_option maxHeartbeats 8000000 in
theorem walk_good {w : World} {a b d n : Nat} (A : Option Addr) (zs : List Int) (c : Nat) (hn : zs.length = n) (hc : n ≤ c) (hl : n ≤ 1024) (hr : Kit.Rd w w.heap.size A (I8s zs)) (p q : Int) (ht : tensB (a : Int) (b : Int) (d : Int) n = true)
    (p1 : -128 ≤ p) (p2 : p ≤ 127) (q1 : -128 ≤ q) (q2 : q ≤ 127) :
    Calls Try.prog 4 #[.agg #[.int .i64 (a : Int), .int .i64 (b : Int), .int .i64 (d : Int), .slice A n c], .int .i8 p, .int .i8 q] w fun e w' => e = .returned (.bool true) ∧ Below w.heap.size w w' := by
  have hlI : (n : Int) ≤ 1024 := by omega
  have hn6 : n ≤ 1000000 := by omega
  have hft : Fits d n (a, b, zs) := ⟨(tens_nat ht).1, hn⟩
  have hfit := itT_fits (r := turnsN p) hft
  have hfi3 := itT_fits (r := turnsN (p + q)) hft
  have h4 : itT d (turnsN (4 * p)) (a, b, zs) = (a, b, zs) := by rw [turnsN_four]; rfl
  obtain ⟨P1, hP1⟩ : ∃ P : Int, ((itT d (turnsN p) (a, b, zs)).1 : Int) = P := ⟨_, rfl⟩
  obtain ⟨Q1, hQ1⟩ : ∃ Q : Int, ((itT d (turnsN p) (a, b, zs)).2.1 : Int) = Q := ⟨_, rfl⟩
  obtain ⟨y1, hy1⟩ : ∃ ys, (itT d (turnsN p) (a, b, zs)).2.2 = ys := ⟨_, rfl⟩
  obtain ⟨P3, hP3⟩ : ∃ P : Int, ((itT d (turnsN (p + q)) (a, b, zs)).1 : Int) = P := ⟨_, rfl⟩
  obtain ⟨Q3, hQ3⟩ : ∃ Q : Int, ((itT d (turnsN (p + q)) (a, b, zs)).2.1 : Int) = Q := ⟨_, rfl⟩
  obtain ⟨y3, hy3⟩ : ∃ ys, (itT d (turnsN (p + q)) (a, b, zs)).2.2 = ys := ⟨_, rfl⟩
  have hb1 := fun (wd : World) (h : Kit.Rd wd wd.heap.size A (I8s zs)) => cby_to A zs c hn hc ht p (by omega) (by omega) P1 Q1 y1 hP1 hQ1 hy1 wd h
  have hb3 := fun (wd : World) (h : Kit.Rd wd wd.heap.size A (I8s zs)) => cby_to A zs c hn hc ht (p + q) (by omega) (by omega) P3 Q3 y3 hP3 hQ3 hy3 wd h
  have hb4 := fun (wd : World) (h : Kit.Rd wd wd.heap.size A (I8s zs)) => cby_to A zs c hn hc ht (4 * p) (by omega) (by omega) a b zs (by rw [h4]) (by rw [h4]) (by rw [h4]) wd h
  have htw := turns_twice hft p q
  have hb2 := fun (A1 : Option Addr) (c1 : Nat) (h1 : n ≤ c1) (wd : World) (h : Kit.Rd wd wd.heap.size A1 (I8s y1)) => cby_to (a := (itT d (turnsN p) (a, b, zs)).1) (b := (itT d (turnsN p) (a, b, zs)).2.1) (d := d) A1 y1 c1 (by rw [← hy1]; exact hfit.2) h1 (tens_turn ht) q (by omega) (by omega) P3 Q3 y3
    (by rw [← hy1]; show ((itT d (turnsN q) (itT d (turnsN p) (a, b, zs))).1 : Int) = _; rw [htw]; exact hP3) (by rw [← hy1]; show ((itT d (turnsN q) (itT d (turnsN p) (a, b, zs))).2.1 : Int) = _; rw [htw]; exact hQ3) (by rw [← hy1]; show (itT d (turnsN q) (itT d (turnsN p) (a, b, zs))).2.2 = _; rw [htw]; exact hy3) wd h
  rw [hP1, hQ1] at hb2
  obtain ⟨os, ho⟩ : ∃ os, overL zs a b d = os := ⟨_, rfl⟩
  have hlo : os.length = n := by rw [← ho]; exact (overL_len _ _ _ _).trans (tens_nat ht).1
  have hv1 := fun (wd : World) (h : Kit.Rd wd wd.heap.size A (I8s zs)) => cover_to A zs c hn hc ht os ho wd h
  have hv2 := fun (A1 : Option Addr) (c1 : Nat) (h1 : n ≤ c1) (wd : World) (h : Kit.Rd wd wd.heap.size A1 (I8s os)) => cover_to A1 os c1 hlo h1 ht zs (by rw [← ho]; exact over_twice (hn.trans (tens_nat ht).1.symm)) wd h
  have HBY1 := Lib.hid hb1
  have HBY2 := Lib.hid hb2
  have HBY3 := Lib.hid hb3
  have HBY4 := Lib.hid hb4
  have HOV1 := Lib.hid hv1
  have HOV2 := Lib.hid hv2
  have hl3 : y3.length = n := by rw [← hy3]; exact hfi3.2
  have HSM3 := Lib.hid (fun (A1 A2 : Option Addr) (c1 c2 : Nat) (wd : World) (h1 : Kit.Rd wd wd.heap.size A1 (I8s y3)) (h2 : Kit.Rd wd wd.heap.size A2 (I8s y3)) => refSame_to P3 Q3 d A1 A2 y3 y3 n c1 c2 hl3 hl3 hn6 true (by simp) wd (Nat.le_refl _) (Nat.le_refl _) h1 h2)
  have HSMZ := Lib.hid (fun (A1 A2 : Option Addr) (c1 c2 : Nat) (wd : World) (h1 : Kit.Rd wd wd.heap.size A1 (I8s zs)) (h2 : Kit.Rd wd wd.heap.size A2 (I8s zs)) => refSame_to a b d A1 A2 zs zs n c1 c2 hn hn hn6 true (by simp) wd (Nat.le_refl _) (Nat.le_refl _) h1 h2)
  clear hl3
  have HT := Lib.hid ht
  have HN := Lib.hid hn
  have HR := Lib.hid hr
  have ew1 : IntKind.i64.wrap p = p := IntWalk.i64_in _ (by omega)
  have ew2 : IntKind.i64.wrap q = q := IntWalk.i64_in _ (by omega)
  have ew3 : IntKind.i64.wrap (p + q) = p + q := IntWalk.i64_in _ (by omega)
  have ew4 : IntKind.i64.wrap (4 * p) = 4 * p := IntWalk.i64_in _ (by omega)
  clear hft hfit hfi3 h4 hP1 hQ1 hy1 hP3 hQ3 hy3 hb1 hb2 hb3 hb4 htw ho hlo hv1 hv2 ht hn hr
  go_enter Try.func4, Try.ntmps4
  go_upto_region 4 with (first
    | (go_at_call 9
       have hal : Below w.heap.size w (w.alloc (.cells #[.int .i64 (a : Int), .int .i64 (b : Int), .int .i64 (d : Int), .slice A n c] 26)) := (Below.refl _ _).alloc (by first | exact Nat.le_refl _ | (simp; done) | (simp; omega)) _
       refine (refRight_to a b d A n c true HT.out _).mono ?_
       rintro e w1 ⟨rfl, hb⟩
       have hh : Below w.heap.size w w1 := hal.trans (hb.mono hal.size)
       have qTB := (boxT (a) (b) (d) (A) (n) (c) 26) w
       try simp only [World.size_alloc] at qTB
       have TB := Lib.hid (qTB.below (by first | (simp; done) | (simp; omega)) hb)
       have yTB : w.heap.size < w1.heap.size := by have := hb.size; simp at this; omega
       clear qTB
       replace HR := Lib.hid ((HR.out.below hh).more hh.size)
       have HBW : Hid (Below w.heap.size w w1) := Lib.hid hh
       obtain ⟨tbp0, tbp1, tbp2, tbp3⟩ := TB.out
       clear hb hh hal)
    | (go_at_call 7
       have hal : Below w1.heap.size w1 w1 := Below.refl _ _
       refine (HBY1.out _ ((HR.out.below hal).more hal.size)).mono ?_
       rintro e w2 ⟨v1, rfl, ho1, hb⟩
       have hh : Below w1.heap.size w1 w2 := hal.trans (hb.mono hal.size)
       replace TB := Lib.hid (TB.out.below yTB hh)
       replace yTB := Nat.lt_of_lt_of_le yTB hh.size
       replace HR := Lib.hid ((HR.out.below hh).more hh.size)
       replace HBW := Lib.hid (HBW.out.trans (hh.mono HBW.out.size))
       clear tbp0 tbp1 tbp2 tbp3
       obtain ⟨A1, c1, rfl, hcc1, -, hrd1⟩ := Kit.own_rd ho1
       have RA1 := Lib.hid hrd1
       clear ho1 hrd1
       obtain ⟨tbp0, tbp1, tbp2, tbp3⟩ := TB.out
       clear hb hh hal))
  clear hl
  go_upto_region 5 with (first
    | (go_at_call 7
       have hal : Below w2.heap.size w2 (w2.alloc (.cells #[.int .i64 P1, .int .i64 Q1, .int .i64 (d : Int), .slice A1 n c1] 26)) := (Below.refl _ _).alloc (by first | exact Nat.le_refl _ | (simp; done) | (simp; omega)) _
       refine (HBY2.out A1 c1 hcc1 _ ((RA1.out.below hal).more hal.size)).mono ?_
       rintro e w3 ⟨v2, rfl, ho2, hb⟩
       have hh : Below w2.heap.size w2 w3 := hal.trans (hb.mono hal.size)
       have qTU := (boxT (P1) (Q1) (d) (A1) (n) (c1) 26) w2
       try simp only [World.size_alloc] at qTU
       have TU := Lib.hid (qTU.below (by first | (simp; done) | (simp; omega)) hb)
       have yTU : w2.heap.size < w3.heap.size := by have := hb.size; simp at this; omega
       clear qTU
       replace TB := Lib.hid (TB.out.below yTB hh)
       replace yTB := Nat.lt_of_lt_of_le yTB hh.size
       replace HR := Lib.hid ((HR.out.below hh).more hh.size)
       replace RA1 := Lib.hid ((RA1.out.below hh).more hh.size)
       replace HBW := Lib.hid (HBW.out.trans (hh.mono HBW.out.size))
       clear tbp0 tbp1 tbp2 tbp3
       obtain ⟨A2, c2, rfl, hcc2, -, hrd2⟩ := Kit.own_rd ho2
       have RA2 := Lib.hid hrd2
       clear ho2 hrd2
       obtain ⟨tbp0, tbp1, tbp2, tbp3⟩ := TB.out
       obtain ⟨tup0, tup1, tup2, tup3⟩ := TU.out
       clear hb hh hal))
  go_upto_region 6 with (first
    | (go_at_call 7
       have hal : Below w3.heap.size w3 (w3.alloc (.cells #[.int .i64 P3, .int .i64 Q3, .int .i64 (d : Int), .slice A2 n c2] 26)) := (Below.refl _ _).alloc (by first | exact Nat.le_refl _ | (simp; done) | (simp; omega)) _
       refine (HBY3.out _ ((HR.out.below hal).more hal.size)).mono ?_
       rintro e w4 ⟨v3, rfl, ho3, hb⟩
       have hh : Below w3.heap.size w3 w4 := hal.trans (hb.mono hal.size)
       have qTV := (boxT (P3) (Q3) (d) (A2) (n) (c2) 26) w3
       try simp only [World.size_alloc] at qTV
       have TV := Lib.hid (qTV.below (by first | (simp; done) | (simp; omega)) hb)
       have yTV : w3.heap.size < w4.heap.size := by have := hb.size; simp at this; omega
       clear qTV
       replace TB := Lib.hid (TB.out.below yTB hh)
       replace yTB := Nat.lt_of_lt_of_le yTB hh.size
       replace TU := Lib.hid (TU.out.below yTU hh)
       replace yTU := Nat.lt_of_lt_of_le yTU hh.size
       replace HR := Lib.hid ((HR.out.below hh).more hh.size)
       replace RA1 := Lib.hid ((RA1.out.below hh).more hh.size)
       replace RA2 := Lib.hid ((RA2.out.below hh).more hh.size)
       replace HBW := Lib.hid (HBW.out.trans (hh.mono HBW.out.size))
       clear tbp0 tbp1 tbp2 tbp3 tup0 tup1 tup2 tup3
       obtain ⟨A3, c3, rfl, hcc3, -, hrd3⟩ := Kit.own_rd ho3
       have RA3 := Lib.hid hrd3
       clear ho3 hrd3
       obtain ⟨tbp0, tbp1, tbp2, tbp3⟩ := TB.out
       obtain ⟨tup0, tup1, tup2, tup3⟩ := TU.out
       obtain ⟨tvp0, tvp1, tvp2, tvp3⟩ := TV.out
       clear hb hh hal))
  go_upto_region 7 with (first
    | (go_at_call 7
       have hal : Below w4.heap.size w4 (w4.alloc (.cells #[.int .i64 P3, .int .i64 Q3, .int .i64 (d : Int), .slice A3 n c3] 26)) := (Below.refl _ _).alloc (by first | exact Nat.le_refl _ | (simp; done) | (simp; omega)) _
       refine (HBY4.out _ ((HR.out.below hal).more hal.size)).mono ?_
       rintro e w5 ⟨v4, rfl, ho4, hb⟩
       have hh : Below w4.heap.size w4 w5 := hal.trans (hb.mono hal.size)
       have qTX := (boxT (P3) (Q3) (d) (A3) (n) (c3) 26) w4
       try simp only [World.size_alloc] at qTX
       have TX := Lib.hid (qTX.below (by first | (simp; done) | (simp; omega)) hb)
       have yTX : w4.heap.size < w5.heap.size := by have := hb.size; simp at this; omega
       clear qTX
       replace TB := Lib.hid (TB.out.below yTB hh)
       replace yTB := Nat.lt_of_lt_of_le yTB hh.size
       replace TU := Lib.hid (TU.out.below yTU hh)
       replace yTU := Nat.lt_of_lt_of_le yTU hh.size
       replace TV := Lib.hid (TV.out.below yTV hh)
       replace yTV := Nat.lt_of_lt_of_le yTV hh.size
       replace HR := Lib.hid ((HR.out.below hh).more hh.size)
       replace RA1 := Lib.hid ((RA1.out.below hh).more hh.size)
       replace RA2 := Lib.hid ((RA2.out.below hh).more hh.size)
       replace RA3 := Lib.hid ((RA3.out.below hh).more hh.size)
       replace HBW := Lib.hid (HBW.out.trans (hh.mono HBW.out.size))
       clear tbp0 tbp1 tbp2 tbp3 tup0 tup1 tup2 tup3 tvp0 tvp1 tvp2 tvp3
       obtain ⟨A4, c4, rfl, hcc4, -, hrd4⟩ := Kit.own_rd ho4
       have RA4 := Lib.hid hrd4
       clear ho4 hrd4
       obtain ⟨tbp0, tbp1, tbp2, tbp3⟩ := TB.out
       obtain ⟨tup0, tup1, tup2, tup3⟩ := TU.out
       obtain ⟨tvp0, tvp1, tvp2, tvp3⟩ := TV.out
       obtain ⟨txp0, txp1, txp2, txp3⟩ := TX.out
       clear hb hh hal))
  go_upto_region 8 with (first
    | (go_at_call 8
       have hal : Below w5.heap.size w5 (w5.alloc (.cells #[.int .i64 (a : Int), .int .i64 (b : Int), .int .i64 (d : Int), .slice A4 n c4] 26)) := (Below.refl _ _).alloc (by first | exact Nat.le_refl _ | (simp; done) | (simp; omega)) _
       refine (HOV1.out _ ((HR.out.below hal).more hal.size)).mono ?_
       rintro e w6 ⟨v5, rfl, ho5, hb⟩
       have hh : Below w5.heap.size w5 w6 := hal.trans (hb.mono hal.size)
       have qTY := (boxT (a) (b) (d) (A4) (n) (c4) 26) w5
       try simp only [World.size_alloc] at qTY
       have TY := Lib.hid (qTY.below (by first | (simp; done) | (simp; omega)) hb)
       have yTY : w5.heap.size < w6.heap.size := by have := hb.size; simp at this; omega
       clear qTY
       replace TB := Lib.hid (TB.out.below yTB hh)
       replace yTB := Nat.lt_of_lt_of_le yTB hh.size
       replace TU := Lib.hid (TU.out.below yTU hh)
       replace yTU := Nat.lt_of_lt_of_le yTU hh.size
       replace TV := Lib.hid (TV.out.below yTV hh)
       replace yTV := Nat.lt_of_lt_of_le yTV hh.size
       replace TX := Lib.hid (TX.out.below yTX hh)
       replace yTX := Nat.lt_of_lt_of_le yTX hh.size
       replace HR := Lib.hid ((HR.out.below hh).more hh.size)
       replace RA1 := Lib.hid ((RA1.out.below hh).more hh.size)
       replace RA2 := Lib.hid ((RA2.out.below hh).more hh.size)
       replace RA3 := Lib.hid ((RA3.out.below hh).more hh.size)
       replace RA4 := Lib.hid ((RA4.out.below hh).more hh.size)
       replace HBW := Lib.hid (HBW.out.trans (hh.mono HBW.out.size))
       clear tbp0 tbp1 tbp2 tbp3 tup0 tup1 tup2 tup3 tvp0 tvp1 tvp2 tvp3 txp0 txp1 txp2 txp3
       obtain ⟨A5, c5, rfl, hcc5, -, hrd5⟩ := Kit.own_rd ho5
       have RA5 := Lib.hid hrd5
       clear ho5 hrd5
       obtain ⟨tbp0, tbp1, tbp2, tbp3⟩ := TB.out
       obtain ⟨tup0, tup1, tup2, tup3⟩ := TU.out
       obtain ⟨tvp0, tvp1, tvp2, tvp3⟩ := TV.out
       obtain ⟨txp0, txp1, txp2, txp3⟩ := TX.out
       obtain ⟨typ0, typ1, typ2, typ3⟩ := TY.out
       clear hb hh hal))
  go_upto_region 9 with (first
    | (go_at_call 8
       have hal : Below w6.heap.size w6 (w6.alloc (.cells #[.int .i64 (a : Int), .int .i64 (b : Int), .int .i64 (d : Int), .slice A5 n c5] 26)) := (Below.refl _ _).alloc (by first | exact Nat.le_refl _ | (simp; done) | (simp; omega)) _
       refine (HOV2.out A5 c5 hcc5 _ ((RA5.out.below hal).more hal.size)).mono ?_
       rintro e w7 ⟨v6, rfl, ho6, hb⟩
       have hh : Below w6.heap.size w6 w7 := hal.trans (hb.mono hal.size)
       have qTZ := (boxT (a) (b) (d) (A5) (n) (c5) 26) w6
       try simp only [World.size_alloc] at qTZ
       have TZ := Lib.hid (qTZ.below (by first | (simp; done) | (simp; omega)) hb)
       have yTZ : w6.heap.size < w7.heap.size := by have := hb.size; simp at this; omega
       clear qTZ
       replace TB := Lib.hid (TB.out.below yTB hh)
       replace yTB := Nat.lt_of_lt_of_le yTB hh.size
       replace TU := Lib.hid (TU.out.below yTU hh)
       replace yTU := Nat.lt_of_lt_of_le yTU hh.size
       replace TV := Lib.hid (TV.out.below yTV hh)
       replace yTV := Nat.lt_of_lt_of_le yTV hh.size
       replace TX := Lib.hid (TX.out.below yTX hh)
       replace yTX := Nat.lt_of_lt_of_le yTX hh.size
       replace TY := Lib.hid (TY.out.below yTY hh)
       replace yTY := Nat.lt_of_lt_of_le yTY hh.size
       replace HR := Lib.hid ((HR.out.below hh).more hh.size)
       replace RA1 := Lib.hid ((RA1.out.below hh).more hh.size)
       replace RA2 := Lib.hid ((RA2.out.below hh).more hh.size)
       replace RA3 := Lib.hid ((RA3.out.below hh).more hh.size)
       replace RA4 := Lib.hid ((RA4.out.below hh).more hh.size)
       replace RA5 := Lib.hid ((RA5.out.below hh).more hh.size)
       replace HBW := Lib.hid (HBW.out.trans (hh.mono HBW.out.size))
       clear tbp0 tbp1 tbp2 tbp3 tup0 tup1 tup2 tup3 tvp0 tvp1 tvp2 tvp3 txp0 txp1 txp2 txp3 typ0 typ1 typ2 typ3
       obtain ⟨A6, c6, rfl, hcc6, -, hrd6⟩ := Kit.own_rd ho6
       have RA6 := Lib.hid hrd6
       clear ho6 hrd6
       obtain ⟨tbp0, tbp1, tbp2, tbp3⟩ := TB.out
       obtain ⟨tup0, tup1, tup2, tup3⟩ := TU.out
       obtain ⟨tvp0, tvp1, tvp2, tvp3⟩ := TV.out
       obtain ⟨txp0, txp1, txp2, txp3⟩ := TX.out
       obtain ⟨typ0, typ1, typ2, typ3⟩ := TY.out
       obtain ⟨tzp0, tzp1, tzp2, tzp3⟩ := TZ.out
       clear hb hh hal))
  go_wp2_with (first
    | (go_at_call 10
       have hal : Below w7.heap.size w7 (w7.alloc (.cells #[.int .i64 (a : Int), .int .i64 (b : Int), .int .i64 (d : Int), .slice A6 n c6] 26)) := (Below.refl _ _).alloc (by first | exact Nat.le_refl _ | (simp; done) | (simp; omega)) _
       with_reducible refine (HSM3.out A2 A3 c2 c3 _ ((RA2.out.below hal).more hal.size) ((RA3.out.below hal).more hal.size)).mono ?_
       rintro e w8 ⟨rfl, hb⟩
       have hh : Below w7.heap.size w7 w8 := hal.trans (hb.mono hal.size)
       have qTW := (boxT (a) (b) (d) (A6) (n) (c6) 26) w7
       try simp only [World.size_alloc] at qTW
       have TW := Lib.hid (qTW.below (by first | (simp; done) | (simp; omega)) hb)
       have yTW : w7.heap.size < w8.heap.size := by have := hb.size; simp at this; omega
       clear qTW
       replace TB := Lib.hid (TB.out.below yTB hh)
       replace yTB := Nat.lt_of_lt_of_le yTB hh.size
       replace TU := Lib.hid (TU.out.below yTU hh)
       replace yTU := Nat.lt_of_lt_of_le yTU hh.size
       replace TV := Lib.hid (TV.out.below yTV hh)
       replace yTV := Nat.lt_of_lt_of_le yTV hh.size
       replace TX := Lib.hid (TX.out.below yTX hh)
       replace yTX := Nat.lt_of_lt_of_le yTX hh.size
       replace TY := Lib.hid (TY.out.below yTY hh)
       replace yTY := Nat.lt_of_lt_of_le yTY hh.size
       replace TZ := Lib.hid (TZ.out.below yTZ hh)
       replace yTZ := Nat.lt_of_lt_of_le yTZ hh.size
       replace HR := Lib.hid ((HR.out.below hh).more hh.size)
       replace RA1 := Lib.hid ((RA1.out.below hh).more hh.size)
       replace RA2 := Lib.hid ((RA2.out.below hh).more hh.size)
       replace RA3 := Lib.hid ((RA3.out.below hh).more hh.size)
       replace RA4 := Lib.hid ((RA4.out.below hh).more hh.size)
       replace RA5 := Lib.hid ((RA5.out.below hh).more hh.size)
       replace RA6 := Lib.hid ((RA6.out.below hh).more hh.size)
       replace HBW := Lib.hid (HBW.out.trans (hh.mono HBW.out.size))
       clear tbp0 tbp1 tbp2 tbp3 tup0 tup1 tup2 tup3 tvp0 tvp1 tvp2 tvp3 txp0 txp1 txp2 txp3 typ0 typ1 typ2 typ3 tzp0 tzp1 tzp2 tzp3
       obtain ⟨tbp0, tbp1, tbp2, tbp3⟩ := TB.out
       obtain ⟨tup0, tup1, tup2, tup3⟩ := TU.out
       obtain ⟨tvp0, tvp1, tvp2, tvp3⟩ := TV.out
       obtain ⟨txp0, txp1, txp2, txp3⟩ := TX.out
       obtain ⟨typ0, typ1, typ2, typ3⟩ := TY.out
       obtain ⟨tzp0, tzp1, tzp2, tzp3⟩ := TZ.out
       obtain ⟨twp0, twp1, twp2, twp3⟩ := TW.out
       clear hb hh hal)
    | (go_at_call 10
       have hal : Below w8.heap.size w8 w8 := Below.refl _ _
       with_reducible refine (HSMZ.out A4 A c4 c _ ((RA4.out.below hal).more hal.size) ((HR.out.below hal).more hal.size)).mono ?_
       rintro e w9 ⟨rfl, hb⟩
       have hh : Below w8.heap.size w8 w9 := hal.trans (hb.mono hal.size)
       replace TB := Lib.hid (TB.out.below yTB hh)
       replace yTB := Nat.lt_of_lt_of_le yTB hh.size
       replace TU := Lib.hid (TU.out.below yTU hh)
       replace yTU := Nat.lt_of_lt_of_le yTU hh.size
       replace TV := Lib.hid (TV.out.below yTV hh)
       replace yTV := Nat.lt_of_lt_of_le yTV hh.size
       replace TX := Lib.hid (TX.out.below yTX hh)
       replace yTX := Nat.lt_of_lt_of_le yTX hh.size
       replace TY := Lib.hid (TY.out.below yTY hh)
       replace yTY := Nat.lt_of_lt_of_le yTY hh.size
       replace TZ := Lib.hid (TZ.out.below yTZ hh)
       replace yTZ := Nat.lt_of_lt_of_le yTZ hh.size
       replace TW := Lib.hid (TW.out.below yTW hh)
       replace yTW := Nat.lt_of_lt_of_le yTW hh.size
       replace HR := Lib.hid ((HR.out.below hh).more hh.size)
       replace RA1 := Lib.hid ((RA1.out.below hh).more hh.size)
       replace RA2 := Lib.hid ((RA2.out.below hh).more hh.size)
       replace RA3 := Lib.hid ((RA3.out.below hh).more hh.size)
       replace RA4 := Lib.hid ((RA4.out.below hh).more hh.size)
       replace RA5 := Lib.hid ((RA5.out.below hh).more hh.size)
       replace RA6 := Lib.hid ((RA6.out.below hh).more hh.size)
       replace HBW := Lib.hid (HBW.out.trans (hh.mono HBW.out.size))
       clear tbp0 tbp1 tbp2 tbp3 tup0 tup1 tup2 tup3 tvp0 tvp1 tvp2 tvp3 txp0 txp1 txp2 txp3 typ0 typ1 typ2 typ3 tzp0 tzp1 tzp2 tzp3 twp0 twp1 twp2 twp3
       obtain ⟨tbp0, tbp1, tbp2, tbp3⟩ := TB.out
       obtain ⟨tup0, tup1, tup2, tup3⟩ := TU.out
       obtain ⟨tvp0, tvp1, tvp2, tvp3⟩ := TV.out
       obtain ⟨txp0, txp1, txp2, txp3⟩ := TX.out
       obtain ⟨typ0, typ1, typ2, typ3⟩ := TY.out
       obtain ⟨tzp0, tzp1, tzp2, tzp3⟩ := TZ.out
       obtain ⟨twp0, twp1, twp2, twp3⟩ := TW.out
       clear hb hh hal)
    | (go_at_call 10
       have hal : Below w9.heap.size w9 w9 := Below.refl _ _
       with_reducible refine (HSMZ.out A6 A c6 c _ ((RA6.out.below hal).more hal.size) ((HR.out.below hal).more hal.size)).mono ?_
       rintro e w10 ⟨rfl, hb⟩
       have hh : Below w9.heap.size w9 w10 := hal.trans (hb.mono hal.size)
       replace TB := Lib.hid (TB.out.below yTB hh)
       replace yTB := Nat.lt_of_lt_of_le yTB hh.size
       replace TU := Lib.hid (TU.out.below yTU hh)
       replace yTU := Nat.lt_of_lt_of_le yTU hh.size
       replace TV := Lib.hid (TV.out.below yTV hh)
       replace yTV := Nat.lt_of_lt_of_le yTV hh.size
       replace TX := Lib.hid (TX.out.below yTX hh)
       replace yTX := Nat.lt_of_lt_of_le yTX hh.size
       replace TY := Lib.hid (TY.out.below yTY hh)
       replace yTY := Nat.lt_of_lt_of_le yTY hh.size
       replace TZ := Lib.hid (TZ.out.below yTZ hh)
       replace yTZ := Nat.lt_of_lt_of_le yTZ hh.size
       replace TW := Lib.hid (TW.out.below yTW hh)
       replace yTW := Nat.lt_of_lt_of_le yTW hh.size
       replace HR := Lib.hid ((HR.out.below hh).more hh.size)
       replace RA1 := Lib.hid ((RA1.out.below hh).more hh.size)
       replace RA2 := Lib.hid ((RA2.out.below hh).more hh.size)
       replace RA3 := Lib.hid ((RA3.out.below hh).more hh.size)
       replace RA4 := Lib.hid ((RA4.out.below hh).more hh.size)
       replace RA5 := Lib.hid ((RA5.out.below hh).more hh.size)
       replace RA6 := Lib.hid ((RA6.out.below hh).more hh.size)
       replace HBW := Lib.hid (HBW.out.trans (hh.mono HBW.out.size))
       clear tbp0 tbp1 tbp2 tbp3 tup0 tup1 tup2 tup3 tvp0 tvp1 tvp2 tvp3 txp0 txp1 txp2 txp3 typ0 typ1 typ2 typ3 tzp0 tzp1 tzp2 tzp3 twp0 twp1 twp2 twp3
       obtain ⟨tbp0, tbp1, tbp2, tbp3⟩ := TB.out
       obtain ⟨tup0, tup1, tup2, tup3⟩ := TU.out
       obtain ⟨tvp0, tvp1, tvp2, tvp3⟩ := TV.out
       obtain ⟨txp0, txp1, txp2, txp3⟩ := TX.out
       obtain ⟨typ0, typ1, typ2, typ3⟩ := TY.out
       obtain ⟨tzp0, tzp1, tzp2, tzp3⟩ := TZ.out
       obtain ⟨twp0, twp1, twp2, twp3⟩ := TW.out
       clear hb hh hal)
    | (go_at_call 6
       have hal : Below w10.heap.size w10 w10 := Below.refl _ _
       refine (known23 _).mono ?_
       rintro e w11 ⟨rfl, hb⟩
       have hh : Below w10.heap.size w10 w11 := hal.trans (hb.mono hal.size)
       replace TB := Lib.hid (TB.out.below yTB hh)
       replace yTB := Nat.lt_of_lt_of_le yTB hh.size
       replace TU := Lib.hid (TU.out.below yTU hh)
       replace yTU := Nat.lt_of_lt_of_le yTU hh.size
       replace TV := Lib.hid (TV.out.below yTV hh)
       replace yTV := Nat.lt_of_lt_of_le yTV hh.size
       replace TX := Lib.hid (TX.out.below yTX hh)
       replace yTX := Nat.lt_of_lt_of_le yTX hh.size
       replace TY := Lib.hid (TY.out.below yTY hh)
       replace yTY := Nat.lt_of_lt_of_le yTY hh.size
       replace TZ := Lib.hid (TZ.out.below yTZ hh)
       replace yTZ := Nat.lt_of_lt_of_le yTZ hh.size
       replace TW := Lib.hid (TW.out.below yTW hh)
       replace yTW := Nat.lt_of_lt_of_le yTW hh.size
       replace HR := Lib.hid ((HR.out.below hh).more hh.size)
       replace RA1 := Lib.hid ((RA1.out.below hh).more hh.size)
       replace RA2 := Lib.hid ((RA2.out.below hh).more hh.size)
       replace RA3 := Lib.hid ((RA3.out.below hh).more hh.size)
       replace RA4 := Lib.hid ((RA4.out.below hh).more hh.size)
       replace RA5 := Lib.hid ((RA5.out.below hh).more hh.size)
       replace RA6 := Lib.hid ((RA6.out.below hh).more hh.size)
       replace HBW := Lib.hid (HBW.out.trans (hh.mono HBW.out.size))
       clear tbp0 tbp1 tbp2 tbp3 tup0 tup1 tup2 tup3 tvp0 tvp1 tvp2 tvp3 txp0 txp1 txp2 txp3 typ0 typ1 typ2 typ3 tzp0 tzp1 tzp2 tzp3 twp0 twp1 twp2 twp3
       obtain ⟨tbp0, tbp1, tbp2, tbp3⟩ := TB.out
       obtain ⟨tup0, tup1, tup2, tup3⟩ := TU.out
       obtain ⟨tvp0, tvp1, tvp2, tvp3⟩ := TV.out
       obtain ⟨txp0, txp1, txp2, txp3⟩ := TX.out
       obtain ⟨typ0, typ1, typ2, typ3⟩ := TY.out
       obtain ⟨tzp0, tzp1, tzp2, tzp3⟩ := TZ.out
       obtain ⟨twp0, twp1, twp2, twp3⟩ := TW.out
       clear hb hh hal))
  go_ret
  exact ⟨rfl, HBW.out⟩
theorem walk {w : World} (H : Int) (wH : (Lit.int .i64 H).wf = true) (W : Int) (wW : (Lit.int .i64 W).wf = true) (C : Int) (wC : (Lit.int .i64 C).wf = true) (A : Option Addr) (zs : List Int) (c : Nat) (hc : zs.length ≤ c) (hm : c ≤ maxLen) (hw : ∀ n ∈ zs, (Lit.int .i8 n).wf = true) (hr : Kit.Rd w w.heap.size A (zs.map (.int .i8)))
    (p : Int) (wp : (Lit.int .i8 p).wf = true) (q : Int) (wq : (Lit.int .i8 q).wf = true) :
    Calls Try.prog 4 #[.agg #[.int .i64 H, .int .i64 W, .int .i64 C, .slice A zs.length c], .int .i8 p, .int .i8 q] w fun e w' => e = .returned (.bool true) ∧ Below w.heap.size w w' := by
  have ⟨p1, p2⟩ : -128 ≤ p ∧ p ≤ 127 := by simpa [Lit.wf, IntKind.min, IntKind.max, IntKind.signed, IntKind.bits] using wp
  have ⟨q1, q2⟩ : -128 ≤ q ∧ q ≤ 127 := by simpa [Lit.wf, IntKind.min, IntKind.max, IntKind.signed, IntKind.bits] using wq
  by_cases hl : 1024 < zs.length
  · exact walk_long H W C A _ c hl p q
  · cases ht : tensB H W C zs.length
    · exact walk_bad H W C A _ c (by omega) p q ht
    · obtain ⟨a, b, d, rfl, rfl, rfl⟩ := tens_cast ht
      exact walk_good A zs c rfl hc (by omega) hr p q ht p1 p2 q1 q2
/-! ### the frame: written by program -/
theorem own : ownKnob Try.prog.godebug = none := by kernel_rfl
theorem laid : laidOutB Try.prog = true := by kernel_rfl
theorem contract {H : Type} {enc : TypeId × Value → H} {W : World} {base : Nat} {args : Array Value} {ds gs : List (DataW H)} {before : List MemPlace}
    (hval0 : ∀ (j : Nat) t v, Try.f4.params[j]? = some t → args[j]? = some v → Value.okWide Try.prog W .any base t v)
    (hW : DataW.Whole enc Try.prog Try.f4.params.toList Rows.turnAgainSpec.vars false W args.toList ds gs before) :
    Calls Try.prog 4 args W fun e W' => e = .returned (.bool true) ∧ Below W.heap.size W W' := by
  have hval : ∀ (j : Nat) t v, Try.f4.params[j]? = some t → args[j]? = some v → Value.okWide Try.prog W .any base t v := hval0
  obtain ⟨p, q, hA0, hV, rfl, hfz, hnd⟩ := hW
  have hA : DataW.TrodAll enc Try.prog W 0 (fun _ => true) true Try.f4.params.toList args.toList ds p := hA0
  rw [Try.params4] at hA hval
  obtain ⟨v0, vs0, d0, ds0, p0, q0, hargs, rfl, rfl, h0, r0⟩ := trodAll_cons hA
  obtain ⟨v1, vs1, d1, ds1, p1, q1, rfl, rfl, rfl, h1, r1⟩ := trodAll_cons r0
  obtain ⟨v2, vs2, d2, ds2, p2, q2, rfl, rfl, rfl, h2, r2⟩ := trodAll_cons r1
  obtain ⟨rfl, rfl, rfl⟩ := trodAll_nil r2
  obtain rfl : args = #[v0, v1, v2] := by cases args; simp_all
  clear hA0 hval0
  obtain ⟨x0, y0, t0, A0, z0, c0, rfl, wx0, wy0, wt0, hc0, hm0, hw0, hr0⟩ := Kit.open_tensor (s := 23) (d := 24) (e := 37) (i := 3) Try.underlying26 Try.underlying23 Try.underlying24 Try.underlying37 Try.underlying3 (by kernel_rfl) (by kernel_rfl) (by kernel_rfl) (by kernel_rfl) (by kernel_rfl) ⟨rfl, rfl, rfl, rfl⟩ ⟨rfl, rfl, rfl, rfl, rfl, rfl⟩ (hval 0 26 v0 rfl rfl) h0
  obtain ⟨a1, rfl, rfl, rfl, w1⟩ := open_int Try.underlying37 (hval 1 37 v1 rfl rfl) h1
  obtain ⟨a2, rfl, rfl, rfl, w2⟩ := open_int Try.underlying37 (hval 2 37 v2 rfl rfl) h2
  exact walk (w := W) x0 wx0 y0 wy0 t0 wt0 A0 z0 c0 hc0 hm0 hw0 hr0 a1 w1 a2 w2
theorem fnIs {H : Type} : ∀ ds : List (DataW H), ds.length = Try.f4.params.toList.length → Rows.turnAgainSpec.fn H ds = { results := [.lit (.bool true)], args := ds } := by
  intro ds h
  rw [Try.params4] at h
  match ds, h with
  | [d1, d2, d3], _ => rfl
set_option maxRecDepth 100000 in
theorem lifted (os : Os) (started : os.Started) (H : Type) (enc : TypeId × Value → H) :
    ReturnsInHanded {} Try.checked os 4 .any (Rows.turnAgainSpec.pre6 enc Try.prog Try.f4 Rows.turnAgainRow.domain false) (Rows.turnAgainSpec.post enc Try.prog Try.f4 false true false false) := by
  refine returnsInHanded_of_change (C := Try.checked) own started (by kernel_rfl) Try.func4
    (ChangeSpec.witness6 (enc := enc) (C := Try.checked) false ⟨#[], #[.agg #[.int .i64 0, .int .i64 0, .int .i64 0, .slice none 0 0], .int .i8 0, .int .i8 0], []⟩ 8 (by kernel_rfl) (by kernel_rfl) (by kernel_rfl) (by kernel_rfl)) ?_
  intro W base args ds gs before hval hW _ _
  refine (contract hval hW).mono fun e W' ⟨he, hg⟩ => ?_
  subst he
  exact ⟨_, rfl, Kit.law_post (tb := 4) laid (by kernel_rfl) rfl (by kernel_rfl) Try.underlying4 fnIs hW hg⟩
theorem over : Rows.turnAgainRow.holds Try.pinned (OpenSpec.ofChange Rows.turnAgainSpec) :=
  OpenClaim.holds_of_wide 4 Try.f4 rfl rfl rfl rfl rfl rfl rfl ⟨rfl, rfl, rfl, rfl, rfl⟩ rfl rfl rfl rfl rfl (by kernel_rfl) Try.func4 (by kernel_rfl)
    (of_decide_eq_true (by kernel_rfl)) (by unfold Func.isWrapper; first | (rw [if_pos (by decide +kernel)]; kernel_rfl) | (rw [if_neg (by decide +kernel)]; exact ⟨rfl, rfl⟩))
    (fun os started H enc _ => lifted os started H enc)
/-- the statement. -/
theorem proved : Rows.TurnAgainSaid :=
  over
end Go.Proofs.Ytmjcjdgdpecpjaa.lawTurnAgain
