/- TurnTensors: any tensor turned by any quarters, and turned over, or that it cannot be, is that of the document; the call returns true and leaves its arguments as they were. No condition. -/
import Derived.Test.YtmjcjdgdpecpjaaTurnKnown
import Derived.Test.YtmjcjdgdpecpjaaOpenTensor
namespace Go.Proofs.Ytmjcjdgdpecpjaa.lawTurnTensors
open Go Go.ChangeShapes Go.WideShapes Go.ChangeAt Go.RowKit Go.Deep
open Plain CSat CShape CTensor CPad CTurn FloatNum
set_option linter.unusedVariables false

theorem walk_long {w : World} (H W C : Int) (A : Option Addr) (n c : Nat) (hl : 1024 < n) (p : Int) :
    Calls Try.prog 3 #[.agg #[.int .i64 H, .int .i64 W, .int .i64 C, .slice A n c], .int .i64 p] w fun e w' => e = .returned (.bool true) ∧ Below w.heap.size w w' := by
  have hlI : (1024 : Int) < (n : Int) := by omega
  go_enter Try.func3, Try.ntmps3
  go_wp2_with (go_at_call 6; (refine (known23 _).mono ?_); rintro e w1 ⟨rfl, hb1⟩; (have HB := Lib.hid ((((Below.refl w.heap.size w).alloc (Nat.le_refl _) _)).trans (hb1.mono (by simp)))); clear hb1)
  go_ret
  exact ⟨rfl, HB.out⟩
set_option maxRecDepth 100000 in
set_option maxHeartbeats 4000000 in
theorem walk_bad {w : World} (H W C : Int) (A : Option Addr) (n c : Nat) (hl : n ≤ 1024) (p : Int) (ht : tensB H W C n = false) :
    Calls Try.prog 3 #[.agg #[.int .i64 H, .int .i64 W, .int .i64 C, .slice A n c], .int .i64 p] w fun e w' => e = .returned (.bool true) ∧ Below w.heap.size w w' := by
  have hlI : (n : Int) ≤ 1024 := by omega
  have HT := Lib.hid ht
  clear ht
  go_enter Try.func3, Try.ntmps3
  go_wp2_with (first
        | (go_at_call 7
           have hal : Below w.heap.size w (w.alloc (.cells #[.int .i64 H, .int .i64 W, .int .i64 C, .slice A n c] 26)) := (Below.refl _ _).alloc (by first | exact Nat.le_refl _ | (simp; done) | (simp; omega)) _
           refine (cby_bad H W C A n c (.int .i64 p) HT.out _).mono ?_
           rintro e w1 ⟨rfl, hb⟩
           have hh : Below w.heap.size w w1 := hal.trans (hb.mono hal.size)
           have qTB := (boxT (H) (W) (C) (A) (n) (c) 26) w
           try simp only [World.size_alloc] at qTB
           have TB := Lib.hid (qTB.below (by first | (simp; done) | (simp; omega)) hb)
           have yTB : w.heap.size < w1.heap.size := by have := hb.size; simp at this; omega
           clear qTB
           have HBW : Hid (Below w.heap.size w w1) := Lib.hid hh
           obtain ⟨tbp0, tbp1, tbp2, tbp3⟩ := TB.out
           clear hb hh hal)
        | (go_at_call 8
           have hal : Below w1.heap.size w1 (w1.alloc (.cells #[.int .i64 0, .int .i64 0, .int .i64 0, .slice none 0 0] 26)) := (Below.refl _ _).alloc (by first | exact Nat.le_refl _ | (simp; done) | (simp; omega)) _
           refine (cover_bad H W C A n c HT.out _).mono ?_
           rintro e w2 ⟨rfl, hb⟩
           have hh : Below w1.heap.size w1 w2 := hal.trans (hb.mono hal.size)
           have qTU := (boxT (0) (0) (0) (none) (0) (0) 26) w1
           try simp only [World.size_alloc] at qTU
           have TU := Lib.hid (qTU.below (by first | (simp; done) | (simp; omega)) hb)
           have yTU : w1.heap.size < w2.heap.size := by have := hb.size; simp at this; omega
           clear qTU
           replace TB := Lib.hid (TB.out.below yTB hh)
           replace yTB := Nat.lt_of_lt_of_le yTB hh.size
           replace HBW := Lib.hid (HBW.out.trans (hh.mono HBW.out.size))
           clear tbp0 tbp1 tbp2 tbp3
           obtain ⟨tbp0, tbp1, tbp2, tbp3⟩ := TB.out
           obtain ⟨tup0, tup1, tup2, tup3⟩ := TU.out
           clear hb hh hal)
        | (go_at_call 9
           have hal : Below w2.heap.size w2 (w2.alloc (.cells #[.int .i64 0, .int .i64 0, .int .i64 0, .slice none 0 0] 26)) := (Below.refl _ _).alloc (by first | exact Nat.le_refl _ | (simp; done) | (simp; omega)) _
           refine (refRight_to H W C A n c false HT.out _).mono ?_
           rintro e w3 ⟨rfl, hb⟩
           have hh : Below w2.heap.size w2 w3 := hal.trans (hb.mono hal.size)
           have qTV := (boxT (0) (0) (0) (none) (0) (0) 26) w2
           try simp only [World.size_alloc] at qTV
           have TV := Lib.hid (qTV.below (by first | (simp; done) | (simp; omega)) hb)
           have yTV : w2.heap.size < w3.heap.size := by have := hb.size; simp at this; omega
           clear qTV
           replace TB := Lib.hid (TB.out.below yTB hh)
           replace yTB := Nat.lt_of_lt_of_le yTB hh.size
           replace TU := Lib.hid (TU.out.below yTU hh)
           replace yTU := Nat.lt_of_lt_of_le yTU hh.size
           replace HBW := Lib.hid (HBW.out.trans (hh.mono HBW.out.size))
           clear tbp0 tbp1 tbp2 tbp3 tup0 tup1 tup2 tup3
           obtain ⟨tbp0, tbp1, tbp2, tbp3⟩ := TB.out
           obtain ⟨tup0, tup1, tup2, tup3⟩ := TU.out
           obtain ⟨tvp0, tvp1, tvp2, tvp3⟩ := TV.out
           clear hb hh hal)
        | (go_at_call 10
           have hchk := HM4
           have hal : Below w4.heap.size w4 w4 := Below.refl _ _
           refine (refSame_00 _).mono ?_
           rintro e w5 ⟨rfl, hb⟩
           have hh : Below w4.heap.size w4 w5 := hal.trans (hb.mono hal.size)
           replace TB := Lib.hid (TB.out.below yTB hh)
           replace yTB := Nat.lt_of_lt_of_le yTB hh.size
           replace TU := Lib.hid (TU.out.below yTU hh)
           replace yTU := Nat.lt_of_lt_of_le yTU hh.size
           replace TV := Lib.hid (TV.out.below yTV hh)
           replace yTV := Nat.lt_of_lt_of_le yTV hh.size
           replace HBW := Lib.hid (HBW.out.trans (hh.mono HBW.out.size))
           clear tbp0 tbp1 tbp2 tbp3 tup0 tup1 tup2 tup3 tvp0 tvp1 tvp2 tvp3
           obtain ⟨tbp0, tbp1, tbp2, tbp3⟩ := TB.out
           obtain ⟨tup0, tup1, tup2, tup3⟩ := TU.out
           obtain ⟨tvp0, tvp1, tvp2, tvp3⟩ := TV.out
           clear hb hh hal)
        | (go_at_call 10
           have hal : Below w3.heap.size w3 w3 := Below.refl _ _
           refine (refSame_00 _).mono ?_
           rintro e w4 ⟨rfl, hb⟩
           have hh : Below w3.heap.size w3 w4 := hal.trans (hb.mono hal.size)
           replace TB := Lib.hid (TB.out.below yTB hh)
           replace yTB := Nat.lt_of_lt_of_le yTB hh.size
           replace TU := Lib.hid (TU.out.below yTU hh)
           replace yTU := Nat.lt_of_lt_of_le yTU hh.size
           replace TV := Lib.hid (TV.out.below yTV hh)
           replace yTV := Nat.lt_of_lt_of_le yTV hh.size
           replace HBW := Lib.hid (HBW.out.trans (hh.mono HBW.out.size))
           clear tbp0 tbp1 tbp2 tbp3 tup0 tup1 tup2 tup3 tvp0 tvp1 tvp2 tvp3
           obtain ⟨tbp0, tbp1, tbp2, tbp3⟩ := TB.out
           obtain ⟨tup0, tup1, tup2, tup3⟩ := TU.out
           obtain ⟨tvp0, tvp1, tvp2, tvp3⟩ := TV.out
           (have HM4 : True := trivial); clear hb hh hal)
        | (go_at_call 6
           have hal : Below w5.heap.size w5 w5 := Below.refl _ _
           refine (known23 _).mono ?_
           rintro e w6 ⟨rfl, hb⟩
           have hh : Below w5.heap.size w5 w6 := hal.trans (hb.mono hal.size)
           replace TB := Lib.hid (TB.out.below yTB hh)
           replace yTB := Nat.lt_of_lt_of_le yTB hh.size
           replace TU := Lib.hid (TU.out.below yTU hh)
           replace yTU := Nat.lt_of_lt_of_le yTU hh.size
           replace TV := Lib.hid (TV.out.below yTV hh)
           replace yTV := Nat.lt_of_lt_of_le yTV hh.size
           replace HBW := Lib.hid (HBW.out.trans (hh.mono HBW.out.size))
           clear tbp0 tbp1 tbp2 tbp3 tup0 tup1 tup2 tup3 tvp0 tvp1 tvp2 tvp3
           obtain ⟨tbp0, tbp1, tbp2, tbp3⟩ := TB.out
           obtain ⟨tup0, tup1, tup2, tup3⟩ := TU.out
           obtain ⟨tvp0, tvp1, tvp2, tvp3⟩ := TV.out
           clear hb hh hal))
  go_ret
  exact ⟨rfl, HBW.out⟩
set_option maxRecDepth 100000 in
set_option maxHeartbeats 8000000 in
theorem walk_good {w : World} {a b d n : Nat} (A : Option Addr) (zs : List Int) (c : Nat) (hn : zs.length = n) (hc : n ≤ c) (hl : n ≤ 1024) (hr : Kit.Rd w w.heap.size A (I8s zs)) (p : Int) (ht : tensB (a : Int) (b : Int) (d : Int) n = true)
    (p1 : -9223372036854775808 ≤ p) (p2 : p ≤ 9223372036854775807) :
    Calls Try.prog 3 #[.agg #[.int .i64 (a : Int), .int .i64 (b : Int), .int .i64 (d : Int), .slice A n c], .int .i64 p] w fun e w' => e = .returned (.bool true) ∧ Below w.heap.size w w' := by
  have hlI : (n : Int) ≤ 1024 := by omega
  have hn6 : n ≤ 1000000 := by omega
  have hfit := itT_fits (r := turnsN p) (show Fits d n (a, b, zs) from ⟨(tens_nat ht).1, hn⟩)
  obtain ⟨P, hP⟩ : ∃ P : Int, ((itT d (turnsN p) (a, b, zs)).1 : Int) = P := ⟨_, rfl⟩
  obtain ⟨Q, hQ⟩ : ∃ Q : Int, ((itT d (turnsN p) (a, b, zs)).2.1 : Int) = Q := ⟨_, rfl⟩
  obtain ⟨ys, hy⟩ : ∃ ys, (itT d (turnsN p) (a, b, zs)).2.2 = ys := ⟨_, rfl⟩
  obtain ⟨os, ho⟩ : ∃ os, overL zs a b d = os := ⟨_, rfl⟩
  have HLY : Hid (ys.length = n) := Lib.hid (by rw [← hy]; exact hfit.2)
  have HLO : Hid (os.length = n) := Lib.hid (by rw [← ho]; exact (overL_len _ _ _ _).trans (tens_nat ht).1)
  have HP := Lib.hid hP
  have HQ := Lib.hid hQ
  have HY := Lib.hid hy
  have HO := Lib.hid ho
  have HT := Lib.hid ht
  have HN := Lib.hid hn
  have HR := Lib.hid hr
  clear hfit hP hQ hy ho ht hn hr
  go_enter Try.func3, Try.ntmps3
  go_upto_region 7 with (first
    | (go_at_call 7
       have hal : Below w.heap.size w (w.alloc (.cells #[.int .i64 (a : Int), .int .i64 (b : Int), .int .i64 (d : Int), .slice A n c] 26)) := (Below.refl _ _).alloc (by first | exact Nat.le_refl _ | (simp; done) | (simp; omega)) _
       refine (cby_to A zs c HN.out hc HT.out p p1 p2 P Q ys HP.out HQ.out HY.out _ ((HR.out.below hal).more hal.size)).mono ?_
       rintro e w1 ⟨v1, rfl, ho1, hb⟩
       have hh : Below w.heap.size w w1 := hal.trans (hb.mono hal.size)
       have qTB := (boxT (a) (b) (d) (A) (n) (c) 26) w
       try simp only [World.size_alloc] at qTB
       have TB := Lib.hid (qTB.below (by first | (simp; done) | (simp; omega)) hb)
       have yTB : w.heap.size < w1.heap.size := by have := hb.size; simp at this; omega
       clear qTB
       replace HR := Lib.hid ((HR.out.below hh).more hh.size)
       have HBW : Hid (Below w.heap.size w w1) := Lib.hid hh
       obtain ⟨A1, c1, rfl, -, -, hrd1⟩ := Kit.own_rd ho1
       have RA1 := Lib.hid hrd1
       clear ho1 hrd1
       obtain ⟨tbp0, tbp1, tbp2, tbp3⟩ := TB.out
       clear hb hh hal)
    | (go_at_call 8
       have hal : Below w1.heap.size w1 (w1.alloc (.cells #[.int .i64 P, .int .i64 Q, .int .i64 (d : Int), .slice A1 n c1] 26)) := (Below.refl _ _).alloc (by first | exact Nat.le_refl _ | (simp; done) | (simp; omega)) _
       refine (cover_to A zs c HN.out hc HT.out os HO.out _ ((HR.out.below hal).more hal.size)).mono ?_
       rintro e w2 ⟨v2, rfl, ho2, hb⟩
       have hh : Below w1.heap.size w1 w2 := hal.trans (hb.mono hal.size)
       have qTU := (boxT (P) (Q) (d) (A1) (n) (c1) 26) w1
       try simp only [World.size_alloc] at qTU
       have TU := Lib.hid (qTU.below (by first | (simp; done) | (simp; omega)) hb)
       have yTU : w1.heap.size < w2.heap.size := by have := hb.size; simp at this; omega
       clear qTU
       replace TB := Lib.hid (TB.out.below yTB hh)
       replace yTB := Nat.lt_of_lt_of_le yTB hh.size
       replace HR := Lib.hid ((HR.out.below hh).more hh.size)
       replace RA1 := Lib.hid ((RA1.out.below hh).more hh.size)
       replace HBW := Lib.hid (HBW.out.trans (hh.mono HBW.out.size))
       clear tbp0 tbp1 tbp2 tbp3
       obtain ⟨A2, c2, rfl, -, -, hrd2⟩ := Kit.own_rd ho2
       have RA2 := Lib.hid hrd2
       clear ho2 hrd2
       obtain ⟨tbp0, tbp1, tbp2, tbp3⟩ := TB.out
       obtain ⟨tup0, tup1, tup2, tup3⟩ := TU.out
       clear hb hh hal)
    | (go_at_call 9
       have hal : Below w2.heap.size w2 (w2.alloc (.cells #[.int .i64 (a : Int), .int .i64 (b : Int), .int .i64 (d : Int), .slice A2 n c2] 26)) := (Below.refl _ _).alloc (by first | exact Nat.le_refl _ | (simp; done) | (simp; omega)) _
       refine (refRight_to a b d A n c true HT.out _).mono ?_
       rintro e w3 ⟨rfl, hb⟩
       have hh : Below w2.heap.size w2 w3 := hal.trans (hb.mono hal.size)
       have qTV := (boxT (a) (b) (d) (A2) (n) (c2) 26) w2
       try simp only [World.size_alloc] at qTV
       have TV := Lib.hid (qTV.below (by first | (simp; done) | (simp; omega)) hb)
       have yTV : w2.heap.size < w3.heap.size := by have := hb.size; simp at this; omega
       clear qTV
       replace TB := Lib.hid (TB.out.below yTB hh)
       replace yTB := Nat.lt_of_lt_of_le yTB hh.size
       replace TU := Lib.hid (TU.out.below yTU hh)
       replace yTU := Nat.lt_of_lt_of_le yTU hh.size
       replace HR := Lib.hid ((HR.out.below hh).more hh.size)
       replace RA1 := Lib.hid ((RA1.out.below hh).more hh.size)
       replace RA2 := Lib.hid ((RA2.out.below hh).more hh.size)
       replace HBW := Lib.hid (HBW.out.trans (hh.mono HBW.out.size))
       clear tbp0 tbp1 tbp2 tbp3 tup0 tup1 tup2 tup3
       obtain ⟨tbp0, tbp1, tbp2, tbp3⟩ := TB.out
       obtain ⟨tup0, tup1, tup2, tup3⟩ := TU.out
       obtain ⟨tvp0, tvp1, tvp2, tvp3⟩ := TV.out
       clear hb hh hal))
  clear tbp0 tbp1 tbp2 tbp3 tup0 tup1 tup2 tup3 tvp0 tvp1 tvp2 tvp3
  refine wp_region_held_drew (S := (fun w' => BoxAt w.heap.size (a : Int) b d A n c w' ∧ BoxAt w1.heap.size P Q d A1 n c1 w' ∧ BoxAt w2.heap.size (a : Int) b d A2 n c2 w')) (by kernel_rfl) ⟨TB.out, TU.out, TV.out⟩ (fun hHeld => ?_)
  replace HBW := Lib.hid HBW.out.drew
  replace HR : Hid (Kit.Rd w3.drew w3.drew.heap.size A (I8s zs)) := HR
  replace RA1 : Hid (Kit.Rd w3.drew w3.drew.heap.size A1 (I8s ys)) := RA1
  replace RA2 : Hid (Kit.Rd w3.drew w3.drew.heap.size A2 (I8s os)) := RA2
  replace yTB : w.heap.size < w3.drew.heap.size := yTB
  replace yTU : w1.heap.size < w3.drew.heap.size := yTU
  replace yTV : w2.heap.size < w3.drew.heap.size := yTV
  clear TB TU TV
  generalize w3.drew = W4 at HBW HR RA1 RA2 yTB yTU yTV hHeld ⊢
  refine wpAnyH_take (i := 0) (oi := ({ dst := some 47, op := Op.move (Operand.tmp 6), type := 28, pos := "law.go:27", after := #[], guard := none } : Oper)) (v := ?_) rfl (by kernel_rfl) (by kernel_rfl) (by kernel_rfl) (fun _ _ _ h => h) (Or.inl ⟨by rfl, ?_⟩) (by assumption) ?_
  rotate_left
  · intro wS hSw
    first
      | (go_simp; done)
      | (go_simp; with_reducible rfl)
  try simp only [Act.put, List.setIfInBounds_toArray, List.set_cons_zero, List.set_cons_succ]
  refine wpAnyH_take (i := 1) (oi := ({ dst := some 48, op := Op.binOp BinOp.eql 28 (Operand.tmp 47) (Operand.const (Value.int IntKind.i64 0)) 28, type := 4, pos := "law.go:27", after := #[{ on := 0, ground := Ground.data }], guard := none } : Oper)) (v := ?_) rfl (by kernel_rfl) (by kernel_rfl) (by kernel_rfl) (fun _ _ _ h => h) (Or.inl ⟨by rfl, ?_⟩) (by assumption) ?_
  rotate_left
  · intro wS hSw
    first
      | (go_simp; done)
      | (go_simp; with_reducible rfl)
  try simp only [Act.put, List.setIfInBounds_toArray, List.set_cons_zero, List.set_cons_succ]
  refine wpAnyH_take (i := 2) (oi := ({ dst := some 49, op := Op.move (Operand.tmp 48), type := 4, pos := "law.go:27", after := #[{ on := 1, ground := Ground.data }], guard := none } : Oper)) (v := ?_) rfl (by kernel_rfl) (by kernel_rfl) (by kernel_rfl) (fun _ _ _ h => h) (Or.inl ⟨by rfl, ?_⟩) (by assumption) ?_
  rotate_left
  · intro wS hSw
    first
      | (go_simp; done)
      | (go_simp; with_reducible rfl)
  try simp only [Act.put, List.setIfInBounds_toArray, List.set_cons_zero, List.set_cons_succ]
  refine wpAnyH_take (i := 3) (oi := ({ dst := some 50, op := Op.move (Operand.tmp 8), type := 28, pos := "law.go:27", after := #[{ on := 2, ground := Ground.guard }], guard := some (2, true) } : Oper)) (v := ?_) rfl (by kernel_rfl) (by kernel_rfl) (by kernel_rfl) (fun _ _ _ h => h) (Or.inl ⟨by rfl, ?_⟩) (by assumption) ?_
  rotate_left
  · intro wS hSw
    first
      | (go_simp; done)
      | (go_simp; with_reducible rfl)
  try simp only [Act.put, List.setIfInBounds_toArray, List.set_cons_zero, List.set_cons_succ]
  refine wpAnyH_take (i := 4) (oi := ({ dst := some 51, op := Op.binOp BinOp.eql 28 (Operand.tmp 50) (Operand.const (Value.int IntKind.i64 0)) 28, type := 4, pos := "law.go:27", after := #[{ on := 3, ground := Ground.data }, { on := 2, ground := Ground.guard }], guard := some (2, true) } : Oper)) (v := ?_) rfl (by kernel_rfl) (by kernel_rfl) (by kernel_rfl) (fun _ _ _ h => h) (Or.inl ⟨by rfl, ?_⟩) (by assumption) ?_
  rotate_left
  · intro wS hSw
    first
      | (go_simp; done)
      | (go_simp; with_reducible rfl)
  try simp only [Act.put, List.setIfInBounds_toArray, List.set_cons_zero, List.set_cons_succ]
  refine wpAnyH_take (i := 5) (oi := ({ dst := some 52, op := Op.pick (Operand.tmp 49) (Operand.tmp 51) (Operand.const (Value.bool false)), type := 4, pos := "law.go:27", after := #[{ on := 2, ground := Ground.data }, { on := 4, ground := Ground.data }], guard := none } : Oper)) (v := ?_) rfl (by kernel_rfl) (by kernel_rfl) (by kernel_rfl) (fun _ _ _ h => h) (Or.inl ⟨by rfl, ?_⟩) (by assumption) ?_
  rotate_left
  · intro wS hSw
    first
      | (go_simp; done)
      | (go_simp; with_reducible rfl)
  try simp only [Act.put, List.setIfInBounds_toArray, List.set_cons_zero, List.set_cons_succ]
  refine wpAnyH_take (i := 6) (oi := ({ dst := some 53, op := Op.move (Operand.tmp 52), type := 4, pos := "law.go:27", after := #[{ on := 5, ground := Ground.data }, { on := 2, ground := Ground.chain }], guard := none } : Oper)) (v := ?_) rfl (by kernel_rfl) (by kernel_rfl) (by kernel_rfl) (fun _ _ _ h => h) (Or.inl ⟨by rfl, ?_⟩) (by assumption) ?_
  rotate_left
  · intro wS hSw
    first
      | (go_simp; done)
      | (go_simp; with_reducible rfl)
  try simp only [Act.put, List.setIfInBounds_toArray, List.set_cons_zero, List.set_cons_succ]
  refine wpAnyH_take (i := 7) (oi := ({ dst := some 54, op := Op.load 26 (Operand.tmp 5), type := 26, pos := "law.go:27", after := #[{ on := 6, ground := Ground.guard }], guard := some (6, true) } : Oper)) (v := ?_) rfl (by kernel_rfl) (by kernel_rfl) (by kernel_rfl) (fun _ _ _ h => h) (Or.inl ⟨by rfl, ?_⟩) (by assumption) ?_
  rotate_left
  · intro wS hSw
    obtain ⟨-, ⟨q0, q1, q2, q3⟩, -⟩ := hSw
    first
      | (go_simp; done)
      | (go_simp; with_reducible rfl)
  try simp only [Act.put, List.setIfInBounds_toArray, List.set_cons_zero, List.set_cons_succ]
  refine wpAnyH_take (i := 8) (oi := ({ dst := some 55, op := Op.load 26 (Operand.tmp 2), type := 26, pos := "law.go:27", after := #[{ on := 6, ground := Ground.guard }], guard := some (6, true) } : Oper)) (v := ?_) rfl (by kernel_rfl) (by kernel_rfl) (by kernel_rfl) (fun _ _ _ h => h) (Or.inl ⟨by rfl, ?_⟩) (by assumption) ?_
  rotate_left
  · intro wS hSw
    obtain ⟨⟨q0, q1, q2, q3⟩, -, -⟩ := hSw
    first
      | (go_simp; done)
      | (go_simp; with_reducible rfl)
  try simp only [Act.put, List.setIfInBounds_toArray, List.set_cons_zero, List.set_cons_succ]
  refine wpAnyH_take (i := 9) (oi := ({ dst := some 56, op := Op.move (Operand.tmp 1), type := 3, pos := "law.go:27", after := #[{ on := 6, ground := Ground.guard }], guard := some (6, true) } : Oper)) (v := ?_) rfl (by kernel_rfl) (by kernel_rfl) (by kernel_rfl) (fun _ _ _ h => h) (Or.inl ⟨by rfl, ?_⟩) (by assumption) ?_
  rotate_left
  · intro wS hSw
    first
      | (go_simp; done)
      | (go_simp; with_reducible rfl)
  try simp only [Act.put, List.setIfInBounds_toArray, List.set_cons_zero, List.set_cons_succ]
  refine wpAnyH_ready (rs := [10]) (by kernel_rfl) (by simp) ?_
  refine AllReadyH.cons (o := ({ dst := some 57, op := Op.call { callee := Callee.value (Operand.func 11), args := #[Operand.tmp 55, Operand.tmp 56], argTypes := #[26, 3] }, type := 26, pos := "law.go:27", after := #[{ on := 8, ground := Ground.data }, { on := 9, ground := Ground.data }, { on := 6, ground := Ground.chain }, { on := 6, ground := Ground.guard }], guard := some (6, true) } : Oper)) rfl (fun Kq hK => ?_) (AllReadyH.nil)
  go_simp
  go_at_call 11
  refine (rby_to A zs c HN.out HT.out p p1 p2 P Q ys HP.out HQ.out HY.out _ HR.out).mono ?_
  rintro e W5 ⟨A3, c3, rfl, hrd3, hb3⟩
  have RA3 := Lib.hid hrd3
  clear hrd3
  have hS1 := And.intro (hHeld.1.below yTB hb3) (And.intro (hHeld.2.1.below yTU hb3) (hHeld.2.2.below yTV hb3))
  replace HR := Lib.hid ((HR.out.below hb3).more hb3.size)
  replace RA1 := Lib.hid ((RA1.out.below hb3).more hb3.size)
  replace RA2 := Lib.hid ((RA2.out.below hb3).more hb3.size)
  replace HBW := Lib.hid (HBW.out.trans (hb3.mono HBW.out.size))
  replace yTB := Nat.lt_of_lt_of_le yTB hb3.size
  replace yTU := Nat.lt_of_lt_of_le yTU hb3.size
  replace yTV := Nat.lt_of_lt_of_le yTV hb3.size
  clear hb3 hHeld
  try dsimp only
  refine hK.out _ _ ?_ (fun hHeld => ?_)
  · exact hS1
  clear hK Kq
  try simp only [Act.put, List.setIfInBounds_toArray, List.set_cons_zero, List.set_cons_succ]
  refine wpAnyH_ready (rs := [11]) (by kernel_rfl) (by simp) ?_
  refine AllReadyH.cons (o := ({ dst := some 58, op := Op.call { callee := Callee.value (Operand.func 10), args := #[Operand.tmp 54, Operand.tmp 57], argTypes := #[26, 26] }, type := 4, pos := "law.go:27", after := #[{ on := 7, ground := Ground.data }, { on := 10, ground := Ground.data }, { on := 10, ground := Ground.chain }, { on := 6, ground := Ground.guard }], guard := some (6, true) } : Oper)) rfl (fun Kq hK => ?_) (AllReadyH.nil)
  go_simp
  go_at_call 10
  refine (refSame_to P Q d A1 A3 ys ys n c1 c3 HLY.out HLY.out hn6 true (by simp) _ (Nat.le_refl _) (Nat.le_refl _) RA1.out RA3.out).mono ?_
  rintro e W6 ⟨rfl, hb3⟩
  have hS1 := And.intro (hHeld.1.below yTB hb3) (And.intro (hHeld.2.1.below yTU hb3) (hHeld.2.2.below yTV hb3))
  replace HR := Lib.hid ((HR.out.below hb3).more hb3.size)
  replace RA2 := Lib.hid ((RA2.out.below hb3).more hb3.size)
  replace HBW := Lib.hid (HBW.out.trans (hb3.mono HBW.out.size))
  replace yTB := Nat.lt_of_lt_of_le yTB hb3.size
  replace yTU := Nat.lt_of_lt_of_le yTU hb3.size
  replace yTV := Nat.lt_of_lt_of_le yTV hb3.size
  clear hb3 hHeld
  try dsimp only
  refine hK.out _ _ ?_ (fun hHeld => ?_)
  · exact hS1
  clear hK Kq
  try simp only [Act.put, List.setIfInBounds_toArray, List.set_cons_zero, List.set_cons_succ]
  refine wpAnyH_take (i := 12) (oi := ({ dst := some 59, op := Op.pick (Operand.tmp 53) (Operand.tmp 58) (Operand.const (Value.bool false)), type := 4, pos := "law.go:27", after := #[{ on := 6, ground := Ground.data }, { on := 11, ground := Ground.data }], guard := none } : Oper)) (v := ?_) rfl (by kernel_rfl) (by kernel_rfl) (by kernel_rfl) (fun _ _ _ h => h) (Or.inl ⟨by rfl, ?_⟩) (by assumption) ?_
  rotate_left
  · intro wS hSw
    first
      | (go_simp; done)
      | (go_simp; with_reducible rfl)
  try simp only [Act.put, List.setIfInBounds_toArray, List.set_cons_zero, List.set_cons_succ]
  refine wpAnyH_take (i := 13) (oi := ({ dst := some 60, op := Op.move (Operand.tmp 59), type := 4, pos := "law.go:27", after := #[{ on := 12, ground := Ground.data }, { on := 11, ground := Ground.chain }], guard := none } : Oper)) (v := ?_) rfl (by kernel_rfl) (by kernel_rfl) (by kernel_rfl) (fun _ _ _ h => h) (Or.inl ⟨by rfl, ?_⟩) (by assumption) ?_
  rotate_left
  · intro wS hSw
    first
      | (go_simp; done)
      | (go_simp; with_reducible rfl)
  try simp only [Act.put, List.setIfInBounds_toArray, List.set_cons_zero, List.set_cons_succ]
  refine wpAnyH_take (i := 14) (oi := ({ dst := some 61, op := Op.load 26 (Operand.tmp 7), type := 26, pos := "law.go:27", after := #[{ on := 13, ground := Ground.guard }], guard := some (13, true) } : Oper)) (v := ?_) rfl (by kernel_rfl) (by kernel_rfl) (by kernel_rfl) (fun _ _ _ h => h) (Or.inl ⟨by rfl, ?_⟩) (by assumption) ?_
  rotate_left
  · intro wS hSw
    obtain ⟨-, -, ⟨q0, q1, q2, q3⟩⟩ := hSw
    first
      | (go_simp; done)
      | (go_simp; with_reducible rfl)
  try simp only [Act.put, List.setIfInBounds_toArray, List.set_cons_zero, List.set_cons_succ]
  refine wpAnyH_take (i := 15) (oi := ({ dst := some 62, op := Op.load 26 (Operand.tmp 2), type := 26, pos := "law.go:27", after := #[{ on := 13, ground := Ground.guard }], guard := some (13, true) } : Oper)) (v := ?_) rfl (by kernel_rfl) (by kernel_rfl) (by kernel_rfl) (fun _ _ _ h => h) (Or.inl ⟨by rfl, ?_⟩) (by assumption) ?_
  rotate_left
  · intro wS hSw
    obtain ⟨⟨q0, q1, q2, q3⟩, -, -⟩ := hSw
    first
      | (go_simp; done)
      | (go_simp; with_reducible rfl)
  try simp only [Act.put, List.setIfInBounds_toArray, List.set_cons_zero, List.set_cons_succ]
  refine wpAnyH_ready (rs := [16]) (by kernel_rfl) (by simp) ?_
  refine AllReadyH.cons (o := ({ dst := some 63, op := Op.call { callee := Callee.value (Operand.func 12), args := #[Operand.tmp 62], argTypes := #[26] }, type := 26, pos := "law.go:27", after := #[{ on := 15, ground := Ground.data }, { on := 13, ground := Ground.chain }, { on := 13, ground := Ground.guard }], guard := some (13, true) } : Oper)) rfl (fun Kq hK => ?_) (AllReadyH.nil)
  go_simp
  go_at_call 12
  refine (rover_T A zs c HN.out HT.out _ (Nat.le_refl _) HR.out).mono ?_
  rintro e W7 ⟨v4, rfl, ho4, hb3⟩
  rw [HO.out] at ho4
  obtain ⟨A4, c4, rfl, -, -, hrd4⟩ := Kit.own_rd ho4
  have RA4 := Lib.hid hrd4
  clear hrd4 ho4
  have hS1 := And.intro (hHeld.1.below yTB hb3) (And.intro (hHeld.2.1.below yTU hb3) (hHeld.2.2.below yTV hb3))
  replace RA2 := Lib.hid ((RA2.out.below hb3).more hb3.size)
  replace HBW := Lib.hid (HBW.out.trans (hb3.mono HBW.out.size))
  replace yTB := Nat.lt_of_lt_of_le yTB hb3.size
  replace yTU := Nat.lt_of_lt_of_le yTU hb3.size
  replace yTV := Nat.lt_of_lt_of_le yTV hb3.size
  clear hb3 hHeld
  try dsimp only
  refine hK.out _ _ ?_ (fun hHeld => ?_)
  · exact hS1
  clear hK Kq
  try simp only [Act.put, List.setIfInBounds_toArray, List.set_cons_zero, List.set_cons_succ]
  refine wpAnyH_ready (rs := [17]) (by kernel_rfl) (by simp) ?_
  refine AllReadyH.cons (o := ({ dst := some 64, op := Op.call { callee := Callee.value (Operand.func 10), args := #[Operand.tmp 61, Operand.tmp 63], argTypes := #[26, 26] }, type := 4, pos := "law.go:27", after := #[{ on := 14, ground := Ground.data }, { on := 16, ground := Ground.data }, { on := 16, ground := Ground.chain }, { on := 13, ground := Ground.guard }], guard := some (13, true) } : Oper)) rfl (fun Kq hK => ?_) (AllReadyH.nil)
  go_simp
  go_at_call 10
  refine (refSame_to a b d A2 A4 os os n c2 c4 HLO.out HLO.out hn6 true (by simp) _ (Nat.le_refl _) (Nat.le_refl _) RA2.out RA4.out).mono ?_
  rintro e W8 ⟨rfl, hb3⟩
  have hS1 := And.intro (hHeld.1.below yTB hb3) (And.intro (hHeld.2.1.below yTU hb3) (hHeld.2.2.below yTV hb3))
  replace HBW := Lib.hid (HBW.out.trans (hb3.mono HBW.out.size))
  replace yTB := Nat.lt_of_lt_of_le yTB hb3.size
  replace yTU := Nat.lt_of_lt_of_le yTU hb3.size
  replace yTV := Nat.lt_of_lt_of_le yTV hb3.size
  clear hb3 hHeld
  try dsimp only
  refine hK.out _ _ ?_ (fun hHeld => ?_)
  · exact hS1
  clear hK Kq
  try simp only [Act.put, List.setIfInBounds_toArray, List.set_cons_zero, List.set_cons_succ]
  refine wpAnyH_take (i := 18) (oi := ({ dst := some 65, op := Op.pick (Operand.tmp 60) (Operand.tmp 64) (Operand.const (Value.bool false)), type := 4, pos := "law.go:27", after := #[{ on := 13, ground := Ground.data }, { on := 17, ground := Ground.data }], guard := none } : Oper)) (v := ?_) rfl (by kernel_rfl) (by kernel_rfl) (by kernel_rfl) (fun _ _ _ h => h) (Or.inl ⟨by rfl, ?_⟩) (by assumption) ?_
  rotate_left
  · intro wS hSw
    first
      | (go_simp; done)
      | (go_simp; with_reducible rfl)
  try simp only [Act.put, List.setIfInBounds_toArray, List.set_cons_zero, List.set_cons_succ]
  refine wpAnyH_take (i := 19) (oi := ({ dst := some 66, op := Op.move (Operand.tmp 65), type := 4, pos := "law.go:27", after := #[{ on := 18, ground := Ground.data }, { on := 17, ground := Ground.chain }], guard := none } : Oper)) (v := ?_) rfl (by kernel_rfl) (by kernel_rfl) (by kernel_rfl) (fun _ _ _ h => h) (Or.inl ⟨by rfl, ?_⟩) (by assumption) ?_
  rotate_left
  · intro wS hSw
    first
      | (go_simp; done)
      | (go_simp; with_reducible rfl)
  try simp only [Act.put, List.setIfInBounds_toArray, List.set_cons_zero, List.set_cons_succ]
  refine wpAnyH_ready (rs := [20]) (by kernel_rfl) (by simp) ?_
  refine AllReadyH.cons (o := ({ dst := some 67, op := Op.call { callee := Callee.value (Operand.func 6), args := #[], argTypes := #[] }, type := 4, pos := "law.go:27", after := #[{ on := 19, ground := Ground.chain }, { on := 19, ground := Ground.guard }], guard := some (19, true) } : Oper)) rfl (fun Kq hK => ?_) (AllReadyH.nil)
  go_simp
  go_at_call 6
  refine (known23 _).mono ?_
  rintro e W9 ⟨rfl, hb3⟩
  have hS1 := And.intro (hHeld.1.below yTB hb3) (And.intro (hHeld.2.1.below yTU hb3) (hHeld.2.2.below yTV hb3))
  replace HBW := Lib.hid (HBW.out.trans (hb3.mono HBW.out.size))
  replace yTB := Nat.lt_of_lt_of_le yTB hb3.size
  replace yTU := Nat.lt_of_lt_of_le yTU hb3.size
  replace yTV := Nat.lt_of_lt_of_le yTV hb3.size
  clear hb3 hHeld
  try dsimp only
  refine hK.out _ _ ?_ (fun hHeld => ?_)
  · exact hS1
  clear hK Kq
  try simp only [Act.put, List.setIfInBounds_toArray, List.set_cons_zero, List.set_cons_succ]
  refine wpAnyH_take (i := 21) (oi := ({ dst := some 68, op := Op.pick (Operand.tmp 66) (Operand.tmp 67) (Operand.const (Value.bool false)), type := 4, pos := "law.go:27", after := #[{ on := 19, ground := Ground.data }, { on := 20, ground := Ground.data }], guard := none } : Oper)) (v := ?_) rfl (by kernel_rfl) (by kernel_rfl) (by kernel_rfl) (fun _ _ _ h => h) (Or.inl ⟨by rfl, ?_⟩) (by assumption) ?_
  rotate_left
  · intro wS hSw
    first
      | (go_simp; done)
      | (go_simp; with_reducible rfl)
  try simp only [Act.put, List.setIfInBounds_toArray, List.set_cons_zero, List.set_cons_succ]
  refine wpAnyH_take (i := 22) (oi := ({ dst := some 4, op := Op.assign (Operand.tmp 68), type := 4, pos := "law.go:27", after := #[{ on := 21, ground := Ground.data }, { on := 20, ground := Ground.chain }, { on := 0, ground := Ground.phase }, { on := 1, ground := Ground.phase }, { on := 2, ground := Ground.phase }, { on := 3, ground := Ground.phase }, { on := 4, ground := Ground.phase }, { on := 5, ground := Ground.phase }, { on := 6, ground := Ground.phase }, { on := 7, ground := Ground.phase }, { on := 8, ground := Ground.phase }, { on := 9, ground := Ground.phase }, { on := 10, ground := Ground.phase }, { on := 11, ground := Ground.phase }, { on := 12, ground := Ground.phase }, { on := 13, ground := Ground.phase }, { on := 14, ground := Ground.phase }, { on := 15, ground := Ground.phase }, { on := 16, ground := Ground.phase }, { on := 17, ground := Ground.phase }, { on := 18, ground := Ground.phase }, { on := 19, ground := Ground.phase }, { on := 20, ground := Ground.phase }, { on := 21, ground := Ground.phase }], guard := none } : Oper)) (v := ?_) rfl (by kernel_rfl) (by kernel_rfl) (by kernel_rfl) (fun _ _ _ h => h) (Or.inl ⟨by rfl, ?_⟩) (by assumption) ?_
  rotate_left
  · intro wS hSw
    first
      | (go_simp; done)
      | (go_simp; with_reducible rfl)
  try simp only [Act.put, List.setIfInBounds_toArray, List.set_cons_zero, List.set_cons_succ]
  refine wpAnyH_done (by kernel_rfl) ?_ _
  go_wp2_with fail
  go_ret
  exact ⟨rfl, HBW.out⟩
theorem walk {w : World} (H : Int) (wH : (Lit.int .i64 H).wf = true) (W : Int) (wW : (Lit.int .i64 W).wf = true) (C : Int) (wC : (Lit.int .i64 C).wf = true) (A : Option Addr) (zs : List Int) (c : Nat) (hc : zs.length ≤ c) (hm : c ≤ maxLen) (hw : ∀ n ∈ zs, (Lit.int .i8 n).wf = true) (hr : Kit.Rd w w.heap.size A (zs.map (.int .i8)))
    (p : Int) (wp : (Lit.int .i64 p).wf = true) :
    Calls Try.prog 3 #[.agg #[.int .i64 H, .int .i64 W, .int .i64 C, .slice A zs.length c], .int .i64 p] w fun e w' => e = .returned (.bool true) ∧ Below w.heap.size w w' := by
  have ⟨p1, p2⟩ : -9223372036854775808 ≤ p ∧ p ≤ 9223372036854775807 := by simpa [Lit.wf, IntKind.min, IntKind.max, IntKind.signed, IntKind.bits] using wp
  by_cases hl : 1024 < zs.length
  · exact walk_long H W C A _ c hl p
  · cases ht : tensB H W C zs.length
    · exact walk_bad H W C A _ c (by omega) p ht
    · obtain ⟨a, b, d, rfl, rfl, rfl⟩ := tens_cast ht
      exact walk_good A zs c rfl hc (by omega) hr p ht p1 p2
/-! ### the frame: written by program -/
theorem own : ownKnob Try.prog.godebug = none := by kernel_rfl
theorem laid : laidOutB Try.prog = true := by kernel_rfl
theorem contract {H : Type} {enc : TypeId × Value → H} {W : World} {base : Nat} {args : Array Value} {ds gs : List (DataW H)} {before : List MemPlace}
    (hval0 : ∀ (j : Nat) t v, Try.f3.params[j]? = some t → args[j]? = some v → Value.okWide Try.prog W .any base t v)
    (hW : DataW.Whole enc Try.prog Try.f3.params.toList Rows.turnTensorsSpec.vars false W args.toList ds gs before) :
    Calls Try.prog 3 args W fun e W' => e = .returned (.bool true) ∧ Below W.heap.size W W' := by
  have hval : ∀ (j : Nat) t v, Try.f3.params[j]? = some t → args[j]? = some v → Value.okWide Try.prog W .any base t v := hval0
  obtain ⟨p, q, hA0, hV, rfl, hfz, hnd⟩ := hW
  have hA : DataW.TrodAll enc Try.prog W 0 (fun _ => true) true Try.f3.params.toList args.toList ds p := hA0
  rw [Try.params3] at hA hval
  obtain ⟨v0, vs0, d0, ds0, p0, q0, hargs, rfl, rfl, h0, r0⟩ := trodAll_cons hA
  obtain ⟨v1, vs1, d1, ds1, p1, q1, rfl, rfl, rfl, h1, r1⟩ := trodAll_cons r0
  obtain ⟨rfl, rfl, rfl⟩ := trodAll_nil r1
  obtain rfl : args = #[v0, v1] := by cases args; simp_all
  clear hA0 hval0
  obtain ⟨x0, y0, t0, A0, z0, c0, rfl, wx0, wy0, wt0, hc0, hm0, hw0, hr0⟩ := Kit.open_tensor (s := 23) (d := 24) (e := 37) (i := 3) Try.underlying26 Try.underlying23 Try.underlying24 Try.underlying37 Try.underlying3 (by kernel_rfl) (by kernel_rfl) (by kernel_rfl) (by kernel_rfl) (by kernel_rfl) ⟨rfl, rfl, rfl, rfl⟩ ⟨rfl, rfl, rfl, rfl, rfl, rfl⟩ (hval 0 26 v0 rfl rfl) h0
  obtain ⟨a1, rfl, rfl, rfl, w1⟩ := open_int Try.underlying3 (hval 1 3 v1 rfl rfl) h1
  exact walk (w := W) x0 wx0 y0 wy0 t0 wt0 A0 z0 c0 hc0 hm0 hw0 hr0 a1 w1
theorem fnIs {H : Type} : ∀ ds : List (DataW H), ds.length = Try.f3.params.toList.length → Rows.turnTensorsSpec.fn H ds = { results := [.lit (.bool true)], args := ds } := by
  intro ds h
  rw [Try.params3] at h
  match ds, h with
  | [d1, d2], _ => rfl
set_option maxRecDepth 100000 in
theorem lifted (os : Os) (started : os.Started) (H : Type) (enc : TypeId × Value → H) :
    ReturnsInHanded {} Try.checked os 3 .any (Rows.turnTensorsSpec.pre6 enc Try.prog Try.f3 Rows.turnTensorsRow.domain false) (Rows.turnTensorsSpec.post enc Try.prog Try.f3 false true false false) := by
  refine returnsInHanded_of_change (C := Try.checked) own started (by kernel_rfl) Try.func3
    (ChangeSpec.witness6 (enc := enc) (C := Try.checked) false ⟨#[], #[.agg #[.int .i64 0, .int .i64 0, .int .i64 0, .slice none 0 0], .int .i64 0], []⟩ 8 (by kernel_rfl) (by kernel_rfl) (by kernel_rfl) (by kernel_rfl)) ?_
  intro W base args ds gs before hval hW _ _
  refine (contract hval hW).mono fun e W' ⟨he, hg⟩ => ?_
  subst he
  exact ⟨_, rfl, Kit.law_post (tb := 4) laid (by kernel_rfl) rfl (by kernel_rfl) Try.underlying4 fnIs hW hg⟩
theorem over : Rows.turnTensorsRow.holds Try.pinned (OpenSpec.ofChange Rows.turnTensorsSpec) :=
  OpenClaim.holds_of_wide 3 Try.f3 rfl rfl rfl rfl rfl rfl rfl ⟨rfl, rfl, rfl, rfl, rfl⟩ rfl rfl rfl rfl rfl (by kernel_rfl) Try.func3 (by kernel_rfl)
    (of_decide_eq_true (by kernel_rfl)) (by unfold Func.isWrapper; first | (rw [if_pos (by decide +kernel)]; kernel_rfl) | (rw [if_neg (by decide +kernel)]; exact ⟨rfl, rfl⟩))
    (fun os started H enc _ => lifted os started H enc)
/-- the statement. -/
theorem proved : Rows.TurnTensorsSaid :=
  over
end Go.Proofs.Ytmjcjdgdpecpjaa.lawTurnTensors
