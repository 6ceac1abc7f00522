/- PatchRows: the windows of any tensor as rows, and each row alone, or why there are none, are those of the document; the call returns true and leaves its arguments as they were. No condition. -/
import Derived.Test.YtdoonfbcbohdoaaPatchBoth
import Derived.Test.YtdoonfbcbohdoaaOpenNode
namespace Go.Proofs.Ytdoonfbcbohdoaa.lawPatchRows
open Go Go.ChangeShapes Go.WideShapes Go.ChangeAt Go.RowKit
open Plain CSat CShape CTensor CConv CPatch
set_option linter.unusedVariables false

set_option maxRecDepth 100000 in
set_option maxHeartbeats 4000000 in
theorem walk_big {w : World} (H W C : Int) (A : Option Addr) (n c : Nat) (x0 x1 x2 x8 x11 x12 x13 x14 x15 x16 x17 x18 : Value) (K S P O Z : Int) (WA BA : Option Addr) (nW cW nB cB : Nat) (i : Int) (hbig : 1024 < n) :
    Calls Try.prog 3 #[.agg #[.int .i64 H, .int .i64 W, .int .i64 C, .slice A n c], .agg #[x0, x1, x2, .int .i64 K, .int .i64 S, .int .i64 P, .int .i64 O, .int .i8 Z, x8, .slice WA nW cW, .slice BA nB cB, x11, x12, x13, x14, x15, x16, x17, x18], .int .i64 i] w fun e w' => e = .returned (.bool true) ∧ Below w.heap.size w w' := by
  go_enter Try.func3, Try.ntmps3
  go_wp2_with (go_at_call 6; (refine (known11 _).mono ?_); rintro e w' ⟨rfl, hb⟩; (have HB := Lib.hid ((((Below.refl w.heap.size w).alloc (Nat.le_refl _) (.cells #[.int .i64 H, .int .i64 W, .int .i64 C, .slice A n c] 26)).alloc (by simp) (.cells #[x0, x1, x2, .int .i64 K, .int .i64 S, .int .i64 P, .int .i64 O, .int .i8 Z, x8, .slice WA nW cW, .slice BA nB cB, x11, x12, x13, x14, x15, x16, x17, x18] 32)).trans (hb.mono (by simp; omega)))); clear hb)
  go_ret
  exact ⟨rfl, HB.out⟩
set_option maxRecDepth 100000 in
set_option maxHeartbeats 8000000 in
theorem walk_out {w : World} (H W C : Int) (A : Option Addr) (zs : List Int) (n c : Nat) (x0 x1 x2 x8 x11 x12 x13 x14 x15 x16 x17 x18 : Value) (K S P O Z : Int) (WA BA : Option Addr) (nW cW nB cB : Nat) (i : Int) (hn1 : n ≤ 1024) (M k N : Nat) (xs : List Int) (er : Int) (hx : xs.length = N) (hN6 : N ≤ 1000000) (hM : M ≤ 1048576)
    (hA1 : ∀ (w : World), Kit.Rd w w.heap.size A (I8s zs) → Calls Try.prog 7 #[.agg #[.int .i64 H, .int .i64 W, .int .i64 C, .slice A n c], .agg #[x0, x1, x2, .int .i64 K, .int .i64 S, .int .i64 P, .int .i64 O, .int .i8 Z, x8, .slice WA nW cW, .slice BA nB cB, x11, x12, x13, x14, x15, x16, x17, x18]] w (MadeR w (M : Int) (k : Int) N xs (.int .i64 er)))
    (hA2 : ∀ (w : World), Kit.Rd w w.heap.size A (I8s zs) → Calls Try.prog 8 #[.agg #[.int .i64 H, .int .i64 W, .int .i64 C, .slice A n c], .agg #[x0, x1, x2, .int .i64 K, .int .i64 S, .int .i64 P, .int .i64 O, .int .i8 Z, x8, .slice WA nW cW, .slice BA nB cB, x11, x12, x13, x14, x15, x16, x17, x18]] w (MadeD w (M : Int) (k : Int) N xs er))
    (hout : i < 0 ∨ (0 ≤ i ∧ (M : Int) ≤ i)) (hr : Kit.Rd w w.heap.size A (I8s zs)) :
    Calls Try.prog 3 #[.agg #[.int .i64 H, .int .i64 W, .int .i64 C, .slice A n c], .agg #[x0, x1, x2, .int .i64 K, .int .i64 S, .int .i64 P, .int .i64 O, .int .i8 Z, x8, .slice WA nW cW, .slice BA nB cB, x11, x12, x13, x14, x15, x16, x17, x18], .int .i64 i] w fun e w' => e = .returned (.bool true) ∧ Below w.heap.size w w' := by
  have hN30 : N ≤ 30000000 := by omega
  have hrow : rowB (M : Int) (k : Int) N i = false := by simp only [rowB, decide_eq_false_iff_not]; omega
  have HNO : Hid (∀ (A2 : Option Addr) (c2 : Nat) (w : World), Calls Try.prog 10 #[.agg #[.int .i64 (M : Int), .int .i64 (k : Int), .slice A2 N c2], .int .i64 i] w fun e w' => e = .returned (.slice none 0 0) ∧ Below w.heap.size w w') := Lib.hid (fun A2 c2 w => row_no (M : Int) (k : Int) A2 N c2 i (by omega) (by omega) hrow w)
  have HA1 := Lib.hid hA1
  have HA2 := Lib.hid hA2
  have HX := Lib.hid hx
  have HR := Lib.hid hr
  clear hA1 hA2 hx hr hrow
  have TN0 : Hid (NodeAt (w.heap.size + 1) x0 x1 x2 x8 x11 x12 x13 x14 x15 x16 x17 x18 K S P O Z WA BA nW cW nB cB ((w.alloc (.cells #[.int .i64 H, .int .i64 W, .int .i64 C, .slice A n c] 26)).alloc (.cells #[x0, x1, x2, .int .i64 K, .int .i64 S, .int .i64 P, .int .i64 O, .int .i8 Z, x8, .slice WA nW cW, .slice BA nB cB, x11, x12, x13, x14, x15, x16, x17, x18] 32))) := by
    have h := NodeAt.new x0 x1 x2 x8 x11 x12 x13 x14 x15 x16 x17 x18 K S P O Z WA BA nW cW nB cB 32 (w.alloc (.cells #[.int .i64 H, .int .i64 W, .int .i64 C, .slice A n c] 26))
    rw [World.size_alloc] at h
    exact Lib.hid h
  rcases hout with h1 | ⟨h1, h2⟩
  all_goals
    go_enter Try.func3, Try.ntmps3
    go_wp2_with (first
        | (go_at_call 7
           have hal : Below w.heap.size w ((w.alloc (.cells #[.int .i64 H, .int .i64 W, .int .i64 C, .slice A n c] 26)).alloc (.cells #[x0, x1, x2, .int .i64 K, .int .i64 S, .int .i64 P, .int .i64 O, .int .i8 Z, x8, .slice WA nW cW, .slice BA nB cB, x11, x12, x13, x14, x15, x16, x17, x18] 32)) := ((Below.refl _ _).alloc (by first | exact Nat.le_refl _ | (simp; done) | (simp; omega)) _).alloc (by first | exact Nat.le_refl _ | (simp; done) | (simp; omega)) _
           refine (HA1.out _ ((HR.out.below hal).more hal.size)).mono ?_
           rintro e w1 ⟨v2, rfl, ho2, hb⟩
           have hh : Below w.heap.size w w1 := hal.trans (hb.mono hal.size)
           have qTB := (boxNew H W C A n c 26) w
           try simp only [World.size_alloc] at qTB
           have TB := Lib.hid ((qTB.below (B' := w.heap.size + 1) (by omega) (((Below.refl _ _).alloc (by first | exact Nat.le_refl _ | (simp; done) | (simp; omega)) _).mono (by simp))).below (by first | (simp; done) | (simp; omega)) hb)
           have yTB : w.heap.size < w1.heap.size := by have := hb.size; simp at this; omega
           clear qTB
           have qTN := (NodeAt.new x0 x1 x2 x8 x11 x12 x13 x14 x15 x16 x17 x18 K S P O Z WA BA nW cW nB cB 32) (w.alloc (.cells #[.int .i64 H, .int .i64 W, .int .i64 C, .slice A n c] 26))
           try simp only [World.size_alloc] at qTN
           have TN := Lib.hid (qTN.below (by first | (simp; done) | (simp; omega)) hb)
           have yTN : w.heap.size + 1 < w1.heap.size := by have := hb.size; simp at this; omega
           clear qTN
           replace HR := Lib.hid ((HR.out.below hh).more hh.size)
           have HBW : Hid (Below w.heap.size w w1) := Lib.hid hh
           obtain ⟨A2, c2, rfl, hc2, hm2, hrd2⟩ := Kit.own_rd ho2
           have RA2 := Lib.hid hrd2
           clear ho2 hrd2
           obtain ⟨tbp0, tbp1, tbp2, tbp3⟩ := TB.out
           clear hb hh hal)
        | (go_at_call 8
           have hal : Below w1.heap.size w1 (w1.alloc (.cells #[.int .i64 (M : Int), .int .i64 (k : Int), .slice A2 N c2] 36)) := (Below.refl _ _).alloc (by first | exact Nat.le_refl _ | (simp; done) | (simp; omega)) _
           refine (HA2.out _ ((HR.out.below hal).more hal.size)).mono ?_
           rintro e w2 ⟨v3, rfl, ho3, hb⟩
           have hh : Below w1.heap.size w1 w2 := hal.trans (hb.mono hal.size)
           have qTA2 := (rboxNew (M : Int) (k : Int) (.slice A2 N c2) 36) w1
           try simp only [World.size_alloc] at qTA2
           have TA2 := Lib.hid (qTA2.below (by first | (simp; done) | (simp; omega)) hb)
           have yTA2 : w1.heap.size < w2.heap.size := by have := hb.size; simp at this; omega
           clear qTA2
           replace TB := Lib.hid (TB.out.below yTB hh)
           replace yTB := Nat.lt_of_lt_of_le yTB hh.size
           replace TN := Lib.hid (TN.out.below yTN hh)
           replace yTN := Nat.lt_of_lt_of_le yTN hh.size
           replace HR := Lib.hid ((HR.out.below hh).more hh.size)
           replace RA2 := Lib.hid ((RA2.out.below hh).more hh.size)
           replace HBW := Lib.hid (HBW.out.trans (hh.mono HBW.out.size))
           clear tbp0 tbp1 tbp2 tbp3
           obtain ⟨A3, c3, rfl, hc3, hm3, hrd3⟩ := Kit.own_rd ho3
           have RA3 := Lib.hid hrd3
           clear ho3 hrd3
           obtain ⟨tbp0, tbp1, tbp2, tbp3⟩ := TB.out
           obtain ⟨ta2p0, ta2p1, ta2p2⟩ := TA2.out
           clear hb hh hal)
        | (go_at_call 9
           have hal : Below w2.heap.size w2 w2 := Below.refl _ _
           refine (quiet_below (same16_yes A2 A3 xs N c2 c3 HX.out hN30 _ (RA2.out.below hal) (RA3.out.below hal))).mono ?_
           rintro e w3 ⟨rfl, hb⟩
           have hh : Below w2.heap.size w2 w3 := hal.trans (hb.mono hal.size)
           replace TB := Lib.hid (TB.out.below yTB hh)
           replace yTB := Nat.lt_of_lt_of_le yTB hh.size
           replace TN := Lib.hid (TN.out.below yTN hh)
           replace yTN := Nat.lt_of_lt_of_le yTN hh.size
           replace TA2 := Lib.hid (TA2.out.below yTA2 hh)
           replace yTA2 := Nat.lt_of_lt_of_le yTA2 hh.size
           replace HR := Lib.hid ((HR.out.below hh).more hh.size)
           replace RA2 := Lib.hid ((RA2.out.below hh).more hh.size)
           replace RA3 := Lib.hid ((RA3.out.below hh).more hh.size)
           replace HBW := Lib.hid (HBW.out.trans (hh.mono HBW.out.size))
           clear tbp0 tbp1 tbp2 tbp3 ta2p0 ta2p1 ta2p2
           obtain ⟨tbp0, tbp1, tbp2, tbp3⟩ := TB.out
           obtain ⟨ta2p0, ta2p1, ta2p2⟩ := TA2.out
           clear hb hh hal)
        | (go_at_call 10
           have hal : Below w3.heap.size w3 w3 := Below.refl _ _
           refine (HNO.out A2 c2 _).mono ?_
           rintro e w4 ⟨rfl, hb⟩
           have hh : Below w3.heap.size w3 w4 := hal.trans (hb.mono hal.size)
           replace TB := Lib.hid (TB.out.below yTB hh)
           replace yTB := Nat.lt_of_lt_of_le yTB hh.size
           replace TN := Lib.hid (TN.out.below yTN hh)
           replace yTN := Nat.lt_of_lt_of_le yTN hh.size
           replace TA2 := Lib.hid (TA2.out.below yTA2 hh)
           replace yTA2 := Nat.lt_of_lt_of_le yTA2 hh.size
           replace HR := Lib.hid ((HR.out.below hh).more hh.size)
           replace RA2 := Lib.hid ((RA2.out.below hh).more hh.size)
           replace RA3 := Lib.hid ((RA3.out.below hh).more hh.size)
           replace HBW := Lib.hid (HBW.out.trans (hh.mono HBW.out.size))
           clear tbp0 tbp1 tbp2 tbp3 ta2p0 ta2p1 ta2p2
           obtain ⟨tbp0, tbp1, tbp2, tbp3⟩ := TB.out
           obtain ⟨ta2p0, ta2p1, ta2p2⟩ := TA2.out
           clear hb hh hal)
        | (go_at_call 6
           have hal : Below w4.heap.size w4 w4 := Below.refl _ _
           refine (known11 _).mono ?_
           rintro e w5 ⟨rfl, hb⟩
           have hh : Below w4.heap.size w4 w5 := hal.trans (hb.mono hal.size)
           replace TB := Lib.hid (TB.out.below yTB hh)
           replace yTB := Nat.lt_of_lt_of_le yTB hh.size
           replace TN := Lib.hid (TN.out.below yTN hh)
           replace yTN := Nat.lt_of_lt_of_le yTN hh.size
           replace TA2 := Lib.hid (TA2.out.below yTA2 hh)
           replace yTA2 := Nat.lt_of_lt_of_le yTA2 hh.size
           replace HR := Lib.hid ((HR.out.below hh).more hh.size)
           replace RA2 := Lib.hid ((RA2.out.below hh).more hh.size)
           replace RA3 := Lib.hid ((RA3.out.below hh).more hh.size)
           replace HBW := Lib.hid (HBW.out.trans (hh.mono HBW.out.size))
           clear tbp0 tbp1 tbp2 tbp3 ta2p0 ta2p1 ta2p2
           obtain ⟨tbp0, tbp1, tbp2, tbp3⟩ := TB.out
           obtain ⟨ta2p0, ta2p1, ta2p2⟩ := TA2.out
           clear hb hh hal)
        | (refine wpList_load_mid rfl 32 (.tmp 4) rfl (w.heap.size + 1) 0 rfl [x0, x1, x2, .int .i64 K, .int .i64 S, .int .i64 P, .int .i64 O, .int .i8 Z, x8, .slice WA nW cW, .slice BA nB cB, x11, x12, x13, x14, x15, x16, x17, x18] _ (TN0.out) Try.underlying32 rfl (by kernel_rfl) ?_)
        | (refine wpList_load_mid rfl 32 (.tmp 4) rfl (w.heap.size + 1) 0 rfl [x0, x1, x2, .int .i64 K, .int .i64 S, .int .i64 P, .int .i64 O, .int .i8 Z, x8, .slice WA nW cW, .slice BA nB cB, x11, x12, x13, x14, x15, x16, x17, x18] _ (TN.out) Try.underlying32 rfl (by kernel_rfl) ?_)
        | (refine wpList_load_mid rfl 32 (.tmp 4) rfl (w.heap.size + 1) 0 rfl [x0, x1, x2, .int .i64 K, .int .i64 S, .int .i64 P, .int .i64 O, .int .i8 Z, x8, .slice WA nW cW, .slice BA nB cB, x11, x12, x13, x14, x15, x16, x17, x18] _ (TN.out.below yTN ((Below.refl _ _).alloc (Nat.le_refl _) _)) Try.underlying32 rfl (by kernel_rfl) ?_))
    go_ret
    exact ⟨rfl, HBW.out⟩
set_option maxRecDepth 100000 in
set_option maxHeartbeats 8000000 in
theorem walk_in {w : World} (H W C : Int) (A : Option Addr) (zs : List Int) (n c : Nat) (x0 x1 x2 x8 x11 x12 x13 x14 x15 x16 x17 x18 : Value) (K S P O Z : Int) (WA BA : Option Addr) (nW cW nB cB : Nat) (j : Nat) (hn1 : n ≤ 1024) (M k N : Nat) (xs : List Int) (er : Int) (hx : xs.length = N) (hNM : N = M * k) (hN6 : N ≤ 1000000) (hM : M ≤ 1048576) (hk : k ≤ 1048576) (hk1 : 1 ≤ k)
    (hA1 : ∀ (w : World), Kit.Rd w w.heap.size A (I8s zs) → Calls Try.prog 7 #[.agg #[.int .i64 H, .int .i64 W, .int .i64 C, .slice A n c], .agg #[x0, x1, x2, .int .i64 K, .int .i64 S, .int .i64 P, .int .i64 O, .int .i8 Z, x8, .slice WA nW cW, .slice BA nB cB, x11, x12, x13, x14, x15, x16, x17, x18]] w (MadeR w (M : Int) (k : Int) N xs (.int .i64 er)))
    (hA2 : ∀ (w : World), Kit.Rd w w.heap.size A (I8s zs) → Calls Try.prog 8 #[.agg #[.int .i64 H, .int .i64 W, .int .i64 C, .slice A n c], .agg #[x0, x1, x2, .int .i64 K, .int .i64 S, .int .i64 P, .int .i64 O, .int .i8 Z, x8, .slice WA nW cW, .slice BA nB cB, x11, x12, x13, x14, x15, x16, x17, x18]] w (MadeD w (M : Int) (k : Int) N xs er))
    (hj : j < M) (hr : Kit.Rd w w.heap.size A (I8s zs)) :
    Calls Try.prog 3 #[.agg #[.int .i64 H, .int .i64 W, .int .i64 C, .slice A n c], .agg #[x0, x1, x2, .int .i64 K, .int .i64 S, .int .i64 P, .int .i64 O, .int .i8 Z, x8, .slice WA nW cW, .slice BA nB cB, x11, x12, x13, x14, x15, x16, x17, x18], .int .i64 (j : Int)] w fun e w' => e = .returned (.bool true) ∧ Below w.heap.size w w' := by
  have hN30 : N ≤ 30000000 := by omega
  obtain ⟨p1, hp1⟩ : ∃ p, j * k = p := ⟨_, rfl⟩
  obtain ⟨p2, hp2⟩ : ∃ p, p1 + k = p := ⟨_, rfl⟩
  have hp2n : p2 ≤ N := by rw [hNM, ← hp2, ← hp1]; have := Nat.mul_le_mul_right k (show j + 1 ≤ M by omega); rwa [Nat.add_mul, Nat.one_mul] at this
  obtain ⟨j', hj'⟩ : ∃ j', j + 1 = j' := ⟨_, rfl⟩
  have f1 : IntKind.i64.wrap ((j : Int) * (k : Int)) = (p1 : Int) := by rw [← Int.natCast_mul, hp1]; exact IntWalk.i64_in _ (by omega)
  have f2 : IntKind.i64.wrap ((j : Int) + 1) = (j' : Int) := by rw [IntWalk.i64_in _ (by omega)]; omega
  have f3 : IntKind.i64.wrap ((j' : Int) * (k : Int)) = (p2 : Int) := by rw [← Int.natCast_mul, ← hj', Nat.add_mul, Nat.one_mul, hp1, hp2]; exact IntWalk.i64_in _ (by omega)
  have s1 : (0 : Int) ≤ (p1 : Int) := by omega
  have s2 : (p1 : Int) ≤ (p2 : Int) := by omega
  have s4 : (0 : Int) ≤ (p2 : Int) := by omega
  have s0 : (0 : Int) ≤ (j : Int) := by omega
  have hjm : (j : Int) < (M : Int) := by omega
  have sA : p2 - p1 = k := by omega
  have hp12 : p1 < p2 := by omega
  have hlen : ((xs.drop p1).take k).length = k := by simp; omega
  have HY : Hid (∀ (A2 : Option Addr) (c2 : Nat) (w : World), N ≤ c2 → c2 ≤ maxLen → Kit.Rd w w.heap.size A2 (I16v xs) → Calls Try.prog 10 #[.agg #[.int .i64 (M : Int), .int .i64 (k : Int), .slice A2 N c2], .int .i64 (j : Int)] w (OwnedR w k (I16v ((xs.drop p1).take k)))) := Lib.hid (fun A2 c2 w h1 h2 h => by
    rw [← hp1]
    exact row_yes M k A2 xs N c2 j hx h1 h2 hM hk hNM hj hN6 w h)
  have HLEN := Lib.hid hlen
  have HA1 := Lib.hid hA1
  have HA2 := Lib.hid hA2
  have HX := Lib.hid hx
  have HR := Lib.hid hr
  clear hA1 hA2 hx hr hp1 hp2 hj' hNM hlen
  have TN0 : Hid (NodeAt (w.heap.size + 1) x0 x1 x2 x8 x11 x12 x13 x14 x15 x16 x17 x18 K S P O Z WA BA nW cW nB cB ((w.alloc (.cells #[.int .i64 H, .int .i64 W, .int .i64 C, .slice A n c] 26)).alloc (.cells #[x0, x1, x2, .int .i64 K, .int .i64 S, .int .i64 P, .int .i64 O, .int .i8 Z, x8, .slice WA nW cW, .slice BA nB cB, x11, x12, x13, x14, x15, x16, x17, x18] 32))) := by
    have h := NodeAt.new x0 x1 x2 x8 x11 x12 x13 x14 x15 x16 x17 x18 K S P O Z WA BA nW cW nB cB 32 (w.alloc (.cells #[.int .i64 H, .int .i64 W, .int .i64 C, .slice A n c] 26))
    rw [World.size_alloc] at h
    exact Lib.hid h
  go_enter Try.func3, Try.ntmps3
  go_wp2_with (first
        | (go_at_call 7
           have hal : Below w.heap.size w ((w.alloc (.cells #[.int .i64 H, .int .i64 W, .int .i64 C, .slice A n c] 26)).alloc (.cells #[x0, x1, x2, .int .i64 K, .int .i64 S, .int .i64 P, .int .i64 O, .int .i8 Z, x8, .slice WA nW cW, .slice BA nB cB, x11, x12, x13, x14, x15, x16, x17, x18] 32)) := ((Below.refl _ _).alloc (by first | exact Nat.le_refl _ | (simp; done) | (simp; omega)) _).alloc (by first | exact Nat.le_refl _ | (simp; done) | (simp; omega)) _
           refine (HA1.out _ ((HR.out.below hal).more hal.size)).mono ?_
           rintro e w1 ⟨v2, rfl, ho2, hb⟩
           have hh : Below w.heap.size w w1 := hal.trans (hb.mono hal.size)
           have qTB := (boxNew H W C A n c 26) w
           try simp only [World.size_alloc] at qTB
           have TB := Lib.hid ((qTB.below (B' := w.heap.size + 1) (by omega) (((Below.refl _ _).alloc (by first | exact Nat.le_refl _ | (simp; done) | (simp; omega)) _).mono (by simp))).below (by first | (simp; done) | (simp; omega)) hb)
           have yTB : w.heap.size < w1.heap.size := by have := hb.size; simp at this; omega
           clear qTB
           have qTN := (NodeAt.new x0 x1 x2 x8 x11 x12 x13 x14 x15 x16 x17 x18 K S P O Z WA BA nW cW nB cB 32) (w.alloc (.cells #[.int .i64 H, .int .i64 W, .int .i64 C, .slice A n c] 26))
           try simp only [World.size_alloc] at qTN
           have TN := Lib.hid (qTN.below (by first | (simp; done) | (simp; omega)) hb)
           have yTN : w.heap.size + 1 < w1.heap.size := by have := hb.size; simp at this; omega
           clear qTN
           replace HR := Lib.hid ((HR.out.below hh).more hh.size)
           have HBW : Hid (Below w.heap.size w w1) := Lib.hid hh
           obtain ⟨A2, c2, rfl, hc2, hm2, hrd2⟩ := Kit.own_rd ho2
           have RA2 := Lib.hid hrd2
           clear ho2 hrd2
           obtain ⟨tbp0, tbp1, tbp2, tbp3⟩ := TB.out
           clear hb hh hal)
        | (go_at_call 8
           have hal : Below w1.heap.size w1 (w1.alloc (.cells #[.int .i64 (M : Int), .int .i64 (k : Int), .slice A2 N c2] 36)) := (Below.refl _ _).alloc (by first | exact Nat.le_refl _ | (simp; done) | (simp; omega)) _
           refine (HA2.out _ ((HR.out.below hal).more hal.size)).mono ?_
           rintro e w2 ⟨v3, rfl, ho3, hb⟩
           have hh : Below w1.heap.size w1 w2 := hal.trans (hb.mono hal.size)
           have qTA2 := (rboxNew (M : Int) (k : Int) (.slice A2 N c2) 36) w1
           try simp only [World.size_alloc] at qTA2
           have TA2 := Lib.hid (qTA2.below (by first | (simp; done) | (simp; omega)) hb)
           have yTA2 : w1.heap.size < w2.heap.size := by have := hb.size; simp at this; omega
           clear qTA2
           replace TB := Lib.hid (TB.out.below yTB hh)
           replace yTB := Nat.lt_of_lt_of_le yTB hh.size
           replace TN := Lib.hid (TN.out.below yTN hh)
           replace yTN := Nat.lt_of_lt_of_le yTN hh.size
           replace HR := Lib.hid ((HR.out.below hh).more hh.size)
           replace RA2 := Lib.hid ((RA2.out.below hh).more hh.size)
           replace HBW := Lib.hid (HBW.out.trans (hh.mono HBW.out.size))
           clear tbp0 tbp1 tbp2 tbp3
           obtain ⟨A3, c3, rfl, hc3, hm3, hrd3⟩ := Kit.own_rd ho3
           have RA3 := Lib.hid hrd3
           clear ho3 hrd3
           have s3 : (p2 : Int) ≤ (c3 : Int) := (by omega)
           have hcp : ¬ c3 = p1 := (by omega)
           obtain ⟨tbp0, tbp1, tbp2, tbp3⟩ := TB.out
           obtain ⟨ta2p0, ta2p1, ta2p2⟩ := TA2.out
           clear hb hh hal)
        | (go_at_call 9
           have hal : Below w2.heap.size w2 w2 := Below.refl _ _
           refine (quiet_below (same16_yes A2 A3 xs N c2 c3 HX.out hN30 _ (RA2.out.below hal) (RA3.out.below hal))).mono ?_
           rintro e w3 ⟨rfl, hb⟩
           have hh : Below w2.heap.size w2 w3 := hal.trans (hb.mono hal.size)
           replace TB := Lib.hid (TB.out.below yTB hh)
           replace yTB := Nat.lt_of_lt_of_le yTB hh.size
           replace TN := Lib.hid (TN.out.below yTN hh)
           replace yTN := Nat.lt_of_lt_of_le yTN hh.size
           replace TA2 := Lib.hid (TA2.out.below yTA2 hh)
           replace yTA2 := Nat.lt_of_lt_of_le yTA2 hh.size
           replace HR := Lib.hid ((HR.out.below hh).more hh.size)
           replace RA2 := Lib.hid ((RA2.out.below hh).more hh.size)
           replace RA3 := Lib.hid ((RA3.out.below hh).more hh.size)
           replace HBW := Lib.hid (HBW.out.trans (hh.mono HBW.out.size))
           clear tbp0 tbp1 tbp2 tbp3 ta2p0 ta2p1 ta2p2
           obtain ⟨tbp0, tbp1, tbp2, tbp3⟩ := TB.out
           obtain ⟨ta2p0, ta2p1, ta2p2⟩ := TA2.out
           clear hb hh hal)
        | (go_at_call 10
           have hal : Below w3.heap.size w3 w3 := Below.refl _ _
           refine (HY.out A2 c2 _ hc2 hm2 ((RA2.out.below hal).more hal.size)).mono ?_
           rintro e w4 ⟨v4, rfl, ho4, hb⟩
           have hh : Below w3.heap.size w3 w4 := hal.trans (hb.mono hal.size)
           replace TB := Lib.hid (TB.out.below yTB hh)
           replace yTB := Nat.lt_of_lt_of_le yTB hh.size
           replace TN := Lib.hid (TN.out.below yTN hh)
           replace yTN := Nat.lt_of_lt_of_le yTN hh.size
           replace TA2 := Lib.hid (TA2.out.below yTA2 hh)
           replace yTA2 := Nat.lt_of_lt_of_le yTA2 hh.size
           replace HR := Lib.hid ((HR.out.below hh).more hh.size)
           replace RA2 := Lib.hid ((RA2.out.below hh).more hh.size)
           replace RA3 := Lib.hid ((RA3.out.below hh).more hh.size)
           replace HBW := Lib.hid (HBW.out.trans (hh.mono HBW.out.size))
           clear tbp0 tbp1 tbp2 tbp3 ta2p0 ta2p1 ta2p2
           obtain ⟨A4, c4, rfl, -, -, hrd4⟩ := Kit.own_rd ho4
           have RA4 := Lib.hid hrd4
           clear ho4 hrd4
           obtain ⟨tbp0, tbp1, tbp2, tbp3⟩ := TB.out
           obtain ⟨ta2p0, ta2p1, ta2p2⟩ := TA2.out
           clear hb hh hal)
        | (refine wpList_load_mid rfl 32 (.tmp 4) rfl (w.heap.size + 1) 0 rfl [x0, x1, x2, .int .i64 K, .int .i64 S, .int .i64 P, .int .i64 O, .int .i8 Z, x8, .slice WA nW cW, .slice BA nB cB, x11, x12, x13, x14, x15, x16, x17, x18] _ (TN0.out) Try.underlying32 rfl (by kernel_rfl) ?_)
        | (refine wpList_load_mid rfl 32 (.tmp 4) rfl (w.heap.size + 1) 0 rfl [x0, x1, x2, .int .i64 K, .int .i64 S, .int .i64 P, .int .i64 O, .int .i8 Z, x8, .slice WA nW cW, .slice BA nB cB, x11, x12, x13, x14, x15, x16, x17, x18] _ (TN.out) Try.underlying32 rfl (by kernel_rfl) ?_)
        | (refine wpList_load_mid rfl 32 (.tmp 4) rfl (w.heap.size + 1) 0 rfl [x0, x1, x2, .int .i64 K, .int .i64 S, .int .i64 P, .int .i64 O, .int .i8 Z, x8, .slice WA nW cW, .slice BA nB cB, x11, x12, x13, x14, x15, x16, x17, x18] _ (TN.out.below yTN ((Below.refl _ _).alloc (Nat.le_refl _) _)) Try.underlying32 rfl (by kernel_rfl) ?_))
  have hc2 : Kit.Rd w4 w4.heap.size (if c3 = p1 then A3 else A3.map (·.add p1)) (((xs.drop p1).take k).map (.int .i16)) := by
    rw [List.map_take, List.map_drop]
    exact (RA3.out.cut (k := p1) (c := c3) (by have := HX.out; simp [I16v]; omega)).take k
  rw [if_neg hcp] at hc2
  have HC2 := Lib.hid hc2
  clear hc2
  go_at_call 9
  refine (quiet_below (same16_yes A4 _ _ k c4 _ HLEN.out (by omega) _ RA4.out HC2.out)).mono ?_
  rintro e w5 ⟨rfl, hb5⟩
  replace HBW := Lib.hid (HBW.out.trans (hb5.mono HBW.out.size))
  clear hb5
  go_wp2_with (go_at_call 6; (refine (known11 _).mono ?_); rintro e w6 ⟨rfl, hb6⟩; (replace HBW := Lib.hid (HBW.out.trans (hb6.mono HBW.out.size))); clear hb6)
  go_ret
  exact ⟨rfl, HBW.out⟩
theorem walk {w : World} (H : Int) (wH : (Lit.int .i64 H).wf = true) (W : Int) (wW : (Lit.int .i64 W).wf = true) (C : Int) (wC : (Lit.int .i64 C).wf = true) (A : Option Addr) (zs : List Int) (c : Nat) (hc : zs.length ≤ c) (hm : c ≤ maxLen) (hw : ∀ n ∈ zs, (Lit.int .i8 n).wf = true) (hr : Kit.Rd w w.heap.size A (zs.map (.int .i8)))
    (x0 x1 x2 x8 x11 x12 x13 x14 x15 x16 x17 x18 : Value) (K S P O Z : Int) (WA : Option Addr) (ws : List Int) (cW : Nat) (BA : Option Addr) (bs : List Int) (cB : Nat) (wz : (Lit.int .i8 Z).wf = true) (hcw : ws.length ≤ cW) (hmw : cW ≤ maxLen) (hww : ∀ n ∈ ws, (Lit.int .i8 n).wf = true) (hrw : Kit.Rd w w.heap.size WA (ws.map (.int .i8)))
    (hcb : bs.length ≤ cB) (hmb : cB ≤ maxLen) (hwb : ∀ n ∈ bs, (Lit.int .i32 n).wf = true) (hrb : Kit.Rd w w.heap.size BA (bs.map (.int .i32))) (i : Int) (wi : (Lit.int .i64 i).wf = true) :
    Calls Try.prog 3 #[.agg #[.int .i64 H, .int .i64 W, .int .i64 C, .slice A zs.length c], .agg #[x0, x1, x2, .int .i64 K, .int .i64 S, .int .i64 P, .int .i64 O, .int .i8 Z, x8, .slice WA ws.length cW, .slice BA bs.length cB, x11, x12, x13, x14, x15, x16, x17, x18], .int .i64 i] w fun e w' => e = .returned (.bool true) ∧ Below w.heap.size w w' := by
  have ⟨z1, z2⟩ : -128 ≤ Z ∧ Z ≤ 127 := by simpa [Lit.wf, IntKind.min, IntKind.max, IntKind.signed, IntKind.bits] using wz
  by_cases hf : 1024 < zs.length
  · exact walk_big H W C A _ c x0 x1 x2 x8 x11 x12 x13 x14 x15 x16 x17 x18 K S P O Z WA BA ws.length cW bs.length cB i hf
  · obtain ⟨M, k, N, xs, er, hx, hNM, hN6, hM, hk, hk1, hA1, hA2⟩ := rows_both H W C A zs _ c rfl (bytes_of hw) x0 x1 x2 x8 x11 x12 x13 x14 x15 x16 x17 x18 K S P O Z WA BA ws.length cW bs.length cB z1 z2 (by omega)
    by_cases hin : 0 ≤ i ∧ i < (M : Int)
    · obtain ⟨j, rfl⟩ := Int.eq_ofNat_of_zero_le hin.1
      exact walk_in H W C A zs _ c x0 x1 x2 x8 x11 x12 x13 x14 x15 x16 x17 x18 K S P O Z WA BA ws.length cW bs.length cB j (by omega) M k N xs er hx hNM hN6 hM hk (hk1 (by omega)) hA1 hA2 (by omega) hr
    · exact walk_out H W C A zs _ c x0 x1 x2 x8 x11 x12 x13 x14 x15 x16 x17 x18 K S P O Z WA BA ws.length cW bs.length cB i (by omega) M k N xs er hx hN6 hM hA1 hA2 (by omega) hr
/-! ### the frame: written by program -/
theorem own : ownKnob Try.prog.godebug = none := by kernel_rfl
theorem laid : laidOutB Try.prog = true := by kernel_rfl
theorem contract {H : Type} {enc : TypeId × Value → H} {W : World} {base : Nat} {args : Array Value} {ds gs : List (DataW H)} {before : List MemPlace}
    (hval0 : ∀ (j : Nat) t v, Try.f3.params[j]? = some t → args[j]? = some v → Value.okWide Try.prog W .any base t v)
    (hW : DataW.Whole enc Try.prog Try.f3.params.toList Rows.patchRowsSpec.vars false W args.toList ds gs before) :
    Calls Try.prog 3 args W fun e W' => e = .returned (.bool true) ∧ Below W.heap.size W W' := by
  have hval : ∀ (j : Nat) t v, Try.f3.params[j]? = some t → args[j]? = some v → Value.okWide Try.prog W .any base t v := hval0
  obtain ⟨p, q, hA0, hV, rfl, hfz, hnd⟩ := hW
  have hA : DataW.TrodAll enc Try.prog W 0 (fun _ => true) true Try.f3.params.toList args.toList ds p := hA0
  rw [Try.params3] at hA hval
  obtain ⟨v0, vs0, d0, ds0, p0, q0, hargs, rfl, rfl, h0, r0⟩ := trodAll_cons hA
  obtain ⟨v1, vs1, d1, ds1, p1, q1, rfl, rfl, rfl, h1, r1⟩ := trodAll_cons r0
  obtain ⟨v2, vs2, d2, ds2, p2, q2, rfl, rfl, rfl, h2, r2⟩ := trodAll_cons r1
  obtain ⟨rfl, rfl, rfl⟩ := trodAll_nil r2
  obtain rfl : args = #[v0, v1, v2] := by cases args; simp_all
  clear hA0 hval0
  obtain ⟨x0, y0, t0, A0, z0, c0, rfl, wx0, wy0, wt0, hc0, hm0, hw0, hr0⟩ := Kit.open_tensor (s := 23) (d := 24) (e := 27) (i := 3) Try.underlying26 Try.underlying23 Try.underlying24 Try.underlying27 Try.underlying3 (by kernel_rfl) (by kernel_rfl) (by kernel_rfl) (by kernel_rfl) (by kernel_rfl) ⟨rfl, rfl, rfl, rfl⟩ ⟨rfl, rfl, rfl, rfl, rfl, rfl⟩ (hval 0 26 v0 rfl rfl) h0
  obtain ⟨n1_0, n1_1, n1_2, n1_8, n1_11, n1_12, n1_13, n1_14, n1_15, n1_16, n1_17, n1_18, K1, S1, Q1, O1, Z1, WA1, ws1, cW1, BA1, bs1, cB1, rfl, wz1, hcw1, hmw1, hww1, hrw1, hcb1, hmb1, hwb1, hrb1⟩ := Kit.open_node (i := 3) (b8 := 27) (d := 24) (e := 27) (d2 := 28) (e2 := 21) Try.underlying32 (by kernel_rfl) Try.underlying3 (by kernel_rfl) Try.underlying27 (by kernel_rfl) Try.underlying24 Try.underlying27 (by kernel_rfl) (by kernel_rfl) Try.underlying28 Try.underlying21 (by kernel_rfl) (by kernel_rfl) rfl rfl rfl rfl rfl rfl rfl ⟨rfl, rfl⟩ ⟨rfl, rfl⟩ ⟨rfl, rfl⟩ ⟨rfl, rfl⟩ ⟨rfl, rfl⟩ ⟨rfl, rfl⟩ ⟨rfl, rfl⟩ (hval 1 32 v1 rfl rfl) h1
  obtain ⟨a2, rfl, rfl, rfl, w2⟩ := open_int Try.underlying3 (hval 2 3 v2 rfl rfl) h2
  exact walk (w := W) x0 wx0 y0 wy0 t0 wt0 A0 z0 c0 hc0 hm0 hw0 hr0 n1_0 n1_1 n1_2 n1_8 n1_11 n1_12 n1_13 n1_14 n1_15 n1_16 n1_17 n1_18 K1 S1 Q1 O1 Z1 WA1 ws1 cW1 BA1 bs1 cB1 wz1 hcw1 hmw1 hww1 hrw1 hcb1 hmb1 hwb1 hrb1 a2 w2
theorem fnIs {H : Type} : ∀ ds : List (DataW H), ds.length = Try.f3.params.toList.length → Rows.patchRowsSpec.fn H ds = { results := [.lit (.bool true)], args := ds } := by
  intro ds h
  rw [Try.params3] at h
  match ds, h with
  | [d1, d2, d3], _ => rfl
set_option maxRecDepth 100000 in
theorem lifted (os : Os) (started : os.Started) (H : Type) (enc : TypeId × Value → H) :
    ReturnsInHanded {} Try.checked os 3 .any (Rows.patchRowsSpec.pre6 enc Try.prog Try.f3 Rows.patchRowsRow.domain false) (Rows.patchRowsSpec.post enc Try.prog Try.f3 false true false false) := by
  refine returnsInHanded_of_change (C := Try.checked) own started (by kernel_rfl) Try.func3
    (ChangeSpec.witness6 (enc := enc) (C := Try.checked) false ⟨#[], #[.agg #[.int .i64 0, .int .i64 0, .int .i64 0, .slice none 0 0], .agg #[.int .i64 0, .int .i64 0, .int .i64 0, .int .i64 0, .int .i64 0, .int .i64 0, .int .i64 0, .int .i8 0, .int .i8 0, .slice none 0 0, .slice none 0 0, .int .i32 0, .int .i64 0, .int .i8 0, .int .i32 0, .int .i64 0, .int .i8 0, .int .i8 0, .int .i8 0], .int .i64 0], []⟩ 8 (by kernel_rfl) (by kernel_rfl) (by kernel_rfl) (by kernel_rfl)) ?_
  intro W base args ds gs before hval hW _ _
  refine (contract hval hW).mono fun e W' ⟨he, hg⟩ => ?_
  subst he
  exact ⟨_, rfl, Kit.law_post (tb := 4) laid (by kernel_rfl) rfl (by kernel_rfl) Try.underlying4 fnIs hW hg⟩
theorem over : Rows.patchRowsRow.holds Try.pinned (OpenSpec.ofChange Rows.patchRowsSpec) :=
  OpenClaim.holds_of_wide 3 Try.f3 rfl rfl rfl rfl rfl rfl rfl ⟨rfl, rfl, rfl, rfl, rfl⟩ rfl rfl rfl rfl rfl (by kernel_rfl) Try.func3 (by kernel_rfl)
    (of_decide_eq_true (by kernel_rfl)) (by unfold Func.isWrapper; first | (rw [if_pos (by decide +kernel)]; kernel_rfl) | (rw [if_neg (by decide +kernel)]; exact ⟨rfl, rfl⟩))
    (fun os started H enc _ => lifted os started H enc)
/-- the statement. -/
theorem proved : Rows.PatchRowsSaid :=
  over
end Go.Proofs.Ytdoonfbcbohdoaa.lawPatchRows
