/- ActPuts: any sums as numbers, or why they cannot be, are what the document says; the call returns true and leaves its arguments as they were. No condition. -/
import Derived.Test.YtpokeklphmfcnaaActPutBoth
namespace Go.Proofs.Ytpokeklphmfcnaa.lawActPuts
open Go Go.ChangeShapes Go.WideShapes Go.ChangeAt Go.RowKit Go.Deep
open Plain CSat CFix CShape CTensor CConv CAct
set_option linter.unusedVariables false

set_option maxRecDepth 100000 in
set_option maxHeartbeats 4000000 in
theorem walk_no {w : World} (H W C : Int) (A : Option Addr) (n c : Nat) (x0 x1 x2 : Value) (K S P O Z Y : Int) (WA BA : Option Addr) (nW cW nB cB : Nat) (m1 s1 z1 m2 s2 z2 lo hi : Int) (hfew : ¬ n ≤ 1024) :
    Calls Try.prog 5 #[.agg #[.int .i64 H, .int .i64 W, .int .i64 C, .slice A n c], .agg #[x0, x1, x2, .int .i64 K, .int .i64 S, .int .i64 P, .int .i64 O, .int .i8 Z, .int .i8 Y, .slice WA nW cW, .slice BA nB cB, .int .i32 m1, .int .i64 s1, .int .i8 z1, .int .i32 m2, .int .i64 s2, .int .i8 z2, .int .i8 lo, .int .i8 hi]] w fun e w' => e = .returned (.bool true) ∧ Below w.heap.size w w' := by
  have hal : Below w.heap.size w ((w.alloc (.cells #[.int .i64 H, .int .i64 W, .int .i64 C, .slice A n c] 50)).alloc (.cells #[x0, x1, x2, .int .i64 K, .int .i64 S, .int .i64 P, .int .i64 O, .int .i8 Z, .int .i8 Y, .slice WA nW cW, .slice BA nB cB, .int .i32 m1, .int .i64 s1, .int .i8 z1, .int .i32 m2, .int .i64 s2, .int .i8 z2, .int .i8 lo, .int .i8 hi] 32)) := ((Below.refl _ _).alloc (Nat.le_refl _) _).alloc (by simp) _
  have h3 : (n : Int) > 1024 := by omega
  go_enter Try.func5, Try.ntmps5
  go_wp2_with (go_at_call 6; (refine (known21 _).mono ?_); rintro e w4 ⟨rfl, hb4⟩)
  go_ret
  exact ⟨rfl, hal.trans (hb4.mono hal.size)⟩
set_option maxRecDepth 100000 in
set_option maxHeartbeats 8000000 in
theorem walk_yes {w : World} (H W C : Int) (A : Option Addr) (zs : List Int) (n c : Nat) (hn : zs.length = n) (hz : I32s zs) (x0 x1 x2 : Value) (K S P O Z Y : Int) (WA BA : Option Addr) (nW cW nB cB : Nat) (m1 s1 z1 m2 s2 z2 lo hi : Int) (hnb : NBd Z Y m1 z1 m2 z2 lo hi) (hf1 : n ≤ 1024) (hr : Kit.Rd w w.heap.size A (I32v zs)) :
    Calls Try.prog 5 #[.agg #[.int .i64 H, .int .i64 W, .int .i64 C, .slice A n c], .agg #[x0, x1, x2, .int .i64 K, .int .i64 S, .int .i64 P, .int .i64 O, .int .i8 Z, .int .i8 Y, .slice WA nW cW, .slice BA nB cB, .int .i32 m1, .int .i64 s1, .int .i8 z1, .int .i32 m2, .int .i64 s2, .int .i8 z2, .int .i8 lo, .int .i8 hi]] w fun e w' => e = .returned (.bool true) ∧ Below w.heap.size w w' := by
  obtain ⟨X, V, U, k, xs, er, hx, hk6, hC1, hC2⟩ := actPut_all H W C A n c zs hn hz (by omega) x0 x1 x2 K S P O Z Y WA BA nW cW nB cB m1 s1 z1 m2 s2 z2 lo hi hnb
  have HC1 := Lib.hid hC1
  have HC2 := Lib.hid hC2
  have HX := Lib.hid hx
  have HRA := Lib.hid hr
  clear hC1 hC2 hx hr hn hz hnb
  have h1 : ¬ (n : Int) > 1024 := by omega
  have TN0 : Hid (NodeAt (w.heap.size + 1) x0 x1 x2 (.int .i8 Y) (.int .i32 m1) (.int .i64 s1) (.int .i8 z1) (.int .i32 m2) (.int .i64 s2) (.int .i8 z2) (.int .i8 lo) (.int .i8 hi) K S P O Z WA BA nW cW nB cB ((w.alloc (.cells #[.int .i64 H, .int .i64 W, .int .i64 C, .slice A n c] 50)).alloc (.cells #[x0, x1, x2, .int .i64 K, .int .i64 S, .int .i64 P, .int .i64 O, .int .i8 Z, .int .i8 Y, .slice WA nW cW, .slice BA nB cB, .int .i32 m1, .int .i64 s1, .int .i8 z1, .int .i32 m2, .int .i64 s2, .int .i8 z2, .int .i8 lo, .int .i8 hi] 32))) := by
    have h := NodeAt.new x0 x1 x2 (.int .i8 Y) (.int .i32 m1) (.int .i64 s1) (.int .i8 z1) (.int .i32 m2) (.int .i64 s2) (.int .i8 z2) (.int .i8 lo) (.int .i8 hi) K S P O Z WA BA nW cW nB cB 32 (w.alloc (.cells #[.int .i64 H, .int .i64 W, .int .i64 C, .slice A n c] 50))
    rw [World.size_alloc] at h
    exact Lib.hid h
  go_enter Try.func5, Try.ntmps5
  go_wp2_with (first
    | (go_at_call 16
       have hal : Below w.heap.size w ((w.alloc (.cells #[.int .i64 H, .int .i64 W, .int .i64 C, .slice A n c] 50)).alloc (.cells #[x0, x1, x2, .int .i64 K, .int .i64 S, .int .i64 P, .int .i64 O, .int .i8 Z, .int .i8 Y, .slice WA nW cW, .slice BA nB cB, .int .i32 m1, .int .i64 s1, .int .i8 z1, .int .i32 m2, .int .i64 s2, .int .i8 z2, .int .i8 lo, .int .i8 hi] 32)) := ((Below.refl _ _).alloc (by first | exact Nat.le_refl _ | (simp; done) | (simp; omega)) _).alloc (by first | exact Nat.le_refl _ | (simp; done) | (simp; omega)) _
       refine (HC1.out _ ((HRA.out.below hal).more hal.size)).mono ?_
       rintro e w1 ⟨v2, rfl, ho2, hb⟩
       have hh : Below w.heap.size w w1 := hal.trans (hb.mono hal.size)
       have qTA := (boxNew H W C A n c 50) w
       try simp only [World.size_alloc] at qTA
       have TA := Lib.hid ((qTA.below (B' := w.heap.size + 1) (by omega) (((Below.refl _ _).alloc (by first | exact Nat.le_refl _ | (simp; done) | (simp; omega)) _).mono (by simp))).below (by first | (simp; done) | (simp; omega)) hb)
       have yTA : w.heap.size < w1.heap.size := by have := hb.size; simp at this; omega
       clear qTA
       have qTN := (NodeAt.new x0 x1 x2 (.int .i8 Y) (.int .i32 m1) (.int .i64 s1) (.int .i8 z1) (.int .i32 m2) (.int .i64 s2) (.int .i8 z2) (.int .i8 lo) (.int .i8 hi) K S P O Z WA BA nW cW nB cB 32) (w.alloc (.cells #[.int .i64 H, .int .i64 W, .int .i64 C, .slice A n c] 50))
       try simp only [World.size_alloc] at qTN
       have TN := Lib.hid (qTN.below (by first | (simp; done) | (simp; omega)) hb)
       have yTN : w.heap.size + 1 < w1.heap.size := by have := hb.size; simp at this; omega
       clear qTN
       replace HRA := Lib.hid ((HRA.out.below hh).more hh.size)
       have HBW : Hid (Below w.heap.size w w1) := Lib.hid hh
       obtain ⟨A2, c2, rfl, -, -, hrd2⟩ := Kit.own_rd ho2
       have RA2 := Lib.hid hrd2
       clear ho2 hrd2
       obtain ⟨tap0, tap1, tap2, tap3⟩ := TA.out
       clear hb hh hal)
    | (go_at_call 17
       have hal : Below w1.heap.size w1 (w1.alloc (.cells #[.int .i64 X, .int .i64 V, .int .i64 U, .slice A2 k c2] 26)) := (Below.refl _ _).alloc (by first | exact Nat.le_refl _ | (simp; done) | (simp; omega)) _
       refine (HC2.out _ ((HRA.out.below hal).more hal.size)).mono ?_
       rintro e w2 ⟨v3, rfl, ho3, hb⟩
       have hh : Below w1.heap.size w1 w2 := hal.trans (hb.mono hal.size)
       have qT1 := (boxNew X V U A2 k c2 26) w1
       try simp only [World.size_alloc] at qT1
       have T1 := Lib.hid (qT1.below (by first | (simp; done) | (simp; omega)) hb)
       have yT1 : w1.heap.size < w2.heap.size := by have := hb.size; simp at this; omega
       clear qT1
       replace TA := Lib.hid (TA.out.below yTA hh)
       replace yTA := Nat.lt_of_lt_of_le yTA hh.size
       replace TN := Lib.hid (TN.out.below yTN hh)
       replace yTN := Nat.lt_of_lt_of_le yTN hh.size
       replace HRA := Lib.hid ((HRA.out.below hh).more hh.size)
       replace RA2 := Lib.hid ((RA2.out.below hh).more hh.size)
       replace HBW := Lib.hid (HBW.out.trans (hh.mono HBW.out.size))
       clear tap0 tap1 tap2 tap3
       obtain ⟨A3, c3, rfl, -, -, hrd3⟩ := Kit.own_rd ho3
       have RA3 := Lib.hid hrd3
       clear ho3 hrd3
       obtain ⟨tap0, tap1, tap2, tap3⟩ := TA.out
       obtain ⟨t1p0, t1p1, t1p2, t1p3⟩ := T1.out
       clear hb hh hal)
    | (go_at_call 9
       have hal : Below w2.heap.size w2 (w2.alloc (.cells #[.int .i64 X, .int .i64 V, .int .i64 U, .slice A3 k c3] 26)) := (Below.refl _ _).alloc (by first | exact Nat.le_refl _ | (simp; done) | (simp; omega)) _
       refine (refSame_to X V U A2 A3 xs xs k c2 c3 HX.out HX.out hk6 true (by simp) _ (hal.size) (hal.size) (RA2.out.below hal) (RA3.out.below hal)).mono ?_
       rintro e w3 ⟨rfl, hb⟩
       have hh : Below w2.heap.size w2 w3 := hal.trans (hb.mono hal.size)
       have qT2 := (boxNew X V U A3 k c3 26) w2
       try simp only [World.size_alloc] at qT2
       have T2 := Lib.hid (qT2.below (by first | (simp; done) | (simp; omega)) hb)
       have yT2 : w2.heap.size < w3.heap.size := by have := hb.size; simp at this; omega
       clear qT2
       replace TA := Lib.hid (TA.out.below yTA hh)
       replace yTA := Nat.lt_of_lt_of_le yTA hh.size
       replace TN := Lib.hid (TN.out.below yTN hh)
       replace yTN := Nat.lt_of_lt_of_le yTN hh.size
       replace T1 := Lib.hid (T1.out.below yT1 hh)
       replace yT1 := Nat.lt_of_lt_of_le yT1 hh.size
       replace HRA := Lib.hid ((HRA.out.below hh).more hh.size)
       replace RA2 := Lib.hid ((RA2.out.below hh).more hh.size)
       replace RA3 := Lib.hid ((RA3.out.below hh).more hh.size)
       replace HBW := Lib.hid (HBW.out.trans (hh.mono HBW.out.size))
       clear tap0 tap1 tap2 tap3 t1p0 t1p1 t1p2 t1p3
       obtain ⟨tap0, tap1, tap2, tap3⟩ := TA.out
       obtain ⟨t1p0, t1p1, t1p2, t1p3⟩ := T1.out
       obtain ⟨t2p0, t2p1, t2p2, t2p3⟩ := T2.out
       clear hb hh hal)
    | (go_at_call 6
       have hal : Below w3.heap.size w3 w3 := Below.refl _ _
       refine (known21 _).mono ?_
       rintro e w4 ⟨rfl, hb⟩
       have hh : Below w3.heap.size w3 w4 := hal.trans (hb.mono hal.size)
       replace TA := Lib.hid (TA.out.below yTA hh)
       replace yTA := Nat.lt_of_lt_of_le yTA hh.size
       replace TN := Lib.hid (TN.out.below yTN hh)
       replace yTN := Nat.lt_of_lt_of_le yTN hh.size
       replace T1 := Lib.hid (T1.out.below yT1 hh)
       replace yT1 := Nat.lt_of_lt_of_le yT1 hh.size
       replace T2 := Lib.hid (T2.out.below yT2 hh)
       replace yT2 := Nat.lt_of_lt_of_le yT2 hh.size
       replace HRA := Lib.hid ((HRA.out.below hh).more hh.size)
       replace RA2 := Lib.hid ((RA2.out.below hh).more hh.size)
       replace RA3 := Lib.hid ((RA3.out.below hh).more hh.size)
       replace HBW := Lib.hid (HBW.out.trans (hh.mono HBW.out.size))
       clear tap0 tap1 tap2 tap3 t1p0 t1p1 t1p2 t1p3 t2p0 t2p1 t2p2 t2p3
       obtain ⟨tap0, tap1, tap2, tap3⟩ := TA.out
       obtain ⟨t1p0, t1p1, t1p2, t1p3⟩ := T1.out
       obtain ⟨t2p0, t2p1, t2p2, t2p3⟩ := T2.out
       clear hb hh hal)
    | (refine wpList_load_mid rfl 32 (.tmp 3) rfl (w.heap.size + 1) 0 rfl [x0, x1, x2, .int .i64 K, .int .i64 S, .int .i64 P, .int .i64 O, .int .i8 Z, .int .i8 Y, .slice WA nW cW, .slice BA nB cB, .int .i32 m1, .int .i64 s1, .int .i8 z1, .int .i32 m2, .int .i64 s2, .int .i8 z2, .int .i8 lo, .int .i8 hi] _ (TN0.out) Try.underlying32 rfl (by kernel_rfl) ?_)
    | (refine wpList_load_mid rfl 32 (.tmp 3) rfl (w.heap.size + 1) 0 rfl [x0, x1, x2, .int .i64 K, .int .i64 S, .int .i64 P, .int .i64 O, .int .i8 Z, .int .i8 Y, .slice WA nW cW, .slice BA nB cB, .int .i32 m1, .int .i64 s1, .int .i8 z1, .int .i32 m2, .int .i64 s2, .int .i8 z2, .int .i8 lo, .int .i8 hi] _ (TN.out) Try.underlying32 rfl (by kernel_rfl) ?_)
    | (refine wpList_load_mid rfl 32 (.tmp 3) rfl (w.heap.size + 1) 0 rfl [x0, x1, x2, .int .i64 K, .int .i64 S, .int .i64 P, .int .i64 O, .int .i8 Z, .int .i8 Y, .slice WA nW cW, .slice BA nB cB, .int .i32 m1, .int .i64 s1, .int .i8 z1, .int .i32 m2, .int .i64 s2, .int .i8 z2, .int .i8 lo, .int .i8 hi] _ (TN.out.below yTN ((Below.refl _ _).alloc (Nat.le_refl _) _)) Try.underlying32 rfl (by kernel_rfl) ?_))
  go_ret
  exact ⟨rfl, HBW.out⟩
theorem walk {w : World} (H : Int) (wH : (Lit.int .i64 H).wf = true) (W : Int) (wW : (Lit.int .i64 W).wf = true) (C : Int) (wC : (Lit.int .i64 C).wf = true) (A : Option Addr) (zs : List Int) (c : Nat) (hc : zs.length ≤ c) (hm : c ≤ maxLen) (hw : ∀ n ∈ zs, (Lit.int .i32 n).wf = true) (hr : Kit.Rd w w.heap.size A (zs.map (.int .i32)))
    (x0 x1 x2 x8 x11 x12 x13 x14 x15 x16 x17 x18 : Value) (K S P O Z : Int) (WA : Option Addr) (ws : List Int) (cW : Nat) (BA : Option Addr) (bs : List Int) (cB : Nat) (wZ : (Lit.int .i8 Z).wf = true)
    (hcw : ws.length ≤ cW) (hmw : cW ≤ maxLen) (hww : ∀ n ∈ ws, (Lit.int .i8 n).wf = true) (hrw : Kit.Rd w w.heap.size WA (ws.map (.int .i8))) (hcb : bs.length ≤ cB) (hmb : cB ≤ maxLen) (hwb : ∀ n ∈ bs, (Lit.int .i32 n).wf = true) (hrb : Kit.Rd w w.heap.size BA (bs.map (.int .i32)))
    (hJ : ∃ Y m1 s1 z1 m2 s2 z2 lo hi : Int, (x8 = .int .i8 Y ∧ x11 = .int .i32 m1 ∧ x12 = .int .i64 s1 ∧ x13 = .int .i8 z1 ∧ x14 = .int .i32 m2 ∧ x15 = .int .i64 s2 ∧ x16 = .int .i8 z2 ∧ x17 = .int .i8 lo ∧ x18 = .int .i8 hi) ∧ NBd 0 Y m1 z1 m2 z2 lo hi) :
    Calls Try.prog 5 #[.agg #[.int .i64 H, .int .i64 W, .int .i64 C, .slice A zs.length c], .agg #[x0, x1, x2, .int .i64 K, .int .i64 S, .int .i64 P, .int .i64 O, .int .i8 Z, x8, .slice WA ws.length cW, .slice BA bs.length cB, x11, x12, x13, x14, x15, x16, x17, x18]] w fun e w' => e = .returned (.bool true) ∧ Below w.heap.size w w' := by
  obtain ⟨Y, m1, s1, z1, m2, s2, z2, lo, hi, ⟨rfl, rfl, rfl, rfl, rfl, rfl, rfl, rfl, rfl⟩, hnb0⟩ := hJ
  by_cases hf : zs.length ≤ 1024
  · exact walk_yes H W C A zs _ c rfl (i32s_of hw) x0 x1 x2 K S P O Z Y WA BA ws.length cW bs.length cB m1 s1 z1 m2 s2 z2 lo hi (CJoin.NBd.of hnb0 wZ) hf hr
  · exact walk_no H W C A _ c x0 x1 x2 K S P O Z Y WA BA ws.length cW bs.length cB m1 s1 z1 m2 s2 z2 lo hi hf
/-! ### the frame: written by program -/
theorem own : ownKnob Try.prog.godebug = none := by kernel_rfl
theorem laid : laidOutB Try.prog = true := by kernel_rfl
theorem contract {H : Type} {enc : TypeId × Value → H} {W : World} {base : Nat} {args : Array Value} {ds gs : List (DataW H)} {before : List MemPlace}
    (hval0 : ∀ (j : Nat) t v, Try.f5.params[j]? = some t → args[j]? = some v → Value.okWide Try.prog W .any base t v)
    (hW : DataW.Whole enc Try.prog Try.f5.params.toList Rows.actPutsSpec.vars false W args.toList ds gs before) :
    Calls Try.prog 5 args W fun e W' => e = .returned (.bool true) ∧ Below W.heap.size W W' := by
  have hval : ∀ (j : Nat) t v, Try.f5.params[j]? = some t → args[j]? = some v → Value.okWide Try.prog W .any base t v := hval0
  obtain ⟨p, q, hA0, hV, rfl, hfz, hnd⟩ := hW
  have hA : DataW.TrodAll enc Try.prog W 0 (fun _ => true) true Try.f5.params.toList args.toList ds p := hA0
  rw [Try.params5] at hA hval
  obtain ⟨v0, vs0, d0, ds0, p0, q0, hargs, rfl, rfl, h0, r0⟩ := trodAll_cons hA
  obtain ⟨v1, vs1, d1, ds1, p1, q1, rfl, rfl, rfl, h1, r1⟩ := trodAll_cons r0
  obtain ⟨rfl, rfl, rfl⟩ := trodAll_nil r1
  obtain rfl : args = #[v0, v1] := by cases args; simp_all
  clear hA0 hval0
  obtain ⟨x0, y0, t0, A0, z0, c0, rfl, wx0, wy0, wt0, hc0, hm0, hw0, hr0⟩ := Kit.open_tensor (s := 23) (d := 28) (e := 21) (i := 3) Try.underlying50 Try.underlying23 Try.underlying28 Try.underlying21 Try.underlying3 (by kernel_rfl) (by kernel_rfl) (by kernel_rfl) (by kernel_rfl) (by kernel_rfl) ⟨rfl, rfl, rfl, rfl⟩ ⟨rfl, rfl, rfl, rfl, rfl, rfl⟩ (hval 0 50 v0 rfl rfl) h0
  obtain ⟨n1_0, n1_1, n1_2, n1_8, n1_11, n1_12, n1_13, n1_14, n1_15, n1_16, n1_17, n1_18, K1, S1, Q1, O1, Z1, WA1, ws1, cW1, BA1, bs1, cB1, rfl, wz1, hcw1, hmw1, hww1, hrw1, hcb1, hmb1, hwb1, hrb1⟩ := Kit.open_node (i := 3) (b8 := 27) (d := 24) (e := 27) (d2 := 28) (e2 := 21) Try.underlying32 (by kernel_rfl) Try.underlying3 (by kernel_rfl) Try.underlying27 (by kernel_rfl) Try.underlying24 Try.underlying27 (by kernel_rfl) (by kernel_rfl) Try.underlying28 Try.underlying21 (by kernel_rfl) (by kernel_rfl) rfl rfl rfl rfl rfl rfl rfl ⟨rfl, rfl⟩ ⟨rfl, rfl⟩ ⟨rfl, rfl⟩ ⟨rfl, rfl⟩ ⟨rfl, rfl⟩ ⟨rfl, rfl⟩ ⟨rfl, rfl⟩ (hval 1 32 v1 rfl rfl) h1
  exact walk (w := W) x0 wx0 y0 wy0 t0 wt0 A0 z0 c0 hc0 hm0 hw0 hr0 n1_0 n1_1 n1_2 n1_8 n1_11 n1_12 n1_13 n1_14 n1_15 n1_16 n1_17 n1_18 K1 S1 Q1 O1 Z1 WA1 ws1 cW1 BA1 bs1 cB1 wz1 hcw1 hmw1 hww1 hrw1 hcb1 hmb1 hwb1 hrb1 (CJoin.join_cells (hval 1 32 _ rfl rfl))
theorem fnIs {H : Type} : ∀ ds : List (DataW H), ds.length = Try.f5.params.toList.length → Rows.actPutsSpec.fn H ds = { results := [.lit (.bool true)], args := ds } := by
  intro ds h
  rw [Try.params5] at h
  match ds, h with
  | [d1, d2], _ => rfl
set_option maxRecDepth 100000 in
theorem lifted (os : Os) (started : os.Started) (H : Type) (enc : TypeId × Value → H) :
    ReturnsInHanded {} Try.checked os 5 .any (Rows.actPutsSpec.pre6 enc Try.prog Try.f5 Rows.actPutsRow.domain false) (Rows.actPutsSpec.post enc Try.prog Try.f5 false true false false) := by
  refine returnsInHanded_of_change (C := Try.checked) own started (by kernel_rfl) Try.func5
    (ChangeSpec.witness6 (enc := enc) (C := Try.checked) false ⟨#[], #[.agg #[.int .i64 0, .int .i64 0, .int .i64 0, .slice none 0 0], .agg #[.int .i64 0, .int .i64 0, .int .i64 0, .int .i64 0, .int .i64 0, .int .i64 0, .int .i64 0, .int .i8 0, .int .i8 0, .slice none 0 0, .slice none 0 0, .int .i32 0, .int .i64 0, .int .i8 0, .int .i32 0, .int .i64 0, .int .i8 0, .int .i8 0, .int .i8 0]], []⟩ 8 (by kernel_rfl) (by kernel_rfl) (by kernel_rfl) (by kernel_rfl)) ?_
  intro W base args ds gs before hval hW _ _
  refine (contract hval hW).mono fun e W' ⟨he, hg⟩ => ?_
  subst he
  exact ⟨_, rfl, Kit.law_post (tb := 4) laid (by kernel_rfl) rfl (by kernel_rfl) Try.underlying4 fnIs hW hg⟩
theorem over : Rows.actPutsRow.holds Try.pinned (OpenSpec.ofChange Rows.actPutsSpec) :=
  OpenClaim.holds_of_wide 5 Try.f5 rfl rfl rfl rfl rfl rfl rfl ⟨rfl, rfl, rfl, rfl, rfl⟩ rfl rfl rfl rfl rfl (by kernel_rfl) Try.func5 (by kernel_rfl)
    (of_decide_eq_true (by kernel_rfl)) (by unfold Func.isWrapper; first | (rw [if_pos (by decide +kernel)]; kernel_rfl) | (rw [if_neg (by decide +kernel)]; exact ⟨rfl, rfl⟩))
    (fun os started H enc _ => lifted os started H enc)
/-- the statement. -/
theorem proved : Rows.ActPutsSaid :=
  over
end Go.Proofs.Ytpokeklphmfcnaa.lawActPuts
