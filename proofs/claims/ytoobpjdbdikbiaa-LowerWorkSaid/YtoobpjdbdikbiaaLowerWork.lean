/- LowerWork: how many products are added is what the document says, for whatever shape and node; the call returns true and leaves its arguments as they were. No condition. -/
import Derived.Test.YtoobpjdbdikbiaaLowerKnown
namespace Go.Proofs.Ytoobpjdbdikbiaa.lawLowerWork
open Go Go.ChangeShapes Go.WideShapes Go.ChangeAt Go.RowKit
open Plain CSat CShape CTensor CConv CLower
set_option linter.unusedVariables false

set_option maxRecDepth 100000 in
set_option maxHeartbeats 4000000 in
theorem walk_no {w : World} (H W C : Int) (x0 x1 x2 x8 x11 x12 x13 x14 x15 x16 x17 x18 : Value) (K S P O Z : Int) (WA BA : Option Addr) (nW cW nB cB : Nat) (hl : 16384 < nW ∨ nW ≤ 16384 ∧ 2000 < nB) :
    Calls Try.prog 5 #[.agg #[.int .i64 H, .int .i64 W, .int .i64 C], .agg #[x0, x1, x2, .int .i64 K, .int .i64 S, .int .i64 P, .int .i64 O, .int .i8 Z, x8, .slice WA nW cW, .slice BA nB cB, x11, x12, x13, x14, x15, x16, x17, x18]] w fun e w' => e = .returned (.bool true) ∧ Below w.heap.size w w' := by
  have TN0 : Hid (NodeAt (w.heap.size + 1) x0 x1 x2 x8 x11 x12 x13 x14 x15 x16 x17 x18 K S P O Z WA BA nW cW nB cB ((w.alloc (.cells #[.int .i64 H, .int .i64 W, .int .i64 C] 23)).alloc (.cells #[x0, x1, x2, .int .i64 K, .int .i64 S, .int .i64 P, .int .i64 O, .int .i8 Z, x8, .slice WA nW cW, .slice BA nB cB, x11, x12, x13, x14, x15, x16, x17, x18] 32))) := by
    have h := NodeAt.new x0 x1 x2 x8 x11 x12 x13 x14 x15 x16 x17 x18 K S P O Z WA BA nW cW nB cB 32 (w.alloc (.cells #[.int .i64 H, .int .i64 W, .int .i64 C] 23))
    rw [World.size_alloc] at h
    exact Lib.hid h
  go_enter Try.func5, Try.ntmps5
  have n9 := TN0.out.at 9 (.slice WA nW cW) rfl
  have n10 := TN0.out.at 10 (.slice BA nB cB) rfl
  rcases hl with h1 | ⟨h1, h2⟩
  · go_wp2_with (first
        | (go_at_call 11
           have hal : Below w.heap.size w ((w.alloc (.cells #[.int .i64 H, .int .i64 W, .int .i64 C] 23)).alloc (.cells #[x0, x1, x2, .int .i64 K, .int .i64 S, .int .i64 P, .int .i64 O, .int .i8 Z, x8, .slice WA nW cW, .slice BA nB cB, x11, x12, x13, x14, x15, x16, x17, x18] 32)) := ((Below.refl _ _).alloc (by first | exact Nat.le_refl _ | (simp; done) | (simp; omega)) _).alloc (by first | exact Nat.le_refl _ | (simp; done) | (simp; omega)) _
           refine (known13 _).mono ?_
           rintro e w1 ⟨rfl, hb⟩
           have hh : Below w.heap.size w w1 := hal.trans (hb.mono hal.size)
           have qTB := (shapeNew H W C 23) w
           try simp only [World.size_alloc] at qTB
           have TB := Lib.hid ((qTB.below (B' := w.heap.size + 1) (by omega) (((Below.refl _ _).alloc (by first | exact Nat.le_refl _ | (simp; done) | (simp; omega)) _).mono (by simp))).below (by first | (simp; done) | (simp; omega)) hb)
           have yTB : w.heap.size < w1.heap.size := by have := hb.size; simp at this; omega
           clear qTB
           have qTN := (NodeAt.new x0 x1 x2 x8 x11 x12 x13 x14 x15 x16 x17 x18 K S P O Z WA BA nW cW nB cB 32) (w.alloc (.cells #[.int .i64 H, .int .i64 W, .int .i64 C] 23))
           try simp only [World.size_alloc] at qTN
           have TN := Lib.hid (qTN.below (by first | (simp; done) | (simp; omega)) hb)
           have yTN : w.heap.size + 1 < w1.heap.size := by have := hb.size; simp at this; omega
           clear qTN
           have HBW : Hid (Below w.heap.size w w1) := Lib.hid hh
           obtain ⟨tbp0, tbp1, tbp2⟩ := TB.out
           clear hb hh hal)
        | (refine wpList_load_mid rfl 32 (.tmp 3) rfl (w.heap.size + 1) 0 rfl [x0, x1, x2, .int .i64 K, .int .i64 S, .int .i64 P, .int .i64 O, .int .i8 Z, x8, .slice WA nW cW, .slice BA nB cB, x11, x12, x13, x14, x15, x16, x17, x18] _ (TN0.out) Try.underlying32 rfl (by kernel_rfl) ?_)
        | (refine wpList_load_mid rfl 32 (.tmp 3) rfl (w.heap.size + 1) 0 rfl [x0, x1, x2, .int .i64 K, .int .i64 S, .int .i64 P, .int .i64 O, .int .i8 Z, x8, .slice WA nW cW, .slice BA nB cB, x11, x12, x13, x14, x15, x16, x17, x18] _ (TN.out) Try.underlying32 rfl (by kernel_rfl) ?_))
    go_ret
    exact ⟨rfl, HBW.out⟩
  · go_wp2_with (first
        | (go_at_call 11
           have hal : Below w.heap.size w ((w.alloc (.cells #[.int .i64 H, .int .i64 W, .int .i64 C] 23)).alloc (.cells #[x0, x1, x2, .int .i64 K, .int .i64 S, .int .i64 P, .int .i64 O, .int .i8 Z, x8, .slice WA nW cW, .slice BA nB cB, x11, x12, x13, x14, x15, x16, x17, x18] 32)) := ((Below.refl _ _).alloc (by first | exact Nat.le_refl _ | (simp; done) | (simp; omega)) _).alloc (by first | exact Nat.le_refl _ | (simp; done) | (simp; omega)) _
           refine (known13 _).mono ?_
           rintro e w1 ⟨rfl, hb⟩
           have hh : Below w.heap.size w w1 := hal.trans (hb.mono hal.size)
           have qTB := (shapeNew H W C 23) w
           try simp only [World.size_alloc] at qTB
           have TB := Lib.hid ((qTB.below (B' := w.heap.size + 1) (by omega) (((Below.refl _ _).alloc (by first | exact Nat.le_refl _ | (simp; done) | (simp; omega)) _).mono (by simp))).below (by first | (simp; done) | (simp; omega)) hb)
           have yTB : w.heap.size < w1.heap.size := by have := hb.size; simp at this; omega
           clear qTB
           have qTN := (NodeAt.new x0 x1 x2 x8 x11 x12 x13 x14 x15 x16 x17 x18 K S P O Z WA BA nW cW nB cB 32) (w.alloc (.cells #[.int .i64 H, .int .i64 W, .int .i64 C] 23))
           try simp only [World.size_alloc] at qTN
           have TN := Lib.hid (qTN.below (by first | (simp; done) | (simp; omega)) hb)
           have yTN : w.heap.size + 1 < w1.heap.size := by have := hb.size; simp at this; omega
           clear qTN
           have HBW : Hid (Below w.heap.size w w1) := Lib.hid hh
           obtain ⟨tbp0, tbp1, tbp2⟩ := TB.out
           clear hb hh hal)
        | (refine wpList_load_mid rfl 32 (.tmp 3) rfl (w.heap.size + 1) 0 rfl [x0, x1, x2, .int .i64 K, .int .i64 S, .int .i64 P, .int .i64 O, .int .i8 Z, x8, .slice WA nW cW, .slice BA nB cB, x11, x12, x13, x14, x15, x16, x17, x18] _ (TN0.out) Try.underlying32 rfl (by kernel_rfl) ?_)
        | (refine wpList_load_mid rfl 32 (.tmp 3) rfl (w.heap.size + 1) 0 rfl [x0, x1, x2, .int .i64 K, .int .i64 S, .int .i64 P, .int .i64 O, .int .i8 Z, x8, .slice WA nW cW, .slice BA nB cB, x11, x12, x13, x14, x15, x16, x17, x18] _ (TN.out) Try.underlying32 rfl (by kernel_rfl) ?_))
    go_ret
    exact ⟨rfl, HBW.out⟩

set_option maxRecDepth 100000 in
set_option maxHeartbeats 4000000 in
theorem walk_err {w : World} (H W C : Int) (x0 x1 x2 x8 x11 x12 x13 x14 x15 x16 x17 x18 : Value) (K S P O Z : Int) (WA BA : Option Addr) (nW cW nB cB : Nat) (h1 : nW ≤ 16384) (h2 : nB ≤ 2000) (er : Int) (he : convE H W C K S P O nW nB = er) (h0 : er ≠ 0) :
    Calls Try.prog 5 #[.agg #[.int .i64 H, .int .i64 W, .int .i64 C], .agg #[x0, x1, x2, .int .i64 K, .int .i64 S, .int .i64 P, .int .i64 O, .int .i8 Z, x8, .slice WA nW cW, .slice BA nB cB, x11, x12, x13, x14, x15, x16, x17, x18]] w fun e w' => e = .returned (.bool true) ∧ Below w.heap.size w w' := by
  have HE := Lib.hid he
  have HER := Lib.hid h0
  obtain ⟨s1, s2, s3, hv⟩ := convS_three H W C K S P O nW nB
  have HV := Lib.hid hv
  clear he hv
  have TN0 : Hid (NodeAt (w.heap.size + 1) x0 x1 x2 x8 x11 x12 x13 x14 x15 x16 x17 x18 K S P O Z WA BA nW cW nB cB ((w.alloc (.cells #[.int .i64 H, .int .i64 W, .int .i64 C] 23)).alloc (.cells #[x0, x1, x2, .int .i64 K, .int .i64 S, .int .i64 P, .int .i64 O, .int .i8 Z, x8, .slice WA nW cW, .slice BA nB cB, x11, x12, x13, x14, x15, x16, x17, x18] 32))) := by
    have h := NodeAt.new x0 x1 x2 x8 x11 x12 x13 x14 x15 x16 x17 x18 K S P O Z WA BA nW cW nB cB 32 (w.alloc (.cells #[.int .i64 H, .int .i64 W, .int .i64 C] 23))
    rw [World.size_alloc] at h
    exact Lib.hid h
  go_enter Try.func5, Try.ntmps5
  have n9 := TN0.out.at 9 (.slice WA nW cW) rfl
  have n10 := TN0.out.at 10 (.slice BA nB cB) rfl
  go_wp2_with (first
        | (go_at_call 14
           have hal : Below w.heap.size w ((w.alloc (.cells #[.int .i64 H, .int .i64 W, .int .i64 C] 23)).alloc (.cells #[x0, x1, x2, .int .i64 K, .int .i64 S, .int .i64 P, .int .i64 O, .int .i8 Z, x8, .slice WA nW cW, .slice BA nB cB, x11, x12, x13, x14, x15, x16, x17, x18] 32)) := ((Below.refl _ _).alloc (by first | exact Nat.le_refl _ | (simp; done) | (simp; omega)) _).alloc (by first | exact Nat.le_refl _ | (simp; done) | (simp; omega)) _
           refine (refConv_to H W C x0 x1 x2 x8 x11 x12 x13 x14 x15 x16 x17 x18 K S P O Z WA BA nW cW nB cB _ _ HE.out HV.out _).mono ?_
           rintro e w1 ⟨rfl, hb⟩
           have hh : Below w.heap.size w w1 := hal.trans (hb.mono hal.size)
           have qTB := (shapeNew H W C 23) w
           try simp only [World.size_alloc] at qTB
           have TB := Lib.hid ((qTB.below (B' := w.heap.size + 1) (by omega) (((Below.refl _ _).alloc (by first | exact Nat.le_refl _ | (simp; done) | (simp; omega)) _).mono (by simp))).below (by first | (simp; done) | (simp; omega)) hb)
           have yTB : w.heap.size < w1.heap.size := by have := hb.size; simp at this; omega
           clear qTB
           have qTN := (NodeAt.new x0 x1 x2 x8 x11 x12 x13 x14 x15 x16 x17 x18 K S P O Z WA BA nW cW nB cB 32) (w.alloc (.cells #[.int .i64 H, .int .i64 W, .int .i64 C] 23))
           try simp only [World.size_alloc] at qTN
           have TN := Lib.hid (qTN.below (by first | (simp; done) | (simp; omega)) hb)
           have yTN : w.heap.size + 1 < w1.heap.size := by have := hb.size; simp at this; omega
           clear qTN
           have HBW : Hid (Below w.heap.size w w1) := Lib.hid hh
           obtain ⟨tbp0, tbp1, tbp2⟩ := TB.out
           clear hb hh hal)
        | (go_at_call 16
           have hal : Below w1.heap.size w1 (w1.alloc (.cells #[.int .i64 s1, .int .i64 s2, .int .i64 s3] 23)) := (Below.refl _ _).alloc (by first | exact Nat.le_refl _ | (simp; done) | (simp; omega)) _
           refine (work_err H W C x0 x1 x2 x8 x11 x12 x13 x14 x15 x16 x17 x18 K S P O Z WA BA nW cW nB cB er HE.out HER.out _).mono ?_
           rintro e w2 ⟨rfl, hb⟩
           have hh : Below w1.heap.size w1 w2 := hal.trans (hb.mono hal.size)
           have qTZ := (shapeNew s1 s2 s3 23) w1
           try simp only [World.size_alloc] at qTZ
           have TZ := Lib.hid (qTZ.below (by first | (simp; done) | (simp; omega)) hb)
           have yTZ : w1.heap.size < w2.heap.size := by have := hb.size; simp at this; omega
           clear qTZ
           replace TB := Lib.hid (TB.out.below yTB hh)
           replace yTB := Nat.lt_of_lt_of_le yTB hh.size
           replace TN := Lib.hid (TN.out.below yTN hh)
           replace yTN := Nat.lt_of_lt_of_le yTN hh.size
           replace HBW := Lib.hid (HBW.out.trans (hh.mono HBW.out.size))
           clear tbp0 tbp1 tbp2
           obtain ⟨tbp0, tbp1, tbp2⟩ := TB.out
           obtain ⟨tzp0, tzp1, tzp2⟩ := TZ.out
           clear hb hh hal)
        | (go_at_call 11
           have hal : Below w2.heap.size w2 w2 := Below.refl _ _
           refine (known13 _).mono ?_
           rintro e w3 ⟨rfl, hb⟩
           have hh : Below w2.heap.size w2 w3 := hal.trans (hb.mono hal.size)
           replace TB := Lib.hid (TB.out.below yTB hh)
           replace yTB := Nat.lt_of_lt_of_le yTB hh.size
           replace TN := Lib.hid (TN.out.below yTN hh)
           replace yTN := Nat.lt_of_lt_of_le yTN hh.size
           replace TZ := Lib.hid (TZ.out.below yTZ hh)
           replace yTZ := Nat.lt_of_lt_of_le yTZ hh.size
           replace HBW := Lib.hid (HBW.out.trans (hh.mono HBW.out.size))
           clear tbp0 tbp1 tbp2 tzp0 tzp1 tzp2
           obtain ⟨tbp0, tbp1, tbp2⟩ := TB.out
           obtain ⟨tzp0, tzp1, tzp2⟩ := TZ.out
           clear hb hh hal)
        | (refine wpList_load_mid rfl 32 (.tmp 3) rfl (w.heap.size + 1) 0 rfl [x0, x1, x2, .int .i64 K, .int .i64 S, .int .i64 P, .int .i64 O, .int .i8 Z, x8, .slice WA nW cW, .slice BA nB cB, x11, x12, x13, x14, x15, x16, x17, x18] _ (TN0.out) Try.underlying32 rfl (by kernel_rfl) ?_)
        | (refine wpList_load_mid rfl 32 (.tmp 3) rfl (w.heap.size + 1) 0 rfl [x0, x1, x2, .int .i64 K, .int .i64 S, .int .i64 P, .int .i64 O, .int .i8 Z, x8, .slice WA nW cW, .slice BA nB cB, x11, x12, x13, x14, x15, x16, x17, x18] _ (TN.out) Try.underlying32 rfl (by kernel_rfl) ?_)
        | (refine wpList_load_mid rfl 32 (.tmp 3) rfl (w.heap.size + 1) 0 rfl [x0, x1, x2, .int .i64 K, .int .i64 S, .int .i64 P, .int .i64 O, .int .i8 Z, x8, .slice WA nW cW, .slice BA nB cB, x11, x12, x13, x14, x15, x16, x17, x18] _ (TN.out.below yTN ((Below.refl _ _).alloc (Nat.le_refl _) _)) Try.underlying32 rfl (by kernel_rfl) ?_))
  go_ret
  exact ⟨rfl, HBW.out⟩

set_option maxRecDepth 100000 in
set_option maxHeartbeats 4000000 in
theorem walk_ok {w : World} (H W C : Int) (x0 x1 x2 x8 x11 x12 x13 x14 x15 x16 x17 x18 : Value) (K S P O Z : Int) (WA BA : Option Addr) (nW cW nB cB : Nat) (l1 : nW ≤ 16384) (l2 : nB ≤ 2000) (he : convE H W C K S P O nW nB = 0) :
    Calls Try.prog 5 #[.agg #[.int .i64 H, .int .i64 W, .int .i64 C], .agg #[x0, x1, x2, .int .i64 K, .int .i64 S, .int .i64 P, .int .i64 O, .int .i8 Z, x8, .slice WA nW cW, .slice BA nB cB, x11, x12, x13, x14, x15, x16, x17, x18]] w fun e w' => e = .returned (.bool true) ∧ Below w.heap.size w w' := by
  obtain ⟨hs, hw, hw2, hb⟩ := convE_ok he
  obtain ⟨a1, a2, a3, a4, a5, a6⟩ := slide_ok hs
  obtain ⟨c1, c2, c3, c4, c5, c6, c7⟩ := shapeB_yes a1
  obtain ⟨-, -, k1, k2, -⟩ := argsB_yes a2
  obtain ⟨n, hn⟩ : ∃ n, elemsZ (stepsM H K S P) (stepsM W K S P) O = n := ⟨_, rfl⟩
  have nb := elemsZ_bd (stepsM H K S P) (stepsM W K S P) O
  rw [hn] at nb
  obtain ⟨n1, n2⟩ := nb
  obtain ⟨w1, w2, w3, w4, w5, w6⟩ := work_bd (C := C) n1 n2 (by omega) (by omega) k1 (by omega)
  obtain ⟨p1, hp1⟩ : ∃ p, n * K = p := ⟨_, rfl⟩
  rw [hp1] at w1 w2 w3 w4 w5 w6
  obtain ⟨p2, hp2⟩ : ∃ p, p1 * K = p := ⟨_, rfl⟩
  rw [hp2] at w3 w4 w5 w6
  obtain ⟨p3, hp3⟩ : ∃ p, p2 * C = p := ⟨_, rfl⟩
  rw [hp3] at w5 w6
  have e1 : IntKind.i64.wrap (n * K) = p1 := by rw [hp1]; exact IntWalk.i64_in _ (by omega)
  have e2 : IntKind.i64.wrap (p1 * K) = p2 := by rw [hp2]; exact IntWalk.i64_in _ (by omega)
  have e3 : IntKind.i64.wrap (p2 * C) = p3 := by rw [hp3]; exact IntWalk.i64_in _ (by omega)
  have hV3 : elemsZ (stepsM H K S P) (stepsM W K S P) O * K * K * C = p3 := by rw [hn, hp1, hp2, hp3]
  have HV3 := Lib.hid hV3
  obtain ⟨s1, hs1⟩ : ∃ s, stepsM H K S P = s := ⟨_, rfl⟩
  obtain ⟨s2, hs2⟩ : ∃ s, stepsM W K S P = s := ⟨_, rfl⟩
  obtain ⟨s3, hs3⟩ : ∃ s : Int, O = s := ⟨_, rfl⟩
  have hv : convS H W C K S P O nW nB = #[.int .i64 s1, .int .i64 s2, .int .i64 s3] := by unfold convS; rw [if_pos he, hs1, hs2, hs3]
  rw [hs1, hs2, hs3] at hn
  have HE := Lib.hid he
  have HV := Lib.hid hv
  have HN := Lib.hid hn
  clear he hv hn hs1 hs2 hs3 hp1 hp2 hp3 hs hw hw2 hb a1 a2 a3 a4 a5 a6 c1 c2 c3 c4 c5 c6 c7 hV3
  have TN0 : Hid (NodeAt (w.heap.size + 1) x0 x1 x2 x8 x11 x12 x13 x14 x15 x16 x17 x18 K S P O Z WA BA nW cW nB cB ((w.alloc (.cells #[.int .i64 H, .int .i64 W, .int .i64 C] 23)).alloc (.cells #[x0, x1, x2, .int .i64 K, .int .i64 S, .int .i64 P, .int .i64 O, .int .i8 Z, x8, .slice WA nW cW, .slice BA nB cB, x11, x12, x13, x14, x15, x16, x17, x18] 32))) := by
    have h := NodeAt.new x0 x1 x2 x8 x11 x12 x13 x14 x15 x16 x17 x18 K S P O Z WA BA nW cW nB cB 32 (w.alloc (.cells #[.int .i64 H, .int .i64 W, .int .i64 C] 23))
    rw [World.size_alloc] at h
    exact Lib.hid h
  go_enter Try.func5, Try.ntmps5
  have n9 := TN0.out.at 9 (.slice WA nW cW) rfl
  have n10 := TN0.out.at 10 (.slice BA nB cB) rfl
  go_wp2_with (first
        | (go_at_call 14
           have hal : Below w.heap.size w ((w.alloc (.cells #[.int .i64 H, .int .i64 W, .int .i64 C] 23)).alloc (.cells #[x0, x1, x2, .int .i64 K, .int .i64 S, .int .i64 P, .int .i64 O, .int .i8 Z, x8, .slice WA nW cW, .slice BA nB cB, x11, x12, x13, x14, x15, x16, x17, x18] 32)) := ((Below.refl _ _).alloc (by first | exact Nat.le_refl _ | (simp; done) | (simp; omega)) _).alloc (by first | exact Nat.le_refl _ | (simp; done) | (simp; omega)) _
           refine (refConv_to H W C x0 x1 x2 x8 x11 x12 x13 x14 x15 x16 x17 x18 K S P O Z WA BA nW cW nB cB _ _ HE.out HV.out _).mono ?_
           rintro e w1 ⟨rfl, hb⟩
           have hh : Below w.heap.size w w1 := hal.trans (hb.mono hal.size)
           have qTB := (shapeNew H W C 23) w
           try simp only [World.size_alloc] at qTB
           have TB := Lib.hid ((qTB.below (B' := w.heap.size + 1) (by omega) (((Below.refl _ _).alloc (by first | exact Nat.le_refl _ | (simp; done) | (simp; omega)) _).mono (by simp))).below (by first | (simp; done) | (simp; omega)) hb)
           have yTB : w.heap.size < w1.heap.size := by have := hb.size; simp at this; omega
           clear qTB
           have qTN := (NodeAt.new x0 x1 x2 x8 x11 x12 x13 x14 x15 x16 x17 x18 K S P O Z WA BA nW cW nB cB 32) (w.alloc (.cells #[.int .i64 H, .int .i64 W, .int .i64 C] 23))
           try simp only [World.size_alloc] at qTN
           have TN := Lib.hid (qTN.below (by first | (simp; done) | (simp; omega)) hb)
           have yTN : w.heap.size + 1 < w1.heap.size := by have := hb.size; simp at this; omega
           clear qTN
           have HBW : Hid (Below w.heap.size w w1) := Lib.hid hh
           obtain ⟨tbp0, tbp1, tbp2⟩ := TB.out
           clear hb hh hal)
        | (refine wpList_load_mid rfl 32 (.tmp 3) rfl (w.heap.size + 1) 0 rfl [x0, x1, x2, .int .i64 K, .int .i64 S, .int .i64 P, .int .i64 O, .int .i8 Z, x8, .slice WA nW cW, .slice BA nB cB, x11, x12, x13, x14, x15, x16, x17, x18] _ (TN0.out) Try.underlying32 rfl (by kernel_rfl) ?_)
        | (refine wpList_load_mid rfl 32 (.tmp 3) rfl (w.heap.size + 1) 0 rfl [x0, x1, x2, .int .i64 K, .int .i64 S, .int .i64 P, .int .i64 O, .int .i8 Z, x8, .slice WA nW cW, .slice BA nB cB, x11, x12, x13, x14, x15, x16, x17, x18] _ (TN.out) Try.underlying32 rfl (by kernel_rfl) ?_))
  have ySS : w1.heap.size < (w1.alloc (.cells #[.int .i64 s1, .int .i64 s2, .int .i64 s3] 23)).heap.size := by simp
  have HSS := Lib.hid (shapeNew s1 s2 s3 23 w1)
  have hal := (Below.refl w1.heap.size w1).alloc (Nat.le_refl _) (.cells #[.int .i64 s1, .int .i64 s2, .int .i64 s3] 23)
  replace TB := Lib.hid (TB.out.below yTB hal)
  replace TN := Lib.hid (TN.out.below yTN hal)
  replace HBW := Lib.hid (HBW.out.trans (hal.mono HBW.out.size))
  replace yTB := Nat.lt_of_lt_of_le yTB hal.size
  replace yTN := Nat.lt_of_lt_of_le yTN hal.size
  clear hal n9 n10
  refine wp_region_held_drew (S := fun W' => ShapeAt (w1.heap.size) s1 s2 s3 W' ∧ ShapeAt (w.heap.size) H W C W' ∧ NodeAt (w.heap.size + 1) x0 x1 x2 x8 x11 x12 x13 x14 x15 x16 x17 x18 K S P O Z WA BA nW cW nB cB W') (by kernel_rfl) ⟨HSS.out.below ySS (Below.refl _ _).drew, TB.out.below yTB (Below.refl _ _).drew, TN.out.below yTN (Below.refl _ _).drew⟩ (fun hHeld => ?_)
  refine wpAnyH_take (i := 0) (oi := ({ dst := some 27, op := Op.load 23 (Operand.tmp 5), type := 23, pos := "law.go:35", after := #[], guard := none } : Oper)) (v := ?_) rfl (by kernel_rfl) (by kernel_rfl) (by kernel_rfl) (fun _ _ _ h => h) (Or.inl ⟨by rfl, ?_⟩) (by assumption) ?_
  rotate_left
  · intro wS hSw
    obtain ⟨⟨q0, q1, q2⟩, -, -⟩ := hSw
    first
      | (go_simp; done)
      | (go_simp; with_reducible rfl)
  try simp only [Act.put, List.setIfInBounds_toArray, List.set_cons_zero, List.set_cons_succ]
  refine wpAnyH_take (i := 2) (oi := ({ dst := some 29, op := Op.fieldAddr 32 (Operand.tmp 3) 3, type := 0, pos := "law.go:35", after := #[], guard := none } : Oper)) (v := ?_) rfl (by kernel_rfl) (by kernel_rfl) (by kernel_rfl) (fun _ _ _ h => h) (Or.inl ⟨by rfl, ?_⟩) (by assumption) ?_
  rotate_left
  · intro wS hSw
    first
      | (go_simp; done)
      | (go_simp; with_reducible rfl)
  try simp only [Act.put, List.setIfInBounds_toArray, List.set_cons_zero, List.set_cons_succ]
  refine wpAnyH_take (i := 3) (oi := ({ dst := some 30, op := Op.load 3 (Operand.tmp 29), type := 3, pos := "law.go:35", after := #[{ on := 2, ground := Ground.data }], guard := none } : Oper)) (v := ?_) rfl (by kernel_rfl) (by kernel_rfl) (by kernel_rfl) (fun _ _ _ h => h) (Or.inl ⟨by rfl, ?_⟩) (by assumption) ?_
  rotate_left
  · intro wS hSw
    have q0 := hSw.2.2.at 3 (.int .i64 K) rfl
    first
      | (go_simp; done)
      | (go_simp; with_reducible rfl)
  try simp only [Act.put, List.setIfInBounds_toArray, List.set_cons_zero, List.set_cons_succ]
  refine wpAnyH_take (i := 5) (oi := ({ dst := some 32, op := Op.fieldAddr 32 (Operand.tmp 3) 3, type := 0, pos := "law.go:35", after := #[], guard := none } : Oper)) (v := ?_) rfl (by kernel_rfl) (by kernel_rfl) (by kernel_rfl) (fun _ _ _ h => h) (Or.inl ⟨by rfl, ?_⟩) (by assumption) ?_
  rotate_left
  · intro wS hSw
    first
      | (go_simp; done)
      | (go_simp; with_reducible rfl)
  try simp only [Act.put, List.setIfInBounds_toArray, List.set_cons_zero, List.set_cons_succ]
  refine wpAnyH_take (i := 6) (oi := ({ dst := some 33, op := Op.load 3 (Operand.tmp 32), type := 3, pos := "law.go:35", after := #[{ on := 5, ground := Ground.data }], guard := none } : Oper)) (v := ?_) rfl (by kernel_rfl) (by kernel_rfl) (by kernel_rfl) (fun _ _ _ h => h) (Or.inl ⟨by rfl, ?_⟩) (by assumption) ?_
  rotate_left
  · intro wS hSw
    have q0 := hSw.2.2.at 3 (.int .i64 K) rfl
    first
      | (go_simp; done)
      | (go_simp; with_reducible rfl)
  try simp only [Act.put, List.setIfInBounds_toArray, List.set_cons_zero, List.set_cons_succ]
  refine wpAnyH_take (i := 8) (oi := ({ dst := some 35, op := Op.fieldAddr 23 (Operand.tmp 2) 2, type := 0, pos := "law.go:35", after := #[], guard := none } : Oper)) (v := ?_) rfl (by kernel_rfl) (by kernel_rfl) (by kernel_rfl) (fun _ _ _ h => h) (Or.inl ⟨by rfl, ?_⟩) (by assumption) ?_
  rotate_left
  · intro wS hSw
    first
      | (go_simp; done)
      | (go_simp; with_reducible rfl)
  try simp only [Act.put, List.setIfInBounds_toArray, List.set_cons_zero, List.set_cons_succ]
  refine wpAnyH_take (i := 9) (oi := ({ dst := some 36, op := Op.load 3 (Operand.tmp 35), type := 3, pos := "law.go:35", after := #[{ on := 8, ground := Ground.data }], guard := none } : Oper)) (v := ?_) rfl (by kernel_rfl) (by kernel_rfl) (by kernel_rfl) (fun _ _ _ h => h) (Or.inl ⟨by rfl, ?_⟩) (by assumption) ?_
  rotate_left
  · intro wS hSw
    obtain ⟨-, ⟨q0, q1, q2⟩, -⟩ := hSw
    first
      | (go_simp; done)
      | (go_simp; with_reducible rfl)
  try simp only [Act.put, List.setIfInBounds_toArray, List.set_cons_zero, List.set_cons_succ]
  refine wpAnyH_ready (rs := [1]) (by kernel_rfl) (by simp) ?_
  refine AllReadyH.cons (o := ({ dst := some 28, op := Op.call { callee := Callee.value (Operand.func 15), args := #[Operand.tmp 27], argTypes := #[23] }, type := 3, pos := "law.go:35", after := #[{ on := 0, ground := Ground.data }], guard := none } : Oper)) rfl (fun K hK => ?_) (AllReadyH.nil)
  go_simp
  go_at_call 15
  refine (refElems_to s1 s2 s3 n HN.out _).mono ?_
  rintro e w3 ⟨rfl, hb⟩
  replace hb := (Below.refl _ _).drew.trans hb
  have HSS2 := Lib.hid (HSS.out.below ySS hb)
  have TB2 := Lib.hid (TB.out.below yTB hb)
  have TN2 := Lib.hid (TN.out.below yTN hb)
  have HBW2 := Lib.hid (HBW.out.trans (hb.mono HBW.out.size))
  clear hHeld
  dsimp only
  refine hK.out _ _ ?_ (fun hHeld => ?_)
  · exact ⟨HSS2.out, TB2.out, TN2.out⟩
  clear hK K
  try simp only [Act.put, List.setIfInBounds_toArray, List.set_cons_zero, List.set_cons_succ]
  refine wpAnyH_take (i := 4) (oi := ({ dst := some 31, op := Op.binOp BinOp.mul 3 (Operand.tmp 28) (Operand.tmp 30) 3, type := 3, pos := "law.go:35", after := #[{ on := 1, ground := Ground.data }, { on := 3, ground := Ground.data }], guard := none } : Oper)) (v := ?_) rfl (by kernel_rfl) (by kernel_rfl) (by kernel_rfl) (fun _ _ _ h => h) (Or.inl ⟨by rfl, ?_⟩) (by assumption) ?_
  rotate_left
  · intro wS hSw
    first
      | (go_simp; done)
      | (go_simp; with_reducible rfl)
  try simp only [Act.put, List.setIfInBounds_toArray, List.set_cons_zero, List.set_cons_succ]
  refine wpAnyH_take (i := 7) (oi := ({ dst := some 34, op := Op.binOp BinOp.mul 3 (Operand.tmp 31) (Operand.tmp 33) 3, type := 3, pos := "law.go:35", after := #[{ on := 4, ground := Ground.data }, { on := 6, ground := Ground.data }], guard := none } : Oper)) (v := ?_) rfl (by kernel_rfl) (by kernel_rfl) (by kernel_rfl) (fun _ _ _ h => h) (Or.inl ⟨by rfl, ?_⟩) (by assumption) ?_
  rotate_left
  · intro wS hSw
    first
      | (go_simp; done)
      | (go_simp; with_reducible rfl)
  try simp only [Act.put, List.setIfInBounds_toArray, List.set_cons_zero, List.set_cons_succ]
  refine wpAnyH_take (i := 10) (oi := ({ dst := some 37, op := Op.binOp BinOp.mul 3 (Operand.tmp 34) (Operand.tmp 36) 3, type := 3, pos := "law.go:35", after := #[{ on := 7, ground := Ground.data }, { on := 9, ground := Ground.data }], guard := none } : Oper)) (v := ?_) rfl (by kernel_rfl) (by kernel_rfl) (by kernel_rfl) (fun _ _ _ h => h) (Or.inl ⟨by rfl, ?_⟩) (by assumption) ?_
  rotate_left
  · intro wS hSw
    first
      | (go_simp; done)
      | (go_simp; with_reducible rfl)
  try simp only [Act.put, List.setIfInBounds_toArray, List.set_cons_zero, List.set_cons_succ]
  refine wpAnyH_take (i := 11) (oi := ({ dst := some 7, op := Op.assign (Operand.tmp 37), type := 3, pos := "law.go:35", after := #[{ on := 10, ground := Ground.data }, { on := 1, ground := Ground.chain }, { on := 0, ground := Ground.phase }, { on := 1, ground := Ground.phase }, { on := 2, ground := Ground.phase }, { on := 3, ground := Ground.phase }, { on := 4, ground := Ground.phase }, { on := 5, ground := Ground.phase }, { on := 6, ground := Ground.phase }, { on := 7, ground := Ground.phase }, { on := 8, ground := Ground.phase }, { on := 9, ground := Ground.phase }, { on := 10, ground := Ground.phase }], guard := none } : Oper)) (v := ?_) rfl (by kernel_rfl) (by kernel_rfl) (by kernel_rfl) (fun _ _ _ h => h) (Or.inl ⟨by rfl, ?_⟩) (by assumption) ?_
  rotate_left
  · intro wS hSw
    first
      | (go_simp; done)
      | (go_simp; with_reducible rfl)
  try simp only [Act.put, List.setIfInBounds_toArray, List.set_cons_zero, List.set_cons_succ]
  refine wpAnyH_done (by kernel_rfl) ?_ _
  clear TB TN HSS HBW hb
  obtain ⟨tbp0, tbp1, tbp2⟩ := TB2.out
  go_wp2_with (first
    | (go_at_call 16; ((with_reducible refine (work_ok H W C x0 x1 x2 x8 x11 x12 x13 x14 x15 x16 x17 x18 K S P O Z WA BA nW cW nB cB HE.out p3 HV3.out _).mono ?_); rintro e w4 ⟨rfl, hb4⟩; have HB4 := Lib.hid (HBW2.out.trans (hb4.mono HBW2.out.size)); clear hb4 tbp0 tbp1 tbp2))
    | (go_at_call 11; ((with_reducible refine (known13 _).mono ?_); rintro e w5 ⟨rfl, hb5⟩; have HB5 := Lib.hid (HB4.out.trans (hb5.mono HB4.out.size)); clear hb5))
    | (refine wpList_load_mid rfl 32 (.tmp 3) rfl (w.heap.size + 1) 0 rfl [x0, x1, x2, .int .i64 K, .int .i64 S, .int .i64 P, .int .i64 O, .int .i8 Z, x8, .slice WA nW cW, .slice BA nB cB, x11, x12, x13, x14, x15, x16, x17, x18] _ (TN2.out) Try.underlying32 rfl (by kernel_rfl) ?_))
  go_ret
  exact ⟨rfl, HB5.out⟩

theorem walk {w : World} (H : Int) (wH : (Lit.int .i64 H).wf = true) (W : Int) (wW : (Lit.int .i64 W).wf = true) (C : Int) (wC : (Lit.int .i64 C).wf = true)
    (x0 x1 x2 x8 x11 x12 x13 x14 x15 x16 x17 x18 : Value) (K S P O Z : Int) (WA : Option Addr) (ws : List Int) (cW : Nat) (BA : Option Addr) (bs : List Int) (cB : Nat) (wz : (Lit.int .i8 Z).wf = true) (hcw : ws.length ≤ cW) (hmw : cW ≤ maxLen) (hww : ∀ n ∈ ws, (Lit.int .i8 n).wf = true) (hrw : Kit.Rd w w.heap.size WA (ws.map (.int .i8)))
    (hcb : bs.length ≤ cB) (hmb : cB ≤ maxLen) (hwb : ∀ n ∈ bs, (Lit.int .i32 n).wf = true) (hrb : Kit.Rd w w.heap.size BA (bs.map (.int .i32))) :
    Calls Try.prog 5 #[.agg #[.int .i64 H, .int .i64 W, .int .i64 C], .agg #[x0, x1, x2, .int .i64 K, .int .i64 S, .int .i64 P, .int .i64 O, .int .i8 Z, x8, .slice WA ws.length cW, .slice BA bs.length cB, x11, x12, x13, x14, x15, x16, x17, x18]] w fun e w' => e = .returned (.bool true) ∧ Below w.heap.size w w' := by
  by_cases h1 : ws.length ≤ 16384
  · by_cases h2 : bs.length ≤ 2000
    · by_cases he : convE H W C K S P O ws.length bs.length = 0
      · exact walk_ok H W C x0 x1 x2 x8 x11 x12 x13 x14 x15 x16 x17 x18 K S P O Z WA BA ws.length cW bs.length cB h1 h2 he
      · exact walk_err H W C x0 x1 x2 x8 x11 x12 x13 x14 x15 x16 x17 x18 K S P O Z WA BA ws.length cW bs.length cB h1 h2 _ rfl he
    · exact walk_no H W C x0 x1 x2 x8 x11 x12 x13 x14 x15 x16 x17 x18 K S P O Z WA BA ws.length cW bs.length cB (.inr ⟨h1, by omega⟩)
  · exact walk_no H W C x0 x1 x2 x8 x11 x12 x13 x14 x15 x16 x17 x18 K S P O Z WA BA ws.length cW bs.length cB (.inl (by omega))
/-! ### the frame: written by program -/
theorem own : ownKnob Try.prog.godebug = none := by kernel_rfl
theorem laid : laidOutB Try.prog = true := by kernel_rfl
theorem contract {H : Type} {enc : TypeId × Value → H} {W : World} {base : Nat} {args : Array Value} {ds gs : List (DataW H)} {before : List MemPlace}
    (hval0 : ∀ (j : Nat) t v, Try.f5.params[j]? = some t → args[j]? = some v → Value.okWide Try.prog W .any base t v)
    (hW : DataW.Whole enc Try.prog Try.f5.params.toList Rows.lowerWorkSpec.vars false W args.toList ds gs before) :
    Calls Try.prog 5 args W fun e W' => e = .returned (.bool true) ∧ Below W.heap.size W W' := by
  have hval : ∀ (j : Nat) t v, Try.f5.params[j]? = some t → args[j]? = some v → Value.okWide Try.prog W .any base t v := hval0
  obtain ⟨p, q, hA0, hV, rfl, hfz, hnd⟩ := hW
  have hA : DataW.TrodAll enc Try.prog W 0 (fun _ => true) true Try.f5.params.toList args.toList ds p := hA0
  rw [Try.params5] at hA hval
  obtain ⟨v0, vs0, d0, ds0, p0, q0, hargs, rfl, rfl, h0, r0⟩ := trodAll_cons hA
  obtain ⟨v1, vs1, d1, ds1, p1, q1, rfl, rfl, rfl, h1, r1⟩ := trodAll_cons r0
  obtain ⟨rfl, rfl, rfl⟩ := trodAll_nil r1
  obtain rfl : args = #[v0, v1] := by cases args; simp_all
  clear hA0 hval0
  obtain ⟨cs0, rfl, hs0, hf0⟩ := Kit.open_flat Try.underlying23 (by kernel_rfl) (by kernel_rfl) (hval 0 23 v0 rfl rfl) h0
  obtain ⟨u0_0, u0_1, u0_2, rfl⟩ := Kit.size_3 hs0
  obtain ⟨a0_0, rfl, w0_0⟩ := Kit.flat_int Try.underlying3 (v := u0_0) rfl (hf0 0 _ rfl)
  obtain ⟨a0_1, rfl, w0_1⟩ := Kit.flat_int Try.underlying3 (v := u0_1) rfl (hf0 1 _ rfl)
  obtain ⟨a0_2, rfl, w0_2⟩ := Kit.flat_int Try.underlying3 (v := u0_2) rfl (hf0 2 _ rfl)
  obtain ⟨n1_0, n1_1, n1_2, n1_8, n1_11, n1_12, n1_13, n1_14, n1_15, n1_16, n1_17, n1_18, K1, S1, Q1, O1, Z1, WA1, ws1, cW1, BA1, bs1, cB1, rfl, wz1, hcw1, hmw1, hww1, hrw1, hcb1, hmb1, hwb1, hrb1⟩ := Kit.open_node (i := 3) (b8 := 27) (d := 24) (e := 27) (d2 := 28) (e2 := 21) Try.underlying32 (by kernel_rfl) Try.underlying3 (by kernel_rfl) Try.underlying27 (by kernel_rfl) Try.underlying24 Try.underlying27 (by kernel_rfl) (by kernel_rfl) Try.underlying28 Try.underlying21 (by kernel_rfl) (by kernel_rfl) rfl rfl rfl rfl rfl rfl rfl ⟨rfl, rfl⟩ ⟨rfl, rfl⟩ ⟨rfl, rfl⟩ ⟨rfl, rfl⟩ ⟨rfl, rfl⟩ ⟨rfl, rfl⟩ ⟨rfl, rfl⟩ (hval 1 32 v1 rfl rfl) h1
  exact walk (w := W) a0_0 w0_0 a0_1 w0_1 a0_2 w0_2 n1_0 n1_1 n1_2 n1_8 n1_11 n1_12 n1_13 n1_14 n1_15 n1_16 n1_17 n1_18 K1 S1 Q1 O1 Z1 WA1 ws1 cW1 BA1 bs1 cB1 wz1 hcw1 hmw1 hww1 hrw1 hcb1 hmb1 hwb1 hrb1
theorem fnIs {H : Type} : ∀ ds : List (DataW H), ds.length = Try.f5.params.toList.length → Rows.lowerWorkSpec.fn H ds = { results := [.lit (.bool true)], args := ds } := by
  intro ds h
  rw [Try.params5] at h
  match ds, h with
  | [d1, d2], _ => rfl
set_option maxRecDepth 100000 in
theorem lifted (os : Os) (started : os.Started) (H : Type) (enc : TypeId × Value → H) :
    ReturnsInHanded {} Try.checked os 5 .any (Rows.lowerWorkSpec.pre6 enc Try.prog Try.f5 Rows.lowerWorkRow.domain false) (Rows.lowerWorkSpec.post enc Try.prog Try.f5 false true false false) := by
  refine returnsInHanded_of_change (C := Try.checked) own started (by kernel_rfl) Try.func5
    (ChangeSpec.witness6 (enc := enc) (C := Try.checked) false ⟨#[], #[.agg #[.int .i64 0, .int .i64 0, .int .i64 0], .agg #[.int .i64 0, .int .i64 0, .int .i64 0, .int .i64 0, .int .i64 0, .int .i64 0, .int .i64 0, .int .i8 0, .int .i8 0, .slice none 0 0, .slice none 0 0, .int .i32 0, .int .i64 0, .int .i8 0, .int .i32 0, .int .i64 0, .int .i8 0, .int .i8 0, .int .i8 0]], []⟩ 8 (by kernel_rfl) (by kernel_rfl) (by kernel_rfl) (by kernel_rfl)) ?_
  intro W base args ds gs before hval hW _ _
  refine (contract hval hW).mono fun e W' ⟨he, hg⟩ => ?_
  subst he
  exact ⟨_, rfl, Kit.law_post (tb := 4) laid (by kernel_rfl) rfl (by kernel_rfl) Try.underlying4 fnIs hW hg⟩
theorem over : Rows.lowerWorkRow.holds Try.pinned (OpenSpec.ofChange Rows.lowerWorkSpec) :=
  OpenClaim.holds_of_wide 5 Try.f5 rfl rfl rfl rfl rfl rfl rfl ⟨rfl, rfl, rfl, rfl, rfl⟩ rfl rfl rfl rfl rfl (by kernel_rfl) Try.func5 (by kernel_rfl)
    (of_decide_eq_true (by kernel_rfl)) (by unfold Func.isWrapper; first | (rw [if_pos (by decide +kernel)]; kernel_rfl) | (rw [if_neg (by decide +kernel)]; exact ⟨rfl, rfl⟩))
    (fun os started H enc _ => lifted os started H enc)
/-- the statement. -/
theorem proved : Rows.LowerWorkSaid :=
  over
end Go.Proofs.Ytoobpjdbdikbiaa.lawLowerWork
