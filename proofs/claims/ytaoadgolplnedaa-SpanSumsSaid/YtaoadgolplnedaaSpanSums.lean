/- SpanSums: no sum leaves 32 bits where the ranges of a window do not, and the sums that it makes of any tensor are those over whole numbers, each within its range; the call returns true and leaves its arguments as they were. No condition. -/
import Derived.Test.YtaoadgolplnedaaSpanSumBoth
import Derived.Test.YtaoadgolplnedaaRows
import Derived.ProofKit
import Derived.OpenShut
import Derived.Outline
import Derived.Deep.CutRange
import Derived.Test.YtaoadgolplnedaaOpenNode
import Derived.Test.YtaoadgolplnedaaOpenTensor
namespace Go.Proofs.Ytaoadgolplnedaa.lawSpanSums
open Go Go.ChangeShapes Go.WideShapes Go.ChangeAt Go.RowKit Go.Deep
open Plain CSat CFix CShape CTensor CConv CSpan CJoin
set_option linter.unusedVariables false

set_option maxRecDepth 100000 in
set_option maxHeartbeats 4000000 in
theorem walk_no {w : World} (H W C : Int) (A : Option Addr) (n c : Nat) (x0 x1 x2 : Value) (K S P O Z Y : Int) (WA BA : Option Addr) (nW cW nB cB : Nat) (m1 s1 z1 m2 s2 z2 nlo nhi : Int) (hfew : ¬ (n ≤ 1024 ∧ nW ≤ 2000 ∧ nB ≤ 200)) :
    Calls Try.prog 6 #[.agg #[.int .i64 H, .int .i64 W, .int .i64 C, .slice A n c], .agg #[x0, x1, x2, .int .i64 K, .int .i64 S, .int .i64 P, .int .i64 O, .int .i8 Z, .int .i8 Y, .slice WA nW cW, .slice BA nB cB, .int .i32 m1, .int .i64 s1, .int .i8 z1, .int .i32 m2, .int .i64 s2, .int .i8 z2, .int .i8 nlo, .int .i8 nhi]] w fun e w' => e = .returned (.bool true) ∧ Below w.heap.size w w' := by
  have TN0 : Hid (NodeAt (w.heap.size + 1) x0 x1 x2 (.int .i8 Y) (.int .i32 m1) (.int .i64 s1) (.int .i8 z1) (.int .i32 m2) (.int .i64 s2) (.int .i8 z2) (.int .i8 nlo) (.int .i8 nhi) K S P O Z WA BA nW cW nB cB ((w.alloc (.cells #[.int .i64 H, .int .i64 W, .int .i64 C, .slice A n c] 51)).alloc (.cells #[x0, x1, x2, .int .i64 K, .int .i64 S, .int .i64 P, .int .i64 O, .int .i8 Z, .int .i8 Y, .slice WA nW cW, .slice BA nB cB, .int .i32 m1, .int .i64 s1, .int .i8 z1, .int .i32 m2, .int .i64 s2, .int .i8 z2, .int .i8 nlo, .int .i8 nhi] 28))) := by
    have h := (NodeAt.new x0 x1 x2 (.int .i8 Y) (.int .i32 m1) (.int .i64 s1) (.int .i8 z1) (.int .i32 m2) (.int .i64 s2) (.int .i8 z2) (.int .i8 nlo) (.int .i8 nhi) K S P O Z WA BA nW cW nB cB 28) (w.alloc (.cells #[.int .i64 H, .int .i64 W, .int .i64 C, .slice A n c] 51))
    rw [World.size_alloc] at h
    exact Lib.hid h
  go_enter Try.func6, Try.ntmps6
  go_wp2_with (first
        | (go_at_call 15
           have hal : Below w.heap.size w ((w.alloc (.cells #[.int .i64 H, .int .i64 W, .int .i64 C, .slice A n c] 51)).alloc (.cells #[x0, x1, x2, .int .i64 K, .int .i64 S, .int .i64 P, .int .i64 O, .int .i8 Z, .int .i8 Y, .slice WA nW cW, .slice BA nB cB, .int .i32 m1, .int .i64 s1, .int .i8 z1, .int .i32 m2, .int .i64 s2, .int .i8 z2, .int .i8 nlo, .int .i8 nhi] 28)) := ((Below.refl _ _).alloc (by first | exact Nat.le_refl _ | (simp; done) | (simp; omega)) _).alloc (by first | exact Nat.le_refl _ | (simp; done) | (simp; omega)) _
           refine (few_no H W C A n c x0 x1 x2 (.int .i8 Y) (.int .i32 m1) (.int .i64 s1) (.int .i8 z1) (.int .i32 m2) (.int .i64 s2) (.int .i8 z2) (.int .i8 nlo) (.int .i8 nhi) K S P O Z WA BA nW cW nB cB hfew _).mono ?_
           rintro e w1 ⟨rfl, hb⟩
           have hh : Below w.heap.size w w1 := hal.trans (hb.mono hal.size)
           have qTB := (boxNew H W C A n c 51) w
           try simp only [World.size_alloc] at qTB
           have TB := Lib.hid ((qTB.below (B' := w.heap.size + 1) (by omega) (((Below.refl _ _).alloc (by first | exact Nat.le_refl _ | (simp; done) | (simp; omega)) _).mono (by simp))).below (by first | (simp; done) | (simp; omega)) hb)
           have yTB : w.heap.size < w1.heap.size := by have := hb.size; simp at this; omega
           clear qTB
           have qTN := (NodeAt.new x0 x1 x2 (.int .i8 Y) (.int .i32 m1) (.int .i64 s1) (.int .i8 z1) (.int .i32 m2) (.int .i64 s2) (.int .i8 z2) (.int .i8 nlo) (.int .i8 nhi) K S P O Z WA BA nW cW nB cB 28) (w.alloc (.cells #[.int .i64 H, .int .i64 W, .int .i64 C, .slice A n c] 51))
           try simp only [World.size_alloc] at qTN
           have TN := Lib.hid (qTN.below (by first | (simp; done) | (simp; omega)) hb)
           have yTN : w.heap.size + 1 < w1.heap.size := by have := hb.size; simp at this; omega
           clear qTN
           have HBW : Hid (Below w.heap.size w w1) := Lib.hid hh
           obtain ⟨tbp0, tbp1, tbp2, tbp3⟩ := TB.out
           clear hb hh hal)
        | (go_at_call 7
           have hal : Below w1.heap.size w1 w1 := Below.refl _ _
           refine (known24 _).mono ?_
           rintro e w2 ⟨rfl, hb⟩
           have hh : Below w1.heap.size w1 w2 := hal.trans (hb.mono hal.size)
           replace TB := Lib.hid (TB.out.below yTB hh)
           replace yTB := Nat.lt_of_lt_of_le yTB hh.size
           replace TN := Lib.hid (TN.out.below yTN hh)
           replace yTN := Nat.lt_of_lt_of_le yTN hh.size
           replace HBW := Lib.hid (HBW.out.trans (hh.mono HBW.out.size))
           clear tbp0 tbp1 tbp2 tbp3
           obtain ⟨tbp0, tbp1, tbp2, tbp3⟩ := TB.out
           clear hb hh hal)
        | (refine wpList_load_mid rfl 28 (.tmp 3) rfl (w.heap.size + 1) 0 rfl [x0, x1, x2, .int .i64 K, .int .i64 S, .int .i64 P, .int .i64 O, .int .i8 Z, .int .i8 Y, .slice WA nW cW, .slice BA nB cB, .int .i32 m1, .int .i64 s1, .int .i8 z1, .int .i32 m2, .int .i64 s2, .int .i8 z2, .int .i8 nlo, .int .i8 nhi] _ (TN0.out) Try.underlying28 rfl (by kernel_rfl) ?_))
  go_ret
  exact ⟨rfl, HBW.out⟩
set_option maxRecDepth 100000 in
set_option maxHeartbeats 8000000 in
theorem walk_err {w : World} (H W C : Int) (A : Option Addr) (zs : List Int) (n c : Nat) (x0 x1 x2 : Value) (K S P O Z Y : Int) (WA BA : Option Addr) (nW cW nB cB : Nat) (m1 s1 z1 m2 s2 z2 nlo nhi : Int) (ws bs : List Int) (hf1 : n ≤ 1024) (hf2 : nW ≤ 2000) (hf3 : nB ≤ 200) (hr : Kit.Rd w w.heap.size A (I8s zs)) (hrw : Kit.Rd w w.heap.size WA (I8s ws)) (hrb : Kit.Rd w w.heap.size BA (I32v bs))
    (er : Int) (her : er ≠ 0) (hof : ∀ wd : World, Calls Try.prog 16 #[.agg #[.int .i64 H, .int .i64 W, .int .i64 C, .slice A n c], .agg #[x0, x1, x2, .int .i64 K, .int .i64 S, .int .i64 P, .int .i64 O, .int .i8 Z, .int .i8 Y, .slice WA nW cW, .slice BA nB cB, .int .i32 m1, .int .i64 s1, .int .i8 z1, .int .i32 m2, .int .i64 s2, .int .i8 z2, .int .i8 nlo, .int .i8 nhi]] wd (MadeA wd 0 0 0 0 [] (.int .i64 er))) :
    Calls Try.prog 6 #[.agg #[.int .i64 H, .int .i64 W, .int .i64 C, .slice A n c], .agg #[x0, x1, x2, .int .i64 K, .int .i64 S, .int .i64 P, .int .i64 O, .int .i8 Z, .int .i8 Y, .slice WA nW cW, .slice BA nB cB, .int .i32 m1, .int .i64 s1, .int .i8 z1, .int .i32 m2, .int .i64 s2, .int .i8 z2, .int .i8 nlo, .int .i8 nhi]] w fun e w' => e = .returned (.bool true) ∧ Below w.heap.size w w' := by
  have TN0 : Hid (NodeAt (w.heap.size + 1) x0 x1 x2 (.int .i8 Y) (.int .i32 m1) (.int .i64 s1) (.int .i8 z1) (.int .i32 m2) (.int .i64 s2) (.int .i8 z2) (.int .i8 nlo) (.int .i8 nhi) K S P O Z WA BA nW cW nB cB ((w.alloc (.cells #[.int .i64 H, .int .i64 W, .int .i64 C, .slice A n c] 51)).alloc (.cells #[x0, x1, x2, .int .i64 K, .int .i64 S, .int .i64 P, .int .i64 O, .int .i8 Z, .int .i8 Y, .slice WA nW cW, .slice BA nB cB, .int .i32 m1, .int .i64 s1, .int .i8 z1, .int .i32 m2, .int .i64 s2, .int .i8 z2, .int .i8 nlo, .int .i8 nhi] 28))) := by
    have h := (NodeAt.new x0 x1 x2 (.int .i8 Y) (.int .i32 m1) (.int .i64 s1) (.int .i8 z1) (.int .i32 m2) (.int .i64 s2) (.int .i8 z2) (.int .i8 nlo) (.int .i8 nhi) K S P O Z WA BA nW cW nB cB 28) (w.alloc (.cells #[.int .i64 H, .int .i64 W, .int .i64 C, .slice A n c] 51))
    rw [World.size_alloc] at h
    exact Lib.hid h
  have HOF := Lib.hid hof
  have HR := Lib.hid hr
  have HRW := Lib.hid hrw
  have HRB := Lib.hid hrb
  have her1 : (er != 0) = true := by simpa using her
  have her2 : (er == 0) = false := by simpa using her
  clear hof hr hrw hrb
  go_enter Try.func6, Try.ntmps6
  go_wp2_with (first
        | (go_at_call 15
           have hal : Below w.heap.size w ((w.alloc (.cells #[.int .i64 H, .int .i64 W, .int .i64 C, .slice A n c] 51)).alloc (.cells #[x0, x1, x2, .int .i64 K, .int .i64 S, .int .i64 P, .int .i64 O, .int .i8 Z, .int .i8 Y, .slice WA nW cW, .slice BA nB cB, .int .i32 m1, .int .i64 s1, .int .i8 z1, .int .i32 m2, .int .i64 s2, .int .i8 z2, .int .i8 nlo, .int .i8 nhi] 28)) := ((Below.refl _ _).alloc (by first | exact Nat.le_refl _ | (simp; done) | (simp; omega)) _).alloc (by first | exact Nat.le_refl _ | (simp; done) | (simp; omega)) _
           refine (few_yes H W C A n c x0 x1 x2 (.int .i8 Y) (.int .i32 m1) (.int .i64 s1) (.int .i8 z1) (.int .i32 m2) (.int .i64 s2) (.int .i8 z2) (.int .i8 nlo) (.int .i8 nhi) K S P O Z WA BA nW cW nB cB hf1 hf2 hf3 _).mono ?_
           rintro e w1 ⟨rfl, hb⟩
           have hh : Below w.heap.size w w1 := hal.trans (hb.mono hal.size)
           have qTB := (boxNew H W C A n c 51) w
           try simp only [World.size_alloc] at qTB
           have TB := Lib.hid ((qTB.below (B' := w.heap.size + 1) (by omega) (((Below.refl _ _).alloc (by first | exact Nat.le_refl _ | (simp; done) | (simp; omega)) _).mono (by simp))).below (by first | (simp; done) | (simp; omega)) hb)
           have yTB : w.heap.size < w1.heap.size := by have := hb.size; simp at this; omega
           clear qTB
           have qTN := (NodeAt.new x0 x1 x2 (.int .i8 Y) (.int .i32 m1) (.int .i64 s1) (.int .i8 z1) (.int .i32 m2) (.int .i64 s2) (.int .i8 z2) (.int .i8 nlo) (.int .i8 nhi) K S P O Z WA BA nW cW nB cB 28) (w.alloc (.cells #[.int .i64 H, .int .i64 W, .int .i64 C, .slice A n c] 51))
           try simp only [World.size_alloc] at qTN
           have TN := Lib.hid (qTN.below (by first | (simp; done) | (simp; omega)) hb)
           have yTN : w.heap.size + 1 < w1.heap.size := by have := hb.size; simp at this; omega
           clear qTN
           replace HR := Lib.hid ((HR.out.below hh).more hh.size)
           replace HRW := Lib.hid ((HRW.out.below hh).more hh.size)
           replace HRB := Lib.hid ((HRB.out.below hh).more hh.size)
           have HBW : Hid (Below w.heap.size w w1) := Lib.hid hh
           obtain ⟨tbp0, tbp1, tbp2, tbp3⟩ := TB.out
           clear hb hh hal)
        | (go_at_call 16
           have hal : Below w1.heap.size w1 w1 := Below.refl _ _
           refine (HOF.out _).mono ?_
           rintro e w2 ⟨v2, rfl, ho2, hb⟩
           have hh : Below w1.heap.size w1 w2 := hal.trans (hb.mono hal.size)
           replace TB := Lib.hid (TB.out.below yTB hh)
           replace yTB := Nat.lt_of_lt_of_le yTB hh.size
           replace TN := Lib.hid (TN.out.below yTN hh)
           replace yTN := Nat.lt_of_lt_of_le yTN hh.size
           replace HR := Lib.hid ((HR.out.below hh).more hh.size)
           replace HRW := Lib.hid ((HRW.out.below hh).more hh.size)
           replace HRB := Lib.hid ((HRB.out.below hh).more hh.size)
           replace HBW := Lib.hid (HBW.out.trans (hh.mono HBW.out.size))
           clear tbp0 tbp1 tbp2 tbp3
           obtain ⟨A2, c2, rfl, -, -, -⟩ := Kit.own_rd ho2
           clear ho2
           obtain ⟨tbp0, tbp1, tbp2, tbp3⟩ := TB.out
           clear hb hh hal)
        | (go_at_call 7
           have hal : Below w2.heap.size w2 (w2.alloc (.cells #[.int .i64 0, .int .i64 0, .int .i64 0, .slice A2 0 c2] 54)) := (Below.refl _ _).alloc (by first | exact Nat.le_refl _ | (simp; done) | (simp; omega)) _
           refine (known24 _).mono ?_
           rintro e w3 ⟨rfl, hb⟩
           have hh : Below w2.heap.size w2 w3 := hal.trans (hb.mono hal.size)
           have qTA := (boxNew 0 0 0 A2 0 c2 54) w2
           try simp only [World.size_alloc] at qTA
           have TA := Lib.hid (qTA.below (by first | (simp; done) | (simp; omega)) hb)
           have yTA : w2.heap.size < w3.heap.size := by have := hb.size; simp at this; omega
           clear qTA
           replace TB := Lib.hid (TB.out.below yTB hh)
           replace yTB := Nat.lt_of_lt_of_le yTB hh.size
           replace TN := Lib.hid (TN.out.below yTN hh)
           replace yTN := Nat.lt_of_lt_of_le yTN hh.size
           replace HR := Lib.hid ((HR.out.below hh).more hh.size)
           replace HRW := Lib.hid ((HRW.out.below hh).more hh.size)
           replace HRB := Lib.hid ((HRB.out.below hh).more hh.size)
           replace HBW := Lib.hid (HBW.out.trans (hh.mono HBW.out.size))
           clear tbp0 tbp1 tbp2 tbp3
           obtain ⟨tbp0, tbp1, tbp2, tbp3⟩ := TB.out
           obtain ⟨tap0, tap1, tap2, tap3⟩ := TA.out
           clear hb hh hal)
        | (refine wpList_load_mid rfl 28 (.tmp 3) rfl (w.heap.size + 1) 0 rfl [x0, x1, x2, .int .i64 K, .int .i64 S, .int .i64 P, .int .i64 O, .int .i8 Z, .int .i8 Y, .slice WA nW cW, .slice BA nB cB, .int .i32 m1, .int .i64 s1, .int .i8 z1, .int .i32 m2, .int .i64 s2, .int .i8 z2, .int .i8 nlo, .int .i8 nhi] _ (TN0.out) Try.underlying28 rfl (by kernel_rfl) ?_)
        | (refine wpList_load_mid rfl 28 (.tmp 3) rfl (w.heap.size + 1) 0 rfl [x0, x1, x2, .int .i64 K, .int .i64 S, .int .i64 P, .int .i64 O, .int .i8 Z, .int .i8 Y, .slice WA nW cW, .slice BA nB cB, .int .i32 m1, .int .i64 s1, .int .i8 z1, .int .i32 m2, .int .i64 s2, .int .i8 z2, .int .i8 nlo, .int .i8 nhi] _ (TN.out) Try.underlying28 rfl (by kernel_rfl) ?_))
  go_ret
  exact ⟨rfl, HBW.out⟩
set_option maxRecDepth 100000 in
set_option maxHeartbeats 16000000 in
theorem walk_ok {w : World} (H W C : Int) (A : Option Addr) (zs : List Int) (n c : Nat) (hn : zs.length = n) (hz : I8b zs) (x0 x1 x2 : Value) (K S P Z Y : Int) (WA BA : Option Addr) (nW cW nB cB : Nat) (m1 s1 z1 m2 s2 z2 nlo nhi : Int) (ws bs : List Int) (hws : ws.length = nW) (hbs : bs.length = nB) (hwb : I8b ws) (hbb : ∀ q, -2147483648 ≤ bs.getD q 0 ∧ bs.getD q 0 ≤ 2147483647) (hcw : nW ≤ cW) (hcb : nB ≤ cB)
    (hnb : NBd Z Y m1 z1 m2 z2 nlo nhi) (hf1 : n ≤ 1024) (hf2 : nW ≤ 2000) (hf3 : nB ≤ 200) (hr : Kit.Rd w w.heap.size A (I8s zs)) (hrw : Kit.Rd w w.heap.size WA (I8s ws)) (hrb : Kit.Rd w w.heap.size BA (I32v bs))
    (ht : tensB H W C n = true) (he : convE H W C K S P (nB : Int) nW nB = 0) :
    Calls Try.prog 6 #[.agg #[.int .i64 H, .int .i64 W, .int .i64 C, .slice A n c], .agg #[x0, x1, x2, .int .i64 K, .int .i64 S, .int .i64 P, .int .i64 (nB : Int), .int .i8 Z, .int .i8 Y, .slice WA nW cW, .slice BA nB cB, .int .i32 m1, .int .i64 s1, .int .i8 z1, .int .i32 m2, .int .i64 s2, .int .i8 z2, .int .i8 nlo, .int .i8 nhi]] w fun e w' => e = .returned (.bool true) ∧ Below w.heap.size w w' := by
  obtain ⟨hsl, hnWI, hn16, -⟩ := convE_ok he
  obtain ⟨hs0, har1, har2, hg1, hg2, hsr⟩ := slide_ok hsl
  obtain ⟨q1, q2, q3, q4, q5, q6, q7⟩ := shapeB_yes hsr
  obtain ⟨-, -, -, -, e1, e2, -⟩ := shapeB_yes hs0
  obtain ⟨-, -, k1, k2, t1, t2, p1, p2, -⟩ := argsB_yes har1
  have hm : (n : Int) = H * W * C := by simp only [tensB, Bool.and_eq_true, decide_eq_true_eq] at ht; exact ht.2
  obtain ⟨a, ha⟩ : ∃ a : Nat, stepsM H K S P = (a : Int) := ⟨(stepsM H K S P).toNat, by omega⟩
  obtain ⟨b, hb⟩ : ∃ b : Nat, stepsM W K S P = (b : Int) := ⟨(stepsM W K S P).toNat, by omega⟩
  obtain ⟨d, hd⟩ : ∃ d : Nat, C = (d : Int) := ⟨C.toNat, by omega⟩
  obtain ⟨kk, hk⟩ : ∃ kk : Nat, K = (kk : Int) := ⟨K.toNat, by omega⟩
  rw [ha, hb] at q7
  rw [ha] at q1 q2
  rw [hb] at q3 q4
  obtain ⟨N, hN⟩ : ∃ N, a * b * nB = N := ⟨_, rfl⟩
  obtain ⟨ab, hab⟩ : ∃ ab, a * b = ab := ⟨_, rfl⟩
  have habN : ab * nB = N := by rw [← hab]; exact hN
  have hNI : (a : Int) * (b : Int) * (nB : Int) = (N : Int) := by rw [← hN]; simp
  have hN2 : N ≤ 1024 := by omega
  have hN1 : 0 < N := by rw [← hN]; exact Nat.mul_pos (Nat.mul_pos (by omega) (by omega)) (by omega)
  have hab2 : ab ≤ 256 := by
    have : a * b ≤ 16 * 16 := Nat.mul_le_mul (by omega) (by omega)
    omega
  have em1 : IntKind.i64.wrap ((a : Int) * (b : Int)) = (ab : Int) := by rw [← Int.natCast_mul, hab]; exact IntWalk.i64_in _ (by omega)
  have em2 : IntKind.i64.wrap ((ab : Int) * (nB : Int)) = (N : Int) := by rw [← Int.natCast_mul, habN]; exact IntWalk.i64_in _ (by omega)
  have hnWN : nB * kk * kk * d = nW := by
    have : ((nB * kk * kk * d : Nat) : Int) = (nW : Int) := by rw [hnWI, hk, hd]; simp
    omega
  have hea : kk * kk * d * nB = nW := by rw [← hnWN, Nat.mul_comm, ← Nat.mul_assoc, ← Nat.mul_assoc]
  obtain ⟨⟨z3, z4⟩, -⟩ := hnb
  obtain ⟨lo, hlo⟩ : ∃ x, mnF zs n = x := ⟨_, rfl⟩
  obtain ⟨hi, hhi⟩ : ∃ x, mxF zs n = x := ⟨_, rfl⟩
  have lb : -128 ≤ lo ∧ lo ≤ 127 := by rw [← hlo]; exact mnF_bd hz n
  have hbd : -128 ≤ hi ∧ hi ≤ 127 := by rw [← hhi]; exact mxF_bd hz n
  have hzb : ∀ q, q < n → lo ≤ zs.getD q 0 ∧ zs.getD q 0 ≤ hi := fun q hq => by rw [← hlo, ← hhi]; exact ⟨mnF_le hq, mxF_ge hq⟩
  obtain ⟨g, hg⟩ : ∃ g, decide (P > 0) = g := ⟨_, rfl⟩
  have hwi := fun (i : Nat) (hi' : i < N) => whole_in (zs := zs) (ws := ws) (bs := bs) (Z := Z) (oo := nB) g hg p1 har1 har2 hg1 hg2 ha hb hk hd hm hzb (show i < a * b * nB by rw [hN]; exact hi')
  have hof := fun (wd : World) (h1 : Kit.Rd wd wd.heap.size A (I8s zs)) (h2 : Kit.Rd wd wd.heap.size WA (I8s ws)) (h3 : Kit.Rd wd wd.heap.size BA (I32v bs)) => of_yes H W C A zs n c hn ht hz x0 x1 x2 (.int .i8 Y) (.int .i32 m1) (.int .i64 s1) (.int .i8 z1) (.int .i32 m2) (.int .i64 s2) (.int .i8 z2) (.int .i8 nlo) (.int .i8 nhi) K S P (nB : Int) Z WA BA nW cW nB cB ws hws hcw hwb bs hbs he a b nB d kk ha hb rfl hd hk N hN z3 z4 wd h1 h2 h3
  have hre := fun (wd : World) (h1 : Kit.Rd wd wd.heap.size A (I8s zs)) => quietB (rreach_to A zs n c hn (by omega) lo hi hlo hhi wd h1)
  have hal := fun (wd : World) (h2 : Kit.Rd wd wd.heap.size WA (I8s ws)) (h3 : Kit.Rd wd wd.heap.size BA (I32v bs)) => call_yes x0 x1 x2 K S P (nB : Int) Z Y WA BA nW cW nB cB m1 s1 z1 m2 s2 z2 nlo nhi ws bs hws hbs hwb hbb hcw hcb lo hi lb.1 lb.2 hbd.1 hbd.2 z3 z4 (kk * kk * d) (by omega) hea (by omega) (by omega) g hg wd h2 h3
  have hsm := fun (i : Nat) (hi' : i < N) (wd : World) (h1 : Kit.Rd wd wd.heap.size A (I8s zs)) (h2 : Kit.Rd wd wd.heap.size WA (I8s ws)) (h3 : Kit.Rd wd wd.heap.size BA (I32v bs)) =>
    refSum_to H W C A zs n c hn ht hz x0 x1 x2 (.int .i8 Y) (.int .i32 m1) (.int .i64 s1) (.int .i8 z1) (.int .i32 m2) (.int .i64 s2) (.int .i8 z2) (.int .i8 nlo) (.int .i8 nhi) K S P (nB : Int) Z WA BA nW cW nB cB ws hws hwb bs hbs hbb d kk (i % nB) nB hd hk (by omega) (by omega) (Nat.mod_lt _ (by omega)) rfl hnWN hn16 z3 z4 (i / nB / b) (i / nB % b)
      (by have h5 : i / nB / b < a := Nat.div_lt_of_lt_mul (by rw [Nat.mul_comm]; exact Nat.div_lt_of_lt_mul (by rw [Nat.mul_comm, hN]; exact hi')); omega) (by have h5 : i / nB % b < b := Nat.mod_lt _ (by omega); omega) t1 t2 p1 p2 wd h1 h2 h3 (wholeF zs ws bs H W C S P d kk Z b nB i) rfl
  obtain ⟨RF, hRF⟩ : ∃ RF : Nat → Int, wholeF zs ws bs H W C S P d kk Z b nB = RF := ⟨_, rfl⟩
  obtain ⟨PF, hPF⟩ : ∃ PF : Nat → Int, rowP ws bs lo hi Z g (kk * kk * d) = PF := ⟨_, rfl⟩
  obtain ⟨QF, hQF⟩ : ∃ QF : Nat → Int, rowQ ws bs lo hi Z g (kk * kk * d) = QF := ⟨_, rfl⟩
  have hgr : gridF b nB (sumF zs ws bs H W C S P d kk Z) = fun i => IntKind.i32.wrap (RF i) := by
    funext i
    rw [whole_wrap, hRF]
  rw [hRF, hPF, hQF] at hwi
  rw [hRF] at hsm
  rw [hPF, hQF] at hal
  rw [hgr] at hof
  have HOF := Lib.hid hof
  have HRE := Lib.hid hre
  have HAL := Lib.hid hal
  have HSM := Lib.hid hsm
  have HWI := Lib.hid hwi
  have HR := Lib.hid hr
  have HRW := Lib.hid hrw
  have HRB := Lib.hid hrb
  have hb1 : 1 ≤ b := by omega
  have ho1 : 1 ≤ nB := by omega
  clear hof hre hal hsm hwi hr hrw hrb he hsl hnWI hn16 hs0 har1 har2 hg1 hg2 hsr e1 e2 k1 k2 t1 t2 p1 p2 hm ha hb hd hk hN hab habN hNI hab2 hnWN hea z3 z4 hlo hhi lb hbd hzb hg hRF hPF hQF hgr hn hz hws hbs hwb hbb hcw hcb ht q7
  have TN0 : Hid (NodeAt (w.heap.size + 1) x0 x1 x2 (.int .i8 Y) (.int .i32 m1) (.int .i64 s1) (.int .i8 z1) (.int .i32 m2) (.int .i64 s2) (.int .i8 z2) (.int .i8 nlo) (.int .i8 nhi) K S P (nB : Int) Z WA BA nW cW nB cB ((w.alloc (.cells #[.int .i64 H, .int .i64 W, .int .i64 C, .slice A n c] 51)).alloc (.cells #[x0, x1, x2, .int .i64 K, .int .i64 S, .int .i64 P, .int .i64 (nB : Int), .int .i8 Z, .int .i8 Y, .slice WA nW cW, .slice BA nB cB, .int .i32 m1, .int .i64 s1, .int .i8 z1, .int .i32 m2, .int .i64 s2, .int .i8 z2, .int .i8 nlo, .int .i8 nhi] 28))) := by
    have h := (NodeAt.new x0 x1 x2 (.int .i8 Y) (.int .i32 m1) (.int .i64 s1) (.int .i8 z1) (.int .i32 m2) (.int .i64 s2) (.int .i8 z2) (.int .i8 nlo) (.int .i8 nhi) K S P (nB : Int) Z WA BA nW cW nB cB 28) (w.alloc (.cells #[.int .i64 H, .int .i64 W, .int .i64 C, .slice A n c] 51))
    rw [World.size_alloc] at h
    exact Lib.hid h
  go_enter Try.func6, Try.ntmps6
  go_upto_region 3 with (first
    | (go_at_call 15
       have hal : Below w.heap.size w ((w.alloc (.cells #[.int .i64 H, .int .i64 W, .int .i64 C, .slice A n c] 51)).alloc (.cells #[x0, x1, x2, .int .i64 K, .int .i64 S, .int .i64 P, .int .i64 (nB : Int), .int .i8 Z, .int .i8 Y, .slice WA nW cW, .slice BA nB cB, .int .i32 m1, .int .i64 s1, .int .i8 z1, .int .i32 m2, .int .i64 s2, .int .i8 z2, .int .i8 nlo, .int .i8 nhi] 28)) := ((Below.refl _ _).alloc (by first | exact Nat.le_refl _ | (simp; done) | (simp; omega)) _).alloc (by first | exact Nat.le_refl _ | (simp; done) | (simp; omega)) _
       refine (few_yes H W C A n c x0 x1 x2 (.int .i8 Y) (.int .i32 m1) (.int .i64 s1) (.int .i8 z1) (.int .i32 m2) (.int .i64 s2) (.int .i8 z2) (.int .i8 nlo) (.int .i8 nhi) K S P (nB : Int) Z WA BA nW cW nB cB hf1 hf2 hf3 _).mono ?_
       rintro e w1 ⟨rfl, hb⟩
       have hh : Below w.heap.size w w1 := hal.trans (hb.mono hal.size)
       have qTB := (boxNew H W C A n c 51) w
       try simp only [World.size_alloc] at qTB
       have TB := Lib.hid ((qTB.below (B' := w.heap.size + 1) (by omega) (((Below.refl _ _).alloc (by first | exact Nat.le_refl _ | (simp; done) | (simp; omega)) _).mono (by simp))).below (by first | (simp; done) | (simp; omega)) hb)
       have yTB : w.heap.size < w1.heap.size := by have := hb.size; simp at this; omega
       clear qTB
       have qTN := (NodeAt.new x0 x1 x2 (.int .i8 Y) (.int .i32 m1) (.int .i64 s1) (.int .i8 z1) (.int .i32 m2) (.int .i64 s2) (.int .i8 z2) (.int .i8 nlo) (.int .i8 nhi) K S P (nB : Int) Z WA BA nW cW nB cB 28) (w.alloc (.cells #[.int .i64 H, .int .i64 W, .int .i64 C, .slice A n c] 51))
       try simp only [World.size_alloc] at qTN
       have TN := Lib.hid (qTN.below (by first | (simp; done) | (simp; omega)) hb)
       have yTN : w.heap.size + 1 < w1.heap.size := by have := hb.size; simp at this; omega
       clear qTN
       replace HR := Lib.hid ((HR.out.below hh).more hh.size)
       replace HRW := Lib.hid ((HRW.out.below hh).more hh.size)
       replace HRB := Lib.hid ((HRB.out.below hh).more hh.size)
       have HBW : Hid (Below w.heap.size w w1) := Lib.hid hh
       obtain ⟨tbp0, tbp1, tbp2, tbp3⟩ := TB.out
       have n6 := TN.out.at 6 _ rfl
       clear hb hh hal)
    | (refine wpList_load_mid rfl 28 (.tmp 3) rfl (w.heap.size + 1) 0 rfl [x0, x1, x2, .int .i64 K, .int .i64 S, .int .i64 P, .int .i64 (nB : Int), .int .i8 Z, .int .i8 Y, .slice WA nW cW, .slice BA nB cB, .int .i32 m1, .int .i64 s1, .int .i8 z1, .int .i32 m2, .int .i64 s2, .int .i8 z2, .int .i8 nlo, .int .i8 nhi] _ (TN0.out) Try.underlying28 rfl (by kernel_rfl) ?_))
  clear TN0
  go_upto_region 6 with (first
    | (go_at_call 16
       have hal : Below w1.heap.size w1 w1 := Below.refl _ _
       refine (HOF.out _ ((HR.out.below hal).more hal.size) ((HRW.out.below hal).more hal.size) ((HRB.out.below hal).more hal.size)).mono ?_
       rintro e w2 ⟨v2, rfl, ho2, hb⟩
       have hh : Below w1.heap.size w1 w2 := hal.trans (hb.mono hal.size)
       replace TB := Lib.hid (TB.out.below yTB hh)
       replace yTB := Nat.lt_of_lt_of_le yTB hh.size
       replace TN := Lib.hid (TN.out.below yTN hh)
       replace yTN := Nat.lt_of_lt_of_le yTN hh.size
       replace HR := Lib.hid ((HR.out.below hh).more hh.size)
       replace HRW := Lib.hid ((HRW.out.below hh).more hh.size)
       replace HRB := Lib.hid ((HRB.out.below hh).more hh.size)
       replace HBW := Lib.hid (HBW.out.trans (hh.mono HBW.out.size))
       clear tbp0 tbp1 tbp2 tbp3 n6
       obtain ⟨A2, c2, rfl, -, -, hrd2⟩ := Kit.own_rd ho2
       have RA2 := Lib.hid hrd2
       clear ho2 hrd2
       obtain ⟨tbp0, tbp1, tbp2, tbp3⟩ := TB.out
       have n6 := TN.out.at 6 _ rfl
       clear hb hh hal)
    | (refine wpList_load_mid rfl 28 (.tmp 3) rfl (w.heap.size + 1) 0 rfl [x0, x1, x2, .int .i64 K, .int .i64 S, .int .i64 P, .int .i64 (nB : Int), .int .i8 Z, .int .i8 Y, .slice WA nW cW, .slice BA nB cB, .int .i32 m1, .int .i64 s1, .int .i8 z1, .int .i32 m2, .int .i64 s2, .int .i8 z2, .int .i8 nlo, .int .i8 nhi] _ (TN.out) Try.underlying28 rfl (by kernel_rfl) ?_))
  obtain ⟨bd, od, rfl, hbd, hcd⟩ := ints_getD RA2.out (j := 0) (by rw [rowL_len]; exact hN1)
  clear hbd hcd
  go_upto_region 7 with (first
    | (go_at_call 17
       have hal : Below w2.heap.size w2 (w2.alloc (.cells #[.int .i64 (a : Int), .int .i64 (b : Int), .int .i64 (nB : Int), .slice (some ⟨bd, od, none⟩) N c2] 54)) := (Below.refl _ _).alloc (by first | exact Nat.le_refl _ | (simp; done) | (simp; omega)) _
       refine (HRE.out _ ((HR.out.below hal).more hal.size)).mono ?_
       rintro e w3 ⟨rfl, hb⟩
       have hh : Below w2.heap.size w2 w3 := hal.trans (hb.mono hal.size)
       have qTA := (boxNew a b nB (some ⟨bd, od, none⟩) N c2 54) w2
       try simp only [World.size_alloc] at qTA
       have TA := Lib.hid (qTA.below (by first | (simp; done) | (simp; omega)) hb)
       have yTA : w2.heap.size < w3.heap.size := by have := hb.size; simp at this; omega
       clear qTA
       replace TB := Lib.hid (TB.out.below yTB hh)
       replace yTB := Nat.lt_of_lt_of_le yTB hh.size
       replace TN := Lib.hid (TN.out.below yTN hh)
       replace yTN := Nat.lt_of_lt_of_le yTN hh.size
       replace HR := Lib.hid ((HR.out.below hh).more hh.size)
       replace HRW := Lib.hid ((HRW.out.below hh).more hh.size)
       replace HRB := Lib.hid ((HRB.out.below hh).more hh.size)
       replace RA2 := Lib.hid ((RA2.out.below hh).more hh.size)
       replace HBW := Lib.hid (HBW.out.trans (hh.mono HBW.out.size))
       clear tbp0 tbp1 tbp2 tbp3 n6
       obtain ⟨tbp0, tbp1, tbp2, tbp3⟩ := TB.out
       have n6 := TN.out.at 6 _ rfl
       obtain ⟨tap0, tap1, tap2, tap3⟩ := TA.out
       clear hb hh hal))
  go_upto_region 8 with (first
    | (go_at_call 8
       have hal : Below w3.heap.size w3 w3 := Below.refl _ _
       refine (HAL.out _ ((HRW.out.below hal).more hal.size) ((HRB.out.below hal).more hal.size)).mono ?_
       rintro e w4 ⟨v4, rfl, ho4, hb⟩
       have hh : Below w3.heap.size w3 w4 := hal.trans (hb.mono hal.size)
       replace TB := Lib.hid (TB.out.below yTB hh)
       replace yTB := Nat.lt_of_lt_of_le yTB hh.size
       replace TN := Lib.hid (TN.out.below yTN hh)
       replace yTN := Nat.lt_of_lt_of_le yTN hh.size
       replace TA := Lib.hid (TA.out.below yTA hh)
       replace yTA := Nat.lt_of_lt_of_le yTA hh.size
       replace HR := Lib.hid ((HR.out.below hh).more hh.size)
       replace HRW := Lib.hid ((HRW.out.below hh).more hh.size)
       replace HRB := Lib.hid ((HRB.out.below hh).more hh.size)
       replace RA2 := Lib.hid ((RA2.out.below hh).more hh.size)
       replace HBW := Lib.hid (HBW.out.trans (hh.mono HBW.out.size))
       clear tbp0 tbp1 tbp2 tbp3 n6 tap0 tap1 tap2 tap3
       obtain ⟨gl, cl, rfl, -, -, -, hrl⟩ := Kit.own_form ho4 (by omega)
       have RL := Lib.hid hrl
       clear ho4 hrl
       obtain ⟨tbp0, tbp1, tbp2, tbp3⟩ := TB.out
       have n6 := TN.out.at 6 _ rfl
       obtain ⟨tap0, tap1, tap2, tap3⟩ := TA.out
       clear hb hh hal)
    | (refine wpList_load_mid rfl 28 (.tmp 3) rfl (w.heap.size + 1) 0 rfl [x0, x1, x2, .int .i64 K, .int .i64 S, .int .i64 P, .int .i64 (nB : Int), .int .i8 Z, .int .i8 Y, .slice WA nW cW, .slice BA nB cB, .int .i32 m1, .int .i64 s1, .int .i8 z1, .int .i32 m2, .int .i64 s2, .int .i8 z2, .int .i8 nlo, .int .i8 nhi] _ (TN.out) Try.underlying28 rfl (by kernel_rfl) ?_))
  clear tbp0 tbp1 tbp2 tbp3
  go_wp2_with fail
  clear n6 tap0 tap1 tap2 tap3 em1 em2
  have HB4 := HBW
  have yTBh := Lib.hid yTB
  have yTNh := Lib.hid yTN
  have yTAh := Lib.hid yTA
  have HHO := Lib.hid (fun (wd : World) (h : Kit.Rd wd wd.heap.size (some ⟨gl, 0, none⟩) (pairV PF QF nB)) => cholds_to (some ⟨gl, 0, none⟩) PF QF nB cl (by omega) wd h)
  clear HBW yTB yTN yTA HOF HRE HAL
  go_loopw [10] (fun x wr => ∃ i : Nat, i ≤ N ∧ x = .int .i64 i ∧ Hid (Below w4.heap.size w4 wr)) (fun x _ => N - (intOf x).toNat)
  case atStart => exact ⟨0, Nat.zero_le _, rfl, Lib.hid (Below.refl _ _)⟩
  case round =>
    obtain ⟨i, hi, rfl, HL⟩ := hrel
    obtain ⟨tap0, tap1, tap2, tap3⟩ := TA.out.below yTAh.out HL.out
    by_cases hlt : i < N
    · have hi0 : (0 : Int) ≤ (i : Int) := by omega
      have hiN : (i : Int) < (N : Int) := by omega
      have hsm := HSM.out i hlt
      obtain ⟨hw1, hw2⟩ := HWI.out i hlt
      have hoB : i % nB < nB := Nat.mod_lt _ (by omega)
      have hrl0 : w4.cell? ⟨gl, i % nB * 2, none⟩ = some (.int .i64 (PF (i % nB))) := by
        obtain ⟨ad, e, -, hc⟩ := RL.out _ _ (pairV_at PF QF hoB).1
        cases e
        rw [Go.WideShapes.add_plain, Nat.zero_add] at hc
        exact hc
      have hrl1 : w4.cell? ⟨gl, i % nB * 2 + 1, none⟩ = some (.int .i64 (QF (i % nB))) := by
        obtain ⟨ad, e, -, hc⟩ := RL.out _ _ (pairV_at PF QF hoB).2
        cases e
        rw [Go.WideShapes.add_plain, Nat.zero_add] at hc
        exact hc
      have hgl : gl < w4.heap.size := by
        obtain ⟨ad, e, hl, -⟩ := RL.out _ _ (pairV_at PF QF hoB).1
        cases e
        exact hl
      obtain ⟨bd', od', e9, hbd, hcd⟩ := ints_getD RA2.out (j := 0) (by rw [rowL_len]; exact hN1)
      cases e9
      have hcx : w4.cell? ⟨bd, od + i, none⟩ = some (.int .i32 (IntKind.i32.wrap (RF i))) := by
        rw [hcd i (by rw [rowL_len]; exact hlt)]
        congr 2
        simp [rowL, List.getD_eq_getElem?_getD, hlt]
      have hfit := fun (h : holdF PF QF nB = true) => wrap_fit hw1 hw2 ((holdF_iff PF QF nB).1 h (i % nB) hoB).1 ((holdF_iff PF QF nB).1 h (i % nB) hoB).2
      clear hcd
      obtain ⟨q, hq⟩ : ∃ q, i / nB = q := ⟨_, rfl⟩
      obtain ⟨o, ho⟩ : ∃ o, i % nB = o := ⟨_, rfl⟩
      obtain ⟨h, hh⟩ : ∃ h, q / b = h := ⟨_, rfl⟩
      obtain ⟨v, hv⟩ : ∃ v, q % b = v := ⟨_, rfl⟩
      have hqi : q ≤ i := by rw [← hq]; exact Nat.div_le_self _ _
      have hhi : h ≤ i := by rw [← hh]; exact Nat.le_trans (Nat.div_le_self _ _) hqi
      have hvi : v ≤ i := by rw [← hv]; exact Nat.le_trans (Nat.mod_le _ _) hqi
      have hoi : o ≤ i := by rw [← ho]; exact Nat.mod_le _ _
      have f1' : (i : Int) % (nB : Int) = (o : Int) := by rw [← ho]; simp
      have f1 : (i : Int).tmod (nB : Int) = (o : Int) := by rw [Int.tmod_eq_emod_of_nonneg (by omega)]; exact f1'
      have f2 : IntKind.i64.wrap (o : Int) = (o : Int) := IntWalk.i64_in _ (by omega)
      have f3' : (i : Int) / (nB : Int) = (q : Int) := by rw [← hq]; simp
      have f3 : (i : Int).tdiv (nB : Int) = (q : Int) := by rw [Int.tdiv_eq_ediv_of_nonneg (by omega)]; exact f3'
      have f4 : IntKind.i64.wrap (q : Int) = (q : Int) := IntWalk.i64_in _ (by omega)
      have f5' : (q : Int) / (b : Int) = (h : Int) := by rw [← hh]; simp
      have f5 : (q : Int).tdiv (b : Int) = (h : Int) := by rw [Int.tdiv_eq_ediv_of_nonneg (by omega)]; exact f5'
      have f6 : IntKind.i64.wrap (h : Int) = (h : Int) := IntWalk.i64_in _ (by omega)
      have f7' : (q : Int) % (b : Int) = (v : Int) := by rw [← hv]; simp
      have f7 : (q : Int).tmod (b : Int) = (v : Int) := by rw [Int.tmod_eq_emod_of_nonneg (by omega)]; exact f7'
      have f8 : IntKind.i64.wrap (v : Int) = (v : Int) := IntWalk.i64_in _ (by omega)
      have n0 : ¬ (nB : Int) = 0 := by omega
      have n1 : ((nB : Int) == 0) = false := by simp; omega
      have n2 : ¬ nB = 0 := by omega
      have b2' : ¬ b = 0 := by omega
      have b0' : ¬ (b : Int) = 0 := by omega
      have b1' : ((b : Int) == 0) = false := by simp; omega
      simp only [hq, ho, hh, hv] at hsm hrl0 hrl1 hw1 hw2 hoB
      obtain ⟨R, hR⟩ : ∃ R, RF i = R := ⟨_, rfl⟩
      obtain ⟨X, hX⟩ : ∃ X, PF o = X := ⟨_, rfl⟩
      obtain ⟨Yq, hYq⟩ : ∃ Yq, QF o = Yq := ⟨_, rfl⟩
      obtain ⟨D, hD⟩ : ∃ D, IntKind.i32.wrap R = D := ⟨_, rfl⟩
      rw [hR] at hsm hw1 hw2 hcx hfit
      rw [hD] at hcx hfit
      rw [hX] at hrl0 hw1
      rw [hYq] at hrl1 hw2
      have hDb : -2147483648 ≤ D ∧ D ≤ 2147483647 := by rw [← hD]; exact i32_wrap_bd R
      have g1 : IntKind.i64.wrap D = D := IntWalk.i64_in _ (by omega)
      have r1 : ¬ R < X := by omega
      have r2 : ¬ Yq < R := by omega
      have r3 : ¬ R > Yq := by omega
      have o0 : (0 : Int) ≤ (o : Int) := by omega
      have o1 : (o : Int) < (nB : Int) := by omega
      have HSI := Lib.hid hsm
      have HFIT := Lib.hid hfit
      have HC0 := Lib.hid hrl0
      have HC1 := Lib.hid hrl1
      have HCX := Lib.hid hcx
      have HBD := Lib.hid hbd
      have HGL := Lib.hid hgl
      clear hsm hfit hrl0 hrl1 hcx hbd hgl hq ho hh hv hR hX hYq hD hqi hhi hvi hoi hDb hoB hw1 hw2
      have n6 := (TN.out.below yTNh.out HL.out).at 6 _ rfl
      go_upto_region 14 with fail
      clear n6 tap0 tap1 tap2 tap3
      have hdr := HL.out.drew
      refine wp_region_held_drew (S := (fun w' => BoxAt w.heap.size H W C A n c w' ∧ NodeAt (w.heap.size + 1) x0 x1 x2 (.int .i8 Y) (.int .i32 m1) (.int .i64 s1) (.int .i8 z1) (.int .i32 m2) (.int .i64 s2) (.int .i8 z2) (.int .i8 nlo) (.int .i8 nhi) K S P (nB : Int) Z WA BA nW cW nB cB w' ∧ BoxAt w2.heap.size (a : Int) b (nB : Int) (some ⟨bd, od, none⟩) N c2 w')) (by kernel_rfl) ⟨TB.out.below yTBh.out hdr, TN.out.below yTNh.out hdr, TA.out.below yTAh.out hdr⟩ (fun hHeld => ?_)
      have HL5 := Lib.hid hdr
      have HR5 := Lib.hid ((HR.out.below hdr).more hdr.size)
      have HRW5 := Lib.hid ((HRW.out.below hdr).more hdr.size)
      have HRB5 := Lib.hid ((HRB.out.below hdr).more hdr.size)
      have yTB5 := Nat.lt_of_lt_of_le yTBh.out hdr.size
      have yTN5 := Nat.lt_of_lt_of_le yTNh.out hdr.size
      have yTA5 := Nat.lt_of_lt_of_le yTAh.out hdr.size
      clear hdr
      generalize wr.drew = W5 at HL5 HR5 HRW5 HRB5 yTB5 yTN5 yTA5 hHeld ⊢
      refine wpAnyH_take (i := 0) (oi := ({ dst := some 75, op := Op.load 51 (Operand.tmp 2), type := 51, pos := "law.go:96", after := #[], guard := none } : Oper)) (v := ?_) rfl (by kernel_rfl) (by kernel_rfl) (by kernel_rfl) (fun _ _ _ h => h) (Or.inl ⟨by rfl, ?_⟩) (by assumption) ?_
      rotate_left
      · intro wS hSw
        obtain ⟨⟨q0, q1, q2, q3⟩, -, -⟩ := hSw
        first
          | (go_simp; done)
          | (go_simp; with_reducible rfl)
      try simp only [Act.put, List.setIfInBounds_toArray, List.set_cons_zero, List.set_cons_succ]
      refine wpAnyH_take (i := 1) (oi := ({ dst := some 76, op := Op.load 28 (Operand.tmp 3), type := 28, pos := "law.go:96", after := #[], guard := none } : Oper)) (v := .agg #[x0, x1, x2, .int .i64 K, .int .i64 S, .int .i64 P, .int .i64 (nB : Int), .int .i8 Z, .int .i8 Y, .slice WA nW cW, .slice BA nB cB, .int .i32 m1, .int .i64 s1, .int .i8 z1, .int .i32 m2, .int .i64 s2, .int .i8 z2, .int .i8 nlo, .int .i8 nhi]) rfl (by kernel_rfl) (by kernel_rfl) (by kernel_rfl) (fun _ _ _ h => h) (yieldsIf_load_mid (by rfl) _ _ rfl (w.heap.size + 1) 0 rfl [x0, x1, x2, .int .i64 K, .int .i64 S, .int .i64 P, .int .i64 (nB : Int), .int .i8 Z, .int .i8 Y, .slice WA nW cW, .slice BA nB cB, .int .i32 m1, .int .i64 s1, .int .i8 z1, .int .i32 m2, .int .i64 s2, .int .i8 z2, .int .i8 nlo, .int .i8 nhi] _ (fun w' h => h.2.1) Try.underlying28 rfl (by kernel_rfl)) (by assumption) ?_
      try simp only [Act.put, List.setIfInBounds_toArray, List.set_cons_zero, List.set_cons_succ]
      refine wpAnyH_take (i := 2) (oi := ({ dst := some 77, op := Op.move (Operand.tmp 10), type := 3, pos := "law.go:96", after := #[], guard := none } : Oper)) (v := ?_) rfl (by kernel_rfl) (by kernel_rfl) (by kernel_rfl) (fun _ _ _ h => h) (Or.inl ⟨by rfl, ?_⟩) (by assumption) ?_
      rotate_left
      · intro wS hSw
        first
          | (go_simp; done)
          | (go_simp; with_reducible rfl)
      try simp only [Act.put, List.setIfInBounds_toArray, List.set_cons_zero, List.set_cons_succ]
      refine wpAnyH_take (i := 3) (oi := ({ dst := some 78, op := Op.fieldAddr 28 (Operand.tmp 3) 6, type := 0, pos := "law.go:96", after := #[], guard := none } : Oper)) (v := ?_) rfl (by kernel_rfl) (by kernel_rfl) (by kernel_rfl) (fun _ _ _ h => h) (Or.inl ⟨by rfl, ?_⟩) (by assumption) ?_
      rotate_left
      · intro wS hSw
        first
          | (go_simp; done)
          | (go_simp; with_reducible rfl)
      try simp only [Act.put, List.setIfInBounds_toArray, List.set_cons_zero, List.set_cons_succ]
      refine wpAnyH_take (i := 4) (oi := ({ dst := some 79, op := Op.load 3 (Operand.tmp 78), type := 3, pos := "law.go:96", after := #[{ on := 3, ground := Ground.data }], guard := none } : Oper)) (v := ?_) rfl (by kernel_rfl) (by kernel_rfl) (by kernel_rfl) (fun _ _ _ h => h) (Or.inl ⟨by rfl, ?_⟩) (by assumption) ?_
      rotate_left
      · intro wS hSw
        have q6 := hSw.2.1.at 6 _ rfl
        clear hSw
        first
          | (go_simp; done)
          | (go_simp; with_reducible rfl)
      try simp only [Act.put, List.setIfInBounds_toArray, List.set_cons_zero, List.set_cons_succ]
      refine wpAnyH_take (i := 5) (oi := ({ dst := some 80, op := Op.binOp BinOp.quo 3 (Operand.tmp 77) (Operand.tmp 79) 3, type := 3, pos := "law.go:96", after := #[{ on := 2, ground := Ground.data }, { on := 4, ground := Ground.data }], guard := none } : Oper)) (v := ?_) rfl (by kernel_rfl) (by kernel_rfl) (by kernel_rfl) (fun _ _ _ h => h) (Or.inl ⟨by rfl, ?_⟩) (by assumption) ?_
      rotate_left
      · intro wS hSw
        first
          | (go_simp; done)
          | (go_simp; with_reducible rfl)
      try simp only [Act.put, List.setIfInBounds_toArray, List.set_cons_zero, List.set_cons_succ]
      refine wpAnyH_take (i := 6) (oi := ({ dst := some 81, op := Op.fieldAddr 54 (Operand.tmp 5) 0, type := 0, pos := "law.go:96", after := #[], guard := none } : Oper)) (v := ?_) rfl (by kernel_rfl) (by kernel_rfl) (by kernel_rfl) (fun _ _ _ h => h) (Or.inl ⟨by rfl, ?_⟩) (by assumption) ?_
      rotate_left
      · intro wS hSw
        first
          | (go_simp; done)
          | (go_simp; with_reducible rfl)
      try simp only [Act.put, List.setIfInBounds_toArray, List.set_cons_zero, List.set_cons_succ]
      refine wpAnyH_take (i := 7) (oi := ({ dst := some 82, op := Op.fieldAddr 49 (Operand.tmp 81) 1, type := 0, pos := "law.go:96", after := #[{ on := 6, ground := Ground.data }], guard := none } : Oper)) (v := ?_) rfl (by kernel_rfl) (by kernel_rfl) (by kernel_rfl) (fun _ _ _ h => h) (Or.inl ⟨by rfl, ?_⟩) (by assumption) ?_
      rotate_left
      · intro wS hSw
        first
          | (go_simp; done)
          | (go_simp; with_reducible rfl)
      try simp only [Act.put, List.setIfInBounds_toArray, List.set_cons_zero, List.set_cons_succ]
      refine wpAnyH_take (i := 8) (oi := ({ dst := some 83, op := Op.load 3 (Operand.tmp 82), type := 3, pos := "law.go:96", after := #[{ on := 7, ground := Ground.data }], guard := none } : Oper)) (v := ?_) rfl (by kernel_rfl) (by kernel_rfl) (by kernel_rfl) (fun _ _ _ h => h) (Or.inl ⟨by rfl, ?_⟩) (by assumption) ?_
      rotate_left
      · intro wS hSw
        obtain ⟨-, -, ⟨q0, q1, q2, q3⟩⟩ := hSw
        first
          | (go_simp; done)
          | (go_simp; with_reducible rfl)
      try simp only [Act.put, List.setIfInBounds_toArray, List.set_cons_zero, List.set_cons_succ]
      refine wpAnyH_take (i := 9) (oi := ({ dst := some 84, op := Op.binOp BinOp.quo 3 (Operand.tmp 80) (Operand.tmp 83) 3, type := 3, pos := "law.go:96", after := #[{ on := 5, ground := Ground.data }, { on := 8, ground := Ground.data }], guard := none } : Oper)) (v := ?_) rfl (by kernel_rfl) (by kernel_rfl) (by kernel_rfl) (fun _ _ _ h => h) (Or.inl ⟨by rfl, ?_⟩) (by assumption) ?_
      rotate_left
      · intro wS hSw
        first
          | (go_simp; done)
          | (go_simp; with_reducible rfl)
      try simp only [Act.put, List.setIfInBounds_toArray, List.set_cons_zero, List.set_cons_succ]
      refine wpAnyH_take (i := 10) (oi := ({ dst := some 85, op := Op.move (Operand.tmp 10), type := 3, pos := "law.go:96", after := #[], guard := none } : Oper)) (v := ?_) rfl (by kernel_rfl) (by kernel_rfl) (by kernel_rfl) (fun _ _ _ h => h) (Or.inl ⟨by rfl, ?_⟩) (by assumption) ?_
      rotate_left
      · intro wS hSw
        first
          | (go_simp; done)
          | (go_simp; with_reducible rfl)
      try simp only [Act.put, List.setIfInBounds_toArray, List.set_cons_zero, List.set_cons_succ]
      refine wpAnyH_take (i := 11) (oi := ({ dst := some 86, op := Op.fieldAddr 28 (Operand.tmp 3) 6, type := 0, pos := "law.go:96", after := #[], guard := none } : Oper)) (v := ?_) rfl (by kernel_rfl) (by kernel_rfl) (by kernel_rfl) (fun _ _ _ h => h) (Or.inl ⟨by rfl, ?_⟩) (by assumption) ?_
      rotate_left
      · intro wS hSw
        first
          | (go_simp; done)
          | (go_simp; with_reducible rfl)
      try simp only [Act.put, List.setIfInBounds_toArray, List.set_cons_zero, List.set_cons_succ]
      refine wpAnyH_take (i := 12) (oi := ({ dst := some 87, op := Op.load 3 (Operand.tmp 86), type := 3, pos := "law.go:96", after := #[{ on := 11, ground := Ground.data }], guard := none } : Oper)) (v := ?_) rfl (by kernel_rfl) (by kernel_rfl) (by kernel_rfl) (fun _ _ _ h => h) (Or.inl ⟨by rfl, ?_⟩) (by assumption) ?_
      rotate_left
      · intro wS hSw
        have q6 := hSw.2.1.at 6 _ rfl
        clear hSw
        first
          | (go_simp; done)
          | (go_simp; with_reducible rfl)
      try simp only [Act.put, List.setIfInBounds_toArray, List.set_cons_zero, List.set_cons_succ]
      refine wpAnyH_take (i := 13) (oi := ({ dst := some 88, op := Op.binOp BinOp.quo 3 (Operand.tmp 85) (Operand.tmp 87) 3, type := 3, pos := "law.go:96", after := #[{ on := 10, ground := Ground.data }, { on := 12, ground := Ground.data }], guard := none } : Oper)) (v := ?_) rfl (by kernel_rfl) (by kernel_rfl) (by kernel_rfl) (fun _ _ _ h => h) (Or.inl ⟨by rfl, ?_⟩) (by assumption) ?_
      rotate_left
      · intro wS hSw
        first
          | (go_simp; done)
          | (go_simp; with_reducible rfl)
      try simp only [Act.put, List.setIfInBounds_toArray, List.set_cons_zero, List.set_cons_succ]
      refine wpAnyH_take (i := 14) (oi := ({ dst := some 89, op := Op.fieldAddr 54 (Operand.tmp 5) 0, type := 0, pos := "law.go:96", after := #[], guard := none } : Oper)) (v := ?_) rfl (by kernel_rfl) (by kernel_rfl) (by kernel_rfl) (fun _ _ _ h => h) (Or.inl ⟨by rfl, ?_⟩) (by assumption) ?_
      rotate_left
      · intro wS hSw
        first
          | (go_simp; done)
          | (go_simp; with_reducible rfl)
      try simp only [Act.put, List.setIfInBounds_toArray, List.set_cons_zero, List.set_cons_succ]
      refine wpAnyH_take (i := 15) (oi := ({ dst := some 90, op := Op.fieldAddr 49 (Operand.tmp 89) 1, type := 0, pos := "law.go:96", after := #[{ on := 14, ground := Ground.data }], guard := none } : Oper)) (v := ?_) rfl (by kernel_rfl) (by kernel_rfl) (by kernel_rfl) (fun _ _ _ h => h) (Or.inl ⟨by rfl, ?_⟩) (by assumption) ?_
      rotate_left
      · intro wS hSw
        first
          | (go_simp; done)
          | (go_simp; with_reducible rfl)
      try simp only [Act.put, List.setIfInBounds_toArray, List.set_cons_zero, List.set_cons_succ]
      refine wpAnyH_take (i := 16) (oi := ({ dst := some 91, op := Op.load 3 (Operand.tmp 90), type := 3, pos := "law.go:96", after := #[{ on := 15, ground := Ground.data }], guard := none } : Oper)) (v := ?_) rfl (by kernel_rfl) (by kernel_rfl) (by kernel_rfl) (fun _ _ _ h => h) (Or.inl ⟨by rfl, ?_⟩) (by assumption) ?_
      rotate_left
      · intro wS hSw
        obtain ⟨-, -, ⟨q0, q1, q2, q3⟩⟩ := hSw
        first
          | (go_simp; done)
          | (go_simp; with_reducible rfl)
      try simp only [Act.put, List.setIfInBounds_toArray, List.set_cons_zero, List.set_cons_succ]
      refine wpAnyH_take (i := 17) (oi := ({ dst := some 92, op := Op.binOp BinOp.rem 3 (Operand.tmp 88) (Operand.tmp 91) 3, type := 3, pos := "law.go:96", after := #[{ on := 13, ground := Ground.data }, { on := 16, ground := Ground.data }], guard := none } : Oper)) (v := ?_) rfl (by kernel_rfl) (by kernel_rfl) (by kernel_rfl) (fun _ _ _ h => h) (Or.inl ⟨by rfl, ?_⟩) (by assumption) ?_
      rotate_left
      · intro wS hSw
        first
          | (go_simp; done)
          | (go_simp; with_reducible rfl)
      try simp only [Act.put, List.setIfInBounds_toArray, List.set_cons_zero, List.set_cons_succ]
      refine wpAnyH_take (i := 18) (oi := ({ dst := some 93, op := Op.move (Operand.tmp 11), type := 3, pos := "law.go:96", after := #[], guard := none } : Oper)) (v := ?_) rfl (by kernel_rfl) (by kernel_rfl) (by kernel_rfl) (fun _ _ _ h => h) (Or.inl ⟨by rfl, ?_⟩) (by assumption) ?_
      rotate_left
      · intro wS hSw
        first
          | (go_simp; done)
          | (go_simp; with_reducible rfl)
      try simp only [Act.put, List.setIfInBounds_toArray, List.set_cons_zero, List.set_cons_succ]
      refine wpAnyH_ready (rs := [19]) (by kernel_rfl) (by simp) ?_
      refine AllReadyH.cons (o := ({ dst := some 94, op := Op.call { callee := Callee.value (Operand.func 18), args := #[Operand.tmp 75, Operand.tmp 76, Operand.tmp 84, Operand.tmp 92, Operand.tmp 93], argTypes := #[51, 28, 3, 3, 3] }, type := 3, pos := "law.go:96", after := #[{ on := 0, ground := Ground.data }, { on := 1, ground := Ground.data }, { on := 9, ground := Ground.data }, { on := 17, ground := Ground.data }, { on := 18, ground := Ground.data }], guard := none } : Oper)) rfl (fun Kq hK => ?_) (AllReadyH.nil)
      go_simp
      go_at_call 18
      refine (HSI.out _ HR5.out HRW5.out HRB5.out).mono ?_
      rintro e w6 ⟨rfl, hb⟩
      have hS1 := And.intro (hHeld.1.below yTB5 hb) (And.intro (hHeld.2.1.below yTN5 hb) (hHeld.2.2.below yTA5 hb))
      have HL6 := Lib.hid (HL5.out.trans (hb.mono HL5.out.size))
      have yTA6 := Nat.lt_of_lt_of_le yTA5 hb.size
      clear hHeld hb HL5
      dsimp only
      refine hK.out _ _ ?_ (fun hHeld => ?_)
      · exact hS1
      clear hK Kq
      try simp only [Act.put, List.setIfInBounds_toArray, List.set_cons_zero, List.set_cons_succ]
      refine wpAnyH_take (i := 20) (oi := ({ dst := some 12, op := Op.assign (Operand.tmp 94), type := 3, pos := "law.go:96", after := #[{ on := 19, ground := Ground.data }, { on := 19, ground := Ground.chain }, { on := 0, ground := Ground.phase }, { on := 1, ground := Ground.phase }, { on := 2, ground := Ground.phase }, { on := 3, ground := Ground.phase }, { on := 4, ground := Ground.phase }, { on := 5, ground := Ground.phase }, { on := 6, ground := Ground.phase }, { on := 7, ground := Ground.phase }, { on := 8, ground := Ground.phase }, { on := 9, ground := Ground.phase }, { on := 10, ground := Ground.phase }, { on := 11, ground := Ground.phase }, { on := 12, ground := Ground.phase }, { on := 13, ground := Ground.phase }, { on := 14, ground := Ground.phase }, { on := 15, ground := Ground.phase }, { on := 16, ground := Ground.phase }, { on := 17, ground := Ground.phase }, { on := 18, ground := Ground.phase }, { on := 19, ground := Ground.phase }], guard := none } : Oper)) (v := ?_) rfl (by kernel_rfl) (by kernel_rfl) (by kernel_rfl) (fun _ _ _ h => h) (Or.inl ⟨by rfl, ?_⟩) (by assumption) ?_
      rotate_left
      · intro wS hSw
        first
          | (go_simp; done)
          | (go_simp; with_reducible rfl)
      try simp only [Act.put, List.setIfInBounds_toArray, List.set_cons_zero, List.set_cons_succ]
      refine wpAnyH_done (by kernel_rfl) ?_ _
      have HTA := Lib.hid hHeld.2.2
      clear hHeld f1 f1' f3 f3' f5 f5' f7 f7' f2 f4 f6 f8
      have k0 := (HL6.out.cell (p := ⟨gl, o * 2, none⟩) HGL.out).trans HC0.out
      have k1 := (HL6.out.cell (p := ⟨gl, o * 2 + 1, none⟩) HGL.out).trans HC1.out
      obtain ⟨hv, hhv⟩ : ∃ hv, holdF PF QF nB = hv := ⟨_, rfl⟩
      have hho := HHO.out
      rw [hhv] at hho
      have HHX := Lib.hid hho
      have hft := HFIT.out
      rw [hhv] at hft
      clear hho hhv
      cases hv with
      | false =>
        clear hft
        go_wp2_with (go_at_call 12; (refine (HHX.out _ ((RL.out.below HL6.out).more HL6.out.size)).mono ?_); rintro e w7 ⟨rfl, hb⟩; (have HL7 := Lib.hid (HL6.out.trans (hb.mono HL6.out.size))); clear hb k0 k1)
        go_roundw
        case rel => exact ⟨i + 1, by omega, by go_num, HL7⟩
        case measure => simp [intOf]; omega
      | true =>
        have hDR : D = R := hft rfl
        subst hDR
        clear hft
        go_wp2_with (go_at_call 12; (refine (HHX.out _ ((RL.out.below HL6.out).more HL6.out.size)).mono ?_); rintro e w7 ⟨rfl, hb⟩; (have HL7 := Lib.hid (HL6.out.trans (hb.mono HL6.out.size))); (obtain ⟨tap0, tap1, tap2, tap3⟩ := HTA.out.below yTA6 hb); (have kx := (HL7.out.cell (p := ⟨bd, od + i, none⟩) HBD.out).trans HCX.out); clear hb k0 k1)
        go_roundw
        case rel => exact ⟨i + 1, by omega, by go_num, HL7⟩
        case measure => simp [intOf]; omega
    · obtain rfl : i = N := by omega
      have HBE := Lib.hid (HB4.out.trans (HL.out.mono HB4.out.size))
      go_wp2_with (go_at_call 7; (refine (known24 _).mono ?_); rintro e w9 ⟨rfl, hb⟩; (replace HBE := Lib.hid (HBE.out.trans (hb.mono HBE.out.size))); clear hb)
      go_ret
      exact ⟨rfl, HBE.out⟩
theorem walk {w : World} (H : Int) (wH : (Lit.int .i64 H).wf = true) (W : Int) (wW : (Lit.int .i64 W).wf = true) (C : Int) (wC : (Lit.int .i64 C).wf = true) (A : Option Addr) (zs : List Int) (c : Nat) (hc : zs.length ≤ c) (hm : c ≤ maxLen) (hw : ∀ n ∈ zs, (Lit.int .i8 n).wf = true) (hr : Kit.Rd w w.heap.size A (zs.map (.int .i8)))
    (x0 x1 x2 x8 x11 x12 x13 x14 x15 x16 x17 x18 : Value) (K S P O Z : Int) (WA : Option Addr) (ws : List Int) (cW : Nat) (BA : Option Addr) (bs : List Int) (cB : Nat) (wZ : (Lit.int .i8 Z).wf = true)
    (hcw : ws.length ≤ cW) (hmw : cW ≤ maxLen) (hww : ∀ n ∈ ws, (Lit.int .i8 n).wf = true) (hrw : Kit.Rd w w.heap.size WA (ws.map (.int .i8))) (hcb : bs.length ≤ cB) (hmb : cB ≤ maxLen) (hwb : ∀ n ∈ bs, (Lit.int .i32 n).wf = true) (hrb : Kit.Rd w w.heap.size BA (bs.map (.int .i32)))
    (hJ : ∃ Y m1 s1 z1 m2 s2 z2 lo hi : Int, (x8 = .int .i8 Y ∧ x11 = .int .i32 m1 ∧ x12 = .int .i64 s1 ∧ x13 = .int .i8 z1 ∧ x14 = .int .i32 m2 ∧ x15 = .int .i64 s2 ∧ x16 = .int .i8 z2 ∧ x17 = .int .i8 lo ∧ x18 = .int .i8 hi) ∧ NBd 0 Y m1 z1 m2 z2 lo hi) :
    Calls Try.prog 6 #[.agg #[.int .i64 H, .int .i64 W, .int .i64 C, .slice A zs.length c], .agg #[x0, x1, x2, .int .i64 K, .int .i64 S, .int .i64 P, .int .i64 O, .int .i8 Z, x8, .slice WA ws.length cW, .slice BA bs.length cB, x11, x12, x13, x14, x15, x16, x17, x18]] w fun e w' => e = .returned (.bool true) ∧ Below w.heap.size w w' := by
  obtain ⟨Y, m1, s1, z1, m2, s2, z2, lo, hi, ⟨rfl, rfl, rfl, rfl, rfl, rfl, rfl, rfl, rfl⟩, hnb0⟩ := hJ
  by_cases hf : zs.length ≤ 1024 ∧ ws.length ≤ 2000 ∧ bs.length ≤ 200
  · cases ht : tensB H W C zs.length
    · exact walk_err H W C A zs _ c x0 x1 x2 K S P O Z Y WA BA ws.length cW bs.length cB m1 s1 z1 m2 s2 z2 lo hi ws bs hf.1 hf.2.1 hf.2.2 hr hrw hrb 5 (by decide) (fun wd => of_bad H W C A _ c x0 x1 x2 (.int .i8 Y) (.int .i32 m1) (.int .i64 s1) (.int .i8 z1) (.int .i32 m2) (.int .i64 s2) (.int .i8 z2) (.int .i8 lo) (.int .i8 hi) K S P O Z WA BA ws.length cW bs.length cB ht wd)
    · by_cases he : convE H W C K S P O ws.length bs.length = 0
      · have hO := (convE_ok he).2.2.2
        subst hO
        exact walk_ok H W C A zs _ c rfl (I8b_of hw) x0 x1 x2 K S P Z Y WA BA ws.length cW bs.length cB m1 s1 z1 m2 s2 z2 lo hi ws bs rfl rfl (I8b_of hww) (I32b_of hwb) hcw hcb (hnb0.of wZ) hf.1 hf.2.1 hf.2.2 hr hrw hrb ht he
      · exact walk_err H W C A zs _ c x0 x1 x2 K S P O Z Y WA BA ws.length cW bs.length cB m1 s1 z1 m2 s2 z2 lo hi ws bs hf.1 hf.2.1 hf.2.2 hr hrw hrb _ he (fun wd => of_err H W C A _ c x0 x1 x2 (.int .i8 Y) (.int .i32 m1) (.int .i64 s1) (.int .i8 z1) (.int .i32 m2) (.int .i64 s2) (.int .i8 z2) (.int .i8 lo) (.int .i8 hi) K S P O Z WA BA ws.length cW bs.length cB ht _ rfl he wd)
  · exact walk_no H W C A _ c x0 x1 x2 K S P O Z Y WA BA ws.length cW bs.length cB m1 s1 z1 m2 s2 z2 lo hi hf
/-! ### the frame: written by program -/
theorem own : ownKnob Try.prog.godebug = none := by kernel_rfl
theorem laid : laidOutB Try.prog = true := by kernel_rfl
theorem contract {H : Type} {enc : TypeId × Value → H} {W : World} {base : Nat} {args : Array Value} {ds gs : List (DataW H)} {before : List MemPlace}
    (hval0 : ∀ (j : Nat) t v, Try.f6.params[j]? = some t → args[j]? = some v → Value.okWide Try.prog W .any base t v)
    (hW : DataW.Whole enc Try.prog Try.f6.params.toList Rows.spanSumsSpec.vars false W args.toList ds gs before) :
    Calls Try.prog 6 args W fun e W' => e = .returned (.bool true) ∧ Below W.heap.size W W' := by
  have hval : ∀ (j : Nat) t v, Try.f6.params[j]? = some t → args[j]? = some v → Value.okWide Try.prog W .any base t v := hval0
  obtain ⟨p, q, hA0, hV, rfl, hfz, hnd⟩ := hW
  have hA : DataW.TrodAll enc Try.prog W 0 (fun _ => true) true Try.f6.params.toList args.toList ds p := hA0
  rw [Try.params6] at hA hval
  obtain ⟨v0, vs0, d0, ds0, p0, q0, hargs, rfl, rfl, h0, r0⟩ := trodAll_cons hA
  obtain ⟨v1, vs1, d1, ds1, p1, q1, rfl, rfl, rfl, h1, r1⟩ := trodAll_cons r0
  obtain ⟨rfl, rfl, rfl⟩ := trodAll_nil r1
  obtain rfl : args = #[v0, v1] := by cases args; simp_all
  clear hA0 hval0
  obtain ⟨x0, y0, t0, A0, z0, c0, rfl, wx0, wy0, wt0, hc0, hm0, hw0, hr0⟩ := Kit.open_tensor (s := 49) (d := 23) (e := 22) (i := 3) Try.underlying51 Try.underlying49 Try.underlying23 Try.underlying22 Try.underlying3 (by kernel_rfl) (by kernel_rfl) (by kernel_rfl) (by kernel_rfl) (by kernel_rfl) ⟨rfl, rfl, rfl, rfl⟩ ⟨rfl, rfl, rfl, rfl, rfl, rfl⟩ (hval 0 51 v0 rfl rfl) h0
  obtain ⟨n1_0, n1_1, n1_2, n1_8, n1_11, n1_12, n1_13, n1_14, n1_15, n1_16, n1_17, n1_18, K1, S1, Q1, O1, Z1, WA1, ws1, cW1, BA1, bs1, cB1, rfl, wz1, hcw1, hmw1, hww1, hrw1, hcb1, hmb1, hwb1, hrb1⟩ := Kit.open_node (i := 3) (b8 := 22) (d := 23) (e := 22) (d2 := 24) (e2 := 21) Try.underlying28 (by kernel_rfl) Try.underlying3 (by kernel_rfl) Try.underlying22 (by kernel_rfl) Try.underlying23 Try.underlying22 (by kernel_rfl) (by kernel_rfl) Try.underlying24 Try.underlying21 (by kernel_rfl) (by kernel_rfl) rfl rfl rfl rfl rfl rfl rfl ⟨rfl, rfl⟩ ⟨rfl, rfl⟩ ⟨rfl, rfl⟩ ⟨rfl, rfl⟩ ⟨rfl, rfl⟩ ⟨rfl, rfl⟩ ⟨rfl, rfl⟩ (hval 1 28 v1 rfl rfl) h1
  exact walk (w := W) x0 wx0 y0 wy0 t0 wt0 A0 z0 c0 hc0 hm0 hw0 hr0 n1_0 n1_1 n1_2 n1_8 n1_11 n1_12 n1_13 n1_14 n1_15 n1_16 n1_17 n1_18 K1 S1 Q1 O1 Z1 WA1 ws1 cW1 BA1 bs1 cB1 wz1 hcw1 hmw1 hww1 hrw1 hcb1 hmb1 hwb1 hrb1 (CJoin.join_cells (hval 1 28 _ rfl rfl))
theorem fnIs {H : Type} : ∀ ds : List (DataW H), ds.length = Try.f6.params.toList.length → Rows.spanSumsSpec.fn H ds = { results := [.lit (.bool true)], args := ds } := by
  intro ds h
  rw [Try.params6] at h
  match ds, h with
  | [d1, d2], _ => rfl
set_option maxRecDepth 100000 in
theorem lifted (os : Os) (started : os.Started) (H : Type) (enc : TypeId × Value → H) :
    ReturnsInHanded {} Try.checked os 6 .any (Rows.spanSumsSpec.pre6 enc Try.prog Try.f6 Rows.spanSumsRow.domain false) (Rows.spanSumsSpec.post enc Try.prog Try.f6 false true false false) := by
  refine returnsInHanded_of_change (C := Try.checked) own started (by kernel_rfl) Try.func6
    (ChangeSpec.witness6 (enc := enc) (C := Try.checked) false ⟨#[], #[.agg #[.int .i64 0, .int .i64 0, .int .i64 0, .slice none 0 0], .agg #[.int .i64 0, .int .i64 0, .int .i64 0, .int .i64 0, .int .i64 0, .int .i64 0, .int .i64 0, .int .i8 0, .int .i8 0, .slice none 0 0, .slice none 0 0, .int .i32 0, .int .i64 0, .int .i8 0, .int .i32 0, .int .i64 0, .int .i8 0, .int .i8 0, .int .i8 0]], []⟩ 8 (by kernel_rfl) (by kernel_rfl) (by kernel_rfl) (by kernel_rfl)) ?_
  intro W base args ds gs before hval hW _ _
  refine (contract hval hW).mono fun e W' ⟨he, hg⟩ => ?_
  subst he
  exact ⟨_, rfl, Kit.law_post (tb := 4) laid (by kernel_rfl) rfl (by kernel_rfl) Try.underlying4 fnIs hW hg⟩
theorem over : Rows.spanSumsRow.holds Try.pinned (OpenSpec.ofChange Rows.spanSumsSpec) :=
  OpenClaim.holds_of_wide 6 Try.f6 rfl rfl rfl rfl rfl rfl rfl ⟨rfl, rfl, rfl, rfl, rfl⟩ rfl rfl rfl rfl rfl (by kernel_rfl) Try.func6 (by kernel_rfl)
    (of_decide_eq_true (by kernel_rfl)) (by unfold Func.isWrapper; first | (rw [if_pos (by decide +kernel)]; kernel_rfl) | (rw [if_neg (by decide +kernel)]; exact ⟨rfl, rfl⟩))
    (fun os started H enc _ => lifted os started H enc)
/-- the statement. -/
theorem proved : Rows.SpanSumsSaid :=
  over
end Go.Proofs.Ytaoadgolplnedaa.lawSpanSums
