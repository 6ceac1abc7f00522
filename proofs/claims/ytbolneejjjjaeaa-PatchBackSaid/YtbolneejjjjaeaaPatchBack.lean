/- PatchBack: rows that are put together again, at any shape, or why they can't be, are what the document says; the call returns true and leaves its arguments as they were. No condition. -/
import Derived.Test.YtbolneejjjjaeaaPatchBackR
import Derived.Test.YtbolneejjjjaeaaPatchBoth
import Derived.Test.YtbolneejjjjaeaaPatchKnown
import Derived.Test.YtbolneejjjjaeaaNodeCopy
import Derived.Test.YtbolneejjjjaeaaOpenNode
import Derived.BigQuiet
import Derived.Deep.QuietTactic
import Derived.Deep.CutRange
namespace Go.Proofs.Ytbolneejjjjaeaa.lawPatchBack
open Go Go.ChangeShapes Go.WideShapes Go.ChangeAt Go.RowKit
open Plain CSat CShape CTensor CConv CPatch
set_option linter.unusedVariables false

theorem load_mid_g {P : Program} {ops : Array Oper} {rest : List Oper} {op : Oper} {a : Act} {w : World} {Q : Exit → Act → World → Prop} (hw : Region.wanted op (yielded ops a.tmps) = true) (ty : TypeId) (x : Operand) (ho : op.op = .load ty x)
    (b o : Nat) (hx : a.eval x = .pointer (some ⟨b, o, none⟩)) (cs : List Value) (d : TypeDesc) (hc : w.rangeAt b o cs)
    (hu : P.underlying ty = some d) (hd : d.isRow = true) (hi : (P.info? ty).map (·.size) = some cs.length)
    (h : wpList P ops Q rest (a.put op.dst (.agg cs.toArray)) w) : wpList P ops Q (op :: rest) a w :=
  wpList_step fun K hK => by rw [if_pos hw]; exact wp_load_mid ty x ho b o hx cs d hc hu hd hi (hK _ _ h)
theorem fsame32 (A B : Option Addr) (zs : List Int) (n c m d : Nat) (hn : zs.length = n) (hm : n = m) (hl : n ≤ 1000000) (w : World) {B1 B2 : Nat} (ha : Kit.Rd w B1 A (I32v zs)) (hb : Kit.Rd w B2 B (I32v zs)) :
    Calls Try.prog 9 #[.slice A n c, .slice B m d] w fun e w' => e = .returned (.bool true) ∧ Below w.heap.size w w' := by
  subst hn hm
  have HA := Lib.hid ha
  have HB := Lib.hid hb
  clear ha hb
  go_enter Try.func9, Try.ntmps9
  go_wp2_with fail
  go_loopw [5] (fun i wr => ∃ k nq : Nat, k ≤ zs.length ∧ i = .int .i64 k ∧ Hid (wr = w.drewN nq)) (fun i _ => zs.length - (intOf i).toNat)
  case atStart => exact ⟨0, 0, Nat.zero_le _, rfl, Lib.hid rfl⟩
  case round =>
    obtain ⟨k, nq, hk, rfl, hw⟩ := hrel
    obtain rfl := hw.out
    clear hw
    by_cases hlt : k < zs.length
    · obtain ⟨b, off, rfl, _, hx⟩ := HA.out.ints hlt
      obtain ⟨b2, off2, rfl, _, hy⟩ := HB.out.ints hlt
      generalize zs[k] = x at hx hy
      have h0 : (0 : Int) ≤ (k : Int) := by omega
      have h1 : (k : Int) < (zs.length : Int) := by omega
      go_wp2_with fail
      go_quiet (fail)
      go_wp2
      go_roundw
      case rel => exact ⟨k + 1, _, by omega, by go_num, Lib.hid rfl⟩
      case measure => simp [intOf]; omega
    · go_wp2_with fail
      go_ret
      exact ⟨rfl, Kit.below_drewN (Below.refl _ _) nq⟩
set_option maxHeartbeats 4000000 in
theorem walk_big {w : World} (H W C : Int) (x0 x1 x2 x8 x11 x12 x13 x14 x15 x16 x17 x18 : Value) (K S P O Z : Int) (WA BA : Option Addr) (nW cW nB cB : Nat) (M Wd : Int) (AD : Option Addr) (n cD : Nat) (hbig : 4096 < n) : Calls Try.prog 3 #[.agg #[.int .i64 H, .int .i64 W, .int .i64 C], .agg #[x0, x1, x2, .int .i64 K, .int .i64 S, .int .i64 P, .int .i64 O, .int .i8 Z, x8, .slice WA nW cW, .slice BA nB cB, x11, x12, x13, x14, x15, x16, x17, x18], .int .i64 M, .int .i64 Wd, .slice AD n cD] w fun e w' => e = .returned (.bool true) ∧ Below w.heap.size w w' := by
  have k1 : (n : Int) > 4096 := by omega
  go_enter Try.func3, Try.ntmps3
  go_upto_region 1 with fail
  have hTB := (shapeNew H W C 23 w).below (B' := w.heap.size + 1) (by omega) ((Below.refl _ _).alloc (by simp) (.cells #[x0, x1, x2, .int .i64 K, .int .i64 S, .int .i64 P, .int .i64 O, .int .i8 Z, x8, .slice WA nW cW, .slice BA nB cB, x11, x12, x13, x14, x15, x16, x17, x18] 30))
  have hTN := NodeAt.new x0 x1 x2 x8 x11 x12 x13 x14 x15 x16 x17 x18 K S P O Z WA BA nW cW nB cB 30 (w.alloc (.cells #[.int .i64 H, .int .i64 W, .int .i64 C] 23))
  have hBw : Below w.heap.size w ((w.alloc (.cells #[.int .i64 H, .int .i64 W, .int .i64 C] 23)).alloc (.cells #[x0, x1, x2, .int .i64 K, .int .i64 S, .int .i64 P, .int .i64 O, .int .i8 Z, x8, .slice WA nW cW, .slice BA nB cB, x11, x12, x13, x14, x15, x16, x17, x18] 30)) := ((Below.refl _ _).alloc (Nat.le_refl _) _).alloc (by simp) _
  have hz0 : w.heap.size + 1 < ((w.alloc (.cells #[.int .i64 H, .int .i64 W, .int .i64 C] 23)).alloc (.cells #[x0, x1, x2, .int .i64 K, .int .i64 S, .int .i64 P, .int .i64 O, .int .i8 Z, x8, .slice WA nW cW, .slice BA nB cB, x11, x12, x13, x14, x15, x16, x17, x18] 30)).heap.size := by simp
  rw [World.size_alloc] at hTN
  generalize ((w.alloc (.cells #[.int .i64 H, .int .i64 W, .int .i64 C] 23)).alloc (.cells #[x0, x1, x2, .int .i64 K, .int .i64 S, .int .i64 P, .int .i64 O, .int .i8 Z, x8, .slice WA nW cW, .slice BA nB cB, x11, x12, x13, x14, x15, x16, x17, x18] 30)) = w0 at hTN hTB hBw hz0 ⊢
  have TB := Lib.hid hTB
  have TN := Lib.hid hTN
  have HBW := Lib.hid hBw
  obtain ⟨t0, t1, t2⟩ := hTB
  clear hTN hBw
  go_wp2_with (go_at_call 5; refine (known11 _).mono ?_; rintro e w9 ⟨rfl, hb⟩; replace HBW := Lib.hid (HBW.out.trans (hb.mono HBW.out.size)); clear hb)
  go_ret
  exact ⟨rfl, HBW.out⟩
set_option maxHeartbeats 8000000 in
theorem walk_err {w : World} (H W C : Int) (x0 x1 x2 x8 x11 x12 x13 x14 x15 x16 x17 x18 : Value) (K S P O Z : Int) (WA BA : Option Addr) (nW cW nB cB : Nat) (M Wd : Int) (AD : Option Addr) (n cD : Nat) (hn1 : n ≤ 4096) (er : Int) (he : slideE H W C K S P 1 = er) (h0 : er ≠ 0) : Calls Try.prog 3 #[.agg #[.int .i64 H, .int .i64 W, .int .i64 C], .agg #[x0, x1, x2, .int .i64 K, .int .i64 S, .int .i64 P, .int .i64 O, .int .i8 Z, x8, .slice WA nW cW, .slice BA nB cB, x11, x12, x13, x14, x15, x16, x17, x18], .int .i64 M, .int .i64 Wd, .slice AD n cD] w fun e w' => e = .returned (.bool true) ∧ Below w.heap.size w w' := by
  have kn : ¬ (n : Int) > 4096 := by omega
  have hv : slideS H W C K S P 1 = #[.int .i64 0, .int .i64 0, .int .i64 0] := by
    unfold slideS; rw [he, if_neg h0]
  have HE := Lib.hid he
  have HV := Lib.hid hv
  have HH0 := Lib.hid h0
  have hbn : (er != 0) = true := by simpa using h0
  clear he hv
  go_enter Try.func3, Try.ntmps3
  go_upto_region 1 with fail
  have hTB := (shapeNew H W C 23 w).below (B' := w.heap.size + 1) (by omega) ((Below.refl _ _).alloc (by simp) (.cells #[x0, x1, x2, .int .i64 K, .int .i64 S, .int .i64 P, .int .i64 O, .int .i8 Z, x8, .slice WA nW cW, .slice BA nB cB, x11, x12, x13, x14, x15, x16, x17, x18] 30))
  have hTN := NodeAt.new x0 x1 x2 x8 x11 x12 x13 x14 x15 x16 x17 x18 K S P O Z WA BA nW cW nB cB 30 (w.alloc (.cells #[.int .i64 H, .int .i64 W, .int .i64 C] 23))
  have hBw : Below w.heap.size w ((w.alloc (.cells #[.int .i64 H, .int .i64 W, .int .i64 C] 23)).alloc (.cells #[x0, x1, x2, .int .i64 K, .int .i64 S, .int .i64 P, .int .i64 O, .int .i8 Z, x8, .slice WA nW cW, .slice BA nB cB, x11, x12, x13, x14, x15, x16, x17, x18] 30)) := ((Below.refl _ _).alloc (Nat.le_refl _) _).alloc (by simp) _
  have hz0 : w.heap.size + 1 < ((w.alloc (.cells #[.int .i64 H, .int .i64 W, .int .i64 C] 23)).alloc (.cells #[x0, x1, x2, .int .i64 K, .int .i64 S, .int .i64 P, .int .i64 O, .int .i8 Z, x8, .slice WA nW cW, .slice BA nB cB, x11, x12, x13, x14, x15, x16, x17, x18] 30)).heap.size := by simp
  rw [World.size_alloc] at hTN
  generalize ((w.alloc (.cells #[.int .i64 H, .int .i64 W, .int .i64 C] 23)).alloc (.cells #[x0, x1, x2, .int .i64 K, .int .i64 S, .int .i64 P, .int .i64 O, .int .i8 Z, x8, .slice WA nW cW, .slice BA nB cB, x11, x12, x13, x14, x15, x16, x17, x18] 30)) = w0 at hTN hTB hBw hz0 ⊢
  have TB := Lib.hid hTB
  have TN := Lib.hid hTN
  have HBW := Lib.hid hBw
  obtain ⟨t0, t1, t2⟩ := hTB
  clear hTN hBw
  go_upto_region 4 with (first
    | (refine wpList_load_mid rfl 30 (.tmp 6) rfl (w.heap.size + 1) 0 rfl [x0, x1, x2, .int .i64 K, .int .i64 S, .int .i64 P, .int .i64 O, .int .i8 Z, x8, .slice WA nW cW, .slice BA nB cB, x11, x12, x13, x14, x15, x16, x17, x18] _ TN.out Try.underlying30 rfl (by kernel_rfl) ?_)
    | (go_at_call 6; refine (pBack_err M Wd AD n cD H W C x0 x1 x2 x8 x11 x12 x13 x14 x15 x16 x17 x18 K S P O Z WA BA nW cW nB cB er HE.out HH0.out _).mono ?_; rintro e w1 ⟨v3, rfl, ho3, hb⟩; obtain ⟨A3, c3, rfl, hc3, hm3, hrd3⟩ := Kit.own_rd ho3; have RA3 := Lib.hid hrd3; replace TB := Lib.hid (TB.out.below (by omega) hb); replace TN := Lib.hid (TN.out.below (by omega) hb); replace HBW := Lib.hid (HBW.out.trans (hb.mono HBW.out.size)); have hz1 : w.heap.size + 1 < w1.heap.size := Nat.lt_of_lt_of_le hz0 hb.size; clear hb ho3 hrd3 hc3 hm3 t0 t1 t2))
  obtain ⟨t0, t1, t2⟩ := TB.out
  have n3 := TN.out.at 3 _ rfl
  have n4 := TN.out.at 4 _ rfl
  have n5 := TN.out.at 5 _ rfl
  go_upto_region 5 with (go_at_call 7; refine (refSlide_to H W C K S P 1 er _ HE.out HV.out _).mono ?_; rintro e w2 ⟨rfl, hb⟩; replace TB := Lib.hid (TB.out.below (by omega) hb); replace TN := Lib.hid (TN.out.below (by omega) hb); replace RA3 := Lib.hid ((RA3.out.below hb).more hb.size); replace HBW := Lib.hid (HBW.out.trans (hb.mono HBW.out.size)); have hz2 : w.heap.size + 1 < w2.heap.size := Nat.lt_of_lt_of_le hz1 hb.size; clear hb t0 t1 t2 n3 n4 n5)
  have hal : Below w2.heap.size w2 (w2.alloc (.cells #[.int .i64 0, .int .i64 0, .int .i64 0] 23)) := (Below.refl _ _).alloc (Nat.le_refl _) _
  replace TB := Lib.hid (TB.out.below (by omega) hal)
  replace TN := Lib.hid (TN.out.below (by omega) hal)
  replace RA3 := Lib.hid ((RA3.out.below hal).more hal.size)
  replace HBW := Lib.hid (HBW.out.trans (hal.mono HBW.out.size))
  obtain ⟨m0, m1, m2⟩ : (w2.alloc (.cells #[.int .i64 0, .int .i64 0, .int .i64 0] 23)).cell? ⟨w2.heap.size, 0, none⟩ = _ ∧ (w2.alloc (.cells #[.int .i64 0, .int .i64 0, .int .i64 0] 23)).cell? ⟨w2.heap.size, 1, none⟩ = _ ∧ (w2.alloc (.cells #[.int .i64 0, .int .i64 0, .int .i64 0] 23)).cell? ⟨w2.heap.size, 2, none⟩ = _ := ⟨Kit.new_cell _ _ _ _, Kit.new_cell _ _ _ _, Kit.new_cell _ _ _ _⟩
  have hz4 : w2.heap.size < (w2.alloc (.cells #[.int .i64 0, .int .i64 0, .int .i64 0] 23)).heap.size := by simp
  clear hal
  generalize (w2.alloc (.cells #[.int .i64 0, .int .i64 0, .int .i64 0] 23)) = w4 at TB TN RA3 HBW m0 m1 m2 hz4 ⊢
  generalize w2.heap.size = g8 at m0 m1 m2 hz2 hz4 ⊢
  go_wp2_with (go_at_call 5; refine (known11 _).mono ?_; rintro e w9 ⟨rfl, hb⟩; replace HBW := Lib.hid (HBW.out.trans (hb.mono HBW.out.size)); clear hb)
  go_ret
  exact ⟨rfl, HBW.out⟩
set_option maxHeartbeats 8000000 in
theorem walk_bad1 {w : World} (H W C : Int) (x0 x1 x2 x8 x11 x12 x13 x14 x15 x16 x17 x18 : Value) (K S P O Z : Int) (WA BA : Option Addr) (nW cW nB cB : Nat) (M Wd : Int) (AD : Option Addr) (n cD : Nat) (hn1 : n ≤ 4096) (he : slideE H W C K S P 1 = 0) (a b kk d k2 wd N1 : Nat) (ha : stepsM H K S P = (a : Int)) (hb : stepsM W K S P = (b : Int)) (hk : K = (kk : Int)) (hd : C = (d : Int)) (hk2 : kk * kk = k2) (hwd : k2 * d = wd) (hN1 : a * b = N1) (c1 : ¬ M = (N1 : Int)) : Calls Try.prog 3 #[.agg #[.int .i64 H, .int .i64 W, .int .i64 C], .agg #[x0, x1, x2, .int .i64 K, .int .i64 S, .int .i64 P, .int .i64 O, .int .i8 Z, x8, .slice WA nW cW, .slice BA nB cB, x11, x12, x13, x14, x15, x16, x17, x18], .int .i64 M, .int .i64 Wd, .slice AD n cD] w fun e w' => e = .returned (.bool true) ∧ Below w.heap.size w w' := by
  obtain ⟨hs0, har1, har2, -, -, hsr⟩ := slide_ok he
  obtain ⟨g1, g2, g3, g4, g5, g6, g7⟩ := shapeB_yes hs0
  obtain ⟨q1, q2, q3, q4, q5, q6, q7⟩ := shapeB_yes hsr
  obtain ⟨-, -, k1, k5, st1, st4, pd0, pd4, -⟩ := argsB_yes har1
  have hv : slideS H W C K S P 1 = #[.int .i64 (a : Int), .int .i64 (b : Int), .int .i64 1] := by
    unfold slideS; rw [he, if_pos rfl, ha, hb]
  have hEL : elemsZ (a : Int) (b : Int) 1 = (N1 : Int) := by
    rw [← ha, ← hb, elemsZ_yes hsr, ha, hb, ← hN1]; simp
  have ha16 : a ≤ 16 := by omega
  have hb16 : b ≤ 16 := by omega
  have hN1b : N1 ≤ 256 := by rw [← hN1]; exact Nat.le_trans (Nat.mul_le_mul ha16 hb16) (by omega)
  have hkk5 : kk ≤ 5 := by omega
  have hk25 : k2 ≤ 25 := by rw [← hk2]; exact Nat.le_trans (Nat.mul_le_mul hkk5 hkk5) (by omega)
  have hd1 : d ≤ 1024 := by omega
  have hwdb : wd ≤ 25600 := by rw [← hwd]; exact Nat.le_trans (Nat.mul_le_mul hk25 hd1) (by omega)
  have hm2 : IntKind.i64.wrap (K * K) = (k2 : Int) := by rw [hk, ← Int.natCast_mul, hk2]; exact IntWalk.i64_in _ (by omega)
  have hm3 : IntKind.i64.wrap ((k2 : Int) * C) = (wd : Int) := by rw [hd, ← Int.natCast_mul, hwd]; exact IntWalk.i64_in _ (by omega)
  have hNb : N1 * wd ≤ 6553600 := Nat.le_trans (Nat.mul_le_mul hN1b hwdb) (by omega)
  have hE1 : elemsZ H W C = ((elemsZ H W C).toNat : Int) := by have := elemsZ_bd H W C; omega
  have hE2 : (elemsZ H W C).toNat ≤ 1024 := by have := elemsZ_bd H W C; omega
  have kn : ¬ (n : Int) > 4096 := by omega
  have HNO : Hid (¬ (M = (N1 : Int) ∧ Wd = (wd : Int) ∧ n = N1 * wd)) := Lib.hid (fun h => c1 h.1)
  have u1 : (M != (N1 : Int)) = true := by simpa using c1
  have u2 : ¬ M = (N1 : Int) := c1
  have HE := Lib.hid he
  have HV := Lib.hid hv
  have HEL := Lib.hid hEL
  have HA := Lib.hid ha
  have HB := Lib.hid hb
  have HK := Lib.hid hk
  have HD := Lib.hid hd
  have HK2 := Lib.hid hk2
  have HWD := Lib.hid hwd
  have HN1 := Lib.hid hN1
  clear he hv hEL ha hb hk hd hk2 hwd hN1 hs0 har1 har2 hsr g7 q7 hNb hE1 hE2 c1
  go_enter Try.func3, Try.ntmps3
  go_upto_region 1 with fail
  have hTB := (shapeNew H W C 23 w).below (B' := w.heap.size + 1) (by omega) ((Below.refl _ _).alloc (by simp) (.cells #[x0, x1, x2, .int .i64 K, .int .i64 S, .int .i64 P, .int .i64 O, .int .i8 Z, x8, .slice WA nW cW, .slice BA nB cB, x11, x12, x13, x14, x15, x16, x17, x18] 30))
  have hTN := NodeAt.new x0 x1 x2 x8 x11 x12 x13 x14 x15 x16 x17 x18 K S P O Z WA BA nW cW nB cB 30 (w.alloc (.cells #[.int .i64 H, .int .i64 W, .int .i64 C] 23))
  have hBw : Below w.heap.size w ((w.alloc (.cells #[.int .i64 H, .int .i64 W, .int .i64 C] 23)).alloc (.cells #[x0, x1, x2, .int .i64 K, .int .i64 S, .int .i64 P, .int .i64 O, .int .i8 Z, x8, .slice WA nW cW, .slice BA nB cB, x11, x12, x13, x14, x15, x16, x17, x18] 30)) := ((Below.refl _ _).alloc (Nat.le_refl _) _).alloc (by simp) _
  have hz0 : w.heap.size + 1 < ((w.alloc (.cells #[.int .i64 H, .int .i64 W, .int .i64 C] 23)).alloc (.cells #[x0, x1, x2, .int .i64 K, .int .i64 S, .int .i64 P, .int .i64 O, .int .i8 Z, x8, .slice WA nW cW, .slice BA nB cB, x11, x12, x13, x14, x15, x16, x17, x18] 30)).heap.size := by simp
  rw [World.size_alloc] at hTN
  generalize ((w.alloc (.cells #[.int .i64 H, .int .i64 W, .int .i64 C] 23)).alloc (.cells #[x0, x1, x2, .int .i64 K, .int .i64 S, .int .i64 P, .int .i64 O, .int .i8 Z, x8, .slice WA nW cW, .slice BA nB cB, x11, x12, x13, x14, x15, x16, x17, x18] 30)) = w0 at hTN hTB hBw hz0 ⊢
  have TB := Lib.hid hTB
  have TN := Lib.hid hTN
  have HBW := Lib.hid hBw
  obtain ⟨t0, t1, t2⟩ := hTB
  clear hTN hBw
  go_upto_region 4 with (first
    | (refine wpList_load_mid rfl 30 (.tmp 6) rfl (w.heap.size + 1) 0 rfl [x0, x1, x2, .int .i64 K, .int .i64 S, .int .i64 P, .int .i64 O, .int .i8 Z, x8, .slice WA nW cW, .slice BA nB cB, x11, x12, x13, x14, x15, x16, x17, x18] _ TN.out Try.underlying30 rfl (by kernel_rfl) ?_)
    | (go_at_call 6; refine (pBack_bad _ _ AD n cD H W C x0 x1 x2 x8 x11 x12 x13 x14 x15 x16 x17 x18 K S P O Z WA BA nW cW nB cB HE.out a b kk d k2 wd N1 HA.out HB.out HK.out HD.out HK2.out HWD.out HN1.out HNO.out _).mono ?_; rintro e w1 ⟨v3, rfl, ho3, hb⟩; obtain ⟨A3, c3, rfl, hc3, hm3, hrd3⟩ := Kit.own_rd ho3; have RA3 := Lib.hid hrd3; replace TB := Lib.hid (TB.out.below (by omega) hb); replace TN := Lib.hid (TN.out.below (by omega) hb); replace HBW := Lib.hid (HBW.out.trans (hb.mono HBW.out.size)); have hz1 : w.heap.size + 1 < w1.heap.size := Nat.lt_of_lt_of_le hz0 hb.size; clear hb ho3 hrd3 hc3 hm3 t0 t1 t2))
  obtain ⟨t0, t1, t2⟩ := TB.out
  have n3 := TN.out.at 3 _ rfl
  have n4 := TN.out.at 4 _ rfl
  have n5 := TN.out.at 5 _ rfl
  go_upto_region 5 with (go_at_call 7; refine (refSlide_to H W C K S P 1 0 _ HE.out HV.out _).mono ?_; rintro e w2 ⟨rfl, hb⟩; replace TB := Lib.hid (TB.out.below (by omega) hb); replace TN := Lib.hid (TN.out.below (by omega) hb); replace RA3 := Lib.hid ((RA3.out.below hb).more hb.size); replace HBW := Lib.hid (HBW.out.trans (hb.mono HBW.out.size)); have hz2 : w.heap.size + 1 < w2.heap.size := Nat.lt_of_lt_of_le hz1 hb.size; clear hb t0 t1 t2 n3 n4 n5)
  have hal : Below w2.heap.size w2 (w2.alloc (.cells #[.int .i64 (a : Int), .int .i64 (b : Int), .int .i64 1] 23)) := (Below.refl _ _).alloc (Nat.le_refl _) _
  replace TB := Lib.hid (TB.out.below (by omega) hal)
  replace TN := Lib.hid (TN.out.below (by omega) hal)
  replace RA3 := Lib.hid ((RA3.out.below hal).more hal.size)
  replace HBW := Lib.hid (HBW.out.trans (hal.mono HBW.out.size))
  obtain ⟨m0, m1, m2⟩ : (w2.alloc (.cells #[.int .i64 (a : Int), .int .i64 (b : Int), .int .i64 1] 23)).cell? ⟨w2.heap.size, 0, none⟩ = _ ∧ (w2.alloc (.cells #[.int .i64 (a : Int), .int .i64 (b : Int), .int .i64 1] 23)).cell? ⟨w2.heap.size, 1, none⟩ = _ ∧ (w2.alloc (.cells #[.int .i64 (a : Int), .int .i64 (b : Int), .int .i64 1] 23)).cell? ⟨w2.heap.size, 2, none⟩ = _ := ⟨Kit.new_cell _ _ _ _, Kit.new_cell _ _ _ _, Kit.new_cell _ _ _ _⟩
  have hz4 : w2.heap.size < (w2.alloc (.cells #[.int .i64 (a : Int), .int .i64 (b : Int), .int .i64 1] 23)).heap.size := by simp
  clear hal
  generalize (w2.alloc (.cells #[.int .i64 (a : Int), .int .i64 (b : Int), .int .i64 1] 23)) = w4 at TB TN RA3 HBW m0 m1 m2 hz4 ⊢
  generalize w2.heap.size = g8 at m0 m1 m2 hz2 hz4 ⊢
  clear HNO
  go_wp2_with (first
    | (go_at_call 8; refine (refElems_to (a : Int) (b : Int) 1 (N1 : Int) HEL.out _).mono ?_; rintro e w5 ⟨rfl, hb⟩; replace TB := Lib.hid (TB.out.below (by omega) hb); replace TN := Lib.hid (TN.out.below (by omega) hb); replace RA3 := Lib.hid ((RA3.out.below hb).more hb.size); replace HBW := Lib.hid (HBW.out.trans (hb.mono HBW.out.size)); obtain ⟨t0, t1, t2⟩ := TB.out; have n3 := TN.out.at 3 _ rfl; have n4 := TN.out.at 4 _ rfl; have n5 := TN.out.at 5 _ rfl; clear hb m0 m1 m2)
    | (go_at_call 5; refine (known11 _).mono ?_; rintro e w9 ⟨rfl, hb⟩; replace HBW := Lib.hid (HBW.out.trans (hb.mono HBW.out.size)); clear hb))
  go_ret
  exact ⟨rfl, HBW.out⟩
set_option maxHeartbeats 8000000 in
theorem walk_bad2 {w : World} (H W C : Int) (x0 x1 x2 x8 x11 x12 x13 x14 x15 x16 x17 x18 : Value) (K S P O Z : Int) (WA BA : Option Addr) (nW cW nB cB : Nat) (M Wd : Int) (AD : Option Addr) (n cD : Nat) (hn1 : n ≤ 4096) (he : slideE H W C K S P 1 = 0) (a b kk d k2 wd N1 : Nat) (ha : stepsM H K S P = (a : Int)) (hb : stepsM W K S P = (b : Int)) (hk : K = (kk : Int)) (hd : C = (d : Int)) (hk2 : kk * kk = k2) (hwd : k2 * d = wd) (hN1 : a * b = N1) (d1 : M = (N1 : Int)) (c1 : ¬ Wd = (wd : Int)) : Calls Try.prog 3 #[.agg #[.int .i64 H, .int .i64 W, .int .i64 C], .agg #[x0, x1, x2, .int .i64 K, .int .i64 S, .int .i64 P, .int .i64 O, .int .i8 Z, x8, .slice WA nW cW, .slice BA nB cB, x11, x12, x13, x14, x15, x16, x17, x18], .int .i64 M, .int .i64 Wd, .slice AD n cD] w fun e w' => e = .returned (.bool true) ∧ Below w.heap.size w w' := by
  obtain ⟨hs0, har1, har2, -, -, hsr⟩ := slide_ok he
  obtain ⟨g1, g2, g3, g4, g5, g6, g7⟩ := shapeB_yes hs0
  obtain ⟨q1, q2, q3, q4, q5, q6, q7⟩ := shapeB_yes hsr
  obtain ⟨-, -, k1, k5, st1, st4, pd0, pd4, -⟩ := argsB_yes har1
  have hv : slideS H W C K S P 1 = #[.int .i64 (a : Int), .int .i64 (b : Int), .int .i64 1] := by
    unfold slideS; rw [he, if_pos rfl, ha, hb]
  have hEL : elemsZ (a : Int) (b : Int) 1 = (N1 : Int) := by
    rw [← ha, ← hb, elemsZ_yes hsr, ha, hb, ← hN1]; simp
  have ha16 : a ≤ 16 := by omega
  have hb16 : b ≤ 16 := by omega
  have hN1b : N1 ≤ 256 := by rw [← hN1]; exact Nat.le_trans (Nat.mul_le_mul ha16 hb16) (by omega)
  have hkk5 : kk ≤ 5 := by omega
  have hk25 : k2 ≤ 25 := by rw [← hk2]; exact Nat.le_trans (Nat.mul_le_mul hkk5 hkk5) (by omega)
  have hd1 : d ≤ 1024 := by omega
  have hwdb : wd ≤ 25600 := by rw [← hwd]; exact Nat.le_trans (Nat.mul_le_mul hk25 hd1) (by omega)
  have hm2 : IntKind.i64.wrap (K * K) = (k2 : Int) := by rw [hk, ← Int.natCast_mul, hk2]; exact IntWalk.i64_in _ (by omega)
  have hm3 : IntKind.i64.wrap ((k2 : Int) * C) = (wd : Int) := by rw [hd, ← Int.natCast_mul, hwd]; exact IntWalk.i64_in _ (by omega)
  have hNb : N1 * wd ≤ 6553600 := Nat.le_trans (Nat.mul_le_mul hN1b hwdb) (by omega)
  have hE1 : elemsZ H W C = ((elemsZ H W C).toNat : Int) := by have := elemsZ_bd H W C; omega
  have hE2 : (elemsZ H W C).toNat ≤ 1024 := by have := elemsZ_bd H W C; omega
  have kn : ¬ (n : Int) > 4096 := by omega
  have HNO : Hid (¬ (M = (N1 : Int) ∧ Wd = (wd : Int) ∧ n = N1 * wd)) := Lib.hid (fun h => c1 h.2.1)
  have u1 : (Wd != (wd : Int)) = true := by simpa using c1
  have u2 : ¬ Wd = (wd : Int) := c1
  subst d1
  have HE := Lib.hid he
  have HV := Lib.hid hv
  have HEL := Lib.hid hEL
  have HA := Lib.hid ha
  have HB := Lib.hid hb
  have HK := Lib.hid hk
  have HD := Lib.hid hd
  have HK2 := Lib.hid hk2
  have HWD := Lib.hid hwd
  have HN1 := Lib.hid hN1
  clear he hv hEL ha hb hk hd hk2 hwd hN1 hs0 har1 har2 hsr g7 q7 hNb hE1 hE2 c1
  go_enter Try.func3, Try.ntmps3
  go_upto_region 1 with fail
  have hTB := (shapeNew H W C 23 w).below (B' := w.heap.size + 1) (by omega) ((Below.refl _ _).alloc (by simp) (.cells #[x0, x1, x2, .int .i64 K, .int .i64 S, .int .i64 P, .int .i64 O, .int .i8 Z, x8, .slice WA nW cW, .slice BA nB cB, x11, x12, x13, x14, x15, x16, x17, x18] 30))
  have hTN := NodeAt.new x0 x1 x2 x8 x11 x12 x13 x14 x15 x16 x17 x18 K S P O Z WA BA nW cW nB cB 30 (w.alloc (.cells #[.int .i64 H, .int .i64 W, .int .i64 C] 23))
  have hBw : Below w.heap.size w ((w.alloc (.cells #[.int .i64 H, .int .i64 W, .int .i64 C] 23)).alloc (.cells #[x0, x1, x2, .int .i64 K, .int .i64 S, .int .i64 P, .int .i64 O, .int .i8 Z, x8, .slice WA nW cW, .slice BA nB cB, x11, x12, x13, x14, x15, x16, x17, x18] 30)) := ((Below.refl _ _).alloc (Nat.le_refl _) _).alloc (by simp) _
  have hz0 : w.heap.size + 1 < ((w.alloc (.cells #[.int .i64 H, .int .i64 W, .int .i64 C] 23)).alloc (.cells #[x0, x1, x2, .int .i64 K, .int .i64 S, .int .i64 P, .int .i64 O, .int .i8 Z, x8, .slice WA nW cW, .slice BA nB cB, x11, x12, x13, x14, x15, x16, x17, x18] 30)).heap.size := by simp
  rw [World.size_alloc] at hTN
  generalize ((w.alloc (.cells #[.int .i64 H, .int .i64 W, .int .i64 C] 23)).alloc (.cells #[x0, x1, x2, .int .i64 K, .int .i64 S, .int .i64 P, .int .i64 O, .int .i8 Z, x8, .slice WA nW cW, .slice BA nB cB, x11, x12, x13, x14, x15, x16, x17, x18] 30)) = w0 at hTN hTB hBw hz0 ⊢
  have TB := Lib.hid hTB
  have TN := Lib.hid hTN
  have HBW := Lib.hid hBw
  obtain ⟨t0, t1, t2⟩ := hTB
  clear hTN hBw
  go_upto_region 4 with (first
    | (refine wpList_load_mid rfl 30 (.tmp 6) rfl (w.heap.size + 1) 0 rfl [x0, x1, x2, .int .i64 K, .int .i64 S, .int .i64 P, .int .i64 O, .int .i8 Z, x8, .slice WA nW cW, .slice BA nB cB, x11, x12, x13, x14, x15, x16, x17, x18] _ TN.out Try.underlying30 rfl (by kernel_rfl) ?_)
    | (go_at_call 6; refine (pBack_bad _ _ AD n cD H W C x0 x1 x2 x8 x11 x12 x13 x14 x15 x16 x17 x18 K S P O Z WA BA nW cW nB cB HE.out a b kk d k2 wd N1 HA.out HB.out HK.out HD.out HK2.out HWD.out HN1.out HNO.out _).mono ?_; rintro e w1 ⟨v3, rfl, ho3, hb⟩; obtain ⟨A3, c3, rfl, hc3, hm3, hrd3⟩ := Kit.own_rd ho3; have RA3 := Lib.hid hrd3; replace TB := Lib.hid (TB.out.below (by omega) hb); replace TN := Lib.hid (TN.out.below (by omega) hb); replace HBW := Lib.hid (HBW.out.trans (hb.mono HBW.out.size)); have hz1 : w.heap.size + 1 < w1.heap.size := Nat.lt_of_lt_of_le hz0 hb.size; clear hb ho3 hrd3 hc3 hm3 t0 t1 t2))
  obtain ⟨t0, t1, t2⟩ := TB.out
  have n3 := TN.out.at 3 _ rfl
  have n4 := TN.out.at 4 _ rfl
  have n5 := TN.out.at 5 _ rfl
  go_upto_region 5 with (go_at_call 7; refine (refSlide_to H W C K S P 1 0 _ HE.out HV.out _).mono ?_; rintro e w2 ⟨rfl, hb⟩; replace TB := Lib.hid (TB.out.below (by omega) hb); replace TN := Lib.hid (TN.out.below (by omega) hb); replace RA3 := Lib.hid ((RA3.out.below hb).more hb.size); replace HBW := Lib.hid (HBW.out.trans (hb.mono HBW.out.size)); have hz2 : w.heap.size + 1 < w2.heap.size := Nat.lt_of_lt_of_le hz1 hb.size; clear hb t0 t1 t2 n3 n4 n5)
  have hal : Below w2.heap.size w2 (w2.alloc (.cells #[.int .i64 (a : Int), .int .i64 (b : Int), .int .i64 1] 23)) := (Below.refl _ _).alloc (Nat.le_refl _) _
  replace TB := Lib.hid (TB.out.below (by omega) hal)
  replace TN := Lib.hid (TN.out.below (by omega) hal)
  replace RA3 := Lib.hid ((RA3.out.below hal).more hal.size)
  replace HBW := Lib.hid (HBW.out.trans (hal.mono HBW.out.size))
  obtain ⟨m0, m1, m2⟩ : (w2.alloc (.cells #[.int .i64 (a : Int), .int .i64 (b : Int), .int .i64 1] 23)).cell? ⟨w2.heap.size, 0, none⟩ = _ ∧ (w2.alloc (.cells #[.int .i64 (a : Int), .int .i64 (b : Int), .int .i64 1] 23)).cell? ⟨w2.heap.size, 1, none⟩ = _ ∧ (w2.alloc (.cells #[.int .i64 (a : Int), .int .i64 (b : Int), .int .i64 1] 23)).cell? ⟨w2.heap.size, 2, none⟩ = _ := ⟨Kit.new_cell _ _ _ _, Kit.new_cell _ _ _ _, Kit.new_cell _ _ _ _⟩
  have hz4 : w2.heap.size < (w2.alloc (.cells #[.int .i64 (a : Int), .int .i64 (b : Int), .int .i64 1] 23)).heap.size := by simp
  clear hal
  generalize (w2.alloc (.cells #[.int .i64 (a : Int), .int .i64 (b : Int), .int .i64 1] 23)) = w4 at TB TN RA3 HBW m0 m1 m2 hz4 ⊢
  generalize w2.heap.size = g8 at m0 m1 m2 hz2 hz4 ⊢
  clear HNO
  go_wp2_with (first
    | (go_at_call 8; refine (refElems_to (a : Int) (b : Int) 1 (N1 : Int) HEL.out _).mono ?_; rintro e w5 ⟨rfl, hb⟩; replace TB := Lib.hid (TB.out.below (by omega) hb); replace TN := Lib.hid (TN.out.below (by omega) hb); replace RA3 := Lib.hid ((RA3.out.below hb).more hb.size); replace HBW := Lib.hid (HBW.out.trans (hb.mono HBW.out.size)); obtain ⟨t0, t1, t2⟩ := TB.out; have n3 := TN.out.at 3 _ rfl; have n4 := TN.out.at 4 _ rfl; have n5 := TN.out.at 5 _ rfl; clear hb m0 m1 m2)
    | (go_at_call 5; refine (known11 _).mono ?_; rintro e w9 ⟨rfl, hb⟩; replace HBW := Lib.hid (HBW.out.trans (hb.mono HBW.out.size)); clear hb))
  go_ret
  exact ⟨rfl, HBW.out⟩
set_option maxHeartbeats 8000000 in
theorem walk_bad3 {w : World} (H W C : Int) (x0 x1 x2 x8 x11 x12 x13 x14 x15 x16 x17 x18 : Value) (K S P O Z : Int) (WA BA : Option Addr) (nW cW nB cB : Nat) (M Wd : Int) (AD : Option Addr) (n cD : Nat) (hn1 : n ≤ 4096) (he : slideE H W C K S P 1 = 0) (a b kk d k2 wd N1 : Nat) (ha : stepsM H K S P = (a : Int)) (hb : stepsM W K S P = (b : Int)) (hk : K = (kk : Int)) (hd : C = (d : Int)) (hk2 : kk * kk = k2) (hwd : k2 * d = wd) (hN1 : a * b = N1) (d1 : M = (N1 : Int)) (d2 : Wd = (wd : Int)) (c1 : ¬ n = N1 * wd) : Calls Try.prog 3 #[.agg #[.int .i64 H, .int .i64 W, .int .i64 C], .agg #[x0, x1, x2, .int .i64 K, .int .i64 S, .int .i64 P, .int .i64 O, .int .i8 Z, x8, .slice WA nW cW, .slice BA nB cB, x11, x12, x13, x14, x15, x16, x17, x18], .int .i64 M, .int .i64 Wd, .slice AD n cD] w fun e w' => e = .returned (.bool true) ∧ Below w.heap.size w w' := by
  obtain ⟨hs0, har1, har2, -, -, hsr⟩ := slide_ok he
  obtain ⟨g1, g2, g3, g4, g5, g6, g7⟩ := shapeB_yes hs0
  obtain ⟨q1, q2, q3, q4, q5, q6, q7⟩ := shapeB_yes hsr
  obtain ⟨-, -, k1, k5, st1, st4, pd0, pd4, -⟩ := argsB_yes har1
  have hv : slideS H W C K S P 1 = #[.int .i64 (a : Int), .int .i64 (b : Int), .int .i64 1] := by
    unfold slideS; rw [he, if_pos rfl, ha, hb]
  have hEL : elemsZ (a : Int) (b : Int) 1 = (N1 : Int) := by
    rw [← ha, ← hb, elemsZ_yes hsr, ha, hb, ← hN1]; simp
  have ha16 : a ≤ 16 := by omega
  have hb16 : b ≤ 16 := by omega
  have hN1b : N1 ≤ 256 := by rw [← hN1]; exact Nat.le_trans (Nat.mul_le_mul ha16 hb16) (by omega)
  have hkk5 : kk ≤ 5 := by omega
  have hk25 : k2 ≤ 25 := by rw [← hk2]; exact Nat.le_trans (Nat.mul_le_mul hkk5 hkk5) (by omega)
  have hd1 : d ≤ 1024 := by omega
  have hwdb : wd ≤ 25600 := by rw [← hwd]; exact Nat.le_trans (Nat.mul_le_mul hk25 hd1) (by omega)
  have hm2 : IntKind.i64.wrap (K * K) = (k2 : Int) := by rw [hk, ← Int.natCast_mul, hk2]; exact IntWalk.i64_in _ (by omega)
  have hm3 : IntKind.i64.wrap ((k2 : Int) * C) = (wd : Int) := by rw [hd, ← Int.natCast_mul, hwd]; exact IntWalk.i64_in _ (by omega)
  have hNb : N1 * wd ≤ 6553600 := Nat.le_trans (Nat.mul_le_mul hN1b hwdb) (by omega)
  have hE1 : elemsZ H W C = ((elemsZ H W C).toNat : Int) := by have := elemsZ_bd H W C; omega
  have hE2 : (elemsZ H W C).toNat ≤ 1024 := by have := elemsZ_bd H W C; omega
  have kn : ¬ (n : Int) > 4096 := by omega
  have HNO : Hid (¬ (M = (N1 : Int) ∧ Wd = (wd : Int) ∧ n = N1 * wd)) := Lib.hid (fun h => c1 h.2.2)
  have u3 : ¬ ((N1 * wd : Nat) : Int) = (n : Int) := by omega
  have u1 : (((N1 * wd : Nat) : Int) != (n : Int)) = true := by simpa using u3
  have u4 : IntKind.i64.wrap ((N1 : Int) * (wd : Int)) = ((N1 * wd : Nat) : Int) := by rw [← Int.natCast_mul]; exact IntWalk.i64_in _ (by omega)
  generalize ((N1 * wd : Nat) : Int) = NN at u1 u3 u4
  subst d1 d2
  have HE := Lib.hid he
  have HV := Lib.hid hv
  have HEL := Lib.hid hEL
  have HA := Lib.hid ha
  have HB := Lib.hid hb
  have HK := Lib.hid hk
  have HD := Lib.hid hd
  have HK2 := Lib.hid hk2
  have HWD := Lib.hid hwd
  have HN1 := Lib.hid hN1
  clear he hv hEL ha hb hk hd hk2 hwd hN1 hs0 har1 har2 hsr g7 q7 hNb hE1 hE2 c1
  go_enter Try.func3, Try.ntmps3
  go_upto_region 1 with fail
  have hTB := (shapeNew H W C 23 w).below (B' := w.heap.size + 1) (by omega) ((Below.refl _ _).alloc (by simp) (.cells #[x0, x1, x2, .int .i64 K, .int .i64 S, .int .i64 P, .int .i64 O, .int .i8 Z, x8, .slice WA nW cW, .slice BA nB cB, x11, x12, x13, x14, x15, x16, x17, x18] 30))
  have hTN := NodeAt.new x0 x1 x2 x8 x11 x12 x13 x14 x15 x16 x17 x18 K S P O Z WA BA nW cW nB cB 30 (w.alloc (.cells #[.int .i64 H, .int .i64 W, .int .i64 C] 23))
  have hBw : Below w.heap.size w ((w.alloc (.cells #[.int .i64 H, .int .i64 W, .int .i64 C] 23)).alloc (.cells #[x0, x1, x2, .int .i64 K, .int .i64 S, .int .i64 P, .int .i64 O, .int .i8 Z, x8, .slice WA nW cW, .slice BA nB cB, x11, x12, x13, x14, x15, x16, x17, x18] 30)) := ((Below.refl _ _).alloc (Nat.le_refl _) _).alloc (by simp) _
  have hz0 : w.heap.size + 1 < ((w.alloc (.cells #[.int .i64 H, .int .i64 W, .int .i64 C] 23)).alloc (.cells #[x0, x1, x2, .int .i64 K, .int .i64 S, .int .i64 P, .int .i64 O, .int .i8 Z, x8, .slice WA nW cW, .slice BA nB cB, x11, x12, x13, x14, x15, x16, x17, x18] 30)).heap.size := by simp
  rw [World.size_alloc] at hTN
  generalize ((w.alloc (.cells #[.int .i64 H, .int .i64 W, .int .i64 C] 23)).alloc (.cells #[x0, x1, x2, .int .i64 K, .int .i64 S, .int .i64 P, .int .i64 O, .int .i8 Z, x8, .slice WA nW cW, .slice BA nB cB, x11, x12, x13, x14, x15, x16, x17, x18] 30)) = w0 at hTN hTB hBw hz0 ⊢
  have TB := Lib.hid hTB
  have TN := Lib.hid hTN
  have HBW := Lib.hid hBw
  obtain ⟨t0, t1, t2⟩ := hTB
  clear hTN hBw
  go_upto_region 4 with (first
    | (refine wpList_load_mid rfl 30 (.tmp 6) rfl (w.heap.size + 1) 0 rfl [x0, x1, x2, .int .i64 K, .int .i64 S, .int .i64 P, .int .i64 O, .int .i8 Z, x8, .slice WA nW cW, .slice BA nB cB, x11, x12, x13, x14, x15, x16, x17, x18] _ TN.out Try.underlying30 rfl (by kernel_rfl) ?_)
    | (go_at_call 6; refine (pBack_bad _ _ AD n cD H W C x0 x1 x2 x8 x11 x12 x13 x14 x15 x16 x17 x18 K S P O Z WA BA nW cW nB cB HE.out a b kk d k2 wd N1 HA.out HB.out HK.out HD.out HK2.out HWD.out HN1.out HNO.out _).mono ?_; rintro e w1 ⟨v3, rfl, ho3, hb⟩; obtain ⟨A3, c3, rfl, hc3, hm3, hrd3⟩ := Kit.own_rd ho3; have RA3 := Lib.hid hrd3; replace TB := Lib.hid (TB.out.below (by omega) hb); replace TN := Lib.hid (TN.out.below (by omega) hb); replace HBW := Lib.hid (HBW.out.trans (hb.mono HBW.out.size)); have hz1 : w.heap.size + 1 < w1.heap.size := Nat.lt_of_lt_of_le hz0 hb.size; clear hb ho3 hrd3 hc3 hm3 t0 t1 t2))
  obtain ⟨t0, t1, t2⟩ := TB.out
  have n3 := TN.out.at 3 _ rfl
  have n4 := TN.out.at 4 _ rfl
  have n5 := TN.out.at 5 _ rfl
  go_upto_region 5 with (go_at_call 7; refine (refSlide_to H W C K S P 1 0 _ HE.out HV.out _).mono ?_; rintro e w2 ⟨rfl, hb⟩; replace TB := Lib.hid (TB.out.below (by omega) hb); replace TN := Lib.hid (TN.out.below (by omega) hb); replace RA3 := Lib.hid ((RA3.out.below hb).more hb.size); replace HBW := Lib.hid (HBW.out.trans (hb.mono HBW.out.size)); have hz2 : w.heap.size + 1 < w2.heap.size := Nat.lt_of_lt_of_le hz1 hb.size; clear hb t0 t1 t2 n3 n4 n5)
  have hal : Below w2.heap.size w2 (w2.alloc (.cells #[.int .i64 (a : Int), .int .i64 (b : Int), .int .i64 1] 23)) := (Below.refl _ _).alloc (Nat.le_refl _) _
  replace TB := Lib.hid (TB.out.below (by omega) hal)
  replace TN := Lib.hid (TN.out.below (by omega) hal)
  replace RA3 := Lib.hid ((RA3.out.below hal).more hal.size)
  replace HBW := Lib.hid (HBW.out.trans (hal.mono HBW.out.size))
  obtain ⟨m0, m1, m2⟩ : (w2.alloc (.cells #[.int .i64 (a : Int), .int .i64 (b : Int), .int .i64 1] 23)).cell? ⟨w2.heap.size, 0, none⟩ = _ ∧ (w2.alloc (.cells #[.int .i64 (a : Int), .int .i64 (b : Int), .int .i64 1] 23)).cell? ⟨w2.heap.size, 1, none⟩ = _ ∧ (w2.alloc (.cells #[.int .i64 (a : Int), .int .i64 (b : Int), .int .i64 1] 23)).cell? ⟨w2.heap.size, 2, none⟩ = _ := ⟨Kit.new_cell _ _ _ _, Kit.new_cell _ _ _ _, Kit.new_cell _ _ _ _⟩
  have hz4 : w2.heap.size < (w2.alloc (.cells #[.int .i64 (a : Int), .int .i64 (b : Int), .int .i64 1] 23)).heap.size := by simp
  clear hal
  generalize (w2.alloc (.cells #[.int .i64 (a : Int), .int .i64 (b : Int), .int .i64 1] 23)) = w4 at TB TN RA3 HBW m0 m1 m2 hz4 ⊢
  generalize w2.heap.size = g8 at m0 m1 m2 hz2 hz4 ⊢
  clear HNO
  go_wp2_with (first
    | (go_at_call 8; refine (refElems_to (a : Int) (b : Int) 1 (N1 : Int) HEL.out _).mono ?_; rintro e w5 ⟨rfl, hb⟩; replace TB := Lib.hid (TB.out.below (by omega) hb); replace TN := Lib.hid (TN.out.below (by omega) hb); replace RA3 := Lib.hid ((RA3.out.below hb).more hb.size); replace HBW := Lib.hid (HBW.out.trans (hb.mono HBW.out.size)); obtain ⟨t0, t1, t2⟩ := TB.out; have n3 := TN.out.at 3 _ rfl; have n4 := TN.out.at 4 _ rfl; have n5 := TN.out.at 5 _ rfl; clear hb m0 m1 m2)
    | (go_at_call 5; refine (known11 _).mono ?_; rintro e w9 ⟨rfl, hb⟩; replace HBW := Lib.hid (HBW.out.trans (hb.mono HBW.out.size)); clear hb))
  go_ret
  exact ⟨rfl, HBW.out⟩
set_option maxRecDepth 100000 in
set_option maxHeartbeats 8000000 in
theorem walk_yes {w : World} (H W C : Int) (x0 x1 x2 x8 x11 x12 x13 x14 x15 x16 x17 x18 : Value) (K S P O Z : Int) (WA BA : Option Addr) (nW cW nB cB : Nat) (AD : Option Addr) (N cD : Nat) (hn1 : N ≤ 4096) (he : slideE H W C K S P 1 = 0) (a b kk d k2 wd N1 : Nat) (ha : stepsM H K S P = (a : Int)) (hb : stepsM W K S P = (b : Int)) (hk : K = (kk : Int)) (hd : C = (d : Int)) (hk2 : kk * kk = k2) (hwd : k2 * d = wd) (hN1 : a * b = N1) (hN : N1 * wd = N) (xs : List Int) (hx : xs.length = N) (hxb : ∀ q, -32768 ≤ xs.getD q 0 ∧ xs.getD q 0 ≤ 32767) (hr : Kit.Rd w w.heap.size AD (I16v xs)) : Calls Try.prog 3 #[.agg #[.int .i64 H, .int .i64 W, .int .i64 C], .agg #[x0, x1, x2, .int .i64 K, .int .i64 S, .int .i64 P, .int .i64 O, .int .i8 Z, x8, .slice WA nW cW, .slice BA nB cB, x11, x12, x13, x14, x15, x16, x17, x18], .int .i64 (N1 : Int), .int .i64 (wd : Int), .slice AD N cD] w fun e w' => e = .returned (.bool true) ∧ Below w.heap.size w w' := by
  obtain ⟨hs0, har1, har2, -, -, hsr⟩ := slide_ok he
  obtain ⟨g1, g2, g3, g4, g5, g6, g7⟩ := shapeB_yes hs0
  obtain ⟨q1, q2, q3, q4, q5, q6, q7⟩ := shapeB_yes hsr
  obtain ⟨-, -, k1, k5, st1, st4, pd0, pd4, -⟩ := argsB_yes har1
  have hv : slideS H W C K S P 1 = #[.int .i64 (a : Int), .int .i64 (b : Int), .int .i64 1] := by
    unfold slideS; rw [he, if_pos rfl, ha, hb]
  have hEL : elemsZ (a : Int) (b : Int) 1 = (N1 : Int) := by
    rw [← ha, ← hb, elemsZ_yes hsr, ha, hb, ← hN1]; simp
  have ha16 : a ≤ 16 := by omega
  have hb16 : b ≤ 16 := by omega
  have hN1b : N1 ≤ 256 := by rw [← hN1]; exact Nat.le_trans (Nat.mul_le_mul ha16 hb16) (by omega)
  have hkk5 : kk ≤ 5 := by omega
  have hk25 : k2 ≤ 25 := by rw [← hk2]; exact Nat.le_trans (Nat.mul_le_mul hkk5 hkk5) (by omega)
  have hd1 : d ≤ 1024 := by omega
  have hwdb : wd ≤ 25600 := by rw [← hwd]; exact Nat.le_trans (Nat.mul_le_mul hk25 hd1) (by omega)
  have hm2 : IntKind.i64.wrap (K * K) = (k2 : Int) := by rw [hk, ← Int.natCast_mul, hk2]; exact IntWalk.i64_in _ (by omega)
  have hm3 : IntKind.i64.wrap ((k2 : Int) * C) = (wd : Int) := by rw [hd, ← Int.natCast_mul, hwd]; exact IntWalk.i64_in _ (by omega)
  have hNb : N1 * wd ≤ 6553600 := Nat.le_trans (Nat.mul_le_mul hN1b hwdb) (by omega)
  have hE1 : elemsZ H W C = ((elemsZ H W C).toNat : Int) := by have := elemsZ_bd H W C; omega
  have hE2 : (elemsZ H W C).toNat ≤ 1024 := by have := elemsZ_bd H W C; omega
  have kn : ¬ (N : Int) > 4096 := by omega
  obtain ⟨E, hE⟩ : ∃ E, (elemsZ H W C).toNat = E := ⟨_, rfl⟩
  rw [hE] at hE1 hE2
  have u4 : IntKind.i64.wrap ((N1 : Int) * (wd : Int)) = (N : Int) := by rw [← Int.natCast_mul, hN]; exact IntWalk.i64_in _ (by omega)
  have hbk : ∀ w : World, Kit.Rd w w.heap.size AD (I16v xs) → Calls Try.prog 6 #[.agg #[.int .i64 (N1 : Int), .int .i64 (wd : Int), .slice AD N cD], .agg #[.int .i64 H, .int .i64 W, .int .i64 C], .agg #[x0, x1, x2, .int .i64 K, .int .i64 S, .int .i64 P, .int .i64 O, .int .i8 Z, x8, .slice WA nW cW, .slice BA nB cB, x11, x12, x13, x14, x15, x16, x17, x18]] w (MadeS w E (listF (accF (hitF H W C S P b kk d wd) (fun t => xs.getD t 0) N) E) 0) := fun w h => by
    have := pBack_yes AD cD xs H W C x0 x1 x2 x8 x11 x12 x13 x14 x15 x16 x17 x18 K S P O Z WA BA nW cW nB cB he a b kk d k2 wd N1 ha hb hk hd hk2 hwd hN1 (by rw [hN]; exact hx) hxb E hE1 w h
    rw [hN] at this
    exact this
  have hrf : ∀ w : World, Kit.Rd w w.heap.size AD (I16v xs) → Calls Try.prog 10 #[.slice AD N cD, .agg #[.int .i64 H, .int .i64 W, .int .i64 C], .agg #[x0, x1, x2, .int .i64 K, .int .i64 S, .int .i64 P, .int .i64 O, .int .i8 Z, x8, .slice WA nW cW, .slice BA nB cB, x11, x12, x13, x14, x15, x16, x17, x18]] w (OwnedS w E (listF (accF (hitF H W C S P b kk d wd) (fun t => xs.getD t 0) N) E)) := fun w h =>
    refBack_to AD cD N xs H W C x0 x1 x2 x8 x11 x12 x13 x14 x15 x16 x17 x18 K S P O Z WA BA nW cW nB cB he a b kk d k2 wd N1 ha hb hk hd hk2 hwd hN1 hN hx hxb E hE1 w h
  obtain ⟨LL, hLL⟩ : ∃ l, listF (accF (hitF H W C S P b kk d wd) (fun t => xs.getD t 0) N) E = l := ⟨_, rfl⟩
  rw [hLL] at hbk hrf
  have hll : LL.length = E := by rw [← hLL, listF_len]
  have HBK := Lib.hid hbk
  have HRF := Lib.hid hrf
  have HLL := Lib.hid hll
  have HR := Lib.hid hr
  have HE := Lib.hid he
  have HV := Lib.hid hv
  have HEL := Lib.hid hEL
  have HE2 := Lib.hid hE2
  clear he hv hEL ha hb hk hd hk2 hwd hN1 hs0 har1 har2 hsr g7 q7 hNb hE1 hE hE2 hN hbk hrf hLL hll hr hx hxb
  go_enter Try.func3, Try.ntmps3
  go_upto_region 1 with fail
  have hTB := (shapeNew H W C 23 w).below (B' := w.heap.size + 1) (by omega) ((Below.refl _ _).alloc (by simp) (.cells #[x0, x1, x2, .int .i64 K, .int .i64 S, .int .i64 P, .int .i64 O, .int .i8 Z, x8, .slice WA nW cW, .slice BA nB cB, x11, x12, x13, x14, x15, x16, x17, x18] 30))
  have hTN := NodeAt.new x0 x1 x2 x8 x11 x12 x13 x14 x15 x16 x17 x18 K S P O Z WA BA nW cW nB cB 30 (w.alloc (.cells #[.int .i64 H, .int .i64 W, .int .i64 C] 23))
  have hBw : Below w.heap.size w ((w.alloc (.cells #[.int .i64 H, .int .i64 W, .int .i64 C] 23)).alloc (.cells #[x0, x1, x2, .int .i64 K, .int .i64 S, .int .i64 P, .int .i64 O, .int .i8 Z, x8, .slice WA nW cW, .slice BA nB cB, x11, x12, x13, x14, x15, x16, x17, x18] 30)) := ((Below.refl _ _).alloc (Nat.le_refl _) _).alloc (by simp) _
  have hz0 : w.heap.size + 1 < ((w.alloc (.cells #[.int .i64 H, .int .i64 W, .int .i64 C] 23)).alloc (.cells #[x0, x1, x2, .int .i64 K, .int .i64 S, .int .i64 P, .int .i64 O, .int .i8 Z, x8, .slice WA nW cW, .slice BA nB cB, x11, x12, x13, x14, x15, x16, x17, x18] 30)).heap.size := by simp
  rw [World.size_alloc] at hTN
  generalize ((w.alloc (.cells #[.int .i64 H, .int .i64 W, .int .i64 C] 23)).alloc (.cells #[x0, x1, x2, .int .i64 K, .int .i64 S, .int .i64 P, .int .i64 O, .int .i8 Z, x8, .slice WA nW cW, .slice BA nB cB, x11, x12, x13, x14, x15, x16, x17, x18] 30)) = w0 at hTN hTB hBw hz0 ⊢
  have TB := Lib.hid hTB
  have TN := Lib.hid hTN
  have HBW := Lib.hid hBw
  obtain ⟨t0, t1, t2⟩ := hTB
  clear hTN hBw
  have HR1 := Lib.hid ((HR.out.below HBW.out).more HBW.out.size)
  go_upto_region 4 with (first
    | (refine wpList_load_mid rfl 30 (.tmp 6) rfl (w.heap.size + 1) 0 rfl [x0, x1, x2, .int .i64 K, .int .i64 S, .int .i64 P, .int .i64 O, .int .i8 Z, x8, .slice WA nW cW, .slice BA nB cB, x11, x12, x13, x14, x15, x16, x17, x18] _ TN.out Try.underlying30 rfl (by kernel_rfl) ?_)
    | (go_at_call 6; refine (HBK.out _ HR1.out).mono ?_; rintro e w1 ⟨v3, rfl, ho3, hb⟩; obtain ⟨A3, c3, rfl, hc3, hm3, hrd3⟩ := Kit.own_rd ho3; have RA3 := Lib.hid hrd3; replace TB := Lib.hid (TB.out.below (by omega) hb); replace TN := Lib.hid (TN.out.below (by omega) hb); replace HBW := Lib.hid (HBW.out.trans (hb.mono HBW.out.size)); have hz1 : w.heap.size + 1 < w1.heap.size := Nat.lt_of_lt_of_le hz0 hb.size; clear hb ho3 hrd3 hc3 hm3 t0 t1 t2))
  obtain ⟨t0, t1, t2⟩ := TB.out
  have n3 := TN.out.at 3 _ rfl
  have n4 := TN.out.at 4 _ rfl
  have n5 := TN.out.at 5 _ rfl
  clear HR1
  go_upto_region 5 with (go_at_call 7; refine (refSlide_to H W C K S P 1 0 _ HE.out HV.out _).mono ?_; rintro e w2 ⟨rfl, hb⟩; replace TB := Lib.hid (TB.out.below (by omega) hb); replace TN := Lib.hid (TN.out.below (by omega) hb); replace RA3 := Lib.hid ((RA3.out.below hb).more hb.size); replace HBW := Lib.hid (HBW.out.trans (hb.mono HBW.out.size)); have hz2 : w.heap.size + 1 < w2.heap.size := Nat.lt_of_lt_of_le hz1 hb.size; clear hb t0 t1 t2 n3 n4 n5)
  have hal : Below w2.heap.size w2 (w2.alloc (.cells #[.int .i64 (a : Int), .int .i64 (b : Int), .int .i64 1] 23)) := (Below.refl _ _).alloc (Nat.le_refl _) _
  replace TB := Lib.hid (TB.out.below (by omega) hal)
  replace TN := Lib.hid (TN.out.below (by omega) hal)
  replace RA3 := Lib.hid ((RA3.out.below hal).more hal.size)
  replace HBW := Lib.hid (HBW.out.trans (hal.mono HBW.out.size))
  obtain ⟨m0, m1, m2⟩ : (w2.alloc (.cells #[.int .i64 (a : Int), .int .i64 (b : Int), .int .i64 1] 23)).cell? ⟨w2.heap.size, 0, none⟩ = _ ∧ (w2.alloc (.cells #[.int .i64 (a : Int), .int .i64 (b : Int), .int .i64 1] 23)).cell? ⟨w2.heap.size, 1, none⟩ = _ ∧ (w2.alloc (.cells #[.int .i64 (a : Int), .int .i64 (b : Int), .int .i64 1] 23)).cell? ⟨w2.heap.size, 2, none⟩ = _ := ⟨Kit.new_cell _ _ _ _, Kit.new_cell _ _ _ _, Kit.new_cell _ _ _ _⟩
  have hz4 : w2.heap.size < (w2.alloc (.cells #[.int .i64 (a : Int), .int .i64 (b : Int), .int .i64 1] 23)).heap.size := by simp
  clear hal
  generalize (w2.alloc (.cells #[.int .i64 (a : Int), .int .i64 (b : Int), .int .i64 1] 23)) = w4 at TB TN RA3 HBW m0 m1 m2 hz4 ⊢
  generalize w2.heap.size = g8 at m0 m1 m2 hz2 hz4 ⊢
  go_upto_region 9 with (go_at_call 8; refine (refElems_to (a : Int) (b : Int) 1 (N1 : Int) HEL.out _).mono ?_; rintro e w5 ⟨rfl, hb⟩; replace TB := Lib.hid (TB.out.below (by omega) hb); replace TN := Lib.hid (TN.out.below (by omega) hb); replace RA3 := Lib.hid ((RA3.out.below hb).more hb.size); replace HBW := Lib.hid (HBW.out.trans (hb.mono HBW.out.size)); obtain ⟨t0, t1, t2⟩ := TB.out; have n3 := TN.out.at 3 _ rfl; have n4 := TN.out.at 4 _ rfl; have n5 := TN.out.at 5 _ rfl; clear hb m0 m1 m2)
  clear n3 n4 n5
  have HR2 := Lib.hid ((HR.out.below HBW.out).more HBW.out.size)
  go_wp2_with (first
    | (refine load_mid_g (by rfl) 30 (.tmp 6) rfl (w.heap.size + 1) 0 rfl [x0, x1, x2, .int .i64 K, .int .i64 S, .int .i64 P, .int .i64 O, .int .i8 Z, x8, .slice WA nW cW, .slice BA nB cB, x11, x12, x13, x14, x15, x16, x17, x18] _ TN.out Try.underlying30 rfl (by kernel_rfl) ?_)
    | (go_at_call 10; refine (HRF.out _ HR2.out).mono ?_; rintro e w6 ⟨v6, rfl, ho6, hb⟩; obtain ⟨A6, c6, rfl, hc6, hm6, hrd6⟩ := Kit.own_rd ho6; have RA6 := Lib.hid hrd6; replace RA3 := Lib.hid ((RA3.out.below hb).more hb.size); replace HBW := Lib.hid (HBW.out.trans (hb.mono HBW.out.size)); clear hb ho6 hrd6 hc6 hm6 t0 t1 t2)
    | (go_at_call 9; refine (fsame32 A3 A6 LL E c3 E c6 HLL.out rfl (by have := HE2.out; omega) _ RA3.out RA6.out).mono ?_; rintro e w7 ⟨rfl, hb⟩; replace HBW := Lib.hid (HBW.out.trans (hb.mono HBW.out.size)); clear hb)
    | (go_at_call 5; refine (known11 _).mono ?_; rintro e w9 ⟨rfl, hb⟩; replace HBW := Lib.hid (HBW.out.trans (hb.mono HBW.out.size)); clear hb))
  go_ret
  exact ⟨rfl, HBW.out⟩
theorem walk {w : World} (H : Int) (wH : (Lit.int .i64 H).wf = true) (W : Int) (wW : (Lit.int .i64 W).wf = true) (C : Int) (wC : (Lit.int .i64 C).wf = true) (n0 n1 n2 n8 n11 n12 n13 n14 n15 n16 n17 n18 : Value) (K S P O Z : Int) (WA : Option Addr) (ws : List Int) (cW : Nat) (BA : Option Addr) (bs : List Int) (cB : Nat)
    (wz : (Lit.int .i8 Z).wf = true) (hcw : ws.length ≤ cW) (hmw : cW ≤ maxLen) (hww : ∀ n ∈ ws, (Lit.int .i8 n).wf = true) (hrw : Kit.Rd w w.heap.size WA (ws.map (.int .i8))) (hcb : bs.length ≤ cB) (hmb : cB ≤ maxLen) (hwb : ∀ n ∈ bs, (Lit.int .i32 n).wf = true) (hrb : Kit.Rd w w.heap.size BA (bs.map (.int .i32)))
    (M : Int) (wM : (Lit.int .i64 M).wf = true) (Wd : Int) (wWd : (Lit.int .i64 Wd).wf = true) (AD : Option Addr) (xs : List Int) (cD : Nat) (hcD : xs.length ≤ cD) (hmD : cD ≤ maxLen) (hwD : ∀ n ∈ xs, (Lit.int .i16 n).wf = true) (hr : Kit.Rd w w.heap.size AD (xs.map (.int .i16))) :
    Calls Try.prog 3 #[.agg #[.int .i64 H, .int .i64 W, .int .i64 C], .agg #[n0, n1, n2, .int .i64 K, .int .i64 S, .int .i64 P, .int .i64 O, .int .i8 Z, n8, .slice WA ws.length cW, .slice BA bs.length cB, n11, n12, n13, n14, n15, n16, n17, n18], .int .i64 M, .int .i64 Wd, .slice AD xs.length cD] w fun e w' => e = .returned (.bool true) ∧ Below w.heap.size w w' := by
  by_cases hf : 4096 < xs.length
  · exact walk_big H W C _ _ _ _ _ _ _ _ _ _ _ _ _ _ _ _ _ _ _ _ _ _ _ M Wd AD _ cD hf
  · by_cases he : slideE H W C K S P 1 = 0
    · obtain ⟨hs0, har1, har2, -, -, hsr⟩ := slide_ok he
      obtain ⟨g1, g2, g3, g4, g5, g6, g7⟩ := shapeB_yes hs0
      obtain ⟨q1, q2, q3, q4, q5, q6, q7⟩ := shapeB_yes hsr
      obtain ⟨-, -, k1, k5, -⟩ := argsB_yes har1
      obtain ⟨a, ha⟩ : ∃ a : Nat, stepsM H K S P = (a : Int) := ⟨(stepsM H K S P).toNat, by omega⟩
      obtain ⟨b, hb⟩ : ∃ b : Nat, stepsM W K S P = (b : Int) := ⟨(stepsM W K S P).toNat, by omega⟩
      obtain ⟨d, hd⟩ : ∃ d : Nat, C = (d : Int) := ⟨C.toNat, by omega⟩
      obtain ⟨kk, hk⟩ : ∃ kk : Nat, K = (kk : Int) := ⟨K.toNat, by omega⟩
      by_cases h1 : M = ((a * b : Nat) : Int)
      · by_cases h2 : Wd = ((kk * kk * d : Nat) : Int)
        · by_cases h3 : xs.length = a * b * (kk * kk * d)
          · subst h1 h2
            have hxb : ∀ q, -32768 ≤ xs.getD q 0 ∧ xs.getD q 0 ≤ 32767 := fun q => by
              rw [List.getD_eq_getElem?_getD]
              cases hq : xs[q]? with
              | none => simp
              | some v =>
                have hx := hwD v (List.mem_of_getElem? hq)
                have ⟨a, b⟩ : -32768 ≤ v ∧ v ≤ 32767 := by simpa [Lit.wf, IntKind.min, IntKind.max, IntKind.signed, IntKind.bits] using hx
                exact ⟨a, b⟩
            exact walk_yes H W C _ _ _ _ _ _ _ _ _ _ _ _ K S P O Z WA BA _ cW _ cB AD _ cD (by omega) he a b kk d _ _ _ ha hb hk hd rfl rfl rfl h3.symm xs rfl hxb hr
          · exact walk_bad3 H W C _ _ _ _ _ _ _ _ _ _ _ _ K S P O Z WA BA _ cW _ cB M Wd AD _ cD (by omega) he a b kk d _ _ _ ha hb hk hd rfl rfl rfl h1 h2 h3
        · exact walk_bad2 H W C _ _ _ _ _ _ _ _ _ _ _ _ K S P O Z WA BA _ cW _ cB M Wd AD _ cD (by omega) he a b kk d _ _ _ ha hb hk hd rfl rfl rfl h1 h2
      · exact walk_bad1 H W C _ _ _ _ _ _ _ _ _ _ _ _ K S P O Z WA BA _ cW _ cB M Wd AD _ cD (by omega) he a b kk d _ _ _ ha hb hk hd rfl rfl rfl h1
    · exact walk_err H W C _ _ _ _ _ _ _ _ _ _ _ _ K S P O Z WA BA _ cW _ cB M Wd AD _ cD (by omega) _ rfl he
/-! ### the frame: written by program -/
theorem own : ownKnob Try.prog.godebug = none := by kernel_rfl
theorem laid : laidOutB Try.prog = true := by kernel_rfl
theorem contract {H : Type} {enc : TypeId × Value → H} {W : World} {base : Nat} {args : Array Value} {ds gs : List (DataW H)} {before : List MemPlace}
    (hval0 : ∀ (j : Nat) t v, Try.f3.params[j]? = some t → args[j]? = some v → Value.okWide Try.prog W .any base t v)
    (hW : DataW.Whole enc Try.prog Try.f3.params.toList Rows.patchBackSpec.vars false W args.toList ds gs before) :
    Calls Try.prog 3 args W fun e W' => e = .returned (.bool true) ∧ Below W.heap.size W W' := by
  have hval : ∀ (j : Nat) t v, Try.f3.params[j]? = some t → args[j]? = some v → Value.okWide Try.prog W .any base t v := hval0
  obtain ⟨p, q, hA0, hV, rfl, hfz, hnd⟩ := hW
  have hA : DataW.TrodAll enc Try.prog W 0 (fun _ => true) true Try.f3.params.toList args.toList ds p := hA0
  rw [Try.params3] at hA hval
  obtain ⟨v0, vs0, d0, ds0, p0, q0, hargs, rfl, rfl, h0, r0⟩ := trodAll_cons hA
  obtain ⟨v1, vs1, d1, ds1, p1, q1, rfl, rfl, rfl, h1, r1⟩ := trodAll_cons r0
  obtain ⟨v2, vs2, d2, ds2, p2, q2, rfl, rfl, rfl, h2, r2⟩ := trodAll_cons r1
  obtain ⟨v3, vs3, d3, ds3, p3, q3, rfl, rfl, rfl, h3, r3⟩ := trodAll_cons r2
  obtain ⟨v4, vs4, d4, ds4, p4, q4, rfl, rfl, rfl, h4, r4⟩ := trodAll_cons r3
  obtain ⟨rfl, rfl, rfl⟩ := trodAll_nil r4
  obtain rfl : args = #[v0, v1, v2, v3, v4] := by cases args; simp_all
  clear hA0 hval0
  obtain ⟨cs0, rfl, hs0, hf0⟩ := Kit.open_flat Try.underlying23 (by kernel_rfl) (by kernel_rfl) (hval 0 23 v0 rfl rfl) h0
  obtain ⟨u0_0, u0_1, u0_2, rfl⟩ := Kit.size_3 hs0
  obtain ⟨a0_0, rfl, w0_0⟩ := Kit.flat_int Try.underlying3 (v := u0_0) rfl (hf0 0 _ rfl)
  obtain ⟨a0_1, rfl, w0_1⟩ := Kit.flat_int Try.underlying3 (v := u0_1) rfl (hf0 1 _ rfl)
  obtain ⟨a0_2, rfl, w0_2⟩ := Kit.flat_int Try.underlying3 (v := u0_2) rfl (hf0 2 _ rfl)
  obtain ⟨n1_0, n1_1, n1_2, n1_8, n1_11, n1_12, n1_13, n1_14, n1_15, n1_16, n1_17, n1_18, K1, S1, Q1, O1, Z1, WA1, ws1, cW1, BA1, bs1, cB1, rfl, wz1, hcw1, hmw1, hww1, hrw1, hcb1, hmb1, hwb1, hrb1⟩ := Kit.open_node (i := 3) (b8 := 24) (d := 25) (e := 24) (d2 := 26) (e2 := 21) Try.underlying30 (by kernel_rfl) Try.underlying3 (by kernel_rfl) Try.underlying24 (by kernel_rfl) Try.underlying25 Try.underlying24 (by kernel_rfl) (by kernel_rfl) Try.underlying26 Try.underlying21 (by kernel_rfl) (by kernel_rfl) rfl rfl rfl rfl rfl rfl rfl ⟨rfl, rfl⟩ ⟨rfl, rfl⟩ ⟨rfl, rfl⟩ ⟨rfl, rfl⟩ ⟨rfl, rfl⟩ ⟨rfl, rfl⟩ ⟨rfl, rfl⟩ (hval 1 30 v1 rfl rfl) h1
  obtain ⟨a2, rfl, rfl, rfl, w2⟩ := open_int Try.underlying3 (hval 2 3 v2 rfl rfl) h2
  obtain ⟨a3, rfl, rfl, rfl, w3⟩ := open_int Try.underlying3 (hval 3 3 v3 rfl rfl) h3
  obtain ⟨A4, z4, c4, rfl, hc4, hm4, hw4, hr4⟩ := Kit.open_islice Try.underlying31 Try.underlying51 (by kernel_rfl) (hval 4 31 v4 rfl rfl) h4
  exact walk (w := W) a0_0 w0_0 a0_1 w0_1 a0_2 w0_2 n1_0 n1_1 n1_2 n1_8 n1_11 n1_12 n1_13 n1_14 n1_15 n1_16 n1_17 n1_18 K1 S1 Q1 O1 Z1 WA1 ws1 cW1 BA1 bs1 cB1 wz1 hcw1 hmw1 hww1 hrw1 hcb1 hmb1 hwb1 hrb1 a2 w2 a3 w3 A4 z4 c4 hc4 hm4 hw4 hr4
theorem fnIs {H : Type} : ∀ ds : List (DataW H), ds.length = Try.f3.params.toList.length → Rows.patchBackSpec.fn H ds = { results := [.lit (.bool true)], args := ds } := by
  intro ds h
  rw [Try.params3] at h
  match ds, h with
  | [d1, d2, d3, d4, d5], _ => rfl
set_option maxRecDepth 100000 in
theorem lifted (os : Os) (started : os.Started) (H : Type) (enc : TypeId × Value → H) :
    ReturnsInHanded {} Try.checked os 3 .any (Rows.patchBackSpec.pre6 enc Try.prog Try.f3 Rows.patchBackRow.domain false) (Rows.patchBackSpec.post enc Try.prog Try.f3 false true false false) := by
  refine returnsInHanded_of_change (C := Try.checked) own started (by kernel_rfl) Try.func3
    (ChangeSpec.witness6 (enc := enc) (C := Try.checked) false ⟨#[], #[.agg #[.int .i64 0, .int .i64 0, .int .i64 0], .agg #[.int .i64 0, .int .i64 0, .int .i64 0, .int .i64 0, .int .i64 0, .int .i64 0, .int .i64 0, .int .i8 0, .int .i8 0, .slice none 0 0, .slice none 0 0, .int .i32 0, .int .i64 0, .int .i8 0, .int .i32 0, .int .i64 0, .int .i8 0, .int .i8 0, .int .i8 0], .int .i64 0, .int .i64 0, .slice none 0 0], []⟩ 8 (by kernel_rfl) (by kernel_rfl) (by kernel_rfl) (by kernel_rfl)) ?_
  intro W base args ds gs before hval hW _ _
  refine (contract hval hW).mono fun e W' ⟨he, hg⟩ => ?_
  subst he
  exact ⟨_, rfl, Kit.law_post (tb := 4) laid (by kernel_rfl) rfl (by kernel_rfl) Try.underlying4 fnIs hW hg⟩
theorem over : Rows.patchBackRow.holds Try.pinned (OpenSpec.ofChange Rows.patchBackSpec) :=
  OpenClaim.holds_of_wide 3 Try.f3 rfl rfl rfl rfl rfl rfl rfl ⟨rfl, rfl, rfl, rfl, rfl⟩ rfl rfl rfl rfl rfl (by kernel_rfl) Try.func3 (by kernel_rfl)
    (of_decide_eq_true (by kernel_rfl)) (by unfold Func.isWrapper; first | (rw [if_pos (by decide +kernel)]; kernel_rfl) | (rw [if_neg (by decide +kernel)]; exact ⟨rfl, rfl⟩))
    (fun os started H enc _ => lifted os started H enc)
/-- the statement. -/
theorem proved : Rows.PatchBackSaid :=
  over
end Go.Proofs.Ytbolneejjjjaeaa.lawPatchBack
