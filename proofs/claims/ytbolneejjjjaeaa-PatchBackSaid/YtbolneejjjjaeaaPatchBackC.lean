/- Layer 11 (patch): rows that are put together again (code). -/
import Derived.Test.YtbolneejjjjaeaaPatchBackV
import Derived.Deep.CutRange
namespace Go.Proofs.Ytbolneejjjjaeaa.CPatch
open Go Go.ChangeShapes Go.WideShapes Go.ChangeAt Go.RowKit
open Plain CSat CShape CTensor CConv
set_option linter.unusedVariables false

/-- sums of the call's own, handed back with an error's number. -/
def MadeS (w : World) (n : Nat) (zs : List Int) (er : Int) (e : Ending) (w' : World) : Prop :=
  ∃ v, e = .returned (.tuple #[v, .int .i64 er]) ∧ w'.ownsRow w.heap.size 21 1 v n (I32v zs) ∧ Below w.heap.size w w'
theorem results_2 {fn : Func} {a b : Tmp} (h : fn.results = #[.tmp a, .tmp b]) (tmps : Array Value) (P : Program) (w : World) : (results fn tmps).run P w = .ok (.tuple #[tmps.getD a undef, tmps.getD b undef]) w := by
  simp [results, h]
theorem rbox_new (M Wd : Int) (v : Value) (T : TypeId) (w : World) : RBox w.heap.size M Wd v (w.alloc (.cells #[.int .i64 M, .int .i64 Wd, v] T)) := ⟨Kit.new_cell _ _ _ _, Kit.new_cell _ _ _ _, Kit.new_cell _ _ _ _⟩
theorem info32 : (Try.prog.info? 21).map (fun i => (i.zero, i.size, i.bytes)) = some (some (.int .i32 0), 1, 4) := by kernel_rfl
/-- where the number at t of all rows goes. -/
def hitF (H W C S P : Int) (b kk d wd t : Nat) : Option Nat :=
  if 0 ≤ ((t / wd / b : Nat) : Int) * S - P + ((t % wd / d / kk : Nat) : Int) ∧ ((t / wd / b : Nat) : Int) * S - P + ((t % wd / d / kk : Nat) : Int) < H ∧ 0 ≤ ((t / wd % b : Nat) : Int) * S - P + ((t % wd / d % kk : Nat) : Int) ∧ ((t / wd % b : Nat) : Int) * S - P + ((t % wd / d % kk : Nat) : Int) < W then
    some (((((t / wd / b : Nat) : Int) * S - P + ((t % wd / d / kk : Nat) : Int)) * W + (((t / wd % b : Nat) : Int) * S - P + ((t % wd / d % kk : Nat) : Int))) * C + ((t % wd % d : Nat) : Int)).toNat
  else none
theorem hitF_in {H W C S P : Int} {b kk d wd k2 i q pn : Nat} {y x : Int} (hwd : k2 * d = wd) (hq : q < k2) (hy : y = ((i / b : Nat) : Int) * S - P + ((q / kk : Nat) : Int)) (hx : x = ((i % b : Nat) : Int) * S - P + ((q % kk : Nat) : Int))
    (i1 : 0 ≤ y) (i2 : y < H) (i3 : 0 ≤ x) (i4 : x < W) (hp : (y * W + x) * C = (pn : Int)) (c : Nat) (hc : c < d) : hitF H W C S P b kk d wd ((i * k2 + q) * d + c) = some (pn + c) := by
  obtain ⟨e1, e2, e3⟩ := t_parts hwd hq hc rfl
  unfold hitF
  rw [e1, e2, e3, ← hy, ← hx, if_pos ⟨i1, i2, i3, i4⟩, hp]
  congr 1
theorem hitF_out {H W C S P : Int} {b kk d wd k2 i q : Nat} {y x : Int} (hwd : k2 * d = wd) (hq : q < k2) (hy : y = ((i / b : Nat) : Int) * S - P + ((q / kk : Nat) : Int)) (hx : x = ((i % b : Nat) : Int) * S - P + ((q % kk : Nat) : Int))
    (ho : ¬ (0 ≤ y ∧ y < H ∧ 0 ≤ x ∧ x < W)) (c : Nat) (hc : c < d) : hitF H W C S P b kk d wd ((i * k2 + q) * d + c) = none := by
  obtain ⟨e1, e2, e3⟩ := t_parts hwd hq hc rfl
  unfold hitF
  rw [e1, e2, e3, ← hy, ← hx, if_neg ho]
set_option maxHeartbeats 4000000 in
theorem pBack_err (M Wd : Int) (AD : Option Addr) (n cD : Nat) (H W C : Int) (x0 x1 x2 x8 x11 x12 x13 x14 x15 x16 x17 x18 : Value) (K S P O Z : Int) (WA BA : Option Addr) (nW cW nB cB : Nat) (er : Int) (he : slideE H W C K S P 1 = er) (h0 : er ≠ 0) (w : World) : Calls Try.prog 6 #[.agg #[.int .i64 M, .int .i64 Wd, .slice AD n cD], .agg #[.int .i64 H, .int .i64 W, .int .i64 C], .agg #[x0, x1, x2, .int .i64 K, .int .i64 S, .int .i64 P, .int .i64 O, .int .i8 Z, x8, .slice WA nW cW, .slice BA nB cB, x11, x12, x13, x14, x15, x16, x17, x18]] w (MadeS w 0 [] er) := by
  have hv : slideS H W C K S P 1 = #[.int .i64 0, .int .i64 0, .int .i64 0] := by
    unfold slideS; rw [he, if_neg h0]
  have HE := Lib.hid he
  have HV := Lib.hid hv
  have hbn : (er != 0) = true := by simpa using h0
  clear he hv
  go_enter Try.func6, Try.ntmps6
  go_wp2_with (first
    | (go_at_call 14
       have hal : Below w.heap.size w (((w.alloc (.cells #[.int .i64 M, .int .i64 Wd, .slice AD n cD] 37)).alloc (.cells #[.int .i64 H, .int .i64 W, .int .i64 C] 23)).alloc (.cells #[x0, x1, x2, .int .i64 K, .int .i64 S, .int .i64 P, .int .i64 O, .int .i8 Z, x8, .slice WA nW cW, .slice BA nB cB, x11, x12, x13, x14, x15, x16, x17, x18] 30)) := (((Below.refl _ _).alloc (by first | exact Nat.le_refl _ | (simp; done) | (simp; omega)) _).alloc (by first | exact Nat.le_refl _ | (simp; done) | (simp; omega)) _).alloc (by first | exact Nat.le_refl _ | (simp; done) | (simp; omega)) _
       refine (slide_to H W C K S P 1 er _ HE.out HV.out _).mono ?_
       rintro e w1 ⟨rfl, hb⟩
       have hh : Below w.heap.size w w1 := hal.trans (hb.mono hal.size)
       have qTR0 := (rbox_new M Wd (.slice AD n cD) 37) w
       try simp only [World.size_alloc] at qTR0
       have TR0 := Lib.hid ((qTR0.below (B' := w.heap.size + 1) (by omega) ((((Below.refl _ _).alloc (by first | exact Nat.le_refl _ | (simp; done) | (simp; omega)) _).alloc (by first | exact Nat.le_refl _ | (simp; done) | (simp; omega)) _).mono (by simp))).below (by first | (simp; done) | (simp; omega)) hb)
       have yTR0 : w.heap.size < w1.heap.size := by have := hb.size; simp at this; omega
       clear qTR0
       have qTB := (shapeNew H W C 23) (w.alloc (.cells #[.int .i64 M, .int .i64 Wd, .slice AD n cD] 37))
       try simp only [World.size_alloc] at qTB
       have TB := Lib.hid ((qTB.below (B' := w.heap.size + 2) (by omega) (((Below.refl _ _).alloc (by first | exact Nat.le_refl _ | (simp; done) | (simp; omega)) _).mono (by simp))).below (by first | (simp; done) | (simp; omega)) hb)
       have yTB : w.heap.size + 1 < w1.heap.size := by have := hb.size; simp at this; omega
       clear qTB
       have qTN := (NodeAt.new x0 x1 x2 x8 x11 x12 x13 x14 x15 x16 x17 x18 K S P O Z WA BA nW cW nB cB 30) ((w.alloc (.cells #[.int .i64 M, .int .i64 Wd, .slice AD n cD] 37)).alloc (.cells #[.int .i64 H, .int .i64 W, .int .i64 C] 23))
       try simp only [World.size_alloc] at qTN
       have TN := Lib.hid (qTN.below (by first | (simp; done) | (simp; omega)) hb)
       have yTN : w.heap.size + 2 < w1.heap.size := by have := hb.size; simp at this; omega
       clear qTN
       have HBW : Hid (Below w.heap.size w w1) := Lib.hid hh
       obtain ⟨tr0p0, tr0p1, tr0p2⟩ := TR0.out
       obtain ⟨tbp0, tbp1, tbp2⟩ := TB.out
       have n3 := TN.out.at 3 _ rfl
       have n4 := TN.out.at 4 _ rfl
       have n5 := TN.out.at 5 _ rfl
       clear hb hh hal))
  refine bodyPost_ret (results_2 rfl _ _ _) rfl ?_
  exact ⟨_, rfl, World.ownsRow_nil _ _ _ _, HBW.out.alloc HBW.out.size _⟩
set_option maxHeartbeats 8000000 in
theorem pBack_bad (M Wd : Int) (AD : Option Addr) (n cD : Nat) (H W C : Int) (x0 x1 x2 x8 x11 x12 x13 x14 x15 x16 x17 x18 : Value) (K S P O Z : Int) (WA BA : Option Addr) (nW cW nB cB : Nat) (he : slideE H W C K S P 1 = 0) (a b kk d k2 wd N1 : Nat) (ha : stepsM H K S P = (a : Int)) (hb : stepsM W K S P = (b : Int)) (hk : K = (kk : Int)) (hd : C = (d : Int)) (hk2 : kk * kk = k2) (hwd : k2 * d = wd) (hN1 : a * b = N1) (hno : ¬ (M = (N1 : Int) ∧ Wd = (wd : Int) ∧ n = N1 * wd)) (w : World) : Calls Try.prog 6 #[.agg #[.int .i64 M, .int .i64 Wd, .slice AD n cD], .agg #[.int .i64 H, .int .i64 W, .int .i64 C], .agg #[x0, x1, x2, .int .i64 K, .int .i64 S, .int .i64 P, .int .i64 O, .int .i8 Z, x8, .slice WA nW cW, .slice BA nB cB, x11, x12, x13, x14, x15, x16, x17, x18]] w (MadeS w 0 [] 9) := by
  obtain ⟨hs0, har1, har2, -, -, hsr⟩ := slide_ok he
  obtain ⟨g1, g2, g3, g4, g5, g6, g7⟩ := shapeB_yes hs0
  obtain ⟨q1, q2, q3, q4, q5, q6, q7⟩ := shapeB_yes hsr
  obtain ⟨-, -, k1, k5, st1, st4, pd0, pd4, -⟩ := argsB_yes har1
  have hv : slideS H W C K S P 1 = #[.int .i64 (a : Int), .int .i64 (b : Int), .int .i64 1] := by
    unfold slideS; rw [he, if_pos rfl, ha, hb]
  have hN1b : N1 ≤ 1024 := by
    have : ((N1 : Nat) : Int) = stepsM H K S P * stepsM W K S P * 1 := by rw [ha, hb, ← hN1]; simp
    omega
  have hkk1 : 1 ≤ kk := by omega
  have hkk5 : kk ≤ 5 := by omega
  have hk25 : k2 ≤ 25 := by rw [← hk2]; exact Nat.le_trans (Nat.mul_le_mul hkk5 hkk5) (by omega)
  have hd1 : d ≤ 1024 := by omega
  have hd0 : 1 ≤ d := by omega
  have hwdb : wd ≤ 25600 := by rw [← hwd]; exact Nat.le_trans (Nat.mul_le_mul hk25 hd1) (by omega)
  have hm1 : IntKind.i64.wrap ((a : Int) * (b : Int)) = (N1 : Int) := by rw [← Int.natCast_mul, hN1]; exact IntWalk.i64_in _ (by omega)
  have hm2 : IntKind.i64.wrap (K * K) = (k2 : Int) := by rw [hk, ← Int.natCast_mul, hk2]; exact IntWalk.i64_in _ (by omega)
  have hm3 : IntKind.i64.wrap ((k2 : Int) * C) = (wd : Int) := by rw [hd, ← Int.natCast_mul, hwd]; exact IntWalk.i64_in _ (by omega)
  obtain ⟨N, hN⟩ : ∃ N, N1 * wd = N := ⟨_, rfl⟩
  have hNb : N ≤ 26214400 := by rw [← hN]; exact Nat.le_trans (Nat.mul_le_mul hN1b hwdb) (by omega)
  have m4 : IntKind.i64.wrap ((N1 : Int) * (wd : Int)) = (N : Int) := by rw [← Int.natCast_mul, hN]; exact IntWalk.i64_in _ (by omega)
  have ha1024 : a ≤ 1024 := by omega
  have hb1024 : b ≤ 1024 := by omega
  have hb0 : 0 < b := by omega
  rw [hN] at hno
  have HE := Lib.hid he
  have HV := Lib.hid hv
  have HM1 := Lib.hid hm1
  have HM2 := Lib.hid hm2
  have HM3 := Lib.hid hm3
  clear he hv hm1 hm2 hm3 hs0 har1 har2 hsr g7 q1 q2 q3 q4 q5 q6 q7 ha hb hk hd hk2 hwd hN1 hN
  have hcs : M ≠ (N1 : Int) ∨ (M = (N1 : Int) ∧ Wd ≠ (wd : Int)) ∨ (M = (N1 : Int) ∧ Wd = (wd : Int) ∧ (n : Int) ≠ (N : Int)) := by omega
  clear hno
  rcases hcs with c1' | ⟨d1, c1'⟩ | ⟨d1, d2, c1'⟩
  · have u1 : (M != (N1 : Int)) = true := by simpa using c1'
    have u2 : decide (M = (N1 : Int)) = false := by simpa using c1'
    have u3 : (M == (N1 : Int)) = false := by simpa using c1'
    go_enter Try.func6, Try.ntmps6
    go_upto_region 5 with (first
    | (go_at_call 14
       have hal : Below w.heap.size w (((w.alloc (.cells #[.int .i64 M, .int .i64 Wd, .slice AD n cD] 37)).alloc (.cells #[.int .i64 H, .int .i64 W, .int .i64 C] 23)).alloc (.cells #[x0, x1, x2, .int .i64 K, .int .i64 S, .int .i64 P, .int .i64 O, .int .i8 Z, x8, .slice WA nW cW, .slice BA nB cB, x11, x12, x13, x14, x15, x16, x17, x18] 30)) := (((Below.refl _ _).alloc (by first | exact Nat.le_refl _ | (simp; done) | (simp; omega)) _).alloc (by first | exact Nat.le_refl _ | (simp; done) | (simp; omega)) _).alloc (by first | exact Nat.le_refl _ | (simp; done) | (simp; omega)) _
       refine (slide_to H W C K S P 1 0 _ HE.out HV.out _).mono ?_
       rintro e w1 ⟨rfl, hb⟩
       have hh : Below w.heap.size w w1 := hal.trans (hb.mono hal.size)
       have qTR0 := (rbox_new M Wd (.slice AD n cD) 37) w
       try simp only [World.size_alloc] at qTR0
       have TR0 := Lib.hid ((qTR0.below (B' := w.heap.size + 1) (by omega) ((((Below.refl _ _).alloc (by first | exact Nat.le_refl _ | (simp; done) | (simp; omega)) _).alloc (by first | exact Nat.le_refl _ | (simp; done) | (simp; omega)) _).mono (by simp))).below (by first | (simp; done) | (simp; omega)) hb)
       have yTR0 : w.heap.size < w1.heap.size := by have := hb.size; simp at this; omega
       clear qTR0
       have qTB := (shapeNew H W C 23) (w.alloc (.cells #[.int .i64 M, .int .i64 Wd, .slice AD n cD] 37))
       try simp only [World.size_alloc] at qTB
       have TB := Lib.hid ((qTB.below (B' := w.heap.size + 2) (by omega) (((Below.refl _ _).alloc (by first | exact Nat.le_refl _ | (simp; done) | (simp; omega)) _).mono (by simp))).below (by first | (simp; done) | (simp; omega)) hb)
       have yTB : w.heap.size + 1 < w1.heap.size := by have := hb.size; simp at this; omega
       clear qTB
       have qTN := (NodeAt.new x0 x1 x2 x8 x11 x12 x13 x14 x15 x16 x17 x18 K S P O Z WA BA nW cW nB cB 30) ((w.alloc (.cells #[.int .i64 M, .int .i64 Wd, .slice AD n cD] 37)).alloc (.cells #[.int .i64 H, .int .i64 W, .int .i64 C] 23))
       try simp only [World.size_alloc] at qTN
       have TN := Lib.hid (qTN.below (by first | (simp; done) | (simp; omega)) hb)
       have yTN : w.heap.size + 2 < w1.heap.size := by have := hb.size; simp at this; omega
       clear qTN
       have HBW : Hid (Below w.heap.size w w1) := Lib.hid hh
       obtain ⟨tr0p0, tr0p1, tr0p2⟩ := TR0.out
       obtain ⟨tbp0, tbp1, tbp2⟩ := TB.out
       have n3 := TN.out.at 3 _ rfl
       have n4 := TN.out.at 4 _ rfl
       have n5 := TN.out.at 5 _ rfl
       clear hb hh hal)
    | (go_at_call 15
       have hal : Below w1.heap.size w1 (w1.alloc (.cells #[.int .i64 (a : Int), .int .i64 (b : Int), .int .i64 1] 23)) := (Below.refl _ _).alloc (by first | exact Nat.le_refl _ | (simp; done) | (simp; omega)) _
       refine (empty_to H W C (a : Int) (b : Int) 1 x0 x1 x2 x8 x11 x12 x13 x14 x15 x16 x17 x18 K S P O Z WA BA nW cW nB cB (N1 : Int) (k2 : Int) (wd : Int) HM1.out HM2.out HM3.out _).mono ?_
       rintro e w2 ⟨rfl, hb⟩
       have hh : Below w1.heap.size w1 w2 := hal.trans (hb.mono hal.size)
       have qTS2 := (shapeNew (a : Int) (b : Int) 1 23) w1
       try simp only [World.size_alloc] at qTS2
       have TS2 := Lib.hid (qTS2.below (by first | (simp; done) | (simp; omega)) hb)
       have yTS2 : w1.heap.size < w2.heap.size := by have := hb.size; simp at this; omega
       clear qTS2
       replace TR0 := Lib.hid (TR0.out.below yTR0 hh)
       replace yTR0 := Nat.lt_of_lt_of_le yTR0 hh.size
       replace TB := Lib.hid (TB.out.below yTB hh)
       replace yTB := Nat.lt_of_lt_of_le yTB hh.size
       replace TN := Lib.hid (TN.out.below yTN hh)
       replace yTN := Nat.lt_of_lt_of_le yTN hh.size
       replace HBW := Lib.hid (HBW.out.trans (hh.mono HBW.out.size))
       clear tr0p0 tr0p1 tr0p2 tbp0 tbp1 tbp2 n3 n4 n5
       obtain ⟨tr0p0, tr0p1, tr0p2⟩ := TR0.out
       obtain ⟨tbp0, tbp1, tbp2⟩ := TB.out
       have n3 := TN.out.at 3 _ rfl
       have n4 := TN.out.at 4 _ rfl
       have n5 := TN.out.at 5 _ rfl
       obtain ⟨ts2p0, ts2p1, ts2p2⟩ := TS2.out
       clear hb hh hal)
    | (refine wpList_load_mid rfl 30 (.tmp 5) rfl (w.heap.size + 2) 0 rfl [x0, x1, x2, .int .i64 K, .int .i64 S, .int .i64 P, .int .i64 O, .int .i8 Z, x8, .slice WA nW cW, .slice BA nB cB, x11, x12, x13, x14, x15, x16, x17, x18] _ (TN.out.below yTN ((Below.refl _ _).alloc (Nat.le_refl _) _)) Try.underlying30 rfl (by kernel_rfl) ?_))
    have hal : Below w2.heap.size w2 (w2.alloc (.cells #[.int .i64 (N1 : Int), .int .i64 (wd : Int), .slice none 0 0] 37)) := (Below.refl _ _).alloc (Nat.le_refl _) _
    replace TR0 := Lib.hid (TR0.out.below yTR0 hal)
    have TRr := Lib.hid (rbox_new (N1 : Int) (wd : Int) (.slice none 0 0) 37 w2)
    replace HBW := Lib.hid (HBW.out.trans (hal.mono HBW.out.size))
    clear hal tr0p0 tr0p1 tr0p2 tbp0 tbp1 tbp2 ts2p0 ts2p1 ts2p2 n3 n4 n5 TB TN TS2 HM1 HM2 HM3 HE HV
    generalize w2.alloc (.cells #[.int .i64 (N1 : Int), .int .i64 (wd : Int), .slice none 0 0] 37) = Wm at TR0 TRr HBW ⊢
    generalize w2.heap.size = g2' at TRr ⊢
    obtain ⟨r0, r1, r2⟩ := TR0.out
    obtain ⟨v0, v1, v2⟩ := TRr.out
    go_wp2_with fail
    refine bodyPost_ret (results_2 rfl _ _ _) rfl ?_
    exact ⟨_, rfl, World.ownsRow_nil _ _ _ _, HBW.out⟩
  · have u1 : (Wd != (wd : Int)) = true := by simpa using c1'
    have u2 : decide (Wd = (wd : Int)) = false := by simpa using c1'
    have u3 : (Wd == (wd : Int)) = false := by simpa using c1'
    have e1 : (M != (N1 : Int)) = false := by simpa using d1
    have e2 : decide (M = (N1 : Int)) = true := by simpa using d1
    have e3 : (M == (N1 : Int)) = true := by simpa using d1
    clear d1
    go_enter Try.func6, Try.ntmps6
    go_upto_region 5 with (first
    | (go_at_call 14
       have hal : Below w.heap.size w (((w.alloc (.cells #[.int .i64 M, .int .i64 Wd, .slice AD n cD] 37)).alloc (.cells #[.int .i64 H, .int .i64 W, .int .i64 C] 23)).alloc (.cells #[x0, x1, x2, .int .i64 K, .int .i64 S, .int .i64 P, .int .i64 O, .int .i8 Z, x8, .slice WA nW cW, .slice BA nB cB, x11, x12, x13, x14, x15, x16, x17, x18] 30)) := (((Below.refl _ _).alloc (by first | exact Nat.le_refl _ | (simp; done) | (simp; omega)) _).alloc (by first | exact Nat.le_refl _ | (simp; done) | (simp; omega)) _).alloc (by first | exact Nat.le_refl _ | (simp; done) | (simp; omega)) _
       refine (slide_to H W C K S P 1 0 _ HE.out HV.out _).mono ?_
       rintro e w1 ⟨rfl, hb⟩
       have hh : Below w.heap.size w w1 := hal.trans (hb.mono hal.size)
       have qTR0 := (rbox_new M Wd (.slice AD n cD) 37) w
       try simp only [World.size_alloc] at qTR0
       have TR0 := Lib.hid ((qTR0.below (B' := w.heap.size + 1) (by omega) ((((Below.refl _ _).alloc (by first | exact Nat.le_refl _ | (simp; done) | (simp; omega)) _).alloc (by first | exact Nat.le_refl _ | (simp; done) | (simp; omega)) _).mono (by simp))).below (by first | (simp; done) | (simp; omega)) hb)
       have yTR0 : w.heap.size < w1.heap.size := by have := hb.size; simp at this; omega
       clear qTR0
       have qTB := (shapeNew H W C 23) (w.alloc (.cells #[.int .i64 M, .int .i64 Wd, .slice AD n cD] 37))
       try simp only [World.size_alloc] at qTB
       have TB := Lib.hid ((qTB.below (B' := w.heap.size + 2) (by omega) (((Below.refl _ _).alloc (by first | exact Nat.le_refl _ | (simp; done) | (simp; omega)) _).mono (by simp))).below (by first | (simp; done) | (simp; omega)) hb)
       have yTB : w.heap.size + 1 < w1.heap.size := by have := hb.size; simp at this; omega
       clear qTB
       have qTN := (NodeAt.new x0 x1 x2 x8 x11 x12 x13 x14 x15 x16 x17 x18 K S P O Z WA BA nW cW nB cB 30) ((w.alloc (.cells #[.int .i64 M, .int .i64 Wd, .slice AD n cD] 37)).alloc (.cells #[.int .i64 H, .int .i64 W, .int .i64 C] 23))
       try simp only [World.size_alloc] at qTN
       have TN := Lib.hid (qTN.below (by first | (simp; done) | (simp; omega)) hb)
       have yTN : w.heap.size + 2 < w1.heap.size := by have := hb.size; simp at this; omega
       clear qTN
       have HBW : Hid (Below w.heap.size w w1) := Lib.hid hh
       obtain ⟨tr0p0, tr0p1, tr0p2⟩ := TR0.out
       obtain ⟨tbp0, tbp1, tbp2⟩ := TB.out
       have n3 := TN.out.at 3 _ rfl
       have n4 := TN.out.at 4 _ rfl
       have n5 := TN.out.at 5 _ rfl
       clear hb hh hal)
    | (go_at_call 15
       have hal : Below w1.heap.size w1 (w1.alloc (.cells #[.int .i64 (a : Int), .int .i64 (b : Int), .int .i64 1] 23)) := (Below.refl _ _).alloc (by first | exact Nat.le_refl _ | (simp; done) | (simp; omega)) _
       refine (empty_to H W C (a : Int) (b : Int) 1 x0 x1 x2 x8 x11 x12 x13 x14 x15 x16 x17 x18 K S P O Z WA BA nW cW nB cB (N1 : Int) (k2 : Int) (wd : Int) HM1.out HM2.out HM3.out _).mono ?_
       rintro e w2 ⟨rfl, hb⟩
       have hh : Below w1.heap.size w1 w2 := hal.trans (hb.mono hal.size)
       have qTS2 := (shapeNew (a : Int) (b : Int) 1 23) w1
       try simp only [World.size_alloc] at qTS2
       have TS2 := Lib.hid (qTS2.below (by first | (simp; done) | (simp; omega)) hb)
       have yTS2 : w1.heap.size < w2.heap.size := by have := hb.size; simp at this; omega
       clear qTS2
       replace TR0 := Lib.hid (TR0.out.below yTR0 hh)
       replace yTR0 := Nat.lt_of_lt_of_le yTR0 hh.size
       replace TB := Lib.hid (TB.out.below yTB hh)
       replace yTB := Nat.lt_of_lt_of_le yTB hh.size
       replace TN := Lib.hid (TN.out.below yTN hh)
       replace yTN := Nat.lt_of_lt_of_le yTN hh.size
       replace HBW := Lib.hid (HBW.out.trans (hh.mono HBW.out.size))
       clear tr0p0 tr0p1 tr0p2 tbp0 tbp1 tbp2 n3 n4 n5
       obtain ⟨tr0p0, tr0p1, tr0p2⟩ := TR0.out
       obtain ⟨tbp0, tbp1, tbp2⟩ := TB.out
       have n3 := TN.out.at 3 _ rfl
       have n4 := TN.out.at 4 _ rfl
       have n5 := TN.out.at 5 _ rfl
       obtain ⟨ts2p0, ts2p1, ts2p2⟩ := TS2.out
       clear hb hh hal)
    | (refine wpList_load_mid rfl 30 (.tmp 5) rfl (w.heap.size + 2) 0 rfl [x0, x1, x2, .int .i64 K, .int .i64 S, .int .i64 P, .int .i64 O, .int .i8 Z, x8, .slice WA nW cW, .slice BA nB cB, x11, x12, x13, x14, x15, x16, x17, x18] _ (TN.out.below yTN ((Below.refl _ _).alloc (Nat.le_refl _) _)) Try.underlying30 rfl (by kernel_rfl) ?_))
    have hal : Below w2.heap.size w2 (w2.alloc (.cells #[.int .i64 (N1 : Int), .int .i64 (wd : Int), .slice none 0 0] 37)) := (Below.refl _ _).alloc (Nat.le_refl _) _
    replace TR0 := Lib.hid (TR0.out.below yTR0 hal)
    have TRr := Lib.hid (rbox_new (N1 : Int) (wd : Int) (.slice none 0 0) 37 w2)
    replace HBW := Lib.hid (HBW.out.trans (hal.mono HBW.out.size))
    clear hal tr0p0 tr0p1 tr0p2 tbp0 tbp1 tbp2 ts2p0 ts2p1 ts2p2 n3 n4 n5 TB TN TS2 HM1 HM2 HM3 HE HV
    generalize w2.alloc (.cells #[.int .i64 (N1 : Int), .int .i64 (wd : Int), .slice none 0 0] 37) = Wm at TR0 TRr HBW ⊢
    generalize w2.heap.size = g2' at TRr ⊢
    obtain ⟨r0, r1, r2⟩ := TR0.out
    obtain ⟨v0, v1, v2⟩ := TRr.out
    go_wp2_with fail
    refine bodyPost_ret (results_2 rfl _ _ _) rfl ?_
    exact ⟨_, rfl, World.ownsRow_nil _ _ _ _, HBW.out⟩
  · have u1 : ((n : Int) != (N : Int)) = true := by simpa using c1'
    have u2 : decide ((n : Int) = (N : Int)) = false := by simpa using c1'
    have u3 : ((n : Int) == (N : Int)) = false := by simpa using c1'
    have e1 : (M != (N1 : Int)) = false := by simpa using d1
    have e2 : decide (M = (N1 : Int)) = true := by simpa using d1
    have e3 : (M == (N1 : Int)) = true := by simpa using d1
    have f1 : (Wd != (wd : Int)) = false := by simpa using d2
    have f2 : decide (Wd = (wd : Int)) = true := by simpa using d2
    have f3 : (Wd == (wd : Int)) = true := by simpa using d2
    clear d1 d2
    go_enter Try.func6, Try.ntmps6
    go_upto_region 5 with (first
    | (go_at_call 14
       have hal : Below w.heap.size w (((w.alloc (.cells #[.int .i64 M, .int .i64 Wd, .slice AD n cD] 37)).alloc (.cells #[.int .i64 H, .int .i64 W, .int .i64 C] 23)).alloc (.cells #[x0, x1, x2, .int .i64 K, .int .i64 S, .int .i64 P, .int .i64 O, .int .i8 Z, x8, .slice WA nW cW, .slice BA nB cB, x11, x12, x13, x14, x15, x16, x17, x18] 30)) := (((Below.refl _ _).alloc (by first | exact Nat.le_refl _ | (simp; done) | (simp; omega)) _).alloc (by first | exact Nat.le_refl _ | (simp; done) | (simp; omega)) _).alloc (by first | exact Nat.le_refl _ | (simp; done) | (simp; omega)) _
       refine (slide_to H W C K S P 1 0 _ HE.out HV.out _).mono ?_
       rintro e w1 ⟨rfl, hb⟩
       have hh : Below w.heap.size w w1 := hal.trans (hb.mono hal.size)
       have qTR0 := (rbox_new M Wd (.slice AD n cD) 37) w
       try simp only [World.size_alloc] at qTR0
       have TR0 := Lib.hid ((qTR0.below (B' := w.heap.size + 1) (by omega) ((((Below.refl _ _).alloc (by first | exact Nat.le_refl _ | (simp; done) | (simp; omega)) _).alloc (by first | exact Nat.le_refl _ | (simp; done) | (simp; omega)) _).mono (by simp))).below (by first | (simp; done) | (simp; omega)) hb)
       have yTR0 : w.heap.size < w1.heap.size := by have := hb.size; simp at this; omega
       clear qTR0
       have qTB := (shapeNew H W C 23) (w.alloc (.cells #[.int .i64 M, .int .i64 Wd, .slice AD n cD] 37))
       try simp only [World.size_alloc] at qTB
       have TB := Lib.hid ((qTB.below (B' := w.heap.size + 2) (by omega) (((Below.refl _ _).alloc (by first | exact Nat.le_refl _ | (simp; done) | (simp; omega)) _).mono (by simp))).below (by first | (simp; done) | (simp; omega)) hb)
       have yTB : w.heap.size + 1 < w1.heap.size := by have := hb.size; simp at this; omega
       clear qTB
       have qTN := (NodeAt.new x0 x1 x2 x8 x11 x12 x13 x14 x15 x16 x17 x18 K S P O Z WA BA nW cW nB cB 30) ((w.alloc (.cells #[.int .i64 M, .int .i64 Wd, .slice AD n cD] 37)).alloc (.cells #[.int .i64 H, .int .i64 W, .int .i64 C] 23))
       try simp only [World.size_alloc] at qTN
       have TN := Lib.hid (qTN.below (by first | (simp; done) | (simp; omega)) hb)
       have yTN : w.heap.size + 2 < w1.heap.size := by have := hb.size; simp at this; omega
       clear qTN
       have HBW : Hid (Below w.heap.size w w1) := Lib.hid hh
       obtain ⟨tr0p0, tr0p1, tr0p2⟩ := TR0.out
       obtain ⟨tbp0, tbp1, tbp2⟩ := TB.out
       have n3 := TN.out.at 3 _ rfl
       have n4 := TN.out.at 4 _ rfl
       have n5 := TN.out.at 5 _ rfl
       clear hb hh hal)
    | (go_at_call 15
       have hal : Below w1.heap.size w1 (w1.alloc (.cells #[.int .i64 (a : Int), .int .i64 (b : Int), .int .i64 1] 23)) := (Below.refl _ _).alloc (by first | exact Nat.le_refl _ | (simp; done) | (simp; omega)) _
       refine (empty_to H W C (a : Int) (b : Int) 1 x0 x1 x2 x8 x11 x12 x13 x14 x15 x16 x17 x18 K S P O Z WA BA nW cW nB cB (N1 : Int) (k2 : Int) (wd : Int) HM1.out HM2.out HM3.out _).mono ?_
       rintro e w2 ⟨rfl, hb⟩
       have hh : Below w1.heap.size w1 w2 := hal.trans (hb.mono hal.size)
       have qTS2 := (shapeNew (a : Int) (b : Int) 1 23) w1
       try simp only [World.size_alloc] at qTS2
       have TS2 := Lib.hid (qTS2.below (by first | (simp; done) | (simp; omega)) hb)
       have yTS2 : w1.heap.size < w2.heap.size := by have := hb.size; simp at this; omega
       clear qTS2
       replace TR0 := Lib.hid (TR0.out.below yTR0 hh)
       replace yTR0 := Nat.lt_of_lt_of_le yTR0 hh.size
       replace TB := Lib.hid (TB.out.below yTB hh)
       replace yTB := Nat.lt_of_lt_of_le yTB hh.size
       replace TN := Lib.hid (TN.out.below yTN hh)
       replace yTN := Nat.lt_of_lt_of_le yTN hh.size
       replace HBW := Lib.hid (HBW.out.trans (hh.mono HBW.out.size))
       clear tr0p0 tr0p1 tr0p2 tbp0 tbp1 tbp2 n3 n4 n5
       obtain ⟨tr0p0, tr0p1, tr0p2⟩ := TR0.out
       obtain ⟨tbp0, tbp1, tbp2⟩ := TB.out
       have n3 := TN.out.at 3 _ rfl
       have n4 := TN.out.at 4 _ rfl
       have n5 := TN.out.at 5 _ rfl
       obtain ⟨ts2p0, ts2p1, ts2p2⟩ := TS2.out
       clear hb hh hal)
    | (refine wpList_load_mid rfl 30 (.tmp 5) rfl (w.heap.size + 2) 0 rfl [x0, x1, x2, .int .i64 K, .int .i64 S, .int .i64 P, .int .i64 O, .int .i8 Z, x8, .slice WA nW cW, .slice BA nB cB, x11, x12, x13, x14, x15, x16, x17, x18] _ (TN.out.below yTN ((Below.refl _ _).alloc (Nat.le_refl _) _)) Try.underlying30 rfl (by kernel_rfl) ?_))
    have hal : Below w2.heap.size w2 (w2.alloc (.cells #[.int .i64 (N1 : Int), .int .i64 (wd : Int), .slice none 0 0] 37)) := (Below.refl _ _).alloc (Nat.le_refl _) _
    replace TR0 := Lib.hid (TR0.out.below yTR0 hal)
    have TRr := Lib.hid (rbox_new (N1 : Int) (wd : Int) (.slice none 0 0) 37 w2)
    replace HBW := Lib.hid (HBW.out.trans (hal.mono HBW.out.size))
    clear hal tr0p0 tr0p1 tr0p2 tbp0 tbp1 tbp2 ts2p0 ts2p1 ts2p2 n3 n4 n5 TB TN TS2 HM1 HM2 HM3 HE HV
    generalize w2.alloc (.cells #[.int .i64 (N1 : Int), .int .i64 (wd : Int), .slice none 0 0] 37) = Wm at TR0 TRr HBW ⊢
    generalize w2.heap.size = g2' at TRr ⊢
    obtain ⟨r0, r1, r2⟩ := TR0.out
    obtain ⟨v0, v1, v2⟩ := TRr.out
    go_wp2_with fail
    refine bodyPost_ret (results_2 rfl _ _ _) rfl ?_
    exact ⟨_, rfl, World.ownsRow_nil _ _ _ _, HBW.out⟩
end Go.Proofs.Ytbolneejjjjaeaa.CPatch
