/- Layer 11 (patch): the document's windows of a tensor as rows. -/
import Derived.Test.YtdoonfbcbohdoaaPatchNum
import Derived.Test.YtdoonfbcbohdoaaPatchOf
import Derived.Deep.CutRange
namespace Go.Proofs.Ytdoonfbcbohdoaa.CPatch
open Go Go.ChangeShapes Go.WideShapes Go.ChangeAt Go.RowKit
open Plain CSat CShape CTensor CConv
set_option linter.unusedVariables false

/-- the document's rows: how many, how wide, the numbers, why not. -/
def MadeD (w : World) (M Wd : Int) (n : Nat) (zs : List Int) (er : Int) (e : Ending) (w' : World) : Prop :=
  ∃ v, e = .returned (.tuple #[.int .i64 M, .int .i64 Wd, v, .int .i64 er]) ∧ w'.ownsRow w.heap.size 55 1 v n (I16v zs) ∧ Below w.heap.size w w'
theorem results_4 {fn : Func} {a b c d : Tmp} (h : fn.results = #[.tmp a, .tmp b, .tmp c, .tmp d]) (tmps : Array Value) (P : Program) (w : World) : (results fn tmps).run P w = .ok (.tuple #[tmps.getD a undef, tmps.getD b undef, tmps.getD c undef, tmps.getD d undef]) w := by
  simp [results, h]
theorem listF_succ (F : Nat → Int) (n : Nat) (x : Int) (hx : F n = x) : I16v (listF F n) ++ [.int .i16 x] = I16v (listF F (n + 1)) := by
  simp [I16v, listF, List.range_succ, hx]
theorem numF_at (zs : List Int) (H W C S P Z : Int) {b kk d wd i j t : Nat} (hj : j < b) (ht : t < wd) : numF zs H W C S P Z b kk d wd ((i * b + j) * wd + t) =
    if 0 ≤ (i : Int) * S - P + ((t / d / kk : Nat) : Int) ∧ (i : Int) * S - P + ((t / d / kk : Nat) : Int) < H ∧ 0 ≤ (j : Int) * S - P + ((t / d % kk : Nat) : Int) ∧ (j : Int) * S - P + ((t / d % kk : Nat) : Int) < W then
      zs.getD ((((i : Int) * S - P + ((t / d / kk : Nat) : Int)) * W + ((j : Int) * S - P + ((t / d % kk : Nat) : Int))) * C + ((t % d : Nat) : Int)).toNat 0 - Z
    else 0 := by
  have e1 : ((i * b + j) * wd + t) / wd = i * b + j := by rw [Nat.mul_comm, Nat.mul_add_div (by omega), Nat.div_eq_of_lt ht]; rfl
  have e2 : ((i * b + j) * wd + t) % wd = t := by rw [Nat.mul_comm, Nat.mul_add_mod, Nat.mod_eq_of_lt ht]
  have e3 : (i * b + j) / b = i := by rw [Nat.mul_comm, Nat.mul_add_div (by omega), Nat.div_eq_of_lt hj]; rfl
  have e4 : (i * b + j) % b = j := by rw [Nat.mul_comm, Nat.mul_add_mod, Nat.mod_eq_of_lt hj]
  unfold numF
  rw [e1, e2, e3, e4]
theorem number_to (H W C : Int) (A : Option Addr) (zs : List Int) (n c : Nat) (hn : zs.length = n) (ht : tensB H W C n = true) (hz : I8b zs) (x0 x1 x2 x8 x11 x12 x13 x14 x15 x16 x17 x18 : Value) (K S P O Z : Int) (WA BA : Option Addr) (nW cW nB cB : Nat) (z1 : -128 ≤ Z) (z2 : Z ≤ 127) (h v i j q : Nat) (hs0 vs0 : Int) (hhs : (h : Int) * S = hs0) (hvs : (v : Int) * S = vs0) (b1 : 0 ≤ hs0) (b2 : hs0 ≤ 4096) (b3 : 0 ≤ vs0) (b4 : vs0 ≤ 4096) (p0 : 0 ≤ P) (p4 : P ≤ 4) (hi : i ≤ 25) (hj : j ≤ 25) (hqI : (q : Int) < C)
    (w : World) (hr : Kit.Rd w w.heap.size A (I8s zs)) (R : Int)
    (hR : (if 0 ≤ hs0 - P + (i : Int) ∧ hs0 - P + (i : Int) < H ∧ 0 ≤ vs0 - P + (j : Int) ∧ vs0 - P + (j : Int) < W then zs.getD (((hs0 - P + (i : Int)) * W + (vs0 - P + (j : Int))) * C + (q : Int)).toNat 0 - Z else 0) = R) :
    Calls Try.prog 23 #[.agg #[.int .i64 H, .int .i64 W, .int .i64 C, .slice A n c], .agg #[x0, x1, x2, .int .i64 K, .int .i64 S, .int .i64 P, .int .i64 O, .int .i8 Z, x8, .slice WA nW cW, .slice BA nB cB, x11, x12, x13, x14, x15, x16, x17, x18], .int .i64 (h : Int), .int .i64 (v : Int), .int .i64 (i : Int), .int .i64 (j : Int), .int .i64 (q : Int)] w fun e w' => e = .returned (.int .i16 R) ∧ Below w.heap.size w w' := by
  by_cases hc : 0 ≤ hs0 - P + (i : Int) ∧ hs0 - P + (i : Int) < H ∧ 0 ≤ vs0 - P + (j : Int) ∧ vs0 - P + (j : Int) < W
  · rw [if_pos hc] at hR
    exact number_in H W C A zs n c hn ht hz x0 x1 x2 x8 x11 x12 x13 x14 x15 x16 x17 x18 K S P O Z WA BA nW cW nB cB z1 z2 h v i j q _ _ hs0 vs0 hhs hvs b1 b2 b3 b4 p0 p4 hi hj rfl rfl hc.1 hc.2.1 hc.2.2.1 hc.2.2.2 hqI w hr R hR
  · rw [if_neg hc] at hR
    subst hR
    exact number_out H W C A zs n c hn ht hz x0 x1 x2 x8 x11 x12 x13 x14 x15 x16 x17 x18 K S P O Z WA BA nW cW nB cB z1 z2 h v i j q _ _ hs0 vs0 hhs hvs b1 b2 b3 b4 p0 p4 hi hj rfl rfl hc w
def OfR (w : World) (H W C : Int) (A : Option Addr) (n c : Nat) (x0 x1 x2 x8 x11 x12 x13 x14 x15 x16 x17 x18 : Value) (K S P O Z : Int) (WA BA : Option Addr) (nW cW nB cB : Nat) (X Y : Int) (g6 : Nat) (wr : World) : Prop :=
  BoxAt w.heap.size H W C A n c wr ∧ NodeAt (w.heap.size + 1) x0 x1 x2 x8 x11 x12 x13 x14 x15 x16 x17 x18 K S P O Z WA BA nW cW nB cB wr ∧ ShapeAt g6 X Y 1 wr ∧ Below w.heap.size w wr ∧ g6 + 1 ≤ wr.heap.size
theorem OfR.below {w wr wr' : World} {H W C : Int} {A : Option Addr} {n c : Nat} {x0 x1 x2 x8 x11 x12 x13 x14 x15 x16 x17 x18 : Value} {K S P O Z : Int} {WA BA : Option Addr} {nW cW nB cB : Nat} {X Y : Int} {g6 B' : Nat} (h : OfR w H W C A n c x0 x1 x2 x8 x11 x12 x13 x14 x15 x16 x17 x18 K S P O Z WA BA nW cW nB cB X Y g6 wr) (hg : w.heap.size + 2 ≤ g6) (hB : g6 < B') (hb : Below B' wr wr') : OfR w H W C A n c x0 x1 x2 x8 x11 x12 x13 x14 x15 x16 x17 x18 K S P O Z WA BA nW cW nB cB X Y g6 wr' :=
  ⟨h.1.below (B' := B') (by omega) hb, h.2.1.below (B' := B') (by omega) hb, h.2.2.1.below hB hb, h.2.2.2.1.trans (hb.mono (by omega)), Nat.le_trans h.2.2.2.2 hb.size⟩
set_option maxHeartbeats 2000000 in
theorem rpOf_bad (H W C : Int) (A : Option Addr) (n c : Nat) (x0 x1 x2 x8 x11 x12 x13 x14 x15 x16 x17 x18 : Value) (K S P O Z : Int) (WA BA : Option Addr) (nW cW nB cB : Nat) (ht : tensB H W C n = false) (w : World) : Calls Try.prog 8 #[.agg #[.int .i64 H, .int .i64 W, .int .i64 C, .slice A n c], .agg #[x0, x1, x2, .int .i64 K, .int .i64 S, .int .i64 P, .int .i64 O, .int .i8 Z, x8, .slice WA nW cW, .slice BA nB cB, x11, x12, x13, x14, x15, x16, x17, x18]] w (MadeD w 0 0 0 [] 5) := by
  have HT := Lib.hid ht
  clear ht
  go_enter Try.func8, Try.ntmps8
  go_wp2_with (first
    | (go_at_call 16
       have hal : Below w.heap.size w ((w.alloc (.cells #[.int .i64 H, .int .i64 W, .int .i64 C, .slice A n c] 26)).alloc (.cells #[x0, x1, x2, .int .i64 K, .int .i64 S, .int .i64 P, .int .i64 O, .int .i8 Z, x8, .slice WA nW cW, .slice BA nB cB, x11, x12, x13, x14, x15, x16, x17, x18] 32)) := ((Below.refl _ _).alloc (by first | exact Nat.le_refl _ | (simp; done) | (simp; omega)) _).alloc (by first | exact Nat.le_refl _ | (simp; done) | (simp; omega)) _
       refine (refRight_to H W C A n c false HT.out _).mono ?_
       rintro e w1 ⟨rfl, hb⟩
       have hh : Below w.heap.size w w1 := hal.trans (hb.mono hal.size)
       have qTB := (boxNew H W C A n c 26) w
       try simp only [World.size_alloc] at qTB
       have TB := Lib.hid ((qTB.below (B' := w.heap.size + 1) (by omega) (((Below.refl _ _).alloc (by first | exact Nat.le_refl _ | (simp; done) | (simp; omega)) _).mono (by simp))).below (by first | (simp; done) | (simp; omega)) hb)
       have yTB : w.heap.size < w1.heap.size := by have := hb.size; simp at this; omega
       clear qTB
       have qTN := (NodeAt.new x0 x1 x2 x8 x11 x12 x13 x14 x15 x16 x17 x18 K S P O Z WA BA nW cW nB cB 32) (w.alloc (.cells #[.int .i64 H, .int .i64 W, .int .i64 C, .slice A n c] 26))
       try simp only [World.size_alloc] at qTN
       have TN := Lib.hid (qTN.below (by first | (simp; done) | (simp; omega)) hb)
       have yTN : w.heap.size + 1 < w1.heap.size := by have := hb.size; simp at this; omega
       clear qTN
       have HBW : Hid (Below w.heap.size w w1) := Lib.hid hh
       obtain ⟨tbp0, tbp1, tbp2, tbp3⟩ := TB.out
       clear hb hh hal))
  refine bodyPost_ret (results_4 rfl _ _ _) rfl ?_
  exact ⟨_, rfl, World.ownsRow_nil _ _ _ _, HBW.out⟩
set_option maxHeartbeats 4000000 in
theorem rpOf_err (H W C : Int) (A : Option Addr) (n c : Nat) (x0 x1 x2 x8 x11 x12 x13 x14 x15 x16 x17 x18 : Value) (K S P O Z : Int) (WA BA : Option Addr) (nW cW nB cB : Nat) (ht : tensB H W C n = true) (er : Int) (he : slideE H W C K S P 1 = er) (h0 : er ≠ 0) (w : World) : Calls Try.prog 8 #[.agg #[.int .i64 H, .int .i64 W, .int .i64 C, .slice A n c], .agg #[x0, x1, x2, .int .i64 K, .int .i64 S, .int .i64 P, .int .i64 O, .int .i8 Z, x8, .slice WA nW cW, .slice BA nB cB, x11, x12, x13, x14, x15, x16, x17, x18]] w (MadeD w 0 0 0 [] er) := by
  have hv : slideS H W C K S P 1 = #[.int .i64 0, .int .i64 0, .int .i64 0] := by
    unfold slideS; rw [he, if_neg h0]
  have HT := Lib.hid ht
  have HE := Lib.hid he
  have HV := Lib.hid hv
  have hbn : (er != 0) = true := by simpa using h0
  clear ht he hv
  go_enter Try.func8, Try.ntmps8
  go_wp2_with (first
    | (go_at_call 16
       have hal : Below w.heap.size w ((w.alloc (.cells #[.int .i64 H, .int .i64 W, .int .i64 C, .slice A n c] 26)).alloc (.cells #[x0, x1, x2, .int .i64 K, .int .i64 S, .int .i64 P, .int .i64 O, .int .i8 Z, x8, .slice WA nW cW, .slice BA nB cB, x11, x12, x13, x14, x15, x16, x17, x18] 32)) := ((Below.refl _ _).alloc (by first | exact Nat.le_refl _ | (simp; done) | (simp; omega)) _).alloc (by first | exact Nat.le_refl _ | (simp; done) | (simp; omega)) _
       refine (refRight_to H W C A n c true HT.out _).mono ?_
       rintro e w1 ⟨rfl, hb⟩
       have hh : Below w.heap.size w w1 := hal.trans (hb.mono hal.size)
       have qTB := (boxNew H W C A n c 26) w
       try simp only [World.size_alloc] at qTB
       have TB := Lib.hid ((qTB.below (B' := w.heap.size + 1) (by omega) (((Below.refl _ _).alloc (by first | exact Nat.le_refl _ | (simp; done) | (simp; omega)) _).mono (by simp))).below (by first | (simp; done) | (simp; omega)) hb)
       have yTB : w.heap.size < w1.heap.size := by have := hb.size; simp at this; omega
       clear qTB
       have qTN := (NodeAt.new x0 x1 x2 x8 x11 x12 x13 x14 x15 x16 x17 x18 K S P O Z WA BA nW cW nB cB 32) (w.alloc (.cells #[.int .i64 H, .int .i64 W, .int .i64 C, .slice A n c] 26))
       try simp only [World.size_alloc] at qTN
       have TN := Lib.hid (qTN.below (by first | (simp; done) | (simp; omega)) hb)
       have yTN : w.heap.size + 1 < w1.heap.size := by have := hb.size; simp at this; omega
       clear qTN
       have HBW : Hid (Below w.heap.size w w1) := Lib.hid hh
       obtain ⟨tbp0, tbp1, tbp2, tbp3⟩ := TB.out
       have n3 := TN.out.at 3 _ rfl
       have n4 := TN.out.at 4 _ rfl
       have n5 := TN.out.at 5 _ rfl
       clear hb hh hal)
    | (go_at_call 12
       have hal : Below w1.heap.size w1 w1 := Below.refl _ _
       refine (refSlide_to H W C K S P 1 er _ HE.out HV.out _).mono ?_
       rintro e w2 ⟨rfl, hb⟩
       have hh : Below w1.heap.size w1 w2 := hal.trans (hb.mono hal.size)
       replace TB := Lib.hid (TB.out.below yTB hh)
       replace yTB := Nat.lt_of_lt_of_le yTB hh.size
       replace TN := Lib.hid (TN.out.below yTN hh)
       replace yTN := Nat.lt_of_lt_of_le yTN hh.size
       replace HBW := Lib.hid (HBW.out.trans (hh.mono HBW.out.size))
       clear tbp0 tbp1 tbp2 tbp3 n3 n4 n5
       obtain ⟨tbp0, tbp1, tbp2, tbp3⟩ := TB.out
       have n3 := TN.out.at 3 _ rfl
       have n4 := TN.out.at 4 _ rfl
       have n5 := TN.out.at 5 _ rfl
       clear hb hh hal))
  refine bodyPost_ret (results_4 rfl _ _ _) rfl ?_
  exact ⟨_, rfl, World.ownsRow_nil _ _ _ _, HBW.out.alloc HBW.out.size _⟩
set_option maxRecDepth 100000 in
set_option maxHeartbeats 8000000 in
theorem rpOf_yes (H W C : Int) (A : Option Addr) (zs : List Int) (n c : Nat) (hn : zs.length = n) (hz8 : I8b zs) (x0 x1 x2 x8 x11 x12 x13 x14 x15 x16 x17 x18 : Value) (K S P O Z : Int) (WA BA : Option Addr) (nW cW nB cB : Nat) (z1 : -128 ≤ Z) (z2 : Z ≤ 127) (ht : tensB H W C n = true) (he : slideE H W C K S P 1 = 0) (a b kk d k2 wd N1 N : Nat) (ha : stepsM H K S P = (a : Int)) (hb : stepsM W K S P = (b : Int)) (hk : K = (kk : Int)) (hd : C = (d : Int))
    (hk2 : kk * kk = k2) (hwd : k2 * d = wd) (hN1 : a * b = N1) (hN : N1 * wd = N) (F : Nat → Int) (hF : F = numF zs H W C S P Z b kk d wd) (w : World) (hr : Kit.Rd w w.heap.size A (I8s zs)) : Calls Try.prog 8 #[.agg #[.int .i64 H, .int .i64 W, .int .i64 C, .slice A n c], .agg #[x0, x1, x2, .int .i64 K, .int .i64 S, .int .i64 P, .int .i64 O, .int .i8 Z, x8, .slice WA nW cW, .slice BA nB cB, x11, x12, x13, x14, x15, x16, x17, x18]] w (MadeD w (N1 : Int) (wd : Int) N (listF F N) 0) := by
  obtain ⟨hs0, har1, har2, -, -, hsr⟩ := slide_ok he
  obtain ⟨g1, g2, g3, g4, g5, g6', g7⟩ := shapeB_yes hs0
  obtain ⟨q1, q2, q3, q4, q5, q6, q7⟩ := shapeB_yes hsr
  obtain ⟨-, -, k1, k5, st1, st4, pd0, pd4, -⟩ := argsB_yes har1
  have hv : slideS H W C K S P 1 = #[.int .i64 (a : Int), .int .i64 (b : Int), .int .i64 1] := by
    unfold slideS; rw [he, if_pos rfl, ha, hb]
  have hN1b : N1 ≤ 1024 := by
    have : ((N1 : Nat) : Int) = stepsM H K S P * stepsM W K S P * 1 := by rw [ha, hb, ← hN1]; simp
    omega
  have hkk1 : 1 ≤ kk := by omega
  have hkk5 : kk ≤ 5 := by omega
  have hk25 : k2 ≤ 25 := by rw [← hk2]; exact Nat.le_trans (Nat.mul_le_mul hkk5 hkk5) (by omega)
  have hd1 : d ≤ 1024 := by omega
  have hd0 : 1 ≤ d := by omega
  have hwdb : wd ≤ 25600 := by rw [← hwd]; exact Nat.le_trans (Nat.mul_le_mul hk25 hd1) (by omega)
  have hNb : N ≤ 26214400 := by rw [← hN]; exact Nat.le_trans (Nat.mul_le_mul hN1b hwdb) (by omega)
  have m1 : IntKind.i64.wrap ((a : Int) * (b : Int)) = (N1 : Int) := by rw [← Int.natCast_mul, hN1]; exact IntWalk.i64_in _ (by omega)
  have m2 : IntKind.i64.wrap (K * K) = (k2 : Int) := by rw [hk, ← Int.natCast_mul, hk2]; exact IntWalk.i64_in _ (by omega)
  have m3 : IntKind.i64.wrap ((k2 : Int) * C) = (wd : Int) := by rw [hd, ← Int.natCast_mul, hwd]; exact IntWalk.i64_in _ (by omega)
  have ha1024 : a ≤ 1024 := by omega
  have hb1024 : b ≤ 1024 := by omega
  have hC0 : ¬ C = 0 := by omega
  have hK0 : ¬ K = 0 := by omega
  have HT := Lib.hid ht
  have HE := Lib.hid he
  have HV := Lib.hid hv
  have HN := Lib.hid hn
  have HZ := Lib.hid hz8
  have HK := Lib.hid hk
  have HD := Lib.hid hd
  have HWD := Lib.hid hwd
  have HN1 := Lib.hid hN1
  have HNN := Lib.hid hN
  have HFF := Lib.hid hF
  have HR := Lib.hid hr
  have HR0 := Lib.hid hr
  clear ht he hv hs0 hn hz8 hk hd hk2 hwd hN1 hN hF hr ha hb har1 har2 hsr q1 q2 q3 q4 q5 q6 q7 g7
  obtain ⟨i0, hi0, hi1, hi2, hi3⟩ := info_parts16 info_i16
  go_enter Try.func8, Try.ntmps8
  go_wp2_with (first
    | (go_at_call 16
       have hal : Below w.heap.size w ((w.alloc (.cells #[.int .i64 H, .int .i64 W, .int .i64 C, .slice A n c] 26)).alloc (.cells #[x0, x1, x2, .int .i64 K, .int .i64 S, .int .i64 P, .int .i64 O, .int .i8 Z, x8, .slice WA nW cW, .slice BA nB cB, x11, x12, x13, x14, x15, x16, x17, x18] 32)) := ((Below.refl _ _).alloc (by first | exact Nat.le_refl _ | (simp; done) | (simp; omega)) _).alloc (by first | exact Nat.le_refl _ | (simp; done) | (simp; omega)) _
       refine (refRight_to H W C A n c true HT.out _).mono ?_
       rintro e w1 ⟨rfl, hb⟩
       have hh : Below w.heap.size w w1 := hal.trans (hb.mono hal.size)
       have qTB := (boxNew H W C A n c 26) w
       try simp only [World.size_alloc] at qTB
       have TB := Lib.hid ((qTB.below (B' := w.heap.size + 1) (by omega) (((Below.refl _ _).alloc (by first | exact Nat.le_refl _ | (simp; done) | (simp; omega)) _).mono (by simp))).below (by first | (simp; done) | (simp; omega)) hb)
       have yTB : w.heap.size < w1.heap.size := by have := hb.size; simp at this; omega
       clear qTB
       have qTN := (NodeAt.new x0 x1 x2 x8 x11 x12 x13 x14 x15 x16 x17 x18 K S P O Z WA BA nW cW nB cB 32) (w.alloc (.cells #[.int .i64 H, .int .i64 W, .int .i64 C, .slice A n c] 26))
       try simp only [World.size_alloc] at qTN
       have TN := Lib.hid (qTN.below (by first | (simp; done) | (simp; omega)) hb)
       have yTN : w.heap.size + 1 < w1.heap.size := by have := hb.size; simp at this; omega
       clear qTN
       replace HR := Lib.hid ((HR.out.below hh).more hh.size)
       have HBW : Hid (Below w.heap.size w w1) := Lib.hid hh
       obtain ⟨tbp0, tbp1, tbp2, tbp3⟩ := TB.out
       have n3 := TN.out.at 3 _ rfl
       have n4 := TN.out.at 4 _ rfl
       have n5 := TN.out.at 5 _ rfl
       clear hb hh hal)
    | (go_at_call 12
       have hal : Below w1.heap.size w1 w1 := Below.refl _ _
       refine (refSlide_to H W C K S P 1 0 _ HE.out HV.out _).mono ?_
       rintro e w2 ⟨rfl, hb⟩
       have hh : Below w1.heap.size w1 w2 := hal.trans (hb.mono hal.size)
       replace TB := Lib.hid (TB.out.below yTB hh)
       replace yTB := Nat.lt_of_lt_of_le yTB hh.size
       replace TN := Lib.hid (TN.out.below yTN hh)
       replace yTN := Nat.lt_of_lt_of_le yTN hh.size
       replace HR := Lib.hid ((HR.out.below hh).more hh.size)
       replace HBW := Lib.hid (HBW.out.trans (hh.mono HBW.out.size))
       clear tbp0 tbp1 tbp2 tbp3 n3 n4 n5
       have hg2 : w.heap.size + 2 ≤ w2.heap.size := yTN
       obtain ⟨tbp0, tbp1, tbp2, tbp3⟩ := TB.out
       have n3 := TN.out.at 3 _ rfl
       have n4 := TN.out.at 4 _ rfl
       have n5 := TN.out.at 5 _ rfl
       clear hb hh hal))
  have hal : Below w2.heap.size w2 (w2.alloc (.cells #[.int .i64 (a : Int), .int .i64 (b : Int), .int .i64 1] 23)) := (Below.refl _ _).alloc (Nat.le_refl _) _
  have h63 : w.heap.size + 2 ≤ w2.heap.size := hg2
  have hOA : Hid (OfR w H W C A n c x0 x1 x2 x8 x11 x12 x13 x14 x15 x16 x17 x18 K S P O Z WA BA nW cW nB cB (a : Int) (b : Int) w2.heap.size (w2.alloc (.cells #[.int .i64 (a : Int), .int .i64 (b : Int), .int .i64 1] 23))) := Lib.hid ⟨TB.out.below yTB hal, TN.out.below yTN hal, shapeNew _ _ _ _ _, HBW.out.trans (hal.mono HBW.out.size), by simp⟩
  have hW : Hid ((w2.alloc (.cells #[.int .i64 (a : Int), .int .i64 (b : Int), .int .i64 1] 23)).ownsRow (w2.heap.size + 1) 55 1 (.slice none 0 0) 0 (I16v (listF F 0))) := Lib.hid ⟨by simp [I16v, listF], .inl ⟨rfl, rfl⟩⟩
  clear TB TN yTB yTN hal tbp0 tbp1 tbp2 tbp3 n3 n4 n5 HBW hg2
  replace HR := HR0
  clear HR0
  generalize (w2.alloc (.cells #[.int .i64 (a : Int), .int .i64 (b : Int), .int .i64 1] 23)) = Wm at hOA hW ⊢
  generalize w2.heap.size = g6 at hOA hW h63 ⊢
  go_loopw [10, 11] (fun v u wr => ∃ i : Nat, i ≤ a ∧ u = .int .i64 i ∧ Hid (OfR w H W C A n c x0 x1 x2 x8 x11 x12 x13 x14 x15 x16 x17 x18 K S P O Z WA BA nW cW nB cB (a : Int) (b : Int) g6 wr) ∧ Hid (wr.ownsRow (g6 + 1) 55 1 v (i * b * wd) (I16v (listF F (i * b * wd))))) (fun _ u _ => a - (intOf u).toNat)
  case atStart => exact ⟨0, Nat.zero_le _, rfl, hOA, by simpa using hW⟩
  case round =>
    obtain ⟨i, hi, rfl, hA0, hW0⟩ := hrel
    clear hOA hW
    obtain ⟨Av0, cv0, rfl, -, -, -⟩ := Kit.own_rd hW0.out
    obtain ⟨-, -, ⟨s1, s2, s3⟩, -, -⟩ := hA0.out
    by_cases hlt : i < a
    · have hiI : (i : Int) < (a : Int) := by omega
      clear m1
      go_wp2_with fail
      go_loopw [10, 12] (fun v u wr => ∃ j : Nat, j ≤ b ∧ u = .int .i64 j ∧ Hid (OfR w H W C A n c x0 x1 x2 x8 x11 x12 x13 x14 x15 x16 x17 x18 K S P O Z WA BA nW cW nB cB (a : Int) (b : Int) g6 wr) ∧ Hid (wr.ownsRow (g6 + 1) 55 1 v ((i * b + j) * wd) (I16v (listF F ((i * b + j) * wd))))) (fun _ u _ => b - (intOf u).toNat)
      case atStart => exact ⟨0, Nat.zero_le _, rfl, hA0, by simpa using hW0⟩
      case round =>
        obtain ⟨j, hj, rfl, hA1, hW1⟩ := hrel
        clear hA0 hW0 s1 s2 s3
        obtain ⟨Av1, cv1, rfl, -, -, -⟩ := Kit.own_rd hW1.out
        obtain ⟨-, -, ⟨s1, s2, s3⟩, -, -⟩ := hA1.out
        by_cases hltj : j < b
        · have hjI : (j : Int) < (b : Int) := by omega
          obtain ⟨o, ho⟩ : ∃ o, (i * b + j) * wd = o := ⟨_, rfl⟩
          rw [ho] at hW1 ⊢
          have HOO := Lib.hid ho
          clear ho
          go_wp2_with fail
          go_loopw [10, 13] (fun v u wr => ∃ k : Nat, k ≤ wd ∧ u = .int .i64 k ∧ Hid (OfR w H W C A n c x0 x1 x2 x8 x11 x12 x13 x14 x15 x16 x17 x18 K S P O Z WA BA nW cW nB cB (a : Int) (b : Int) g6 wr) ∧ Hid (wr.ownsRow (g6 + 1) 55 1 v (o + k) (I16v (listF F (o + k))))) (fun _ u _ => wd - (intOf u).toNat)
          case atStart => exact ⟨0, Nat.zero_le _, rfl, hA1, hW1⟩
          case round =>
            obtain ⟨k, hk, rfl, hA2, hW2⟩ := hrel
            clear hA1 hW1 s1 s2 s3
            obtain ⟨Av, cv, rfl, -, -, -⟩ := Kit.own_rd hW2.out
            obtain ⟨hbx, hnd, -, hbw, hsz⟩ := hA2.out
            have HBW := Lib.hid hbw
            clear hbw
            obtain ⟨tb0, tb1, tb2, tb3⟩ := hbx
            have n3 := hnd.at 3 _ rfl
            by_cases hltk : k < wd
            · have hkI : (k : Int) < (wd : Int) := by omega
              have hk0 : (0 : Int) ≤ (k : Int) := by omega
              have hom : o + k < N := by
                rw [← HOO.out, ← HNN.out, ← HN1.out]
                have h1 := Nat.mul_le_mul_right b (show i + 1 ≤ a by omega)
                rw [Nat.add_mul, Nat.one_mul] at h1
                have h2 := Nat.mul_le_mul_right wd (show i * b + j + 1 ≤ a * b by omega)
                rw [Nat.add_mul, Nat.one_mul] at h2
                omega
              obtain ⟨q, hq⟩ : ∃ q, k / d = q := ⟨_, rfl⟩
              obtain ⟨qc, hqc⟩ : ∃ qc, k % d = qc := ⟨_, rfl⟩
              obtain ⟨qi, hqi⟩ : ∃ qi, q / kk = qi := ⟨_, rfl⟩
              obtain ⟨qj, hqj⟩ : ∃ qj, q % kk = qj := ⟨_, rfl⟩
              have hqk : q < k2 := by rw [← hq, Nat.div_lt_iff_lt_mul hd0, HWD.out]; exact hltk
              have hqcd : qc < d := by rw [← hqc]; exact Nat.mod_lt _ hd0
              have hqi5 : qi ≤ 25 := by have := Nat.div_le_self q kk; omega
              have hqj5 : qj ≤ 25 := by have := Nat.mod_lt q hkk1; omega
              have hq0 : (0 : Int) ≤ (q : Int) := by omega
              have u1 : (k : Int).tdiv C = (q : Int) := by rw [HD.out, ← hq]; rfl
              have u2 : (k : Int) / C = (q : Int) := by rw [HD.out, ← hq]; rfl
              have u3 : (k : Int).tmod C = (qc : Int) := by rw [HD.out, ← hqc]; rfl
              have u4 : (k : Int) % C = (qc : Int) := by rw [HD.out, ← hqc]; rfl
              have u5 : (q : Int).tdiv K = (qi : Int) := by rw [HK.out, ← hqi]; rfl
              have u6 : (q : Int) / K = (qi : Int) := by rw [HK.out, ← hqi]; rfl
              have u7 : (q : Int).tmod K = (qj : Int) := by rw [HK.out, ← hqj]; rfl
              have u8 : (q : Int) % K = (qj : Int) := by rw [HK.out, ← hqj]; rfl
              have w1' : IntKind.i64.wrap (q : Int) = (q : Int) := IntWalk.i64_in _ (by omega)
              have w2' : IntKind.i64.wrap (qc : Int) = (qc : Int) := IntWalk.i64_in _ (by omega)
              have w3' : IntKind.i64.wrap (qi : Int) = (qi : Int) := IntWalk.i64_in _ (by omega)
              have w4' : IntKind.i64.wrap (qj : Int) = (qj : Int) := IntWalk.i64_in _ (by omega)
              obtain ⟨hs, hhs⟩ : ∃ hs, (i : Int) * S = hs := ⟨_, rfl⟩
              obtain ⟨vs, hvs⟩ : ∃ vs, (j : Int) * S = vs := ⟨_, rfl⟩
              have b1 : 0 ≤ hs ∧ hs ≤ 4096 := by
                rw [← hhs]
                exact ⟨Int.mul_nonneg (by omega) (by omega), Int.le_trans (Int.mul_le_mul (show (i : Int) ≤ 1024 by omega) st4 (by omega) (by omega)) (by omega)⟩
              have b2 : 0 ≤ vs ∧ vs ≤ 4096 := by
                rw [← hvs]
                exact ⟨Int.mul_nonneg (by omega) (by omega), Int.le_trans (Int.mul_le_mul (show (j : Int) ≤ 1024 by omega) st4 (by omega) (by omega)) (by omega)⟩
              have hcI : (qc : Int) < C := by have := HD.out; omega
              obtain ⟨x, hx⟩ : ∃ x, F (o + k) = x := ⟨_, rfl⟩
              have hF1 := numF_at zs H W C S P Z (i := i) (kk := kk) (d := d) hltj hltk
              rw [HOO.out, ← HFF.out, hx, hq, hqc, hqi, hqj, hhs, hvs] at hF1
              have HX := Lib.hid hF1.symm
              have HXX := Lib.hid hx
              have HHS := Lib.hid hhs
              have HVS := Lib.hid hvs
              clear hx hF1 hq hqc hqi hqj hhs hvs
              go_wp2_with fail
              refine wp_region_held_drew (S := fun w' => BoxAt w.heap.size H W C A n c w' ∧ NodeAt (w.heap.size + 1) x0 x1 x2 x8 x11 x12 x13 x14 x15 x16 x17 x18 K S P O Z WA BA nW cW nB cB w') (by kernel_rfl) ⟨hA2.out.1, hnd⟩ (fun hHeld => ?_)
              clear tb0 tb1 tb2 tb3 n3 hnd
              replace HBW := Lib.hid HBW.out.drew
              have hA3 : Hid (OfR w H W C A n c x0 x1 x2 x8 x11 x12 x13 x14 x15 x16 x17 x18 K S P O Z WA BA nW cW nB cB (a : Int) (b : Int) g6 wr.drew) := Lib.hid (hA2.out.below h63 (Nat.lt_succ_self _) (Below.refl _ _).drew)
              have hW3 : Hid (wr.drew.ownsRow (g6 + 1) 55 1 (.slice Av (o + k) cv) (o + k) (I16v (listF F (o + k)))) := Lib.hid (Kit.own_below hW2.out (Below.refl _ _).drew)
              have hsz : g6 + 1 ≤ wr.drew.heap.size := hsz
              clear hA2 hW2
              generalize wr.drew = Wa at HBW hA3 hW3 hsz hHeld ⊢
              refine wpAnyH_take (i := 0) (oi := ({ dst := some 63, op := Op.move (Operand.tmp 10), type := 34, pos := "ref.go:33", after := #[], guard := none } : Oper)) (v := ?_) rfl (by kernel_rfl) (by kernel_rfl) (by kernel_rfl) (fun _ _ _ h => h) (Or.inl ⟨by rfl, ?_⟩) (by assumption) ?_
              rotate_left
              · intro wS hSw
                first
                  | (go_simp; done)
                  | (go_simp; with_reducible rfl)
              try simp only [Act.put, List.setIfInBounds_toArray, List.set_cons_zero, List.set_cons_succ]
              refine wpAnyH_take (i := 1) (oi := ({ dst := some 64, op := Op.load 26 (Operand.tmp 2), type := 26, pos := "ref.go:33", after := #[], guard := none } : Oper)) (v := ?_) rfl (by kernel_rfl) (by kernel_rfl) (by kernel_rfl) (fun _ _ _ h => h) (Or.inl ⟨by rfl, ?_⟩) (by assumption) ?_
              rotate_left
              · intro wS hSw
                obtain ⟨hq1, hq2⟩ := hSw
                obtain ⟨s1, s2, s3, s4⟩ := hq1; clear hq2
                first
                  | (go_simp; done)
                  | (go_simp; with_reducible rfl)
              try simp only [Act.put, List.setIfInBounds_toArray, List.set_cons_zero, List.set_cons_succ]
              refine wpAnyH_take (i := 2) (oi := ({ dst := some 65, op := Op.load 32 (Operand.tmp 3), type := 32, pos := "ref.go:33", after := #[], guard := none } : Oper)) (v := .agg #[x0, x1, x2, .int .i64 K, .int .i64 S, .int .i64 P, .int .i64 O, .int .i8 Z, x8, .slice WA nW cW, .slice BA nB cB, x11, x12, x13, x14, x15, x16, x17, x18]) rfl (by kernel_rfl) (by kernel_rfl) (by kernel_rfl) (fun _ _ _ h => h) (yieldsIf_load_mid (by rfl) _ _ rfl (w.heap.size + 1) 0 rfl [x0, x1, x2, .int .i64 K, .int .i64 S, .int .i64 P, .int .i64 O, .int .i8 Z, x8, .slice WA nW cW, .slice BA nB cB, x11, x12, x13, x14, x15, x16, x17, x18] _ (fun w' h => h.2) Try.underlying32 rfl (by kernel_rfl)) (by assumption) ?_
              try simp only [Act.put, List.setIfInBounds_toArray, List.set_cons_zero, List.set_cons_succ]
              refine wpAnyH_take (i := 3) (oi := ({ dst := some 66, op := Op.move (Operand.tmp 11), type := 3, pos := "ref.go:33", after := #[], guard := none } : Oper)) (v := ?_) rfl (by kernel_rfl) (by kernel_rfl) (by kernel_rfl) (fun _ _ _ h => h) (Or.inl ⟨by rfl, ?_⟩) (by assumption) ?_
              rotate_left
              · intro wS hSw
                first
                  | (go_simp; done)
                  | (go_simp; with_reducible rfl)
              try simp only [Act.put, List.setIfInBounds_toArray, List.set_cons_zero, List.set_cons_succ]
              refine wpAnyH_take (i := 4) (oi := ({ dst := some 67, op := Op.move (Operand.tmp 12), type := 3, pos := "ref.go:33", after := #[], guard := none } : Oper)) (v := ?_) rfl (by kernel_rfl) (by kernel_rfl) (by kernel_rfl) (fun _ _ _ h => h) (Or.inl ⟨by rfl, ?_⟩) (by assumption) ?_
              rotate_left
              · intro wS hSw
                first
                  | (go_simp; done)
                  | (go_simp; with_reducible rfl)
              try simp only [Act.put, List.setIfInBounds_toArray, List.set_cons_zero, List.set_cons_succ]
              refine wpAnyH_take (i := 5) (oi := ({ dst := some 68, op := Op.move (Operand.tmp 14), type := 3, pos := "ref.go:33", after := #[], guard := none } : Oper)) (v := ?_) rfl (by kernel_rfl) (by kernel_rfl) (by kernel_rfl) (fun _ _ _ h => h) (Or.inl ⟨by rfl, ?_⟩) (by assumption) ?_
              rotate_left
              · intro wS hSw
                first
                  | (go_simp; done)
                  | (go_simp; with_reducible rfl)
              try simp only [Act.put, List.setIfInBounds_toArray, List.set_cons_zero, List.set_cons_succ]
              refine wpAnyH_take (i := 6) (oi := ({ dst := some 69, op := Op.fieldAddr 32 (Operand.tmp 3) 3, type := 0, pos := "ref.go:33", after := #[], guard := none } : Oper)) (v := ?_) rfl (by kernel_rfl) (by kernel_rfl) (by kernel_rfl) (fun _ _ _ h => h) (Or.inl ⟨by rfl, ?_⟩) (by assumption) ?_
              rotate_left
              · intro wS hSw
                first
                  | (go_simp; done)
                  | (go_simp; with_reducible rfl)
              try simp only [Act.put, List.setIfInBounds_toArray, List.set_cons_zero, List.set_cons_succ]
              refine wpAnyH_take (i := 7) (oi := ({ dst := some 70, op := Op.load 3 (Operand.tmp 69), type := 3, pos := "ref.go:33", after := #[{ on := 6, ground := Ground.data }], guard := none } : Oper)) (v := ?_) rfl (by kernel_rfl) (by kernel_rfl) (by kernel_rfl) (fun _ _ _ h => h) (Or.inl ⟨by rfl, ?_⟩) (by assumption) ?_
              rotate_left
              · intro wS hSw
                obtain ⟨hq1, hq2⟩ := hSw
                have hn9 := hq2.at 3 _ rfl; clear hq1 hq2
                first
                  | (go_simp; done)
                  | (go_simp; with_reducible rfl)
              try simp only [Act.put, List.setIfInBounds_toArray, List.set_cons_zero, List.set_cons_succ]
              refine wpAnyH_take (i := 8) (oi := ({ dst := some 71, op := Op.binOp BinOp.quo 3 (Operand.tmp 68) (Operand.tmp 70) 3, type := 3, pos := "ref.go:33", after := #[{ on := 5, ground := Ground.data }, { on := 7, ground := Ground.data }], guard := none } : Oper)) (v := ?_) rfl (by kernel_rfl) (by kernel_rfl) (by kernel_rfl) (fun _ _ _ h => h) (Or.inl ⟨by rfl, ?_⟩) (by assumption) ?_
              rotate_left
              · intro wS hSw
                first
                  | (go_simp; done)
                  | (go_simp; with_reducible rfl)
              try simp only [Act.put, List.setIfInBounds_toArray, List.set_cons_zero, List.set_cons_succ]
              refine wpAnyH_take (i := 9) (oi := ({ dst := some 72, op := Op.move (Operand.tmp 14), type := 3, pos := "ref.go:33", after := #[], guard := none } : Oper)) (v := ?_) rfl (by kernel_rfl) (by kernel_rfl) (by kernel_rfl) (fun _ _ _ h => h) (Or.inl ⟨by rfl, ?_⟩) (by assumption) ?_
              rotate_left
              · intro wS hSw
                first
                  | (go_simp; done)
                  | (go_simp; with_reducible rfl)
              try simp only [Act.put, List.setIfInBounds_toArray, List.set_cons_zero, List.set_cons_succ]
              refine wpAnyH_take (i := 10) (oi := ({ dst := some 73, op := Op.fieldAddr 32 (Operand.tmp 3) 3, type := 0, pos := "ref.go:33", after := #[], guard := none } : Oper)) (v := ?_) rfl (by kernel_rfl) (by kernel_rfl) (by kernel_rfl) (fun _ _ _ h => h) (Or.inl ⟨by rfl, ?_⟩) (by assumption) ?_
              rotate_left
              · intro wS hSw
                first
                  | (go_simp; done)
                  | (go_simp; with_reducible rfl)
              try simp only [Act.put, List.setIfInBounds_toArray, List.set_cons_zero, List.set_cons_succ]
              refine wpAnyH_take (i := 11) (oi := ({ dst := some 74, op := Op.load 3 (Operand.tmp 73), type := 3, pos := "ref.go:33", after := #[{ on := 10, ground := Ground.data }], guard := none } : Oper)) (v := ?_) rfl (by kernel_rfl) (by kernel_rfl) (by kernel_rfl) (fun _ _ _ h => h) (Or.inl ⟨by rfl, ?_⟩) (by assumption) ?_
              rotate_left
              · intro wS hSw
                obtain ⟨hq1, hq2⟩ := hSw
                have hn9 := hq2.at 3 _ rfl; clear hq1 hq2
                first
                  | (go_simp; done)
                  | (go_simp; with_reducible rfl)
              try simp only [Act.put, List.setIfInBounds_toArray, List.set_cons_zero, List.set_cons_succ]
              refine wpAnyH_take (i := 12) (oi := ({ dst := some 75, op := Op.binOp BinOp.rem 3 (Operand.tmp 72) (Operand.tmp 74) 3, type := 3, pos := "ref.go:33", after := #[{ on := 9, ground := Ground.data }, { on := 11, ground := Ground.data }], guard := none } : Oper)) (v := ?_) rfl (by kernel_rfl) (by kernel_rfl) (by kernel_rfl) (fun _ _ _ h => h) (Or.inl ⟨by rfl, ?_⟩) (by assumption) ?_
              rotate_left
              · intro wS hSw
                first
                  | (go_simp; done)
                  | (go_simp; with_reducible rfl)
              try simp only [Act.put, List.setIfInBounds_toArray, List.set_cons_zero, List.set_cons_succ]
              refine wpAnyH_take (i := 13) (oi := ({ dst := some 76, op := Op.move (Operand.tmp 13), type := 3, pos := "ref.go:33", after := #[], guard := none } : Oper)) (v := ?_) rfl (by kernel_rfl) (by kernel_rfl) (by kernel_rfl) (fun _ _ _ h => h) (Or.inl ⟨by rfl, ?_⟩) (by assumption) ?_
              rotate_left
              · intro wS hSw
                first
                  | (go_simp; done)
                  | (go_simp; with_reducible rfl)
              try simp only [Act.put, List.setIfInBounds_toArray, List.set_cons_zero, List.set_cons_succ]
              refine wpAnyH_take (i := 14) (oi := ({ dst := some 77, op := Op.fieldAddr 26 (Operand.tmp 2) 0, type := 0, pos := "ref.go:33", after := #[], guard := none } : Oper)) (v := ?_) rfl (by kernel_rfl) (by kernel_rfl) (by kernel_rfl) (fun _ _ _ h => h) (Or.inl ⟨by rfl, ?_⟩) (by assumption) ?_
              rotate_left
              · intro wS hSw
                first
                  | (go_simp; done)
                  | (go_simp; with_reducible rfl)
              try simp only [Act.put, List.setIfInBounds_toArray, List.set_cons_zero, List.set_cons_succ]
              refine wpAnyH_take (i := 15) (oi := ({ dst := some 78, op := Op.fieldAddr 23 (Operand.tmp 77) 2, type := 0, pos := "ref.go:33", after := #[{ on := 14, ground := Ground.data }], guard := none } : Oper)) (v := ?_) rfl (by kernel_rfl) (by kernel_rfl) (by kernel_rfl) (fun _ _ _ h => h) (Or.inl ⟨by rfl, ?_⟩) (by assumption) ?_
              rotate_left
              · intro wS hSw
                first
                  | (go_simp; done)
                  | (go_simp; with_reducible rfl)
              try simp only [Act.put, List.setIfInBounds_toArray, List.set_cons_zero, List.set_cons_succ]
              refine wpAnyH_take (i := 16) (oi := ({ dst := some 79, op := Op.load 3 (Operand.tmp 78), type := 3, pos := "ref.go:33", after := #[{ on := 15, ground := Ground.data }], guard := none } : Oper)) (v := ?_) rfl (by kernel_rfl) (by kernel_rfl) (by kernel_rfl) (fun _ _ _ h => h) (Or.inl ⟨by rfl, ?_⟩) (by assumption) ?_
              rotate_left
              · intro wS hSw
                obtain ⟨hq1, hq2⟩ := hSw
                obtain ⟨s1, s2, s3, s4⟩ := hq1; clear hq2
                first
                  | (go_simp; done)
                  | (go_simp; with_reducible rfl)
              try simp only [Act.put, List.setIfInBounds_toArray, List.set_cons_zero, List.set_cons_succ]
              refine wpAnyH_take (i := 17) (oi := ({ dst := some 80, op := Op.binOp BinOp.rem 3 (Operand.tmp 76) (Operand.tmp 79) 3, type := 3, pos := "ref.go:33", after := #[{ on := 13, ground := Ground.data }, { on := 16, ground := Ground.data }], guard := none } : Oper)) (v := ?_) rfl (by kernel_rfl) (by kernel_rfl) (by kernel_rfl) (fun _ _ _ h => h) (Or.inl ⟨by rfl, ?_⟩) (by assumption) ?_
              rotate_left
              · intro wS hSw
                first
                  | (go_simp; done)
                  | (go_simp; with_reducible rfl)
              try simp only [Act.put, List.setIfInBounds_toArray, List.set_cons_zero, List.set_cons_succ]
              refine wpAnyH_ready (rs := [18]) (by kernel_rfl) (by simp) ?_
              refine AllReadyH.cons (o := ({ dst := some 81, op := Op.call { callee := Callee.value (Operand.func 23), args := #[Operand.tmp 64, Operand.tmp 65, Operand.tmp 66, Operand.tmp 67, Operand.tmp 71, Operand.tmp 75, Operand.tmp 80], argTypes := #[26, 32, 3, 3, 3, 3, 3] }, type := 55, pos := "ref.go:33", after := #[{ on := 1, ground := Ground.data }, { on := 2, ground := Ground.data }, { on := 3, ground := Ground.data }, { on := 4, ground := Ground.data }, { on := 8, ground := Ground.data }, { on := 12, ground := Ground.data }, { on := 17, ground := Ground.data }], guard := none } : Oper)) rfl (fun Kq hK => ?_) (AllReadyH.nil)
              go_simp
              go_at_call 23
              refine (number_to H W C A zs n c HN.out HT.out HZ.out x0 x1 x2 x8 x11 x12 x13 x14 x15 x16 x17 x18 K S P O Z WA BA nW cW nB cB z1 z2 i j qi qj qc hs vs HHS.out HVS.out b1.1 b1.2 b2.1 b2.2 pd0 pd4 hqi5 hqj5 hcI _ ((HR.out.below HBW.out).more HBW.out.size) x HX.out).mono ?_
              rintro e Wb ⟨rfl, hb1⟩
              have hS1 : BoxAt w.heap.size H W C A n c _ ∧ NodeAt (w.heap.size + 1) x0 x1 x2 x8 x11 x12 x13 x14 x15 x16 x17 x18 K S P O Z WA BA nW cW nB cB _ := ⟨hHeld.1.below (B' := _) (by omega) hb1, hHeld.2.below (B' := _) (by omega) hb1⟩
              replace HBW := Lib.hid (HBW.out.trans (hb1.mono HBW.out.size))
              replace hA3 := Lib.hid (hA3.out.below h63 (by omega) hb1)
              replace hW3 := Lib.hid (Kit.own_below hW3.out hb1)
              replace hsz := Nat.le_trans hsz hb1.size
              clear hb1 hHeld
              dsimp only
              refine hK.out _ _ ?_ (fun hHeld => ?_)
              · exact hS1
              clear hK Kq
              try simp only [Act.put, List.setIfInBounds_toArray, List.set_cons_zero, List.set_cons_succ]
              refine wpAnyH_ready (rs := [19]) (by kernel_rfl) (by simp) ?_
              refine AllReadyH.cons (o := ({ dst := some 82, op := Op.buildSlice 34 1 #[(0, Operand.tmp 81)], type := 34, pos := "ref.go:33", after := #[{ on := 18, ground := Ground.data }], guard := none } : Oper)) rfl (fun Kq hK => ?_) (AllReadyH.nil)
              go_simp
              refine hK.out _ _ ?_ (fun hHeld => ?_)
              · exact ⟨hHeld.1.below (B' := Wb.heap.size) (by omega) ((Below.refl _ _).alloc (Nat.le_refl _) _), hHeld.2.below (B' := Wb.heap.size) (by omega) ((Below.refl _ _).alloc (Nat.le_refl _) _)⟩
              clear hK Kq
              try simp only [Act.put, List.setIfInBounds_toArray, List.set_cons_zero, List.set_cons_succ]
              replace HBW := Lib.hid (HBW.out.alloc HBW.out.size (.cells #[.int .i16 x] 55))
              replace hA3 := Lib.hid (hA3.out.below h63 (B' := Wb.heap.size) (by omega) ((Below.refl _ _).alloc (Nat.le_refl _) (.cells #[.int .i16 x] 55)))
              replace hW3 := Lib.hid (hW3.out.alloc (.cells #[.int .i16 x] 55))
              have HXR := Lib.hid (Kit.Rd.new Wb [.int .i16 x] 55 (Nat.lt_succ_self _))
              replace hsz : g6 + 1 ≤ (Wb.alloc (.cells #[.int .i16 x] 55)).heap.size := by simp; omega
              generalize Wb.alloc (.cells #[.int .i16 x] 55) = Wc at HBW hA3 hW3 HXR hsz hHeld ⊢
              refine wpAnyH_ready (rs := [20]) (by kernel_rfl) (by simp) ?_
              refine AllReadyH.cons (o := ({ dst := some 83, op := Op.call { callee := Callee.builtin Builtin.append, args := #[Operand.tmp 63, Operand.tmp 82], argTypes := #[34, 34] }, type := 34, pos := "ref.go:33", after := #[{ on := 0, ground := Ground.data }, { on := 19, ground := Ground.data }, { on := 18, ground := Ground.chain }], guard := none } : Oper)) rfl (fun Kq hK => ?_) (AllReadyH.nil)
              refine Kit.step_append_rd _ rfl (.tmp 63) (.tmp 82) _ rfl (g6 + 1) 55 i0 (.int .i16 0) 1 2 Try.underlying34 hi0 hi1 hi2 hi3 rfl (by decide) _ (o + k) (I16v (listF F (o + k))) rfl hW3.out _ _ 1 1 [.int .i16 x] rfl rfl HXR.out (Kit.ints_one .i16 [x]) (by unfold maxLen; omega) (by omega) (by omega) ?_
              intro v5 w5 hown5 hg5 _
              obtain ⟨A5, c5, rfl, -, -, -⟩ := Kit.own_rd hown5
              have hb5 : Below (g6 + 1) Wc w5 := (Below.refl _ _).grown hg5 hsz (Kit.own_block_ge hW3.out)
              have hS1 : BoxAt w.heap.size H W C A n c _ ∧ NodeAt (w.heap.size + 1) x0 x1 x2 x8 x11 x12 x13 x14 x15 x16 x17 x18 K S P O Z WA BA nW cW nB cB _ := ⟨hHeld.1.below (B' := _) (by omega) hb5, hHeld.2.below (B' := _) (by omega) hb5⟩
              rw [listF_succ F (o + k) x HXX.out] at hown5
              replace HBW := Lib.hid (HBW.out.trans (hb5.mono (by omega)))
              replace hA3 := Lib.hid (hA3.out.below h63 (Nat.lt_succ_self _) hb5)
              replace hW3 := Lib.hid hown5
              clear hown5 hg5 hb5 hHeld HXR
              dsimp only
              refine hK.out _ _ ?_ (fun hHeld => ?_)
              · exact hS1
              clear hK Kq
              try simp only [Act.put, List.setIfInBounds_toArray, List.set_cons_zero, List.set_cons_succ]
              refine wpAnyH_take (i := 21) (oi := ({ dst := some 10, op := Op.assign (Operand.tmp 83), type := 34, pos := "ref.go:33", after := #[{ on := 20, ground := Ground.data }, { on := 20, ground := Ground.chain }, { on := 0, ground := Ground.phase }, { on := 1, ground := Ground.phase }, { on := 2, ground := Ground.phase }, { on := 3, ground := Ground.phase }, { on := 4, ground := Ground.phase }, { on := 5, ground := Ground.phase }, { on := 6, ground := Ground.phase }, { on := 7, ground := Ground.phase }, { on := 8, ground := Ground.phase }, { on := 9, ground := Ground.phase }, { on := 10, ground := Ground.phase }, { on := 11, ground := Ground.phase }, { on := 12, ground := Ground.phase }, { on := 13, ground := Ground.phase }, { on := 14, ground := Ground.phase }, { on := 15, ground := Ground.phase }, { on := 16, ground := Ground.phase }, { on := 17, ground := Ground.phase }, { on := 18, ground := Ground.phase }, { on := 19, ground := Ground.phase }, { on := 20, ground := Ground.phase }], guard := none } : Oper)) (v := ?_) rfl (by kernel_rfl) (by kernel_rfl) (by kernel_rfl) (fun _ _ _ h => h) (Or.inl ⟨by rfl, ?_⟩) (by assumption) ?_
              rotate_left
              · intro wS hSw
                first
                  | (go_simp; done)
                  | (go_simp; with_reducible rfl)
              try simp only [Act.put, List.setIfInBounds_toArray, List.set_cons_zero, List.set_cons_succ]
              refine wpAnyH_done (by kernel_rfl) ?_ _
              clear hHeld u1 u2 u3 u4 u5 u6 u7 u8
              go_wp2_with fail
              go_roundw
              case rel => exact ⟨k + 1, by omega, by go_num, hA3, hW3⟩
              case measure => simp [intOf]; omega
            · obtain rfl : k = wd := by omega
              have e : (i * b + (j + 1)) * k = o + k := by rw [← HOO.out, ← Nat.add_assoc, Nat.add_mul _ 1, Nat.one_mul]
              have hW3 : Hid (wr.ownsRow (g6 + 1) 55 1 (.slice Av (o + k) cv) ((i * b + (j + 1)) * k) (I16v (listF F ((i * b + (j + 1)) * k)))) := by rw [e]; exact hW2
              go_wp2_with fail
              go_roundw
              case rel => exact ⟨j + 1, by omega, by go_num, hA2, hW3⟩
              case measure => simp [intOf]; omega
        · obtain rfl : j = b := by omega
          have e : (i + 1) * j * wd = (i * j + j) * wd := by rw [Nat.add_mul i 1, Nat.one_mul]
          have hW3 : Hid (wr.ownsRow (g6 + 1) 55 1 (.slice Av1 ((i * j + j) * wd) cv1) ((i + 1) * j * wd) (I16v (listF F ((i + 1) * j * wd)))) := by rw [e]; exact hW1
          go_wp2_with fail
          go_roundw
          case rel => exact ⟨i + 1, by omega, by go_num, hA1, hW3⟩
          case measure => simp [intOf]; omega
    · obtain rfl : i = a := by omega
      rw [HN1.out, HNN.out] at hW0 ⊢
      obtain ⟨hbx, hnd, hsh, hbw, hsz⟩ := hA0.out
      have HBW := Lib.hid hbw
      clear hbw
      go_wp2_with fail
      refine wp_region_held_drew (S := fun w' => BoxAt w.heap.size H W C A n c w' ∧ NodeAt (w.heap.size + 1) x0 x1 x2 x8 x11 x12 x13 x14 x15 x16 x17 x18 K S P O Z WA BA nW cW nB cB w' ∧ ShapeAt g6 (i : Int) (b : Int) 1 w') (by kernel_rfl) ⟨hbx, hnd, hsh⟩ (fun hHeld => ?_)
      refine wpAnyH_take (i := 0) (oi := ({ dst := some 84, op := Op.fieldAddr 23 (Operand.tmp 8) 0, type := 0, pos := "ref.go:37", after := #[], guard := none } : Oper)) (v := ?_) rfl (by kernel_rfl) (by kernel_rfl) (by kernel_rfl) (fun _ _ _ h => h) (Or.inl ⟨by rfl, ?_⟩) (by assumption) ?_
      rotate_left
      · intro wS hSw
        first
          | (go_simp; done)
          | (go_simp; with_reducible rfl)
      try simp only [Act.put, List.setIfInBounds_toArray, List.set_cons_zero, List.set_cons_succ]
      refine wpAnyH_take (i := 1) (oi := ({ dst := some 85, op := Op.load 3 (Operand.tmp 84), type := 3, pos := "ref.go:37", after := #[{ on := 0, ground := Ground.data }], guard := none } : Oper)) (v := ?_) rfl (by kernel_rfl) (by kernel_rfl) (by kernel_rfl) (fun _ _ _ h => h) (Or.inl ⟨by rfl, ?_⟩) (by assumption) ?_
      rotate_left
      · intro wS hSw
        obtain ⟨hq1, hq2, hq3⟩ := hSw
        obtain ⟨s1, s2, s3⟩ := hq3; clear hq1 hq2
        first
          | (go_simp; done)
          | (go_simp; with_reducible rfl)
      try simp only [Act.put, List.setIfInBounds_toArray, List.set_cons_zero, List.set_cons_succ]
      refine wpAnyH_take (i := 2) (oi := ({ dst := some 86, op := Op.fieldAddr 23 (Operand.tmp 8) 1, type := 0, pos := "ref.go:37", after := #[], guard := none } : Oper)) (v := ?_) rfl (by kernel_rfl) (by kernel_rfl) (by kernel_rfl) (fun _ _ _ h => h) (Or.inl ⟨by rfl, ?_⟩) (by assumption) ?_
      rotate_left
      · intro wS hSw
        first
          | (go_simp; done)
          | (go_simp; with_reducible rfl)
      try simp only [Act.put, List.setIfInBounds_toArray, List.set_cons_zero, List.set_cons_succ]
      refine wpAnyH_take (i := 3) (oi := ({ dst := some 87, op := Op.load 3 (Operand.tmp 86), type := 3, pos := "ref.go:37", after := #[{ on := 2, ground := Ground.data }], guard := none } : Oper)) (v := ?_) rfl (by kernel_rfl) (by kernel_rfl) (by kernel_rfl) (fun _ _ _ h => h) (Or.inl ⟨by rfl, ?_⟩) (by assumption) ?_
      rotate_left
      · intro wS hSw
        obtain ⟨hq1, hq2, hq3⟩ := hSw
        obtain ⟨s1, s2, s3⟩ := hq3; clear hq1 hq2
        first
          | (go_simp; done)
          | (go_simp; with_reducible rfl)
      try simp only [Act.put, List.setIfInBounds_toArray, List.set_cons_zero, List.set_cons_succ]
      refine wpAnyH_take (i := 4) (oi := ({ dst := some 88, op := Op.binOp BinOp.mul 3 (Operand.tmp 85) (Operand.tmp 87) 3, type := 3, pos := "ref.go:37", after := #[{ on := 1, ground := Ground.data }, { on := 3, ground := Ground.data }], guard := none } : Oper)) (v := ?_) rfl (by kernel_rfl) (by kernel_rfl) (by kernel_rfl) (fun _ _ _ h => h) (Or.inl ⟨by rfl, ?_⟩) (by assumption) ?_
      rotate_left
      · intro wS hSw
        first
          | (go_simp; done)
          | (go_simp; with_reducible rfl)
      try simp only [Act.put, List.setIfInBounds_toArray, List.set_cons_zero, List.set_cons_succ]
      refine wpAnyH_take (i := 5) (oi := ({ dst := some 89, op := Op.fieldAddr 32 (Operand.tmp 3) 3, type := 0, pos := "ref.go:37", after := #[{ on := 15, ground := Ground.gcOnly Departure.lateStores }], guard := none } : Oper)) (v := ?_) rfl (by kernel_rfl) (by kernel_rfl) (by kernel_rfl) (fun _ _ _ h => h) (Or.inl ⟨by rfl, ?_⟩) (by assumption) ?_
      rotate_left
      · intro wS hSw
        first
          | (go_simp; done)
          | (go_simp; with_reducible rfl)
      try simp only [Act.put, List.setIfInBounds_toArray, List.set_cons_zero, List.set_cons_succ]
      refine wpAnyH_take (i := 6) (oi := ({ dst := some 90, op := Op.load 3 (Operand.tmp 89), type := 3, pos := "ref.go:37", after := #[{ on := 5, ground := Ground.data }, { on := 15, ground := Ground.gcOnly Departure.lateStores }], guard := none } : Oper)) (v := ?_) rfl (by kernel_rfl) (by kernel_rfl) (by kernel_rfl) (fun _ _ _ h => h) (Or.inl ⟨by rfl, ?_⟩) (by assumption) ?_
      rotate_left
      · intro wS hSw
        obtain ⟨hq1, hq2, hq3⟩ := hSw
        have hn9 := hq2.at 3 _ rfl; clear hq1 hq2 hq3
        first
          | (go_simp; done)
          | (go_simp; with_reducible rfl)
      try simp only [Act.put, List.setIfInBounds_toArray, List.set_cons_zero, List.set_cons_succ]
      refine wpAnyH_take (i := 7) (oi := ({ dst := some 91, op := Op.fieldAddr 32 (Operand.tmp 3) 3, type := 0, pos := "ref.go:37", after := #[{ on := 15, ground := Ground.gcOnly Departure.lateStores }], guard := none } : Oper)) (v := ?_) rfl (by kernel_rfl) (by kernel_rfl) (by kernel_rfl) (fun _ _ _ h => h) (Or.inl ⟨by rfl, ?_⟩) (by assumption) ?_
      rotate_left
      · intro wS hSw
        first
          | (go_simp; done)
          | (go_simp; with_reducible rfl)
      try simp only [Act.put, List.setIfInBounds_toArray, List.set_cons_zero, List.set_cons_succ]
      refine wpAnyH_take (i := 8) (oi := ({ dst := some 92, op := Op.load 3 (Operand.tmp 91), type := 3, pos := "ref.go:37", after := #[{ on := 7, ground := Ground.data }, { on := 15, ground := Ground.gcOnly Departure.lateStores }], guard := none } : Oper)) (v := ?_) rfl (by kernel_rfl) (by kernel_rfl) (by kernel_rfl) (fun _ _ _ h => h) (Or.inl ⟨by rfl, ?_⟩) (by assumption) ?_
      rotate_left
      · intro wS hSw
        obtain ⟨hq1, hq2, hq3⟩ := hSw
        have hn9 := hq2.at 3 _ rfl; clear hq1 hq2 hq3
        first
          | (go_simp; done)
          | (go_simp; with_reducible rfl)
      try simp only [Act.put, List.setIfInBounds_toArray, List.set_cons_zero, List.set_cons_succ]
      refine wpAnyH_take (i := 9) (oi := ({ dst := some 93, op := Op.binOp BinOp.mul 3 (Operand.tmp 90) (Operand.tmp 92) 3, type := 3, pos := "ref.go:37", after := #[{ on := 6, ground := Ground.data }, { on := 8, ground := Ground.data }, { on := 15, ground := Ground.gcOnly Departure.lateStores }], guard := none } : Oper)) (v := ?_) rfl (by kernel_rfl) (by kernel_rfl) (by kernel_rfl) (fun _ _ _ h => h) (Or.inl ⟨by rfl, ?_⟩) (by assumption) ?_
      rotate_left
      · intro wS hSw
        first
          | (go_simp; done)
          | (go_simp; with_reducible rfl)
      try simp only [Act.put, List.setIfInBounds_toArray, List.set_cons_zero, List.set_cons_succ]
      refine wpAnyH_take (i := 10) (oi := ({ dst := some 94, op := Op.fieldAddr 26 (Operand.tmp 2) 0, type := 0, pos := "ref.go:37", after := #[{ on := 15, ground := Ground.gcOnly Departure.lateStores }], guard := none } : Oper)) (v := ?_) rfl (by kernel_rfl) (by kernel_rfl) (by kernel_rfl) (fun _ _ _ h => h) (Or.inl ⟨by rfl, ?_⟩) (by assumption) ?_
      rotate_left
      · intro wS hSw
        first
          | (go_simp; done)
          | (go_simp; with_reducible rfl)
      try simp only [Act.put, List.setIfInBounds_toArray, List.set_cons_zero, List.set_cons_succ]
      refine wpAnyH_take (i := 11) (oi := ({ dst := some 95, op := Op.fieldAddr 23 (Operand.tmp 94) 2, type := 0, pos := "ref.go:37", after := #[{ on := 10, ground := Ground.data }, { on := 15, ground := Ground.gcOnly Departure.lateStores }], guard := none } : Oper)) (v := ?_) rfl (by kernel_rfl) (by kernel_rfl) (by kernel_rfl) (fun _ _ _ h => h) (Or.inl ⟨by rfl, ?_⟩) (by assumption) ?_
      rotate_left
      · intro wS hSw
        first
          | (go_simp; done)
          | (go_simp; with_reducible rfl)
      try simp only [Act.put, List.setIfInBounds_toArray, List.set_cons_zero, List.set_cons_succ]
      refine wpAnyH_take (i := 12) (oi := ({ dst := some 96, op := Op.load 3 (Operand.tmp 95), type := 3, pos := "ref.go:37", after := #[{ on := 11, ground := Ground.data }, { on := 15, ground := Ground.gcOnly Departure.lateStores }], guard := none } : Oper)) (v := ?_) rfl (by kernel_rfl) (by kernel_rfl) (by kernel_rfl) (fun _ _ _ h => h) (Or.inl ⟨by rfl, ?_⟩) (by assumption) ?_
      rotate_left
      · intro wS hSw
        obtain ⟨hq1, hq2, hq3⟩ := hSw
        obtain ⟨s1, s2, s3, s4⟩ := hq1; clear hq2 hq3
        first
          | (go_simp; done)
          | (go_simp; with_reducible rfl)
      try simp only [Act.put, List.setIfInBounds_toArray, List.set_cons_zero, List.set_cons_succ]
      refine wpAnyH_take (i := 13) (oi := ({ dst := some 97, op := Op.binOp BinOp.mul 3 (Operand.tmp 93) (Operand.tmp 96) 3, type := 3, pos := "ref.go:37", after := #[{ on := 9, ground := Ground.data }, { on := 12, ground := Ground.data }, { on := 15, ground := Ground.gcOnly Departure.lateStores }], guard := none } : Oper)) (v := ?_) rfl (by kernel_rfl) (by kernel_rfl) (by kernel_rfl) (fun _ _ _ h => h) (Or.inl ⟨by rfl, ?_⟩) (by assumption) ?_
      rotate_left
      · intro wS hSw
        first
          | (go_simp; done)
          | (go_simp; with_reducible rfl)
      try simp only [Act.put, List.setIfInBounds_toArray, List.set_cons_zero, List.set_cons_succ]
      refine wpAnyH_take (i := 14) (oi := ({ dst := some 98, op := Op.move (Operand.tmp 10), type := 34, pos := "ref.go:37", after := #[{ on := 16, ground := Ground.gcOnly Departure.lateStores }], guard := none } : Oper)) (v := ?_) rfl (by kernel_rfl) (by kernel_rfl) (by kernel_rfl) (fun _ _ _ h => h) (Or.inl ⟨by rfl, ?_⟩) (by assumption) ?_
      rotate_left
      · intro wS hSw
        first
          | (go_simp; done)
          | (go_simp; with_reducible rfl)
      try simp only [Act.put, List.setIfInBounds_toArray, List.set_cons_zero, List.set_cons_succ]
      refine wpAnyH_take (i := 15) (oi := ({ dst := some 4, op := Op.assign (Operand.tmp 88), type := 3, pos := "ref.go:37", after := #[{ on := 4, ground := Ground.data }, { on := 0, ground := Ground.phase }, { on := 1, ground := Ground.phase }, { on := 2, ground := Ground.phase }, { on := 3, ground := Ground.phase }, { on := 4, ground := Ground.phase }, { on := 5, ground := Ground.textOnly Departure.lateStores }, { on := 6, ground := Ground.textOnly Departure.lateStores }, { on := 7, ground := Ground.textOnly Departure.lateStores }, { on := 8, ground := Ground.textOnly Departure.lateStores }, { on := 9, ground := Ground.textOnly Departure.lateStores }, { on := 10, ground := Ground.textOnly Departure.lateStores }, { on := 11, ground := Ground.textOnly Departure.lateStores }, { on := 12, ground := Ground.textOnly Departure.lateStores }, { on := 13, ground := Ground.textOnly Departure.lateStores }, { on := 14, ground := Ground.textOnly Departure.lateStores }], guard := none } : Oper)) (v := ?_) rfl (by kernel_rfl) (by kernel_rfl) (by kernel_rfl) (fun _ _ _ h => h) (Or.inl ⟨by rfl, ?_⟩) (by assumption) ?_
      rotate_left
      · intro wS hSw
        first
          | (go_simp; done)
          | (go_simp; with_reducible rfl)
      try simp only [Act.put, List.setIfInBounds_toArray, List.set_cons_zero, List.set_cons_succ]
      refine wpAnyH_take (i := 16) (oi := ({ dst := some 5, op := Op.assign (Operand.tmp 97), type := 3, pos := "ref.go:37", after := #[{ on := 13, ground := Ground.data }, { on := 15, ground := Ground.chain }, { on := 0, ground := Ground.phase }, { on := 1, ground := Ground.phase }, { on := 2, ground := Ground.phase }, { on := 3, ground := Ground.phase }, { on := 4, ground := Ground.phase }, { on := 5, ground := Ground.phase }, { on := 6, ground := Ground.phase }, { on := 7, ground := Ground.phase }, { on := 8, ground := Ground.phase }, { on := 9, ground := Ground.phase }, { on := 10, ground := Ground.phase }, { on := 11, ground := Ground.phase }, { on := 12, ground := Ground.phase }, { on := 13, ground := Ground.phase }, { on := 14, ground := Ground.textOnly Departure.lateStores }, { on := 15, ground := Ground.phase }], guard := none } : Oper)) (v := ?_) rfl (by kernel_rfl) (by kernel_rfl) (by kernel_rfl) (fun _ _ _ h => h) (Or.inl ⟨by rfl, ?_⟩) (by assumption) ?_
      rotate_left
      · intro wS hSw
        first
          | (go_simp; done)
          | (go_simp; with_reducible rfl)
      try simp only [Act.put, List.setIfInBounds_toArray, List.set_cons_zero, List.set_cons_succ]
      refine wpAnyH_take (i := 17) (oi := ({ dst := some 6, op := Op.assign (Operand.tmp 98), type := 34, pos := "ref.go:37", after := #[{ on := 14, ground := Ground.data }, { on := 16, ground := Ground.chain }, { on := 0, ground := Ground.phase }, { on := 1, ground := Ground.phase }, { on := 2, ground := Ground.phase }, { on := 3, ground := Ground.phase }, { on := 4, ground := Ground.phase }, { on := 5, ground := Ground.phase }, { on := 6, ground := Ground.phase }, { on := 7, ground := Ground.phase }, { on := 8, ground := Ground.phase }, { on := 9, ground := Ground.phase }, { on := 10, ground := Ground.phase }, { on := 11, ground := Ground.phase }, { on := 12, ground := Ground.phase }, { on := 13, ground := Ground.phase }, { on := 14, ground := Ground.phase }, { on := 15, ground := Ground.phase }, { on := 16, ground := Ground.phase }], guard := none } : Oper)) (v := ?_) rfl (by kernel_rfl) (by kernel_rfl) (by kernel_rfl) (fun _ _ _ h => h) (Or.inl ⟨by rfl, ?_⟩) (by assumption) ?_
      rotate_left
      · intro wS hSw
        first
          | (go_simp; done)
          | (go_simp; with_reducible rfl)
      try simp only [Act.put, List.setIfInBounds_toArray, List.set_cons_zero, List.set_cons_succ]
      refine wpAnyH_take (i := 18) (oi := ({ dst := some 7, op := Op.assign (Operand.const (Value.int IntKind.i64 0)), type := 3, pos := "ref.go:37", after := #[{ on := 17, ground := Ground.chain }, { on := 0, ground := Ground.phase }, { on := 1, ground := Ground.phase }, { on := 2, ground := Ground.phase }, { on := 3, ground := Ground.phase }, { on := 4, ground := Ground.phase }, { on := 5, ground := Ground.phase }, { on := 6, ground := Ground.phase }, { on := 7, ground := Ground.phase }, { on := 8, ground := Ground.phase }, { on := 9, ground := Ground.phase }, { on := 10, ground := Ground.phase }, { on := 11, ground := Ground.phase }, { on := 12, ground := Ground.phase }, { on := 13, ground := Ground.phase }, { on := 14, ground := Ground.phase }, { on := 15, ground := Ground.phase }, { on := 16, ground := Ground.phase }, { on := 17, ground := Ground.phase }], guard := none } : Oper)) (v := ?_) rfl (by kernel_rfl) (by kernel_rfl) (by kernel_rfl) (fun _ _ _ h => h) (Or.inl ⟨by rfl, ?_⟩) (by assumption) ?_
      rotate_left
      · intro wS hSw
        first
          | (go_simp; done)
          | (go_simp; with_reducible rfl)
      try simp only [Act.put, List.setIfInBounds_toArray, List.set_cons_zero, List.set_cons_succ]
      refine wpAnyH_done (by kernel_rfl) ?_ _
      clear hHeld
      go_wp2_with fail
      refine bodyPost_ret (results_4 rfl _ _ _) rfl ?_
      exact ⟨_, rfl, Kit.own_base (Kit.own_below hW0.out (Below.refl _ _).drew) (by omega), HBW.out.drew⟩
end Go.Proofs.Ytdoonfbcbohdoaa.CPatch
