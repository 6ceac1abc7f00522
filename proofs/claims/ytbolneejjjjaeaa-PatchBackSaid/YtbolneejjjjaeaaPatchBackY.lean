/- Layer 11 (patch): rows that are put together again: the sums (code). -/
import Derived.Test.YtbolneejjjjaeaaPatchBackC
import Derived.Deep.CutRange
namespace Go.Proofs.Ytbolneejjjjaeaa.CPatch
open Go Go.ChangeShapes Go.WideShapes Go.ChangeAt Go.RowKit
open Plain CSat CShape CTensor CConv
set_option linter.unusedVariables false

set_option maxRecDepth 100000 in
set_option maxHeartbeats 8000000 in
theorem pBack_yes (AD : Option Addr) (cD : Nat) (xs : List Int) (H W C : Int) (x0 x1 x2 x8 x11 x12 x13 x14 x15 x16 x17 x18 : Value) (K S P O Z : Int) (WA BA : Option Addr) (nW cW nB cB : Nat) (he : slideE H W C K S P 1 = 0) (a b kk d k2 wd N1 : Nat) (ha : stepsM H K S P = (a : Int)) (hb : stepsM W K S P = (b : Int)) (hk : K = (kk : Int)) (hd : C = (d : Int)) (hk2 : kk * kk = k2) (hwd : k2 * d = wd) (hN1 : a * b = N1) (hx : xs.length = N1 * wd) (hxb : ∀ q, -32768 ≤ xs.getD q 0 ∧ xs.getD q 0 ≤ 32767) (E : Nat) (hEl : elemsZ H W C = (E : Int)) (w : World) (hr : Kit.Rd w w.heap.size AD (I16v xs)) :
    Calls Try.prog 6 #[.agg #[.int .i64 (N1 : Int), .int .i64 (wd : Int), .slice AD (N1 * wd) cD], .agg #[.int .i64 H, .int .i64 W, .int .i64 C], .agg #[x0, x1, x2, .int .i64 K, .int .i64 S, .int .i64 P, .int .i64 O, .int .i8 Z, x8, .slice WA nW cW, .slice BA nB cB, x11, x12, x13, x14, x15, x16, x17, x18]] w (MadeS w E (listF (accF (hitF H W C S P b kk d wd) (fun t => xs.getD t 0) (N1 * wd)) E) 0) := by
  obtain ⟨hs0, har1, har2, -, -, hsr⟩ := slide_ok he
  obtain ⟨g1, g2, g3, g4, g5, g6, g7⟩ := shapeB_yes hs0
  obtain ⟨q1, q2, q3, q4, q5, q6, q7⟩ := shapeB_yes hsr
  obtain ⟨-, -, k1, k5, st1, st4, pd0, pd4, -⟩ := argsB_yes har1
  have hv : slideS H W C K S P 1 = #[.int .i64 (a : Int), .int .i64 (b : Int), .int .i64 1] := by
    unfold slideS; rw [he, if_pos rfl, ha, hb]
  have hN1b : N1 ≤ 1024 := by
    have : ((N1 : Nat) : Int) = stepsM H K S P * stepsM W K S P * 1 := by rw [ha, hb, ← hN1]; simp
    omega
  have hkk1 : 1 ≤ kk := by omega
  have hkk5 : kk ≤ 5 := by omega
  have hk25 : k2 ≤ 25 := by rw [← hk2]; exact Nat.le_trans (Nat.mul_le_mul hkk5 hkk5) (by omega)
  have hd1 : d ≤ 1024 := by omega
  have hd0 : 1 ≤ d := by omega
  have hwdb : wd ≤ 25600 := by rw [← hwd]; exact Nat.le_trans (Nat.mul_le_mul hk25 hd1) (by omega)
  have hm1 : IntKind.i64.wrap ((a : Int) * (b : Int)) = (N1 : Int) := by rw [← Int.natCast_mul, hN1]; exact IntWalk.i64_in _ (by omega)
  have hm2 : IntKind.i64.wrap (K * K) = (k2 : Int) := by rw [hk, ← Int.natCast_mul, hk2]; exact IntWalk.i64_in _ (by omega)
  have hm3 : IntKind.i64.wrap ((k2 : Int) * C) = (wd : Int) := by rw [hd, ← Int.natCast_mul, hwd]; exact IntWalk.i64_in _ (by omega)
  obtain ⟨N, hN⟩ : ∃ N, N1 * wd = N := ⟨_, rfl⟩
  have hNb : N ≤ 26214400 := by rw [← hN]; exact Nat.le_trans (Nat.mul_le_mul hN1b hwdb) (by omega)
  have m4 : IntKind.i64.wrap ((N1 : Int) * (wd : Int)) = (N : Int) := by rw [← Int.natCast_mul, hN]; exact IntWalk.i64_in _ (by omega)
  have ha1024 : a ≤ 1024 := by omega
  have hb1024 : b ≤ 1024 := by omega
  have hb0 : 0 < b := by omega
  rw [hN] at hx ⊢
  have hE1 : E ≤ 1048576 := by
    have := elemsZ_bd H W C
    omega
  have hEm : (E : Int) = H * W * C := by rw [← hEl]; exact elemsZ_yes hs0
  obtain ⟨hit, hhit⟩ : ∃ h, hitF H W C S P b kk d wd = h := ⟨_, rfl⟩
  rw [hhit]
  have HE := Lib.hid he
  have HV := Lib.hid hv
  have HEL := Lib.hid hEl
  have HEM := Lib.hid hEm
  have HS0 := Lib.hid hs0
  have HX := Lib.hid hx
  have HXB := Lib.hid hxb
  have HR := Lib.hid hr
  have HRA := Lib.hid hr
  have HHIT := Lib.hid hhit
  have HK := Lib.hid hk
  have HD := Lib.hid hd
  have HK2 := Lib.hid hk2
  have HWD := Lib.hid hwd
  have HN1 := Lib.hid hN1
  have HNN := Lib.hid hN
  have HM1 := Lib.hid hm1
  have HM2 := Lib.hid hm2
  have HM3 := Lib.hid hm3
  clear he hv hEl hEm hs0 hx hxb hr hhit hk hd hk2 hwd hN1 hN hm1 hm2 hm3 ha hb har1 har2 hsr g7 q1 q2 q3 q4 q5 q6 q7
  obtain ⟨i0, hi0, hi1, hi2, hi3⟩ := info_parts16 info32
  go_enter Try.func6, Try.ntmps6
  go_upto_region 5 with (first
    | (go_at_call 14
       have hal : Below w.heap.size w (((w.alloc (.cells #[.int .i64 (N1 : Int), .int .i64 (wd : Int), .slice AD N cD] 37)).alloc (.cells #[.int .i64 H, .int .i64 W, .int .i64 C] 23)).alloc (.cells #[x0, x1, x2, .int .i64 K, .int .i64 S, .int .i64 P, .int .i64 O, .int .i8 Z, x8, .slice WA nW cW, .slice BA nB cB, x11, x12, x13, x14, x15, x16, x17, x18] 30)) := (((Below.refl _ _).alloc (by first | exact Nat.le_refl _ | (simp; done) | (simp; omega)) _).alloc (by first | exact Nat.le_refl _ | (simp; done) | (simp; omega)) _).alloc (by first | exact Nat.le_refl _ | (simp; done) | (simp; omega)) _
       refine (slide_to H W C K S P 1 0 _ HE.out HV.out _).mono ?_
       rintro e w1 ⟨rfl, hb⟩
       have hh : Below w.heap.size w w1 := hal.trans (hb.mono hal.size)
       have qTR0 := (rbox_new (N1 : Int) (wd : Int) (.slice AD N cD) 37) w
       try simp only [World.size_alloc] at qTR0
       have TR0 := Lib.hid ((qTR0.below (B' := w.heap.size + 1) (by omega) ((((Below.refl _ _).alloc (by first | exact Nat.le_refl _ | (simp; done) | (simp; omega)) _).alloc (by first | exact Nat.le_refl _ | (simp; done) | (simp; omega)) _).mono (by simp))).below (by first | (simp; done) | (simp; omega)) hb)
       have yTR0 : w.heap.size < w1.heap.size := by have := hb.size; simp at this; omega
       clear qTR0
       have qTB := (shapeNew H W C 23) (w.alloc (.cells #[.int .i64 (N1 : Int), .int .i64 (wd : Int), .slice AD N cD] 37))
       try simp only [World.size_alloc] at qTB
       have TB := Lib.hid ((qTB.below (B' := w.heap.size + 2) (by omega) (((Below.refl _ _).alloc (by first | exact Nat.le_refl _ | (simp; done) | (simp; omega)) _).mono (by simp))).below (by first | (simp; done) | (simp; omega)) hb)
       have yTB : w.heap.size + 1 < w1.heap.size := by have := hb.size; simp at this; omega
       clear qTB
       have qTN := (NodeAt.new x0 x1 x2 x8 x11 x12 x13 x14 x15 x16 x17 x18 K S P O Z WA BA nW cW nB cB 30) ((w.alloc (.cells #[.int .i64 (N1 : Int), .int .i64 (wd : Int), .slice AD N cD] 37)).alloc (.cells #[.int .i64 H, .int .i64 W, .int .i64 C] 23))
       try simp only [World.size_alloc] at qTN
       have TN := Lib.hid (qTN.below (by first | (simp; done) | (simp; omega)) hb)
       have yTN : w.heap.size + 2 < w1.heap.size := by have := hb.size; simp at this; omega
       clear qTN
       replace HR := Lib.hid ((HR.out.below hh).more hh.size)
       have HBW : Hid (Below w.heap.size w w1) := Lib.hid hh
       obtain ⟨tr0p0, tr0p1, tr0p2⟩ := TR0.out
       obtain ⟨tbp0, tbp1, tbp2⟩ := TB.out
       have n3 := TN.out.at 3 _ rfl
       have n4 := TN.out.at 4 _ rfl
       have n5 := TN.out.at 5 _ rfl
       clear hb hh hal)
    | (go_at_call 15
       have hal : Below w1.heap.size w1 (w1.alloc (.cells #[.int .i64 (a : Int), .int .i64 (b : Int), .int .i64 1] 23)) := (Below.refl _ _).alloc (by first | exact Nat.le_refl _ | (simp; done) | (simp; omega)) _
       refine (empty_to H W C (a : Int) (b : Int) 1 x0 x1 x2 x8 x11 x12 x13 x14 x15 x16 x17 x18 K S P O Z WA BA nW cW nB cB (N1 : Int) (k2 : Int) (wd : Int) HM1.out HM2.out HM3.out _).mono ?_
       rintro e w2 ⟨rfl, hb⟩
       have hh : Below w1.heap.size w1 w2 := hal.trans (hb.mono hal.size)
       have qTS2 := (shapeNew (a : Int) (b : Int) 1 23) w1
       try simp only [World.size_alloc] at qTS2
       have TS2 := Lib.hid (qTS2.below (by first | (simp; done) | (simp; omega)) hb)
       have yTS2 : w1.heap.size < w2.heap.size := by have := hb.size; simp at this; omega
       clear qTS2
       replace TR0 := Lib.hid (TR0.out.below yTR0 hh)
       replace yTR0 := Nat.lt_of_lt_of_le yTR0 hh.size
       replace TB := Lib.hid (TB.out.below yTB hh)
       replace yTB := Nat.lt_of_lt_of_le yTB hh.size
       replace TN := Lib.hid (TN.out.below yTN hh)
       replace yTN := Nat.lt_of_lt_of_le yTN hh.size
       replace HR := Lib.hid ((HR.out.below hh).more hh.size)
       replace HBW := Lib.hid (HBW.out.trans (hh.mono HBW.out.size))
       clear tr0p0 tr0p1 tr0p2 tbp0 tbp1 tbp2 n3 n4 n5
       obtain ⟨tr0p0, tr0p1, tr0p2⟩ := TR0.out
       obtain ⟨tbp0, tbp1, tbp2⟩ := TB.out
       have n3 := TN.out.at 3 _ rfl
       have n4 := TN.out.at 4 _ rfl
       have n5 := TN.out.at 5 _ rfl
       obtain ⟨ts2p0, ts2p1, ts2p2⟩ := TS2.out
       clear hb hh hal)
    | (refine wpList_load_mid rfl 30 (.tmp 5) rfl (w.heap.size + 2) 0 rfl [x0, x1, x2, .int .i64 K, .int .i64 S, .int .i64 P, .int .i64 O, .int .i8 Z, x8, .slice WA nW cW, .slice BA nB cB, x11, x12, x13, x14, x15, x16, x17, x18] _ (TN.out.below yTN ((Below.refl _ _).alloc (Nat.le_refl _) _)) Try.underlying30 rfl (by kernel_rfl) ?_))
  have hal : Below w2.heap.size w2 (w2.alloc (.cells #[.int .i64 (N1 : Int), .int .i64 (wd : Int), .slice none 0 0] 37)) := (Below.refl _ _).alloc (Nat.le_refl _) _
  replace TR0 := Lib.hid (TR0.out.below yTR0 hal)
  have TRr := Lib.hid (rbox_new (N1 : Int) (wd : Int) (.slice none 0 0) 37 w2)
  replace HBW := Lib.hid (HBW.out.trans (hal.mono HBW.out.size))
  replace TB := Lib.hid (TB.out.below yTB hal)
  replace TN := Lib.hid (TN.out.below yTN hal)
  replace TS2 := Lib.hid (TS2.out.below yTS2 hal)
  replace HR := Lib.hid ((HR.out.below hal).more hal.size)
  replace yTR0 := Nat.lt_of_lt_of_le yTR0 hal.size
  replace yTB := Nat.lt_of_lt_of_le yTB hal.size
  replace yTN := Nat.lt_of_lt_of_le yTN hal.size
  replace yTS2 := Nat.lt_of_lt_of_le yTS2 hal.size
  have yTRr : w2.heap.size < (w2.alloc (.cells #[.int .i64 (N1 : Int), .int .i64 (wd : Int), .slice none 0 0] 37)).heap.size := by simp
  clear hal tr0p0 tr0p1 tr0p2 tbp0 tbp1 tbp2 ts2p0 ts2p1 ts2p2 n3 n4 n5
  generalize w2.alloc (.cells #[.int .i64 (N1 : Int), .int .i64 (wd : Int), .slice none 0 0] 37) = Wm at TR0 TRr TB TN TS2 HR HBW yTR0 yTB yTN yTS2 yTRr ⊢
  generalize w2.heap.size = g2' at TRr yTRr ⊢
  obtain ⟨tr0p0, tr0p1, tr0p2⟩ := TR0.out
  obtain ⟨tbp0, tbp1, tbp2⟩ := TB.out
  obtain ⟨trrp0, trrp1, trrp2⟩ := TRr.out
  go_upto_region 8 with (first
    | (go_at_call 16
       have hal : Below Wm.heap.size Wm Wm := Below.refl _ _
       refine (elems_to H W C (E : Int) HEL.out _).mono ?_
       rintro e w3 ⟨rfl, hb⟩
       have hh : Below Wm.heap.size Wm w3 := hal.trans (hb.mono hal.size)
       replace TR0 := Lib.hid (TR0.out.below yTR0 hh)
       replace yTR0 := Nat.lt_of_lt_of_le yTR0 hh.size
       replace TB := Lib.hid (TB.out.below yTB hh)
       replace yTB := Nat.lt_of_lt_of_le yTB hh.size
       replace TN := Lib.hid (TN.out.below yTN hh)
       replace yTN := Nat.lt_of_lt_of_le yTN hh.size
       replace TS2 := Lib.hid (TS2.out.below yTS2 hh)
       replace yTS2 := Nat.lt_of_lt_of_le yTS2 hh.size
       replace HR := Lib.hid ((HR.out.below hh).more hh.size)
       replace HBW := Lib.hid (HBW.out.trans (hh.mono HBW.out.size))
       clear tr0p0 tr0p1 tr0p2 tbp0 tbp1 tbp2 trrp0 trrp1 trrp2
       obtain ⟨tr0p0, tr0p1, tr0p2⟩ := TR0.out
       obtain ⟨tbp0, tbp1, tbp2⟩ := TB.out
       obtain ⟨ts2p0, ts2p1, ts2p2⟩ := TS2.out
       clear hb hh hal)
    | (at_make; refine wpList_make_full _ rfl (.tmp 54) (.tmp 54) _ rfl w.heap.size 21 i0 (.int .i32 0) 1 Try.underlying26 hi0 hi1 hi2 .i64 .i64 _ _ E rfl rfl rfl rfl (by rw [hi3]; omega) (by unfold maxLen; omega) (by have := HBW.out.size; omega) ?_; intro W5 hown hg2))
  have hb5 : Below w3.heap.size w3 (W5.alloc (.cells #[.slice (some ⟨w3.heap.size, 0, none⟩) E E] 26)) := ((Below.refl w3.heap.size w3).grown hg2 (Nat.le_refl _) (fun k hk => by cases hk)).alloc hg2.size _
  have hgs : w3.heap.size < W5.heap.size := Kit.block_lt_of_own hown
  have HO := Lib.hid (hown.alloc (.cells #[.slice (some ⟨w3.heap.size, 0, none⟩) E E] 26))
  have hpu : (W5.alloc (.cells #[.slice (some ⟨w3.heap.size, 0, none⟩) E E] 26)).cell? ⟨W5.heap.size, 0, none⟩ = some (.slice (some ⟨w3.heap.size, 0, none⟩) E E) := Kit.new_cell _ _ _ _
  have hz5 : W5.heap.size < (W5.alloc (.cells #[.slice (some ⟨w3.heap.size, 0, none⟩) E E] 26)).heap.size := by simp
  have yw0 : w.heap.size ≤ w3.heap.size := HBW.out.size
  replace TR0 := Lib.hid (TR0.out.below yTR0 hb5)
  replace TB := Lib.hid (TB.out.below yTB hb5)
  replace TN := Lib.hid (TN.out.below yTN hb5)
  replace TS2 := Lib.hid (TS2.out.below yTS2 hb5)
  replace HR := Lib.hid ((HR.out.below hb5).more hb5.size)
  replace HBW := Lib.hid (HBW.out.trans (hb5.mono HBW.out.size))
  rw [show (madeCells (Value.int IntKind.i32 0).cells (E * 1)).toList = I32v (listF (accF hit (fun t => xs.getD t 0) (0 * d)) E) by
    rw [Nat.mul_one, Nat.zero_mul]; show (madeCells #[Value.int .i32 0] E).toList = _; rw [toList_madeCells_one]
    apply List.ext_getElem <;> simp [I32v, listF, accF]] at HO
  have HOO := HO
  clear hown hg2 hb5 HO
  generalize (W5.alloc (.cells #[.slice (some ⟨w3.heap.size, 0, none⟩) E E] 26)) = V at TR0 TB TN TS2 HR HBW HOO hpu hz5 ⊢
  obtain ⟨r0, r1, r2⟩ := TR0.out
  obtain ⟨b0, b1, b2⟩ := TB.out
  obtain ⟨t0, t1, t2⟩ := TS2.out
  go_wp2_with (refine wpList_load_mid rfl 30 (.tmp 5) rfl (w.heap.size + 2) 0 rfl [x0, x1, x2, .int .i64 K, .int .i64 S, .int .i64 P, .int .i64 O, .int .i8 Z, x8, .slice WA nW cW, .slice BA nB cB, x11, x12, x13, x14, x15, x16, x17, x18] _ (TN.out) Try.underlying30 rfl (by kernel_rfl) ?_)
  go_at_call 17
  have HR0 : Kit.Rd V w.heap.size AD (I16v xs) := HRA.out.below HBW.out
  have hBA : BackAt (w.heap.size + 1) W5.heap.size w.heap.size w3.heap.size w.heap.size H W C (N1 : Int) (wd : Int) AD N cD E xs hit d 0 V := ⟨TB.out, hpu, TR0.out, HOO.out, HR0, HBW.out.size⟩
  have hin : ∀ (i q : Nat) (y x pos : Int), i < N1 → q < k2 → y = ((i / b : Nat) : Int) * S - P + ((q / kk : Nat) : Int) → x = ((i % b : Nat) : Int) * S - P + ((q % kk : Nat) : Int) → 0 ≤ y → y < H → 0 ≤ x → x < W → (y * W + x) * C = pos → ∀ v : World, BackAt (w.heap.size + 1) W5.heap.size w.heap.size w3.heap.size w.heap.size H W C (N1 : Int) (wd : Int) AD N cD E xs hit d (i * k2 + q) v →
      Calls Try.prog 19 #[.int .i64 ((i * wd + q * d : Nat) : Int), .int .i64 pos, .pointer (some ⟨w.heap.size + 1, 0, none⟩), .pointer (some ⟨W5.heap.size, 0, none⟩), .pointer (some ⟨w.heap.size, 0, none⟩)] v fun e v' => (∃ u, e = .returned u) ∧ BackAt (w.heap.size + 1) W5.heap.size w.heap.size w3.heap.size w.heap.size H W C (N1 : Int) (wd : Int) AD N cD E xs hit d (i * k2 + (q + 1)) v' ∧ v.grownBy v' (some w3.heap.size) := by
    intro i q y x pos hi hq hy hx i1 i2 i3 i4 hp v hI
    obtain ⟨-, -, p1, p2, -⟩ := at_bd HS0.out i1 i2 i3 i4 (c := C - 1) (by omega) (by omega)
    obtain ⟨pn, rfl⟩ := Int.eq_ofNat_of_zero_le (show 0 ≤ pos by omega)
    have hat : (i * k2 + q) * d = i * wd + q * d := by rw [Nat.add_mul, Nat.mul_assoc, HWD.out]
    have hNle : (i * k2 + q) * d + d ≤ N := by
      have h1 := Nat.mul_le_mul_right k2 (show i + 1 ≤ N1 by omega)
      rw [Nat.add_mul, Nat.one_mul] at h1
      have h2 := Nat.mul_le_mul_right d (show i * k2 + q + 1 ≤ N1 * k2 by omega)
      rw [Nat.add_mul, Nat.one_mul, Nat.mul_assoc, HWD.out, HNN.out] at h2
      exact h2
    have hDD := HD.out
    have hMM := HEM.out
    refine visit_back (w.heap.size + 1) W5.heap.size w.heap.size w3.heap.size w.heap.size (by omega) (by omega) (by omega) (by omega) H W C (N1 : Int) (wd : Int) AD N cD E xs hit d (i * k2 + q) (i * wd + q * d) pn hDD HX.out HXB.out hat (by rw [← hat]; exact hNle) (by omega) (by omega) hE1 (fun t ht => ?_) v hI
    rw [← HHIT.out, ← hat]
    exact hitF_in HWD.out hq hy hx i1 i2 i3 i4 hp t ht
  have hskip : ∀ (i q : Nat) (y x : Int), i < N1 → q < k2 → y = ((i / b : Nat) : Int) * S - P + ((q / kk : Nat) : Int) → x = ((i % b : Nat) : Int) * S - P + ((q % kk : Nat) : Int) → ¬ (0 ≤ y ∧ y < H ∧ 0 ≤ x ∧ x < W) → ∀ v : World, BackAt (w.heap.size + 1) W5.heap.size w.heap.size w3.heap.size w.heap.size H W C (N1 : Int) (wd : Int) AD N cD E xs hit d (i * k2 + q) v → BackAt (w.heap.size + 1) W5.heap.size w.heap.size w3.heap.size w.heap.size H W C (N1 : Int) (wd : Int) AD N cD E xs hit d (i * k2 + (q + 1)) v := by
    intro i q y x hi hq hy hx ho v hI
    obtain ⟨j1, j2, j3, j4, j5, j6⟩ := hI
    refine ⟨j1, j2, j3, ?_, j5, j6⟩
    rw [show listF (accF hit (fun t => xs.getD t 0) ((i * k2 + (q + 1)) * d)) E = listF (accF hit (fun t => xs.getD t 0) ((i * k2 + q) * d)) E from listF_congr fun p _ => by
      rw [← Nat.add_assoc, Nat.add_mul _ 1, Nat.one_mul]
      exact acc_skips p d (fun c hc => by rw [← HHIT.out]; exact hitF_out HWD.out hq hy hx ho c hc)]
    exact j4
  refine (each_back H W C HS0.out x0 x1 x2 x8 x11 x12 x13 x14 x15 x16 x17 x18 K S P O Z WA BA nW cW nB cB a b kk k2 d HK.out hkk1 hkk5 HK2.out hb0 ha1024 hb1024 HD.out st1 st4 pd0 pd4 (N1 : Int) (wd : Int) (.slice AD N cD) wd rfl HWD.out N1 HN1.out hN1b (w.heap.size + 1) W5.heap.size w.heap.size w3.heap.size (fun k v => BackAt (w.heap.size + 1) W5.heap.size w.heap.size w3.heap.size w.heap.size H W C (N1 : Int) (wd : Int) AD N cD E xs hit d k v) V (by omega) (fun k v v' h hb => h.stay hb) hin hskip hBA).mono ?_
  rintro e W6 ⟨⟨u, rfl⟩, hI, hgW⟩
  have HB6 := Lib.hid (HBW.out.grown hgW HBW.out.size (fun k hk => by cases hk; omega))
  obtain ⟨-, hpu6, -, ho6, -, -⟩ := hI
  rw [Nat.mul_assoc, HWD.out, HNN.out] at ho6
  have HO6 := Lib.hid ho6
  clear hin hskip hBA hgW ho6 HOO
  go_wp2_with fail
  refine bodyPost_ret (results_2 rfl _ _ _) rfl ?_
  exact ⟨_, rfl, HO6.out, HB6.out⟩
end Go.Proofs.Ytbolneejjjjaeaa.CPatch
