/- Layer 10: the document's sum of a window, over whole numbers. -/
import Derived.Test.YtaoadgolplnedaaConvOf
import Derived.BigQuiet
namespace Go.Proofs.Ytaoadgolplnedaa.CConv
open Go Go.ChangeShapes Go.WideShapes Go.ChangeAt Go.RowKit
open Plain CSat CShape CTensor
set_option linter.unusedVariables false

theorem psum_le {G : Nat → Int} {b : Int} {n m : Nat} (hb : 0 ≤ b) (h : ∀ k, k < n → -b ≤ G k ∧ G k ≤ b) (hnm : n ≤ m) : -(b * m) ≤ psum G n ∧ psum G n ≤ b * m := by
  have h1 := psum_bd h
  have h2 : b * (n : Int) ≤ b * (m : Int) := Int.mul_le_mul_of_nonneg_left (by omega) hb
  omega
theorem placeF_bd (zs ws : List Int) (H W C top left : Int) (d kk o : Nat) (Z : Int) (i j : Nat) (hz : I8b zs) (hw : I8b ws) (hd : d ≤ 1024) (z1 : -128 ≤ Z) (z2 : Z ≤ 127) :
    -33423360 ≤ placeF zs ws H W C top left d kk o Z i j ∧ placeF zs ws H W C top left d kk o Z i j ≤ 33423360 := by
  unfold placeF
  split
  · have := psum_le (m := 1024) (b := 32640) (by omega) (G := termF zs ws (((top + (i : Int)) * W + (left + (j : Int))) * C).toNat (((o * kk + i) * kk + j) * d) Z) (fun k _ => termF_bd (o := ((o * kk + i) * kk + j) * d) (st := (((top + (i : Int)) * W + (left + (j : Int))) * C).toNat) (c := k) hz hw z1 z2) hd
    omega
  · omega
theorem rowF_bd (zs ws : List Int) (H W C top left : Int) (d kk o : Nat) (Z : Int) (i : Nat) (hz : I8b zs) (hw : I8b ws) (hd : d ≤ 1024) (hk : kk ≤ 7) (z1 : -128 ≤ Z) (z2 : Z ≤ 127) :
    -233963520 ≤ rowF zs ws H W C top left d kk o Z i ∧ rowF zs ws H W C top left d kk o Z i ≤ 233963520 := by
  unfold rowF
  have := psum_le (m := 7) (b := 33423360) (by omega) (fun k _ => placeF_bd zs ws H W C top left d kk o Z i k hz hw hd z1 z2) hk
  omega
theorem part_bd (zs ws : List Int) (H W C top left : Int) (d kk o : Nat) (Z : Int) (i j : Nat) (hz : I8b zs) (hw : I8b ws) (hd : d ≤ 1024) (hk : kk ≤ 7) (z1 : -128 ≤ Z) (z2 : Z ≤ 127) (hi : i ≤ kk) (hj : j ≤ kk) :
    -1900000000 ≤ psum (rowF zs ws H W C top left d kk o Z) i + psum (placeF zs ws H W C top left d kk o Z i) j ∧ psum (rowF zs ws H W C top left d kk o Z) i + psum (placeF zs ws H W C top left d kk o Z i) j ≤ 1900000000 := by
  have h1 := psum_le (m := 7) (b := 233963520) (by omega) (fun k _ => rowF_bd zs ws H W C top left d kk o Z k hz hw hd hk z1 z2) (show i ≤ 7 by omega)
  have h2 := psum_le (m := 7) (b := 33423360) (by omega) (fun k _ => placeF_bd zs ws H W C top left d kk o Z i k hz hw hd z1 z2) (show j ≤ 7 by omega)
  omega
theorem terms_bd (zs ws : List Int) (st o : Nat) (Z : Int) (d k : Nat) (hz : I8b zs) (hw : I8b ws) (hd : d ≤ 1024) (hk : k ≤ d) (z1 : -128 ≤ Z) (z2 : Z ≤ 127) : -33423360 ≤ psum (termF zs ws st o Z) k ∧ psum (termF zs ws st o Z) k ≤ 33423360 := by
  have := psum_le (m := 1024) (b := 32640) (by omega) (G := termF zs ws st o Z) (fun c _ => termF_bd (zs := zs) (ws := ws) (o := o) (st := st) (c := c) hz hw z1 z2) (show k ≤ 1024 by omega)
  omega
set_option maxRecDepth 100000 in
set_option maxHeartbeats 8000000 in
theorem refSum_to (H W C : Int) (A : Option Addr) (zs : List Int) (n c : Nat) (hn : zs.length = n) (ht : tensB H W C n = true) (hz : I8b zs) (x0 x1 x2 x8 x11 x12 x13 x14 x15 x16 x17 x18 : Value) (K S P O Z : Int) (WA BA : Option Addr) (nW cW nB cB : Nat) (ws : List Int) (hws : ws.length = nW) (hwb : I8b ws) (bs : List Int) (hbs : bs.length = nB) (hb32 : ∀ q, -2147483648 ≤ bs.getD q 0 ∧ bs.getD q 0 ≤ 2147483647)
    (d kk o oo : Nat) (hd : C = (d : Int)) (hk : K = (kk : Int)) (hk1 : 1 ≤ kk) (hk7 : kk ≤ 7) (ho : o < oo) (hoB : oo = nB) (hnW : oo * kk * kk * d = nW) (hn16 : nW ≤ 16384) (z1 : -128 ≤ Z) (z2 : Z ≤ 127)
    (h v : Nat) (hh : h ≤ 16) (hv : v ≤ 16) (s1 : 1 ≤ S) (s4 : S ≤ 4) (p0 : 0 ≤ P) (p4 : P ≤ 4) (w : World) (hr : Kit.Rd w w.heap.size A (I8s zs)) (hrw : Kit.Rd w w.heap.size WA (I8s ws)) (hrb : Kit.Rd w w.heap.size BA (I32v bs))
    (R : Int) (hR : bs.getD o 0 + winF zs ws H W C ((h : Int) * S - P) ((v : Int) * S - P) d kk o Z = R) :
    Calls Try.prog 18 #[.agg #[.int .i64 H, .int .i64 W, .int .i64 C, .slice A n c], .agg #[x0, x1, x2, .int .i64 K, .int .i64 S, .int .i64 P, .int .i64 O, .int .i8 Z, x8, .slice WA nW cW, .slice BA nB cB, x11, x12, x13, x14, x15, x16, x17, x18], .int .i64 (h : Int), .int .i64 (v : Int), .int .i64 (o : Int)] w fun e w' => e = .returned (.int .i64 R) ∧ Below w.heap.size w w' := by
  have hs : shapeB H W C = true := by simp only [tensB, Bool.and_eq_true] at ht; exact ht.1
  have hm : (n : Int) = H * W * C := by simp only [tensB, Bool.and_eq_true, decide_eq_true_eq] at ht; exact ht.2
  obtain ⟨g1, g2, g3, g4, g5, g6, g7⟩ := shapeB_yes hs
  have hd1 : 1 ≤ d := by omega
  have hd2 : d ≤ 1024 := by omega
  have hle := place_le (d := d) ho (show 0 < kk by omega) (show 0 < kk by omega)
  rw [hnW] at hle
  have hw1 : 0 < nW := by omega
  obtain ⟨bw, ow, rfl, hbw, hcw⟩ := ints_getD hrw (j := 0) (by omega)
  obtain ⟨bb, ob, rfl, hbb, hcb⟩ := ints_getD hrb (j := 0) (by omega)
  obtain ⟨hs0, hhs⟩ : ∃ hs, (h : Int) * S = hs := ⟨_, rfl⟩
  obtain ⟨vs0, hvs⟩ : ∃ vs, (v : Int) * S = vs := ⟨_, rfl⟩
  have b1 : 0 ≤ hs0 ∧ hs0 ≤ 64 := by
    rw [← hhs]
    exact ⟨Int.mul_nonneg (by omega) (by omega), Int.le_trans (Int.mul_le_mul (show (h : Int) ≤ 16 by omega) s4 (by omega) (by omega)) (by omega)⟩
  have b2 : 0 ≤ vs0 ∧ vs0 ≤ 64 := by
    rw [← hvs]
    exact ⟨Int.mul_nonneg (by omega) (by omega), Int.le_trans (Int.mul_le_mul (show (v : Int) ≤ 16 by omega) s4 (by omega) (by omega)) (by omega)⟩
  rw [hhs, hvs] at hR
  obtain ⟨b3, b4⟩ := b1
  obtain ⟨b5, b6⟩ := b2
  obtain ⟨c1, c2⟩ := hb32 o
  have hcbo : w.cell? ⟨bb, ob + o, none⟩ = some (.int .i32 (bs.getD o 0)) := hcb o (by omega)
  generalize bs.getD o 0 = bo at c1 c2 hR hcbo
  have w1 : IntKind.i64.wrap hs0 = hs0 := IntWalk.i64_in _ (by omega)
  have w2 : IntKind.i64.wrap vs0 = vs0 := IntWalk.i64_in _ (by omega)
  have w3 : IntKind.i64.wrap bo = bo := IntWalk.i64_in _ (by omega)
  have hK0 : (kk : Int) ≤ 7 := by omega
  have ho0 : (0 : Int) ≤ (o : Int) := by omega
  have hoB2 : (o : Int) < (nB : Int) := by omega
  obtain ⟨top, htop⟩ : ∃ top, hs0 - P = top := ⟨_, rfl⟩
  obtain ⟨left, hleft⟩ : ∃ left, vs0 - P = left := ⟨_, rfl⟩
  rw [htop, hleft] at hR
  have HT := Lib.hid ht
  have HM := Lib.hid hm
  have HSH := Lib.hid hs
  have HN := Lib.hid hn
  have HZ := Lib.hid hz
  have HWS := Lib.hid hws
  have HWB := Lib.hid hwb
  have HD := Lib.hid hd
  have HNW := Lib.hid hnW
  have HR := Lib.hid hr
  have HCW := Lib.hid hcw
  have HRR := Lib.hid hR
  have HO := Lib.hid ho
  have HTP := Lib.hid htop
  have HLF := Lib.hid hleft
  subst hk
  clear ht hm hn hz hws hwb hd hnW hr hrw hrb hR ho hs g7 hle hcb hbs hb32 hoB htop hleft hcw
  go_enter Try.func18, Try.ntmps18
  have hcb1 : ((w.alloc (.cells #[.int .i64 H, .int .i64 W, .int .i64 C, .slice A n c] 51)).alloc (.cells #[x0, x1, x2, .int .i64 (kk : Int), .int .i64 S, .int .i64 P, .int .i64 O, .int .i8 Z, x8, .slice (some ⟨bw, ow, none⟩) nW cW, .slice (some ⟨bb, ob, none⟩) nB cB, x11, x12, x13, x14, x15, x16, x17, x18] 28)).cell? ⟨bb, ob + o, none⟩ = some (.int .i32 bo) := by
    rw [World.cell?_alloc_lt _ _ _ (by simp; omega), World.cell?_alloc_lt _ _ _ hbb]; exact hcbo
  go_wp2_with fail
  clear hcb1 hcbo
  have TB := Lib.hid ((boxNew H W C A n c 51 w).below (B' := w.heap.size + 1) (by omega) ((Below.refl _ _).alloc (by simp) (.cells #[x0, x1, x2, .int .i64 (kk : Int), .int .i64 S, .int .i64 P, .int .i64 O, .int .i8 Z, x8, .slice (some ⟨bw, ow, none⟩) nW cW, .slice (some ⟨bb, ob, none⟩) nB cB, x11, x12, x13, x14, x15, x16, x17, x18] 28)))
  have hnd := NodeAt.new x0 x1 x2 x8 x11 x12 x13 x14 x15 x16 x17 x18 (kk : Int) S P O Z (some ⟨bw, ow, none⟩) (some ⟨bb, ob, none⟩) nW cW nB cB 28 (w.alloc (.cells #[.int .i64 H, .int .i64 W, .int .i64 C, .slice A n c] 51))
  rw [World.size_alloc] at hnd
  have TN := Lib.hid hnd
  have HB0 : Hid (Below w.heap.size w ((w.alloc (.cells #[.int .i64 H, .int .i64 W, .int .i64 C, .slice A n c] 51)).alloc (.cells #[x0, x1, x2, .int .i64 (kk : Int), .int .i64 S, .int .i64 P, .int .i64 O, .int .i8 Z, x8, .slice (some ⟨bw, ow, none⟩) nW cW, .slice (some ⟨bb, ob, none⟩) nB cB, x11, x12, x13, x14, x15, x16, x17, x18] 28))) := Lib.hid (((Below.refl _ _).alloc (Nat.le_refl _) _).alloc (by simp) _)
  have zz : w.heap.size + 2 ≤ ((w.alloc (.cells #[.int .i64 H, .int .i64 W, .int .i64 C, .slice A n c] 51)).alloc (.cells #[x0, x1, x2, .int .i64 (kk : Int), .int .i64 S, .int .i64 P, .int .i64 O, .int .i8 Z, x8, .slice (some ⟨bw, ow, none⟩) nW cW, .slice (some ⟨bb, ob, none⟩) nB cB, x11, x12, x13, x14, x15, x16, x17, x18] 28)).heap.size := by simp
  clear hnd
  generalize (w.alloc (.cells #[.int .i64 H, .int .i64 W, .int .i64 C, .slice A n c] 51)).alloc (.cells #[x0, x1, x2, .int .i64 (kk : Int), .int .i64 S, .int .i64 P, .int .i64 O, .int .i8 Z, x8, .slice (some ⟨bw, ow, none⟩) nW cW, .slice (some ⟨bb, ob, none⟩) nB cB, x11, x12, x13, x14, x15, x16, x17, x18] 28) = Wm at TB TN HB0 zz ⊢
  go_loopw [11, 12] (fun s u wr => ∃ i : Nat, i ≤ kk ∧ u = .int .i64 i ∧ s = .int .i64 (bo + psum (rowF zs ws H W C top left d kk o Z) i) ∧ Hid (BoxAt w.heap.size H W C A n c wr) ∧ Hid (NodeAt (w.heap.size + 1) x0 x1 x2 x8 x11 x12 x13 x14 x15 x16 x17 x18 (kk : Int) S P O Z (some ⟨bw, ow, none⟩) (some ⟨bb, ob, none⟩) nW cW nB cB wr) ∧ Hid (Below w.heap.size w wr) ∧ w.heap.size + 2 ≤ wr.heap.size) (fun _ u _ => kk - (intOf u).toNat)
  case atStart => exact ⟨0, Nat.zero_le _, rfl, congrArg (Value.int .i64) (by simp [psum]), TB, TN, HB0, zz⟩
  case round =>
    obtain ⟨i, hi, rfl, rfl, TB1, TN1, HB1, zz1⟩ := hrel
    clear TB TN HB0 zz
    have n3 := TN1.out.at 3 _ rfl
    by_cases hlt : i < kk
    · have hiI : (i : Int) < (kk : Int) := by omega
      have hst : bo + psum (rowF zs ws H W C top left d kk o Z) i = bo + (psum (rowF zs ws H W C top left d kk o Z) i + psum (placeF zs ws H W C top left d kk o Z i) 0) := by simp [psum]
      generalize bo + psum (rowF zs ws H W C top left d kk o Z) i = a0 at hst ⊢
      go_wp2_with fail
      go_loopw [11, 13] (fun s u wr => ∃ j : Nat, j ≤ kk ∧ u = .int .i64 j ∧ s = .int .i64 (bo + (psum (rowF zs ws H W C top left d kk o Z) i + psum (placeF zs ws H W C top left d kk o Z i) j)) ∧ Hid (BoxAt w.heap.size H W C A n c wr) ∧ Hid (NodeAt (w.heap.size + 1) x0 x1 x2 x8 x11 x12 x13 x14 x15 x16 x17 x18 (kk : Int) S P O Z (some ⟨bw, ow, none⟩) (some ⟨bb, ob, none⟩) nW cW nB cB wr) ∧ Hid (Below w.heap.size w wr) ∧ w.heap.size + 2 ≤ wr.heap.size) (fun _ u _ => kk - (intOf u).toNat)
      case atStart => exact ⟨0, Nat.zero_le _, rfl, congrArg (Value.int .i64) hst, TB1, TN1, HB1, zz1⟩
      case round =>
        obtain ⟨j, hj, rfl, rfl, TB2, TN2, HB2, zz2⟩ := hrel
        clear TB1 TN1 HB1 zz1 n3 hst
        have n3 := TN2.out.at 3 _ rfl
        by_cases hltj : j < kk
        · have hjI : (j : Int) < (kk : Int) := by omega
          have n4 := TN2.out.at 4 _ rfl
          have n5 := TN2.out.at 5 _ rfl
          have hpb := part_bd zs ws H W C top left d kk o Z i j HZ.out HWB.out hd2 hk7 z1 z2 (by omega) (by omega)
          have hnext : bo + (psum (rowF zs ws H W C top left d kk o Z) i + psum (placeF zs ws H W C top left d kk o Z i) (j + 1)) = bo + (psum (rowF zs ws H W C top left d kk o Z) i + psum (placeF zs ws H W C top left d kk o Z i) j) + placeF zs ws H W C top left d kk o Z i j := by
            simp only [psum]; omega
          generalize psum (rowF zs ws H W C top left d kk o Z) i + psum (placeF zs ws H W C top left d kk o Z i) j = u0 at hpb hnext ⊢
          have HNX := Lib.hid hnext
          clear hnext
          obtain ⟨q1, q2⟩ := hpb
          obtain ⟨yv, hyv⟩ : ∃ yv, top + (i : Int) = yv := ⟨_, rfl⟩
          obtain ⟨xv, hxv⟩ : ∃ xv, left + (j : Int) = xv := ⟨_, rfl⟩
          have e1 : IntKind.i64.wrap (hs0 + (i : Int)) = hs0 + (i : Int) := IntWalk.i64_in _ (by omega)
          have e2 : IntKind.i64.wrap (vs0 + (j : Int)) = vs0 + (j : Int) := IntWalk.i64_in _ (by omega)
          have e3 : IntKind.i64.wrap (hs0 + (i : Int) - P) = yv := by rw [IntWalk.i64_in _ (by omega)]; have := HTP.out; omega
          have e4 : IntKind.i64.wrap (vs0 + (j : Int) - P) = xv := by rw [IntWalk.i64_in _ (by omega)]; have := HLF.out; omega
          have HYV := Lib.hid hyv
          have HXV := Lib.hid hxv
          clear hyv hxv
          go_wp2_with fail
          go_quiet (fail)
          go_wp2_with fail
          clear e1 e2 e3 e4 n4 n5
          by_cases hin : 0 ≤ yv ∧ yv < H ∧ 0 ≤ xv ∧ xv < W
          · obtain ⟨i1, i2, i3, i4⟩ := hin
            have hst0 : 0 ≤ (yv * W + xv) * C := Int.mul_nonneg (by have := Int.mul_nonneg i1 (show (0 : Int) ≤ W by omega); omega) (by omega)
            obtain ⟨st, hst⟩ : ∃ st : Nat, (yv * W + xv) * C = (st : Int) := ⟨((yv * W + xv) * C).toNat, (Int.toNat_of_nonneg hst0).symm⟩
            have hlast := (CPad.place_bd HSH.out HM.out i1 i2 i3 i4 (k := C - 1) (by omega) (by omega))
            have hsn : st + d ≤ n := by have := HD.out; omega
            have hle := place_le (d := d) HO.out hlt hltj
            rw [HNW.out] at hle
            obtain ⟨P5, hP5⟩ : ∃ P5, ((o * kk + i) * kk + j) * d = P5 := ⟨_, rfl⟩
            have hpl : placeF zs ws H W C top left d kk o Z i j = psum (termF zs ws st P5 Z) d := by
              unfold placeF
              rw [HYV.out, HXV.out, if_pos ⟨i1, i2, i3, i4⟩, hst, hP5, Int.toNat_natCast]
            have HPL := Lib.hid hpl
            have m1 : (o : Int) * (kk : Int) = ((o * kk : Nat) : Int) := by simp
            have m2 : ((o * kk : Nat) : Int) + (i : Int) = ((o * kk + i : Nat) : Int) := by simp
            have m3 : ((o * kk + i : Nat) : Int) * (kk : Int) = (((o * kk + i) * kk : Nat) : Int) := by simp
            have m4 : (((o * kk + i) * kk : Nat) : Int) + (j : Int) = (((o * kk + i) * kk + j : Nat) : Int) := by simp
            have m5 : (((o * kk + i) * kk + j : Nat) : Int) * C = ((((o * kk + i) * kk + j) * d : Nat) : Int) := by rw [HD.out]; simp
            have f4 : (o * kk + i) * kk + j ≤ ((o * kk + i) * kk + j) * d := Nat.le_mul_of_pos_right _ (by omega)
            have f2 : o * kk + i ≤ (o * kk + i) * kk := Nat.le_mul_of_pos_right _ (by omega)
            rw [hP5] at hle m5 f4
            obtain ⟨P4, hP4⟩ : ∃ P4, (o * kk + i) * kk + j = P4 := ⟨_, rfl⟩
            rw [hP4] at m4 m5 f4
            obtain ⟨P3, hP3⟩ : ∃ P3, (o * kk + i) * kk = P3 := ⟨_, rfl⟩
            rw [hP3] at m3 m4 hP4 f2
            obtain ⟨P2, hP2⟩ : ∃ P2, o * kk + i = P2 := ⟨_, rfl⟩
            rw [hP2] at m2 m3 f2
            obtain ⟨P1, hP1⟩ : ∃ P1, o * kk = P1 := ⟨_, rfl⟩
            rw [hP1] at m1 m2 hP2
            have r1 : IntKind.i64.wrap (P1 : Int) = (P1 : Int) := IntWalk.i64_in _ (by omega)
            have r2 : IntKind.i64.wrap (P2 : Int) = (P2 : Int) := IntWalk.i64_in _ (by omega)
            have r3 : IntKind.i64.wrap (P3 : Int) = (P3 : Int) := IntWalk.i64_in _ (by omega)
            have r4 : IntKind.i64.wrap (P4 : Int) = (P4 : Int) := IntWalk.i64_in _ (by omega)
            have r5 : IntKind.i64.wrap (P5 : Int) = (P5 : Int) := IntWalk.i64_in _ (by omega)
            clear hP5 hP4 hP3 hP2 hP1 hpl f4 f2 hlast hst0
            have HST := Lib.hid hst
            clear hst
            go_loopw [11, 16] (fun s u wr => ∃ k : Nat, k ≤ d ∧ u = .int .i64 k ∧ s = .int .i64 (bo + u0 + psum (termF zs ws st P5 Z) k) ∧ Hid (BoxAt w.heap.size H W C A n c wr) ∧ Hid (NodeAt (w.heap.size + 1) x0 x1 x2 x8 x11 x12 x13 x14 x15 x16 x17 x18 (kk : Int) S P O Z (some ⟨bw, ow, none⟩) (some ⟨bb, ob, none⟩) nW cW nB cB wr) ∧ Hid (Below w.heap.size w wr) ∧ w.heap.size + 2 ≤ wr.heap.size) (fun _ u _ => d - (intOf u).toNat)
            case atStart => exact ⟨0, Nat.zero_le _, rfl, congrArg (Value.int .i64) (by simp [psum]), Lib.hid (TB2.out.below (B' := wr.heap.size) (by omega) (Kit.below_drewN (Below.refl _ _) _)), Lib.hid (TN2.out.below (B' := wr.heap.size) (by omega) (Kit.below_drewN (Below.refl _ _) _)), Lib.hid (Kit.below_drewN HB2.out _), zz2⟩
            case round =>
              obtain ⟨k, hk, rfl, rfl, TB3, TN3, HB3, zz3⟩ := hrel
              clear TB2 TN2 HB2 zz2 n3
              obtain ⟨tb0, tb1, tb2, tb3⟩ := TB3.out
              by_cases hltk : k < d
              · have hkI : (k : Int) < C := by have := HD.out; omega
                have hk0 : (0 : Int) ≤ (k : Int) := by omega
                obtain ⟨P6, hP6⟩ : ∃ P6, P5 + k = P6 := ⟨_, rfl⟩
                have m6 : (P5 : Int) + (k : Int) = (P6 : Int) := by omega
                have r6 : IntKind.i64.wrap (P6 : Int) = (P6 : Int) := IntWalk.i64_in _ (by omega)
                have h60 : (0 : Int) ≤ (P6 : Int) := by omega
                have h61 : (P6 : Int) < (nW : Int) := by omega
                have hwl : P6 < ws.length := by have := HWS.out; omega
                have hcy : wr.cell? ⟨bw, ow + P6, none⟩ = some (.int .i8 (ws.getD P6 0)) := (HB3.out.cell (p := ⟨bw, ow + P6, none⟩) hbw).trans (HCW.out P6 hwl)
                obtain ⟨y1, y2⟩ := HWB.out P6
                have hxx : zs.getD ((yv * W + xv) * C + (k : Int)).toNat 0 = zs.getD (st + k) 0 := by
                  rw [HST.out]; congr 1
                obtain ⟨xa, xb⟩ := HZ.out (st + k)
                obtain ⟨t1, t2⟩ := term_bd xa xb y1 y2 z1 z2
                obtain ⟨q3, q4⟩ := terms_bd zs ws st P5 Z d k HZ.out HWB.out hd2 hk z1 z2
                have hnx : bo + u0 + psum (termF zs ws st P5 Z) (k + 1) = bo + u0 + psum (termF zs ws st P5 Z) k + ws.getD P6 0 * (zs.getD (st + k) 0 - Z) := by
                  simp only [psum, termF]; rw [hP6]; omega
                generalize zs.getD (st + k) 0 = x at hxx xa xb t1 t2 hnx
                generalize ws.getD P6 0 = y at hcy y1 y2 t1 t2 hnx
                obtain ⟨s9, hs9⟩ : ∃ s9, bo + u0 + psum (termF zs ws st P5 Z) (k + 1) = s9 := ⟨_, rfl⟩
                have HS9 := Lib.hid hs9
                rw [hs9] at hnx
                generalize psum (termF zs ws st P5 Z) k = tk at q3 q4 hnx ⊢
                have k1 : IntKind.i64.wrap x = x := IntWalk.i64_in _ (by omega)
                have k2 : IntKind.i64.wrap y = y := IntWalk.i64_in _ (by omega)
                have k3 : IntKind.i64.wrap Z = Z := IntWalk.i64_in _ (by omega)
                have k4 : IntKind.i64.wrap (x - Z) = x - Z := IntWalk.i64_in _ (by omega)
                have k5 : IntKind.i64.wrap (y * (x - Z)) = y * (x - Z) := IntWalk.i64_in _ (by omega)
                have k6 : IntKind.i64.wrap (bo + u0 + tk + y * (x - Z)) = s9 := by rw [hnx]; exact IntWalk.i64_in _ (by omega)
                have HXX := Lib.hid hxx
                clear hxx hnx hs9 hP6 t1 t2
                go_wp2_with fail
                refine wp_region_held_drew (S := fun w' => BoxAt w.heap.size H W C A n c w' ∧ NodeAt (w.heap.size + 1) x0 x1 x2 x8 x11 x12 x13 x14 x15 x16 x17 x18 (kk : Int) S P O Z (some ⟨bw, ow, none⟩) (some ⟨bb, ob, none⟩) nW cW nB cB w' ∧ w'.cell? ⟨bw, ow + P6, none⟩ = some (.int .i8 y)) (by kernel_rfl) ⟨TB3.out, TN3.out, hcy⟩ (fun hHeld => ?_)
                clear hcy tb0 tb1 tb2 tb3
                have TB4 : Hid (BoxAt w.heap.size H W C A n c wr.drew) := TB3
                have TN4 : Hid (NodeAt (w.heap.size + 1) x0 x1 x2 x8 x11 x12 x13 x14 x15 x16 x17 x18 (kk : Int) S P O Z (some ⟨bw, ow, none⟩) (some ⟨bb, ob, none⟩) nW cW nB cB wr.drew) := TN3
                have HB4 := Lib.hid HB3.out.drew
                have zz4 : w.heap.size + 2 ≤ wr.drew.heap.size := zz3
                clear TB3 TN3 HB3 zz3
                generalize wr.drew = Wa at TB4 TN4 HB4 zz4 hHeld ⊢
                refine wpAnyH_take (i := 0) (oi := ({ dst := some 82, op := Op.move (Operand.tmp 11), type := 3, pos := "ref.go:30", after := #[], guard := none } : Oper)) (v := ?_) rfl (by kernel_rfl) (by kernel_rfl) (by kernel_rfl) (fun _ _ _ h => h) (Or.inl ⟨by rfl, ?_⟩) (by assumption) ?_
                rotate_left
                · intro wS hSw
                  first
                    | (go_simp; done)
                    | (go_simp; with_reducible rfl)
                try simp only [Act.put, List.setIfInBounds_toArray, List.set_cons_zero, List.set_cons_succ]
                refine wpAnyH_take (i := 1) (oi := ({ dst := some 83, op := Op.fieldAddr 28 (Operand.tmp 6) 9, type := 0, pos := "ref.go:30", after := #[], guard := none } : Oper)) (v := ?_) rfl (by kernel_rfl) (by kernel_rfl) (by kernel_rfl) (fun _ _ _ h => h) (Or.inl ⟨by rfl, ?_⟩) (by assumption) ?_
                rotate_left
                · intro wS hSw
                  first
                    | (go_simp; done)
                    | (go_simp; with_reducible rfl)
                try simp only [Act.put, List.setIfInBounds_toArray, List.set_cons_zero, List.set_cons_succ]
                refine wpAnyH_take (i := 2) (oi := ({ dst := some 84, op := Op.load 23 (Operand.tmp 83), type := 23, pos := "ref.go:30", after := #[{ on := 1, ground := Ground.data }], guard := none } : Oper)) (v := ?_) rfl (by kernel_rfl) (by kernel_rfl) (by kernel_rfl) (fun _ _ _ h => h) (Or.inl ⟨by rfl, ?_⟩) (by assumption) ?_
                rotate_left
                · intro wS hSw
                  obtain ⟨hq1, hq2, hq3⟩ := hSw
                  have hn9 := hq2.at 9 _ rfl; clear hq1 hq2
                  first
                    | (go_simp; done)
                    | (go_simp; with_reducible rfl)
                try simp only [Act.put, List.setIfInBounds_toArray, List.set_cons_zero, List.set_cons_succ]
                refine wpAnyH_take (i := 3) (oi := ({ dst := some 85, op := Op.move (Operand.tmp 4), type := 3, pos := "ref.go:30", after := #[], guard := none } : Oper)) (v := ?_) rfl (by kernel_rfl) (by kernel_rfl) (by kernel_rfl) (fun _ _ _ h => h) (Or.inl ⟨by rfl, ?_⟩) (by assumption) ?_
                rotate_left
                · intro wS hSw
                  first
                    | (go_simp; done)
                    | (go_simp; with_reducible rfl)
                try simp only [Act.put, List.setIfInBounds_toArray, List.set_cons_zero, List.set_cons_succ]
                refine wpAnyH_take (i := 4) (oi := ({ dst := some 86, op := Op.fieldAddr 28 (Operand.tmp 6) 3, type := 0, pos := "ref.go:30", after := #[], guard := none } : Oper)) (v := ?_) rfl (by kernel_rfl) (by kernel_rfl) (by kernel_rfl) (fun _ _ _ h => h) (Or.inl ⟨by rfl, ?_⟩) (by assumption) ?_
                rotate_left
                · intro wS hSw
                  first
                    | (go_simp; done)
                    | (go_simp; with_reducible rfl)
                try simp only [Act.put, List.setIfInBounds_toArray, List.set_cons_zero, List.set_cons_succ]
                refine wpAnyH_take (i := 5) (oi := ({ dst := some 87, op := Op.load 3 (Operand.tmp 86), type := 3, pos := "ref.go:30", after := #[{ on := 4, ground := Ground.data }], guard := none } : Oper)) (v := ?_) rfl (by kernel_rfl) (by kernel_rfl) (by kernel_rfl) (fun _ _ _ h => h) (Or.inl ⟨by rfl, ?_⟩) (by assumption) ?_
                rotate_left
                · intro wS hSw
                  obtain ⟨hq1, hq2, hq3⟩ := hSw
                  have hn9 := hq2.at 3 _ rfl; clear hq1 hq2
                  first
                    | (go_simp; done)
                    | (go_simp; with_reducible rfl)
                try simp only [Act.put, List.setIfInBounds_toArray, List.set_cons_zero, List.set_cons_succ]
                refine wpAnyH_take (i := 6) (oi := ({ dst := some 88, op := Op.binOp BinOp.mul 3 (Operand.tmp 85) (Operand.tmp 87) 3, type := 3, pos := "ref.go:30", after := #[{ on := 3, ground := Ground.data }, { on := 5, ground := Ground.data }], guard := none } : Oper)) (v := ?_) rfl (by kernel_rfl) (by kernel_rfl) (by kernel_rfl) (fun _ _ _ h => h) (Or.inl ⟨by rfl, ?_⟩) (by assumption) ?_
                rotate_left
                · intro wS hSw
                  first
                    | (go_simp; done)
                    | (go_simp; with_reducible rfl)
                try simp only [Act.put, List.setIfInBounds_toArray, List.set_cons_zero, List.set_cons_succ]
                refine wpAnyH_take (i := 7) (oi := ({ dst := some 89, op := Op.move (Operand.tmp 12), type := 3, pos := "ref.go:30", after := #[], guard := none } : Oper)) (v := ?_) rfl (by kernel_rfl) (by kernel_rfl) (by kernel_rfl) (fun _ _ _ h => h) (Or.inl ⟨by rfl, ?_⟩) (by assumption) ?_
                rotate_left
                · intro wS hSw
                  first
                    | (go_simp; done)
                    | (go_simp; with_reducible rfl)
                try simp only [Act.put, List.setIfInBounds_toArray, List.set_cons_zero, List.set_cons_succ]
                refine wpAnyH_take (i := 8) (oi := ({ dst := some 90, op := Op.binOp BinOp.add 3 (Operand.tmp 88) (Operand.tmp 89) 3, type := 3, pos := "ref.go:30", after := #[{ on := 6, ground := Ground.data }, { on := 7, ground := Ground.data }], guard := none } : Oper)) (v := ?_) rfl (by kernel_rfl) (by kernel_rfl) (by kernel_rfl) (fun _ _ _ h => h) (Or.inl ⟨by rfl, ?_⟩) (by assumption) ?_
                rotate_left
                · intro wS hSw
                  first
                    | (go_simp; done)
                    | (go_simp; with_reducible rfl)
                try simp only [Act.put, List.setIfInBounds_toArray, List.set_cons_zero, List.set_cons_succ]
                refine wpAnyH_take (i := 9) (oi := ({ dst := some 91, op := Op.fieldAddr 28 (Operand.tmp 6) 3, type := 0, pos := "ref.go:30", after := #[], guard := none } : Oper)) (v := ?_) rfl (by kernel_rfl) (by kernel_rfl) (by kernel_rfl) (fun _ _ _ h => h) (Or.inl ⟨by rfl, ?_⟩) (by assumption) ?_
                rotate_left
                · intro wS hSw
                  first
                    | (go_simp; done)
                    | (go_simp; with_reducible rfl)
                try simp only [Act.put, List.setIfInBounds_toArray, List.set_cons_zero, List.set_cons_succ]
                refine wpAnyH_take (i := 10) (oi := ({ dst := some 92, op := Op.load 3 (Operand.tmp 91), type := 3, pos := "ref.go:30", after := #[{ on := 9, ground := Ground.data }], guard := none } : Oper)) (v := ?_) rfl (by kernel_rfl) (by kernel_rfl) (by kernel_rfl) (fun _ _ _ h => h) (Or.inl ⟨by rfl, ?_⟩) (by assumption) ?_
                rotate_left
                · intro wS hSw
                  obtain ⟨hq1, hq2, hq3⟩ := hSw
                  have hn9 := hq2.at 3 _ rfl; clear hq1 hq2
                  first
                    | (go_simp; done)
                    | (go_simp; with_reducible rfl)
                try simp only [Act.put, List.setIfInBounds_toArray, List.set_cons_zero, List.set_cons_succ]
                refine wpAnyH_take (i := 11) (oi := ({ dst := some 93, op := Op.binOp BinOp.mul 3 (Operand.tmp 90) (Operand.tmp 92) 3, type := 3, pos := "ref.go:30", after := #[{ on := 8, ground := Ground.data }, { on := 10, ground := Ground.data }], guard := none } : Oper)) (v := ?_) rfl (by kernel_rfl) (by kernel_rfl) (by kernel_rfl) (fun _ _ _ h => h) (Or.inl ⟨by rfl, ?_⟩) (by assumption) ?_
                rotate_left
                · intro wS hSw
                  first
                    | (go_simp; done)
                    | (go_simp; with_reducible rfl)
                try simp only [Act.put, List.setIfInBounds_toArray, List.set_cons_zero, List.set_cons_succ]
                refine wpAnyH_take (i := 12) (oi := ({ dst := some 94, op := Op.move (Operand.tmp 13), type := 3, pos := "ref.go:30", after := #[], guard := none } : Oper)) (v := ?_) rfl (by kernel_rfl) (by kernel_rfl) (by kernel_rfl) (fun _ _ _ h => h) (Or.inl ⟨by rfl, ?_⟩) (by assumption) ?_
                rotate_left
                · intro wS hSw
                  first
                    | (go_simp; done)
                    | (go_simp; with_reducible rfl)
                try simp only [Act.put, List.setIfInBounds_toArray, List.set_cons_zero, List.set_cons_succ]
                refine wpAnyH_take (i := 13) (oi := ({ dst := some 95, op := Op.binOp BinOp.add 3 (Operand.tmp 93) (Operand.tmp 94) 3, type := 3, pos := "ref.go:30", after := #[{ on := 11, ground := Ground.data }, { on := 12, ground := Ground.data }], guard := none } : Oper)) (v := ?_) rfl (by kernel_rfl) (by kernel_rfl) (by kernel_rfl) (fun _ _ _ h => h) (Or.inl ⟨by rfl, ?_⟩) (by assumption) ?_
                rotate_left
                · intro wS hSw
                  first
                    | (go_simp; done)
                    | (go_simp; with_reducible rfl)
                try simp only [Act.put, List.setIfInBounds_toArray, List.set_cons_zero, List.set_cons_succ]
                refine wpAnyH_take (i := 14) (oi := ({ dst := some 96, op := Op.fieldAddr 51 (Operand.tmp 5) 0, type := 0, pos := "ref.go:30", after := #[], guard := none } : Oper)) (v := ?_) rfl (by kernel_rfl) (by kernel_rfl) (by kernel_rfl) (fun _ _ _ h => h) (Or.inl ⟨by rfl, ?_⟩) (by assumption) ?_
                rotate_left
                · intro wS hSw
                  first
                    | (go_simp; done)
                    | (go_simp; with_reducible rfl)
                try simp only [Act.put, List.setIfInBounds_toArray, List.set_cons_zero, List.set_cons_succ]
                refine wpAnyH_take (i := 15) (oi := ({ dst := some 97, op := Op.fieldAddr 49 (Operand.tmp 96) 2, type := 0, pos := "ref.go:30", after := #[{ on := 14, ground := Ground.data }], guard := none } : Oper)) (v := ?_) rfl (by kernel_rfl) (by kernel_rfl) (by kernel_rfl) (fun _ _ _ h => h) (Or.inl ⟨by rfl, ?_⟩) (by assumption) ?_
                rotate_left
                · intro wS hSw
                  first
                    | (go_simp; done)
                    | (go_simp; with_reducible rfl)
                try simp only [Act.put, List.setIfInBounds_toArray, List.set_cons_zero, List.set_cons_succ]
                refine wpAnyH_take (i := 16) (oi := ({ dst := some 98, op := Op.load 3 (Operand.tmp 97), type := 3, pos := "ref.go:30", after := #[{ on := 15, ground := Ground.data }], guard := none } : Oper)) (v := ?_) rfl (by kernel_rfl) (by kernel_rfl) (by kernel_rfl) (fun _ _ _ h => h) (Or.inl ⟨by rfl, ?_⟩) (by assumption) ?_
                rotate_left
                · intro wS hSw
                  obtain ⟨hq1, hq2, hq3⟩ := hSw
                  obtain ⟨s1, s2, s3, s4⟩ := hq1; clear hq2
                  first
                    | (go_simp; done)
                    | (go_simp; with_reducible rfl)
                try simp only [Act.put, List.setIfInBounds_toArray, List.set_cons_zero, List.set_cons_succ]
                refine wpAnyH_take (i := 17) (oi := ({ dst := some 99, op := Op.binOp BinOp.mul 3 (Operand.tmp 95) (Operand.tmp 98) 3, type := 3, pos := "ref.go:30", after := #[{ on := 13, ground := Ground.data }, { on := 16, ground := Ground.data }], guard := none } : Oper)) (v := ?_) rfl (by kernel_rfl) (by kernel_rfl) (by kernel_rfl) (fun _ _ _ h => h) (Or.inl ⟨by rfl, ?_⟩) (by assumption) ?_
                rotate_left
                · intro wS hSw
                  first
                    | (go_simp; done)
                    | (go_simp; with_reducible rfl)
                try simp only [Act.put, List.setIfInBounds_toArray, List.set_cons_zero, List.set_cons_succ]
                refine wpAnyH_take (i := 18) (oi := ({ dst := some 100, op := Op.move (Operand.tmp 16), type := 3, pos := "ref.go:30", after := #[], guard := none } : Oper)) (v := ?_) rfl (by kernel_rfl) (by kernel_rfl) (by kernel_rfl) (fun _ _ _ h => h) (Or.inl ⟨by rfl, ?_⟩) (by assumption) ?_
                rotate_left
                · intro wS hSw
                  first
                    | (go_simp; done)
                    | (go_simp; with_reducible rfl)
                try simp only [Act.put, List.setIfInBounds_toArray, List.set_cons_zero, List.set_cons_succ]
                refine wpAnyH_take (i := 19) (oi := ({ dst := some 101, op := Op.binOp BinOp.add 3 (Operand.tmp 99) (Operand.tmp 100) 3, type := 3, pos := "ref.go:30", after := #[{ on := 17, ground := Ground.data }, { on := 18, ground := Ground.data }], guard := none } : Oper)) (v := ?_) rfl (by kernel_rfl) (by kernel_rfl) (by kernel_rfl) (fun _ _ _ h => h) (Or.inl ⟨by rfl, ?_⟩) (by assumption) ?_
                rotate_left
                · intro wS hSw
                  first
                    | (go_simp; done)
                    | (go_simp; with_reducible rfl)
                try simp only [Act.put, List.setIfInBounds_toArray, List.set_cons_zero, List.set_cons_succ]
                refine wpAnyH_take (i := 20) (oi := ({ dst := some 102, op := Op.indexAddr 23 (Operand.tmp 84) (Operand.tmp 101), type := 0, pos := "ref.go:30", after := #[{ on := 2, ground := Ground.data }, { on := 19, ground := Ground.data }], guard := none } : Oper)) (v := ?_) rfl (by kernel_rfl) (by kernel_rfl) (by kernel_rfl) (fun _ _ _ h => h) (Or.inl ⟨by rfl, ?_⟩) (by assumption) ?_
                rotate_left
                · intro wS hSw
                  first
                    | (go_simp; done)
                    | (go_simp; with_reducible rfl)
                try simp only [Act.put, List.setIfInBounds_toArray, List.set_cons_zero, List.set_cons_succ]
                refine wpAnyH_take (i := 21) (oi := ({ dst := some 103, op := Op.load 22 (Operand.tmp 102), type := 22, pos := "ref.go:30", after := #[{ on := 20, ground := Ground.data }], guard := none } : Oper)) (v := ?_) rfl (by kernel_rfl) (by kernel_rfl) (by kernel_rfl) (fun _ _ _ h => h) (Or.inl ⟨by rfl, ?_⟩) (by assumption) ?_
                rotate_left
                · intro wS hSw
                  obtain ⟨hq1, hq2, hq3⟩ := hSw
                  clear hq1 hq2
                  first
                    | (go_simp; done)
                    | (go_simp; with_reducible rfl)
                try simp only [Act.put, List.setIfInBounds_toArray, List.set_cons_zero, List.set_cons_succ]
                refine wpAnyH_take (i := 22) (oi := ({ dst := some 104, op := Op.convert 22 3 (Operand.tmp 103), type := 3, pos := "ref.go:30", after := #[{ on := 21, ground := Ground.data }], guard := none } : Oper)) (v := ?_) rfl (by kernel_rfl) (by kernel_rfl) (by kernel_rfl) (fun _ _ _ h => h) (Or.inl ⟨by rfl, ?_⟩) (by assumption) ?_
                rotate_left
                · intro wS hSw
                  first
                    | (go_simp; done)
                    | (go_simp; with_reducible rfl)
                try simp only [Act.put, List.setIfInBounds_toArray, List.set_cons_zero, List.set_cons_succ]
                refine wpAnyH_take (i := 23) (oi := ({ dst := some 105, op := Op.load 51 (Operand.tmp 5), type := 51, pos := "ref.go:30", after := #[], guard := none } : Oper)) (v := ?_) rfl (by kernel_rfl) (by kernel_rfl) (by kernel_rfl) (fun _ _ _ h => h) (Or.inl ⟨by rfl, ?_⟩) (by assumption) ?_
                rotate_left
                · intro wS hSw
                  obtain ⟨hq1, hq2, hq3⟩ := hSw
                  obtain ⟨s1, s2, s3, s4⟩ := hq1; clear hq2
                  first
                    | (go_simp; done)
                    | (go_simp; with_reducible rfl)
                try simp only [Act.put, List.setIfInBounds_toArray, List.set_cons_zero, List.set_cons_succ]
                refine wpAnyH_take (i := 24) (oi := ({ dst := some 106, op := Op.move (Operand.tmp 14), type := 3, pos := "ref.go:30", after := #[], guard := none } : Oper)) (v := ?_) rfl (by kernel_rfl) (by kernel_rfl) (by kernel_rfl) (fun _ _ _ h => h) (Or.inl ⟨by rfl, ?_⟩) (by assumption) ?_
                rotate_left
                · intro wS hSw
                  first
                    | (go_simp; done)
                    | (go_simp; with_reducible rfl)
                try simp only [Act.put, List.setIfInBounds_toArray, List.set_cons_zero, List.set_cons_succ]
                refine wpAnyH_take (i := 25) (oi := ({ dst := some 107, op := Op.move (Operand.tmp 15), type := 3, pos := "ref.go:30", after := #[], guard := none } : Oper)) (v := ?_) rfl (by kernel_rfl) (by kernel_rfl) (by kernel_rfl) (fun _ _ _ h => h) (Or.inl ⟨by rfl, ?_⟩) (by assumption) ?_
                rotate_left
                · intro wS hSw
                  first
                    | (go_simp; done)
                    | (go_simp; with_reducible rfl)
                try simp only [Act.put, List.setIfInBounds_toArray, List.set_cons_zero, List.set_cons_succ]
                refine wpAnyH_take (i := 26) (oi := ({ dst := some 108, op := Op.move (Operand.tmp 16), type := 3, pos := "ref.go:30", after := #[], guard := none } : Oper)) (v := ?_) rfl (by kernel_rfl) (by kernel_rfl) (by kernel_rfl) (fun _ _ _ h => h) (Or.inl ⟨by rfl, ?_⟩) (by assumption) ?_
                rotate_left
                · intro wS hSw
                  first
                    | (go_simp; done)
                    | (go_simp; with_reducible rfl)
                try simp only [Act.put, List.setIfInBounds_toArray, List.set_cons_zero, List.set_cons_succ]
                refine wpAnyH_take (i := 29) (oi := ({ dst := some 111, op := Op.fieldAddr 28 (Operand.tmp 6) 7, type := 0, pos := "ref.go:30", after := #[], guard := none } : Oper)) (v := ?_) rfl (by kernel_rfl) (by kernel_rfl) (by kernel_rfl) (fun _ _ _ h => h) (Or.inl ⟨by rfl, ?_⟩) (by assumption) ?_
                rotate_left
                · intro wS hSw
                  first
                    | (go_simp; done)
                    | (go_simp; with_reducible rfl)
                try simp only [Act.put, List.setIfInBounds_toArray, List.set_cons_zero, List.set_cons_succ]
                refine wpAnyH_take (i := 30) (oi := ({ dst := some 112, op := Op.load 22 (Operand.tmp 111), type := 22, pos := "ref.go:30", after := #[{ on := 29, ground := Ground.data }], guard := none } : Oper)) (v := ?_) rfl (by kernel_rfl) (by kernel_rfl) (by kernel_rfl) (fun _ _ _ h => h) (Or.inl ⟨by rfl, ?_⟩) (by assumption) ?_
                rotate_left
                · intro wS hSw
                  obtain ⟨hq1, hq2, hq3⟩ := hSw
                  have hn9 := hq2.at 7 _ rfl; clear hq1 hq2
                  first
                    | (go_simp; done)
                    | (go_simp; with_reducible rfl)
                try simp only [Act.put, List.setIfInBounds_toArray, List.set_cons_zero, List.set_cons_succ]
                refine wpAnyH_take (i := 31) (oi := ({ dst := some 113, op := Op.convert 22 3 (Operand.tmp 112), type := 3, pos := "ref.go:30", after := #[{ on := 30, ground := Ground.data }], guard := none } : Oper)) (v := ?_) rfl (by kernel_rfl) (by kernel_rfl) (by kernel_rfl) (fun _ _ _ h => h) (Or.inl ⟨by rfl, ?_⟩) (by assumption) ?_
                rotate_left
                · intro wS hSw
                  first
                    | (go_simp; done)
                    | (go_simp; with_reducible rfl)
                try simp only [Act.put, List.setIfInBounds_toArray, List.set_cons_zero, List.set_cons_succ]
                refine wpAnyH_ready (rs := [27]) (by kernel_rfl) (by simp) ?_
                refine AllReadyH.cons (o := ({ dst := some 109, op := Op.call { callee := Callee.value (Operand.func 28), args := #[Operand.tmp 105, Operand.tmp 106, Operand.tmp 107, Operand.tmp 108], argTypes := #[51, 3, 3, 3] }, type := 22, pos := "ref.go:30", after := #[{ on := 23, ground := Ground.data }, { on := 24, ground := Ground.data }, { on := 25, ground := Ground.data }, { on := 26, ground := Ground.data }], guard := none } : Oper)) rfl (fun Kq hK => ?_) (AllReadyH.nil)
                go_simp
                go_at_call 28
                refine (CPad.get_to H W C A zs n c HN.out HT.out yv xv (k : Int) i1 i2 i3 i4 hk0 hkI x HXX.out (B := w.heap.size) _ HB4.out.size (HR.out.below HB4.out)).mono ?_
                rintro e Wb ⟨rfl, hb1⟩
                have hS1 : BoxAt w.heap.size H W C A n c _ ∧ NodeAt (w.heap.size + 1) x0 x1 x2 x8 x11 x12 x13 x14 x15 x16 x17 x18 (kk : Int) S P O Z (some ⟨bw, ow, none⟩) (some ⟨bb, ob, none⟩) nW cW nB cB _ ∧ _ := ⟨hHeld.1.below (B' := _) (by omega) hb1, hHeld.2.1.below (B' := _) (by omega) hb1, (hb1.cell (p := ⟨bw, ow + P6, none⟩) (by show bw < _; omega)).trans hHeld.2.2⟩
                replace TB4 := Lib.hid hS1.1
                replace TN4 := Lib.hid hS1.2.1
                replace HB4 := Lib.hid (HB4.out.trans (hb1.mono HB4.out.size))
                replace zz4 := Nat.le_trans zz4 hb1.size
                clear hb1 hHeld
                dsimp only
                refine hK.out _ _ ?_ (fun hHeld => ?_)
                · exact hS1
                clear hK Kq
                try simp only [Act.put, List.setIfInBounds_toArray, List.set_cons_zero, List.set_cons_succ]
                refine wpAnyH_take (i := 28) (oi := ({ dst := some 110, op := Op.convert 22 3 (Operand.tmp 109), type := 3, pos := "ref.go:30", after := #[{ on := 27, ground := Ground.data }], guard := none } : Oper)) (v := ?_) rfl (by kernel_rfl) (by kernel_rfl) (by kernel_rfl) (fun _ _ _ h => h) (Or.inl ⟨by rfl, ?_⟩) (by assumption) ?_
                rotate_left
                · intro wS hSw
                  first
                    | (go_simp; done)
                    | (go_simp; with_reducible rfl)
                try simp only [Act.put, List.setIfInBounds_toArray, List.set_cons_zero, List.set_cons_succ]
                refine wpAnyH_take (i := 32) (oi := ({ dst := some 114, op := Op.binOp BinOp.sub 3 (Operand.tmp 110) (Operand.tmp 113) 3, type := 3, pos := "ref.go:30", after := #[{ on := 28, ground := Ground.data }, { on := 31, ground := Ground.data }], guard := none } : Oper)) (v := ?_) rfl (by kernel_rfl) (by kernel_rfl) (by kernel_rfl) (fun _ _ _ h => h) (Or.inl ⟨by rfl, ?_⟩) (by assumption) ?_
                rotate_left
                · intro wS hSw
                  first
                    | (go_simp; done)
                    | (go_simp; with_reducible rfl)
                try simp only [Act.put, List.setIfInBounds_toArray, List.set_cons_zero, List.set_cons_succ]
                refine wpAnyH_take (i := 33) (oi := ({ dst := some 115, op := Op.binOp BinOp.mul 3 (Operand.tmp 104) (Operand.tmp 114) 3, type := 3, pos := "ref.go:30", after := #[{ on := 22, ground := Ground.data }, { on := 32, ground := Ground.data }], guard := none } : Oper)) (v := ?_) rfl (by kernel_rfl) (by kernel_rfl) (by kernel_rfl) (fun _ _ _ h => h) (Or.inl ⟨by rfl, ?_⟩) (by assumption) ?_
                rotate_left
                · intro wS hSw
                  first
                    | (go_simp; done)
                    | (go_simp; with_reducible rfl)
                try simp only [Act.put, List.setIfInBounds_toArray, List.set_cons_zero, List.set_cons_succ]
                refine wpAnyH_take (i := 34) (oi := ({ dst := some 116, op := Op.binOp BinOp.add 3 (Operand.tmp 82) (Operand.tmp 115) 3, type := 3, pos := "ref.go:30", after := #[{ on := 0, ground := Ground.data }, { on := 33, ground := Ground.data }], guard := none } : Oper)) (v := ?_) rfl (by kernel_rfl) (by kernel_rfl) (by kernel_rfl) (fun _ _ _ h => h) (Or.inl ⟨by rfl, ?_⟩) (by assumption) ?_
                rotate_left
                · intro wS hSw
                  first
                    | (go_simp; done)
                    | (go_simp; with_reducible rfl)
                try simp only [Act.put, List.setIfInBounds_toArray, List.set_cons_zero, List.set_cons_succ]
                refine wpAnyH_take (i := 35) (oi := ({ dst := some 11, op := Op.assign (Operand.tmp 116), type := 3, pos := "ref.go:30", after := #[{ on := 34, ground := Ground.data }, { on := 27, ground := Ground.chain }, { on := 0, ground := Ground.phase }, { on := 1, ground := Ground.phase }, { on := 2, ground := Ground.phase }, { on := 3, ground := Ground.phase }, { on := 4, ground := Ground.phase }, { on := 5, ground := Ground.phase }, { on := 6, ground := Ground.phase }, { on := 7, ground := Ground.phase }, { on := 8, ground := Ground.phase }, { on := 9, ground := Ground.phase }, { on := 10, ground := Ground.phase }, { on := 11, ground := Ground.phase }, { on := 12, ground := Ground.phase }, { on := 13, ground := Ground.phase }, { on := 14, ground := Ground.phase }, { on := 15, ground := Ground.phase }, { on := 16, ground := Ground.phase }, { on := 17, ground := Ground.phase }, { on := 18, ground := Ground.phase }, { on := 19, ground := Ground.phase }, { on := 20, ground := Ground.phase }, { on := 21, ground := Ground.phase }, { on := 22, ground := Ground.phase }, { on := 23, ground := Ground.phase }, { on := 24, ground := Ground.phase }, { on := 25, ground := Ground.phase }, { on := 26, ground := Ground.phase }, { on := 27, ground := Ground.phase }, { on := 28, ground := Ground.phase }, { on := 29, ground := Ground.phase }, { on := 30, ground := Ground.phase }, { on := 31, ground := Ground.phase }, { on := 32, ground := Ground.phase }, { on := 33, ground := Ground.phase }, { on := 34, ground := Ground.phase }], guard := none } : Oper)) (v := ?_) rfl (by kernel_rfl) (by kernel_rfl) (by kernel_rfl) (fun _ _ _ h => h) (Or.inl ⟨by rfl, ?_⟩) (by assumption) ?_
                rotate_left
                · intro wS hSw
                  first
                    | (go_simp; done)
                    | (go_simp; with_reducible rfl)
                try simp only [Act.put, List.setIfInBounds_toArray, List.set_cons_zero, List.set_cons_succ]
                refine wpAnyH_done (by kernel_rfl) ?_ _
                clear hHeld k1 k2 k3 k4 k5 k6
                go_wp2_with fail
                go_roundw
                case rel => exact ⟨k + 1, by omega, by go_num, by rw [HS9.out], TB4, TN4, HB4, zz4⟩
                case measure => simp [intOf]; omega
              · obtain rfl : k = d := by omega
                have hkI : ¬ (k : Int) < C := by have := HD.out; omega
                go_wp2_with fail
                go_roundw
                case rel => exact ⟨j + 1, by omega, by go_num, congrArg (Value.int .i64) (by rw [HNX.out, HPL.out]), TB3, TN3, HB3, zz3⟩
                case measure => simp [intOf]; omega
          · have hpl : placeF zs ws H W C top left d kk o Z i j = 0 := by
              unfold placeF
              rw [HYV.out, HXV.out, if_neg hin]
            have HPL := Lib.hid hpl
            have hC0 : (0 : Int) < C := by omega
            clear hpl
            go_loopw [11, 16] (fun s u wr => u = .int .i64 0 ∧ s = .int .i64 (bo + u0) ∧ Hid (BoxAt w.heap.size H W C A n c wr) ∧ Hid (NodeAt (w.heap.size + 1) x0 x1 x2 x8 x11 x12 x13 x14 x15 x16 x17 x18 (kk : Int) S P O Z (some ⟨bw, ow, none⟩) (some ⟨bb, ob, none⟩) nW cW nB cB wr) ∧ Hid (Below w.heap.size w wr) ∧ w.heap.size + 2 ≤ wr.heap.size) (fun _ _ _ => 0)
            case atStart => exact ⟨rfl, rfl, Lib.hid (TB2.out.below (B' := wr.heap.size) (by omega) (Kit.below_drewN (Below.refl _ _) _)), Lib.hid (TN2.out.below (B' := wr.heap.size) (by omega) (Kit.below_drewN (Below.refl _ _) _)), Lib.hid (Kit.below_drewN HB2.out _), zz2⟩
            case round =>
              obtain ⟨rfl, rfl, TB3, TN3, HB3, zz3⟩ := hrel
              clear TB2 TN2 HB2 zz2 n3
              obtain ⟨tb0, tb1, tb2, tb3⟩ := TB3.out
              rcases (show yv < 0 ∨ (0 ≤ yv ∧ H ≤ yv) ∨ (0 ≤ yv ∧ yv < H ∧ xv < 0) ∨ (0 ≤ yv ∧ yv < H ∧ 0 ≤ xv ∧ W ≤ xv) by omega) with i1 | ⟨i1, i2⟩ | ⟨i1, i2, i3⟩ | ⟨i1, i2, i3, i4⟩
              all_goals
                clear hin
                go_wp2_with fail
                go_roundw
                case rel => exact ⟨j + 1, by omega, by go_num, congrArg (Value.int .i64) (by rw [HNX.out, HPL.out, Int.add_zero]), TB3, TN3, HB3, zz3⟩
                case measure => simp [intOf]; omega
        · obtain rfl : j = kk := by omega
          go_wp2_with fail
          go_roundw
          case rel => exact ⟨i + 1, by omega, by go_num, congrArg (Value.int .i64) (by simp only [psum]; rfl), TB2, TN2, HB2, zz2⟩
          case measure => simp [intOf]; omega
    · obtain rfl : i = kk := by omega
      have hfin : bo + psum (rowF zs ws H W C top left d i o Z) i = R := HRR.out
      rw [hfin]
      go_wp2_with fail
      go_ret
      exact ⟨rfl, HB1.out⟩
end Go.Proofs.Ytaoadgolplnedaa.CConv
