/- Layer 10: what a window adds to a sum of a channel that goes out. -/
import Derived.Test.YtaoadgolplnedaaConvProd
import Derived.Handy
namespace Go.Proofs.Ytaoadgolplnedaa.CConv
open Go Go.ChangeShapes Go.WideShapes Go.ChangeAt Go.RowKit
open Plain CSat CShape CTensor
set_option linter.unusedVariables false

/-- the box of a node. -/
def NodeAt (B : Nat) (x0 x1 x2 x8 x11 x12 x13 x14 x15 x16 x17 x18 : Value) (K S P O Z : Int) (WA BA : Option Addr) (nW cW nB cB : Nat) (wd : World) : Prop := wd.rangeAt B 0 [x0, x1, x2, .int .i64 K, .int .i64 S, .int .i64 P, .int .i64 O, .int .i8 Z, x8, .slice WA nW cW, .slice BA nB cB, x11, x12, x13, x14, x15, x16, x17, x18]
theorem NodeAt.new (x0 x1 x2 x8 x11 x12 x13 x14 x15 x16 x17 x18 : Value) (K S P O Z : Int) (WA BA : Option Addr) (nW cW nB cB : Nat) (T : TypeId) (w : World) : NodeAt w.heap.size x0 x1 x2 x8 x11 x12 x13 x14 x15 x16 x17 x18 K S P O Z WA BA nW cW nB cB (w.alloc (.cells #[x0, x1, x2, .int .i64 K, .int .i64 S, .int .i64 P, .int .i64 O, .int .i8 Z, x8, .slice WA nW cW, .slice BA nB cB, x11, x12, x13, x14, x15, x16, x17, x18] T)) := fun j v hj => by
  rw [Nat.zero_add, Kit.new_cell]
  simpa using hj
theorem NodeAt.below {B B' : Nat} {x0 x1 x2 x8 x11 x12 x13 x14 x15 x16 x17 x18 : Value} {K S P O Z : Int} {WA BA : Option Addr} {nW cW nB cB : Nat} {w w' : World} (h : NodeAt B x0 x1 x2 x8 x11 x12 x13 x14 x15 x16 x17 x18 K S P O Z WA BA nW cW nB cB w) (hB : B < B') (hb : Below B' w w') : NodeAt B x0 x1 x2 x8 x11 x12 x13 x14 x15 x16 x17 x18 K S P O Z WA BA nW cW nB cB w' := fun j v hj =>
  (hb.cell (p := ⟨B, 0 + j, none⟩) hB).trans (h j v hj)
theorem NodeAt.at {B : Nat} {x0 x1 x2 x8 x11 x12 x13 x14 x15 x16 x17 x18 : Value} {K S P O Z : Int} {WA BA : Option Addr} {nW cW nB cB : Nat} {w : World} (h : NodeAt B x0 x1 x2 x8 x11 x12 x13 x14 x15 x16 x17 x18 K S P O Z WA BA nW cW nB cB w) (i : Nat) (v : Value) (hi : ([x0, x1, x2, .int .i64 K, .int .i64 S, .int .i64 P, .int .i64 O, .int .i8 Z, x8, .slice WA nW cW, .slice BA nB cB, x11, x12, x13, x14, x15, x16, x17, x18] : List Value)[i]? = some v) : w.cell? ⟨B, i, none⟩ = some v := by
  have := h i v hi
  rwa [Nat.zero_add] at this
theorem NodeAt.load {B : Nat} {x0 x1 x2 x8 x11 x12 x13 x14 x15 x16 x17 x18 : Value} {K S P O Z : Int} {WA BA : Option Addr} {nW cW nB cB : Nat} {w : World} (h : NodeAt B x0 x1 x2 x8 x11 x12 x13 x14 x15 x16 x17 x18 K S P O Z WA BA nW cW nB cB w) : (Instr.loadAt 28 (.pointer (some ⟨B, 0, none⟩))).run Try.prog w = .ok (.agg #[x0, x1, x2, .int .i64 K, .int .i64 S, .int .i64 P, .int .i64 O, .int .i8 Z, x8, .slice WA nW cW, .slice BA nB cB, x11, x12, x13, x14, x15, x16, x17, x18]) w :=
  run_loadAt_mid w B 0 _ [x0, x1, x2, .int .i64 K, .int .i64 S, .int .i64 P, .int .i64 O, .int .i8 Z, x8, .slice WA nW cW, .slice BA nB cB, x11, x12, x13, x14, x15, x16, x17, x18] _ h Try.underlying28 rfl (by kernel_rfl)
/-- what one place of a window adds. -/
def placeF (zs ws : List Int) (H W C top left : Int) (d kk o : Nat) (Z : Int) (i j : Nat) : Int :=
  if 0 ≤ top + (i : Int) ∧ top + (i : Int) < H ∧ 0 ≤ left + (j : Int) ∧ left + (j : Int) < W then psum (termF zs ws (((top + (i : Int)) * W + (left + (j : Int))) * C).toNat (((o * kk + i) * kk + j) * d) Z) d else 0
def rowF (zs ws : List Int) (H W C top left : Int) (d kk o : Nat) (Z : Int) (i : Nat) : Int := psum (placeF zs ws H W C top left d kk o Z i) kk
def winF (zs ws : List Int) (H W C top left : Int) (d kk o : Nat) (Z : Int) : Int := psum (rowF zs ws H W C top left d kk o Z) kk
theorem drop_term (zs ws : List Int) (st o : Nat) (Z : Int) (d : Nat) : psum (termF zs (ws.drop o) st 0 Z) d = psum (termF zs ws st o Z) d :=
  psum_congr fun k _ => by simp [termF, List.getD_eq_getElem?_getD, List.getElem?_drop]
theorem drop_I8b {ws : List Int} (h : I8b ws) (o : Nat) : I8b (ws.drop o) := fun q => by
  have := h (o + q)
  rw [List.getD_eq_getElem?_getD, List.getElem?_drop, ← List.getD_eq_getElem?_getD]
  exact this
theorem i8s_drop (ws : List Int) (o : Nat) : (I8s ws).drop o = I8s (ws.drop o) := by simp [I8s, List.map_drop]
theorem products_to (H W C : Int) (A : Option Addr) (zs : List Int) (n c : Nat) (hn : zs.length = n) (ht : tensB H W C n = true) (hz : I8b zs) (top left : Int)
    (bw ow : Nat) (ws : List Int) (nW cW : Nat) (hws : ws.length = nW) (hwb : I8b ws) (d kk o i j : Nat) (hd : C = (d : Int)) (hdn : ((o * kk + i) * kk + j) * d + d ≤ nW) (Z : Int) (z1 : -128 ≤ Z) (z2 : Z ≤ 127)
    (w : World) (hr : Kit.Rd w w.heap.size A (I8s zs)) (hrw : Kit.Rd w w.heap.size (some ⟨bw, ow, none⟩) (I8s ws)) (R : Int) (hR : IntKind.i32.wrap (placeF zs ws H W C top left d kk o Z i j) = R) :
    Calls Try.prog 37 #[.agg #[.int .i64 H, .int .i64 W, .int .i64 C, .slice A n c], .int .i64 (top + (i : Int)), .int .i64 (left + (j : Int)), .slice (some ⟨bw, ow + ((o * kk + i) * kk + j) * d, none⟩) (nW - ((o * kk + i) * kk + j) * d) (cW - ((o * kk + i) * kk + j) * d), .int .i8 Z] w fun e w' => e = .returned (.int .i32 R) ∧ Below w.heap.size w w' := by
  unfold placeF at hR
  by_cases hi : 0 ≤ top + (i : Int) ∧ top + (i : Int) < H ∧ 0 ≤ left + (j : Int) ∧ left + (j : Int) < W
  · rw [if_pos hi] at hR
    have hs : shapeB H W C = true := by simp only [tensB, Bool.and_eq_true] at ht; exact ht.1
    obtain ⟨g1, g2, g3, g4, g5, g6, g7⟩ := shapeB_yes hs
    have hp0 : 0 ≤ ((top + (i : Int)) * W + (left + (j : Int))) * C := Int.mul_nonneg (by have := Int.mul_nonneg hi.1 (show (0 : Int) ≤ W by omega); omega) (by omega)
    refine products_in H W C A zs n c hn ht hz _ _ hi.1 hi.2.1 hi.2.2.1 hi.2.2.2 _ (Int.toNat_of_nonneg hp0).symm _ (ws.drop (((o * kk + i) * kk + j) * d)) _ _ (by rw [List.length_drop, hws]) (drop_I8b hwb _) d hd (by omega) Z z1 z2 w hr ?_ R (by rw [drop_term]; exact hR)
    have h9 := hrw.drop (((o * kk + i) * kk + j) * d)
    rw [i8s_drop] at h9
    have e : (Option.map (fun a : Addr => a.add (((o * kk + i) * kk + j) * d)) (some ⟨bw, ow, none⟩)) = some (⟨bw, ow + ((o * kk + i) * kk + j) * d, none⟩ : Addr) := by
      rw [Option.map_some, Go.WideShapes.add_plain]
    rw [e] at h9
    exact h9
  · rw [if_neg hi] at hR
    have e0 : R = 0 := by rw [← hR, IntKind.wrap_i32]; decide
    rw [e0]
    exact products_out H W C A n c ht _ _ hi _ Z w
theorem place_le {a b c d i j k : Nat} (hi : i < a) (hj : j < b) (hk : k < c) : ((i * b + j) * c + k) * d + d ≤ a * b * c * d := by
  have e1 : (i + 1) * b ≤ a * b := Nat.mul_le_mul_right _ hi
  have e2 : (i * b + j + 1) * c ≤ a * b * c := Nat.mul_le_mul_right _ (by rw [Nat.add_mul, Nat.one_mul] at e1; omega)
  have e3 : ((i * b + j) * c + k + 1) * d ≤ a * b * c * d := Nat.mul_le_mul_right _ (by rw [Nat.add_mul _ 1 c, Nat.one_mul] at e2; omega)
  rw [Nat.add_mul _ 1 d, Nat.one_mul] at e3
  exact e3
set_option maxRecDepth 100000 in
set_option maxHeartbeats 4000000 in
theorem window_to (H W C : Int) (A : Option Addr) (zs : List Int) (n c : Nat) (hn : zs.length = n) (ht : tensB H W C n = true) (hz : I8b zs) (x0 x1 x2 x8 x11 x12 x13 x14 x15 x16 x17 x18 : Value) (K S P O Z : Int) (WA BA : Option Addr) (nW cW nB cB : Nat) (ws : List Int) (hws : ws.length = nW) (hwc : nW ≤ cW) (hwb : I8b ws)
    (d kk o oo : Nat) (hd : C = (d : Int)) (hk : K = (kk : Int)) (hk1 : 1 ≤ kk) (hk7 : kk ≤ 7) (ho : o < oo) (hnW : oo * kk * kk * d = nW) (hn16 : nW ≤ 16384) (z1 : -128 ≤ Z) (z2 : Z ≤ 127)
    (top left : Int) (t1 : -100 ≤ top) (t2 : top ≤ 10000) (l1 : -100 ≤ left) (l2 : left ≤ 10000) (w : World) (hr : Kit.Rd w w.heap.size A (I8s zs)) (hrw : Kit.Rd w w.heap.size WA (I8s ws)) (R : Int) (hR : IntKind.i32.wrap (winF zs ws H W C top left d kk o Z) = R) :
    Calls Try.prog 27 #[.agg #[.int .i64 H, .int .i64 W, .int .i64 C, .slice A n c], .agg #[x0, x1, x2, .int .i64 K, .int .i64 S, .int .i64 P, .int .i64 O, .int .i8 Z, x8, .slice WA nW cW, .slice BA nB cB, x11, x12, x13, x14, x15, x16, x17, x18], .int .i64 top, .int .i64 left, .int .i64 (o : Int)] w fun e w' => e = .returned (.int .i32 R) ∧ Below w.heap.size w w' := by
  have hs : shapeB H W C = true := by simp only [tensB, Bool.and_eq_true] at ht; exact ht.1
  obtain ⟨g1, g2, g3, g4, g5, g6, g7⟩ := shapeB_yes hs
  have hd1 : 1 ≤ d := by omega
  have hle := place_le (d := d) ho (show 0 < kk by omega) (show 0 < kk by omega)
  rw [hnW] at hle
  have hw1 : 0 < nW := by omega
  obtain ⟨bw, ow, rfl, hbw, -⟩ := hrw.plain (by simp [I8s]; omega)
  have hK0 : (kk : Int) ≤ 7 := by omega
  have HT := Lib.hid ht
  have HN := Lib.hid hn
  have HZ := Lib.hid hz
  have HWS := Lib.hid hws
  have HWB := Lib.hid hwb
  have HD := Lib.hid hd
  have HNW := Lib.hid hnW
  have HR := Lib.hid hr
  have HRW := Lib.hid hrw
  have HRR := Lib.hid hR
  have HO := Lib.hid ho
  subst hk
  clear ht hn hz hws hwb hd hnW hr hrw hR ho hs g7 hle
  go_enter Try.func27, Try.ntmps27
  go_wp2_with fail
  have TB := Lib.hid ((boxNew H W C A n c 51 w).below (B' := w.heap.size + 1) (by omega) ((Below.refl _ _).alloc (by simp) (.cells #[x0, x1, x2, .int .i64 (kk : Int), .int .i64 S, .int .i64 P, .int .i64 O, .int .i8 Z, x8, .slice (some ⟨bw, ow, none⟩) nW cW, .slice BA nB cB, x11, x12, x13, x14, x15, x16, x17, x18] 28)))
  have hnd := NodeAt.new x0 x1 x2 x8 x11 x12 x13 x14 x15 x16 x17 x18 (kk : Int) S P O Z (some ⟨bw, ow, none⟩) BA nW cW nB cB 28 (w.alloc (.cells #[.int .i64 H, .int .i64 W, .int .i64 C, .slice A n c] 51))
  rw [World.size_alloc] at hnd
  have TN := Lib.hid hnd
  have HB0 : Hid (Below w.heap.size w ((w.alloc (.cells #[.int .i64 H, .int .i64 W, .int .i64 C, .slice A n c] 51)).alloc (.cells #[x0, x1, x2, .int .i64 (kk : Int), .int .i64 S, .int .i64 P, .int .i64 O, .int .i8 Z, x8, .slice (some ⟨bw, ow, none⟩) nW cW, .slice BA nB cB, x11, x12, x13, x14, x15, x16, x17, x18] 28))) := Lib.hid (((Below.refl _ _).alloc (Nat.le_refl _) _).alloc (by simp) _)
  have zz : w.heap.size + 2 ≤ ((w.alloc (.cells #[.int .i64 H, .int .i64 W, .int .i64 C, .slice A n c] 51)).alloc (.cells #[x0, x1, x2, .int .i64 (kk : Int), .int .i64 S, .int .i64 P, .int .i64 O, .int .i8 Z, x8, .slice (some ⟨bw, ow, none⟩) nW cW, .slice BA nB cB, x11, x12, x13, x14, x15, x16, x17, x18] 28)).heap.size := by simp
  clear hnd
  generalize (w.alloc (.cells #[.int .i64 H, .int .i64 W, .int .i64 C, .slice A n c] 51)).alloc (.cells #[x0, x1, x2, .int .i64 (kk : Int), .int .i64 S, .int .i64 P, .int .i64 O, .int .i8 Z, x8, .slice (some ⟨bw, ow, none⟩) nW cW, .slice BA nB cB, x11, x12, x13, x14, x15, x16, x17, x18] 28) = Wm at TB TN HB0 zz ⊢
  go_loopw [11, 17] (fun s u wr => ∃ i : Nat, i ≤ kk ∧ u = .int .i64 i ∧ s = .int .i32 (IntKind.i32.wrap (psum (rowF zs ws H W C top left d kk o Z) i)) ∧ Hid (BoxAt w.heap.size H W C A n c wr) ∧ Hid (NodeAt (w.heap.size + 1) x0 x1 x2 x8 x11 x12 x13 x14 x15 x16 x17 x18 (kk : Int) S P O Z (some ⟨bw, ow, none⟩) BA nW cW nB cB wr) ∧ Hid (Below w.heap.size w wr) ∧ w.heap.size + 2 ≤ wr.heap.size) (fun _ u _ => kk - (intOf u).toNat)
  case atStart => exact ⟨0, Nat.zero_le _, rfl, congrArg (Value.int .i32) (by simp [psum, IntKind.wrap_i32]), TB, TN, HB0, zz⟩
  case round =>
    obtain ⟨i, hi, rfl, rfl, TB1, TN1, HB1, zz1⟩ := hrel
    clear TB TN HB0 zz
    obtain ⟨tb0, tb1, tb2, tb3⟩ := TB1.out
    have n3 := TN1.out.at 3 _ rfl
    have n7 := TN1.out.at 7 _ rfl
    have n9 := TN1.out.at 9 _ rfl
    by_cases hlt : i < kk
    · have hiI : (i : Int) < (kk : Int) := by omega
      obtain ⟨a0, ha0⟩ : ∃ a0, IntKind.i32.wrap (psum (rowF zs ws H W C top left d kk o Z) i) = a0 := ⟨_, rfl⟩
      have HA0 := Lib.hid ha0
      have hst : a0 = IntKind.i32.wrap (psum (rowF zs ws H W C top left d kk o Z) i + psum (placeF zs ws H W C top left d kk o Z i) 0) := by rw [← ha0]; simp [psum]
      rw [ha0]
      clear ha0
      go_wp2_with fail
      go_loopw [11, 22] (fun s u wr => ∃ j : Nat, j ≤ kk ∧ u = .int .i64 j ∧ s = .int .i32 (IntKind.i32.wrap (psum (rowF zs ws H W C top left d kk o Z) i + psum (placeF zs ws H W C top left d kk o Z i) j)) ∧ Hid (BoxAt w.heap.size H W C A n c wr) ∧ Hid (NodeAt (w.heap.size + 1) x0 x1 x2 x8 x11 x12 x13 x14 x15 x16 x17 x18 (kk : Int) S P O Z (some ⟨bw, ow, none⟩) BA nW cW nB cB wr) ∧ Hid (Below w.heap.size w wr) ∧ w.heap.size + 2 ≤ wr.heap.size) (fun _ u _ => kk - (intOf u).toNat)
      case atStart => exact ⟨0, Nat.zero_le _, rfl, congrArg (Value.int .i32) hst, TB1, TN1, HB1, zz1⟩
      case round =>
        obtain ⟨j, hj, rfl, rfl, TB2, TN2, HB2, zz2⟩ := hrel
        clear TB1 TN1 HB1 zz1 tb0 tb1 tb2 tb3 n3 n7 n9 hst
        obtain ⟨tb0, tb1, tb2, tb3⟩ := TB2.out
        have n3 := TN2.out.at 3 _ rfl
        have n7 := TN2.out.at 7 _ rfl
        have n9 := TN2.out.at 9 _ rfl
        by_cases hltj : j < kk
        · have hjI : (j : Int) < (kk : Int) := by omega
          have hle := place_le (d := d) HO.out hlt hltj
          rw [HNW.out] at hle
          have m1 : (o : Int) * (kk : Int) = ((o * kk : Nat) : Int) := by simp
          have m2 : ((o * kk : Nat) : Int) + (i : Int) = ((o * kk + i : Nat) : Int) := by simp
          have m3 : ((o * kk + i : Nat) : Int) * (kk : Int) = (((o * kk + i) * kk : Nat) : Int) := by simp
          have m4 : (((o * kk + i) * kk : Nat) : Int) + (j : Int) = (((o * kk + i) * kk + j : Nat) : Int) := by simp
          have m5 : (((o * kk + i) * kk + j : Nat) : Int) * C = ((((o * kk + i) * kk + j) * d : Nat) : Int) := by rw [HD.out]; simp
          have f5 : ((o * kk + i) * kk + j) * d < nW := by omega
          have f4 : (o * kk + i) * kk + j ≤ ((o * kk + i) * kk + j) * d := Nat.le_mul_of_pos_right _ (by omega)
          have f2 : o * kk + i ≤ (o * kk + i) * kk := Nat.le_mul_of_pos_right _ (by omega)
          obtain ⟨R1, hR1⟩ : ∃ R1, IntKind.i32.wrap (placeF zs ws H W C top left d kk o Z i j) = R1 := ⟨_, rfl⟩
          have HR1 := Lib.hid hR1
          obtain ⟨P5, hP5⟩ : ∃ P5, ((o * kk + i) * kk + j) * d = P5 := ⟨_, rfl⟩
          have hprod := fun (w' : World) (h1 : Kit.Rd w' w'.heap.size A (I8s zs)) (h2 : Kit.Rd w' w'.heap.size (some ⟨bw, ow, none⟩) (I8s ws)) => products_to H W C A zs n c HN.out HT.out HZ.out top left bw ow ws nW cW HWS.out HWB.out d kk o i j HD.out hle Z z1 z2 w' h1 h2 R1 HR1.out
          rw [hP5] at hprod m5 f5 f4
          have HP := Lib.hid hprod
          obtain ⟨P4, hP4⟩ : ∃ P4, (o * kk + i) * kk + j = P4 := ⟨_, rfl⟩
          rw [hP4] at m4 m5 f4
          obtain ⟨P3, hP3⟩ : ∃ P3, (o * kk + i) * kk = P3 := ⟨_, rfl⟩
          rw [hP3] at m3 m4 hP4 f2
          obtain ⟨P2, hP2⟩ : ∃ P2, o * kk + i = P2 := ⟨_, rfl⟩
          rw [hP2] at m2 m3 f2
          obtain ⟨P1, hP1⟩ : ∃ P1, o * kk = P1 := ⟨_, rfl⟩
          rw [hP1] at m1 m2 hP2
          have b5 : (P5 : Int) ≤ 16384 := by omega
          have b4 : (P4 : Int) ≤ 16384 := by omega
          have b3 : (P3 : Int) ≤ 16384 := by omega
          have b2 : (P2 : Int) ≤ 16384 := by omega
          have b1 : (P1 : Int) ≤ 16384 := by omega
          have q5 : (P5 : Int) ≤ (nW : Int) := by omega
          have q6 : (P5 : Int) ≤ (cW : Int) := by omega
          have q7 : ¬ cW = P5 := by omega
          have q8 : ¬ P5 = cW := by omega
          have r1 : IntKind.i64.wrap (P1 : Int) = (P1 : Int) := IntWalk.i64_in _ (by omega)
          have r2 : IntKind.i64.wrap (P2 : Int) = (P2 : Int) := IntWalk.i64_in _ (by omega)
          have r3 : IntKind.i64.wrap (P3 : Int) = (P3 : Int) := IntWalk.i64_in _ (by omega)
          have r4 : IntKind.i64.wrap (P4 : Int) = (P4 : Int) := IntWalk.i64_in _ (by omega)
          have r5 : IntKind.i64.wrap (P5 : Int) = (P5 : Int) := IntWalk.i64_in _ (by omega)
          have r6 : IntKind.i64.wrap (top + (i : Int)) = top + (i : Int) := IntWalk.i64_in _ (by omega)
          have r7 : IntKind.i64.wrap (left + (j : Int)) = left + (j : Int) := IntWalk.i64_in _ (by omega)
          have hnext : IntKind.i32.wrap (IntKind.i32.wrap (psum (rowF zs ws H W C top left d kk o Z) i + psum (placeF zs ws H W C top left d kk o Z i) j) + R1) = IntKind.i32.wrap (psum (rowF zs ws H W C top left d kk o Z) i + psum (placeF zs ws H W C top left d kk o Z i) (j + 1)) := by
            rw [← hR1, wrap32_add, wrap32_add']
            simp only [psum]
            rw [Int.add_assoc]
          obtain ⟨u0, hu0⟩ : ∃ u0, IntKind.i32.wrap (psum (rowF zs ws H W C top left d kk o Z) i + psum (placeF zs ws H W C top left d kk o Z i) j) = u0 := ⟨_, rfl⟩
          obtain ⟨u1, hu1⟩ : ∃ u1, IntKind.i32.wrap (psum (rowF zs ws H W C top left d kk o Z) i + psum (placeF zs ws H W C top left d kk o Z i) (j + 1)) = u1 := ⟨_, rfl⟩
          have HU1 := Lib.hid hu1
          rw [hu0, hu1] at hnext
          rw [hu0]
          clear hu0 hu1 hR1 hP5 hP4 hP3 hP2 hP1 hprod hle f5 f4 f2
          go_wp2_with (go_at_call 37; (refine (HP.out _ ((HR.out.below HB2.out).more HB2.out.size) ((HRW.out.below HB2.out).more HB2.out.size)).mono ?_); rintro e w1 ⟨rfl, hb⟩; (have TB3 := Lib.hid (TB2.out.below (by omega) hb)); (have TN3 := Lib.hid (TN2.out.below (by omega) hb)); (have HB3 := Lib.hid (HB2.out.trans (hb.mono HB2.out.size))); (have zz3 := Nat.le_trans zz2 hb.size); clear hb tb0 tb1 tb2 tb3 n3 n7 n9)
          go_roundw
          case rel => exact ⟨j + 1, by omega, by go_num, by rw [HU1.out], TB3, TN3, HB3, zz3⟩
          case measure => simp [intOf]; omega
        · obtain rfl : j = kk := by omega
          go_wp2_with fail
          go_roundw
          case rel => exact ⟨i + 1, by omega, by go_num, congrArg (Value.int .i32) (by simp only [psum]; rfl), TB2, TN2, HB2, zz2⟩
          case measure => simp [intOf]; omega
    · obtain rfl : i = kk := by omega
      have hfin : IntKind.i32.wrap (psum (rowF zs ws H W C top left d i o Z) i) = R := HRR.out
      rw [hfin]
      go_wp2_with fail
      go_ret
      exact ⟨rfl, HB1.out⟩
end Go.Proofs.Ytaoadgolplnedaa.CConv
