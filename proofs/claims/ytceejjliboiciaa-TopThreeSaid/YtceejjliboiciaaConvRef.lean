/- Layer 10: the document's sums of a node. -/
import Derived.Test.YtceejjliboiciaaConvSum
namespace Go.Proofs.Ytceejjliboiciaa.CConv
open Go Go.ChangeShapes Go.WideShapes Go.ChangeAt Go.RowKit
open Plain CSat CShape CTensor
set_option linter.unusedVariables false

/-- the box of the sums in the making. -/
def OutAt (B : Nat) (X Y U : Int) (v : Value) (wd : World) : Prop :=
  wd.cell? ⟨B, 0, none⟩ = some (.int .i64 X) ∧ wd.cell? ⟨B, 1, none⟩ = some (.int .i64 Y) ∧ wd.cell? ⟨B, 2, none⟩ = some (.int .i64 U) ∧ wd.cell? ⟨B, 3, none⟩ = some v ∧ wd.frozen? ⟨B, 3, none⟩ = false
theorem OutAt.below {B B' : Nat} {X Y U : Int} {v : Value} {w w' : World} (h : OutAt B X Y U v w) (hB : B < B') (hb : Below B' w w') : OutAt B X Y U v w' :=
  ⟨(hb.cell (p := ⟨B, 0, none⟩) hB).trans h.1, (hb.cell (p := ⟨B, 1, none⟩) hB).trans h.2.1, (hb.cell (p := ⟨B, 2, none⟩) hB).trans h.2.2.1, (hb.cell (p := ⟨B, 3, none⟩) hB).trans h.2.2.2.1, (hb.frozen (p := ⟨B, 3, none⟩) hB).trans h.2.2.2.2⟩
theorem OutAt.new (X Y U : Int) (v : Value) (T : TypeId) (w : World) : OutAt w.heap.size X Y U v (w.alloc (.cells #[.int .i64 X, .int .i64 Y, .int .i64 U, v] T)) :=
  ⟨Kit.new_cell _ _ _ _, Kit.new_cell _ _ _ _, Kit.new_cell _ _ _ _, Kit.new_cell _ _ _ _, World.frozen?_alloc_at _ _ _ _ rfl⟩
theorem OutAt.store {B : Nat} {X Y U : Int} {v : Value} {w : World} (h : OutAt B X Y U v w) (u : Value) : OutAt B X Y U u (w.setCell ⟨B, 3, none⟩ u) := by
  obtain ⟨h1, h2, h3, h4, h5⟩ := h
  have k : ∀ (i : Nat), i ≠ 3 → (w.setCell ⟨B, 3, none⟩ u).cell? ⟨B, i, none⟩ = w.cell? ⟨B, i, none⟩ := fun i hne => World.cell?_setCell_other _ _ _ _ (fun e => by injection e; omega)
  exact ⟨(k 0 (by omega)).trans h1, (k 1 (by omega)).trans h2, (k 2 (by omega)).trans h3, World.cell?_setCell_same _ _ _ h4, (World.frozen?_setCell _ _ _ _).trans h5⟩
set_option maxHeartbeats 1000000 in
theorem refOf_bad (H W C : Int) (A : Option Addr) (n c : Nat) (x0 x1 x2 x8 x11 x12 x13 x14 x15 x16 x17 x18 : Value) (K S P O Z : Int) (WA BA : Option Addr) (nW cW nB cB : Nat) (ht : tensB H W C n = false) (w : World) :
    Calls Try.prog 8 #[.agg #[.int .i64 H, .int .i64 W, .int .i64 C, .slice A n c], .agg #[x0, x1, x2, .int .i64 K, .int .i64 S, .int .i64 P, .int .i64 O, .int .i8 Z, x8, .slice WA nW cW, .slice BA nB cB, x11, x12, x13, x14, x15, x16, x17, x18]] w (MadeA w 0 0 0 0 [] (.int .i64 5)) := by
  have HT := Lib.hid ht
  clear ht
  go_enter Try.func8, Try.ntmps8
  go_wp2_with (go_at_call 10; (refine (refRight_to H W C A n c false HT.out _).mono ?_); (rintro e w1 ⟨rfl, hb⟩; obtain ⟨hcc, hff⟩ := Kit.bcell hb; have hz : w.heap.size + 3 ≤ w1.heap.size := (by have := hb.size; simp at this; omega); have hz2 : w.heap.size + 2 < w1.heap.size := (by omega); have HB := Lib.hid hb; clear hb))
  refine bodyPost_ret (Kit.results_ct rfl _ _ (w.heap.size + 2) 0 [.int .i64 0, .int .i64 0, .int .i64 0, .slice none 0 0] _ rfl (range_4 (by go_cell) (by go_cell) (by go_cell) (by go_cell)) Try.underlying36 rfl (by kernel_rfl)) rfl ?_
  have hB1 : Below w.heap.size w w1 := Below.trans ((((Below.refl _ _).alloc (Nat.le_refl _) _).alloc (by simp) _).alloc (by simp; omega) _) (HB.out.mono (by first | omega | (simp; done) | (simp; omega)))
  exact ⟨_, rfl, World.ownsRow_nil _ _ _ _, (((hB1.setCell (p := ⟨w.heap.size + 2, 0, none⟩) (by simp) _).setCell (p := ⟨w.heap.size + 2, 1, none⟩) (by simp) _).setCell (p := ⟨w.heap.size + 2, 2, none⟩) (by simp) _).setCell (p := ⟨w.heap.size + 2, 3, none⟩) (by simp) _⟩
set_option maxHeartbeats 2000000 in
theorem refOf_err (H W C : Int) (A : Option Addr) (n c : Nat) (x0 x1 x2 x8 x11 x12 x13 x14 x15 x16 x17 x18 : Value) (K S P O Z : Int) (WA BA : Option Addr) (nW cW nB cB : Nat) (ht : tensB H W C n = true) (er : Int) (he : convE H W C K S P O nW nB = er) (h0 : er ≠ 0) (w : World) :
    Calls Try.prog 8 #[.agg #[.int .i64 H, .int .i64 W, .int .i64 C, .slice A n c], .agg #[x0, x1, x2, .int .i64 K, .int .i64 S, .int .i64 P, .int .i64 O, .int .i8 Z, x8, .slice WA nW cW, .slice BA nB cB, x11, x12, x13, x14, x15, x16, x17, x18]] w (MadeA w 0 0 0 0 [] (.int .i64 er)) := by
  have hS : convS H W C K S P O nW nB = #[.int .i64 0, .int .i64 0, .int .i64 0] := by unfold convS; rw [he, if_neg h0]
  have HT := Lib.hid ht
  have HE := Lib.hid he
  have HS := Lib.hid hS
  have h0b : (er != 0) = true := by simpa using h0
  have h0c : (er == 0) = false := by simpa using h0
  clear ht he hS
  go_enter Try.func8, Try.ntmps8
  go_wp2_with (first
    | (go_at_call 10
       have hal : Below w.heap.size w (((w.alloc (.cells #[.int .i64 H, .int .i64 W, .int .i64 C, .slice A n c] 26)).alloc (.cells #[x0, x1, x2, .int .i64 K, .int .i64 S, .int .i64 P, .int .i64 O, .int .i8 Z, x8, .slice WA nW cW, .slice BA nB cB, x11, x12, x13, x14, x15, x16, x17, x18] 32)).alloc (.cells #[.int .i64 0, .int .i64 0, .int .i64 0, .slice none 0 0] 36)) := (((Below.refl _ _).alloc (by first | exact Nat.le_refl _ | (simp; done) | (simp; omega)) _).alloc (by first | exact Nat.le_refl _ | (simp; done) | (simp; omega)) _).alloc (by first | exact Nat.le_refl _ | (simp; done) | (simp; omega)) _
       refine (refRight_to H W C A n c true HT.out _).mono ?_
       rintro e w1 ⟨rfl, hb⟩
       have hh : Below w.heap.size w w1 := hal.trans (hb.mono hal.size)
       have qTB := (boxNew H W C A n c 26) w
       try simp only [World.size_alloc] at qTB
       have TB := Lib.hid ((qTB.below (B' := w.heap.size + 1) (by omega) ((((Below.refl _ _).alloc (by first | exact Nat.le_refl _ | (simp; done) | (simp; omega)) _).alloc (by first | exact Nat.le_refl _ | (simp; done) | (simp; omega)) _).mono (by simp))).below (by first | (simp; done) | (simp; omega)) hb)
       have yTB : w.heap.size < w1.heap.size := by have := hb.size; simp at this; omega
       clear qTB
       have qTN := (NodeAt.new x0 x1 x2 x8 x11 x12 x13 x14 x15 x16 x17 x18 K S P O Z WA BA nW cW nB cB 32) (w.alloc (.cells #[.int .i64 H, .int .i64 W, .int .i64 C, .slice A n c] 26))
       try simp only [World.size_alloc] at qTN
       have TN := Lib.hid ((qTN.below (B' := w.heap.size + 2) (by omega) (((Below.refl _ _).alloc (by first | exact Nat.le_refl _ | (simp; done) | (simp; omega)) _).mono (by simp))).below (by first | (simp; done) | (simp; omega)) hb)
       have yTN : w.heap.size + 1 < w1.heap.size := by have := hb.size; simp at this; omega
       clear qTN
       have qFR := (freshNew 36) ((w.alloc (.cells #[.int .i64 H, .int .i64 W, .int .i64 C, .slice A n c] 26)).alloc (.cells #[x0, x1, x2, .int .i64 K, .int .i64 S, .int .i64 P, .int .i64 O, .int .i8 Z, x8, .slice WA nW cW, .slice BA nB cB, x11, x12, x13, x14, x15, x16, x17, x18] 32))
       try simp only [World.size_alloc] at qFR
       have FR := Lib.hid (qFR.below (by first | (simp; done) | (simp; omega)) hb)
       have yFR : w.heap.size + 2 < w1.heap.size := by have := hb.size; simp at this; omega
       clear qFR
       have HBW : Hid (Below w.heap.size w w1) := Lib.hid hh
       obtain ⟨tbp0, tbp1, tbp2, tbp3⟩ := TB.out
       clear hb hh hal)
    | (go_at_call 22
       have hal : Below w1.heap.size w1 w1 := Below.refl _ _
       refine (refConv_to H W C x0 x1 x2 x8 x11 x12 x13 x14 x15 x16 x17 x18 K S P O Z WA BA nW cW nB cB er _ HE.out HS.out _).mono ?_
       rintro e w2 ⟨rfl, hb⟩
       have hh : Below w1.heap.size w1 w2 := hal.trans (hb.mono hal.size)
       replace TB := Lib.hid (TB.out.below yTB hh)
       replace yTB := Nat.lt_of_lt_of_le yTB hh.size
       replace TN := Lib.hid (TN.out.below yTN hh)
       replace yTN := Nat.lt_of_lt_of_le yTN hh.size
       replace FR := Lib.hid (FR.out.below yFR hh)
       replace yFR := Nat.lt_of_lt_of_le yFR hh.size
       replace HBW := Lib.hid (HBW.out.trans (hh.mono HBW.out.size))
       clear tbp0 tbp1 tbp2 tbp3
       obtain ⟨⟨z0, z1, z2, z3⟩, z4, z5, z6, z7⟩ := FR.out
       obtain ⟨tbp0, tbp1, tbp2, tbp3⟩ := TB.out
       clear hb hh hal)
    | (refine wpList_load_mid rfl 32 (.tmp 3) rfl (w.heap.size + 1) 0 rfl [x0, x1, x2, .int .i64 K, .int .i64 S, .int .i64 P, .int .i64 O, .int .i8 Z, x8, .slice WA nW cW, .slice BA nB cB, x11, x12, x13, x14, x15, x16, x17, x18] _ TN.out Try.underlying32 rfl (by kernel_rfl) ?_))
  obtain ⟨⟨z0, z1, z2, z3⟩, z4, z5, z6, z7⟩ := FR.out
  refine bodyPost_ret (Kit.results_ct rfl _ _ (w.heap.size + 2) 0 [.int .i64 0, .int .i64 0, .int .i64 0, .slice none 0 0] _ rfl (range_4 (by go_cell) (by go_cell) (by go_cell) (by go_cell)) Try.underlying36 rfl (by kernel_rfl)) rfl ?_
  exact ⟨_, rfl, World.ownsRow_nil _ _ _ _, by exact ((((HBW.out.setCell (p := ⟨w.heap.size + 2, 0, none⟩) (by simp) _).setCell (p := ⟨w.heap.size + 2, 1, none⟩) (by simp) _).setCell (p := ⟨w.heap.size + 2, 2, none⟩) (by simp) _).setCell (p := ⟨w.heap.size + 2, 3, none⟩) (by simp) _).alloc (by simp; omega) _⟩
set_option maxRecDepth 100000 in
set_option maxHeartbeats 8000000 in
theorem refOf_yes (H W C : Int) (A : Option Addr) (zs : List Int) (n c : Nat) (hn : zs.length = n) (ht : tensB H W C n = true) (hz : I8b zs) (x0 x1 x2 x8 x11 x12 x13 x14 x15 x16 x17 x18 : Value) (K S P O Z : Int) (WA BA : Option Addr) (nW cW nB cB : Nat) (ws : List Int) (hws : ws.length = nW) (hwc : nW ≤ cW) (hwb : I8b ws) (bs : List Int) (hbs : bs.length = nB) (hb32 : ∀ q, -2147483648 ≤ bs.getD q 0 ∧ bs.getD q 0 ≤ 2147483647)
    (he : convE H W C K S P O nW nB = 0) (a b oo d kk : Nat) (ha : stepsM H K S P = (a : Int)) (hb : stepsM W K S P = (b : Int)) (hO : O = (oo : Int)) (hd : C = (d : Int)) (hk : K = (kk : Int)) (N : Nat) (hN : a * b * oo = N) (z1 : -128 ≤ Z) (z2 : Z ≤ 127)
    (w : World) (hr : Kit.Rd w w.heap.size A (I8s zs)) (hrw : Kit.Rd w w.heap.size WA (I8s ws)) (hrb : Kit.Rd w w.heap.size BA (I32v bs)) :
    Calls Try.prog 8 #[.agg #[.int .i64 H, .int .i64 W, .int .i64 C, .slice A n c], .agg #[x0, x1, x2, .int .i64 K, .int .i64 S, .int .i64 P, .int .i64 O, .int .i8 Z, x8, .slice WA nW cW, .slice BA nB cB, x11, x12, x13, x14, x15, x16, x17, x18]] w (MadeA w (a : Int) (b : Int) O N (rowL (gridF b oo (sumF zs ws bs H W C S P d kk Z)) N) (.int .i64 0)) := by
  obtain ⟨hsl, hnW, hn16, hnB⟩ := convE_ok he
  obtain ⟨hs0, har1, har2, -, -, hsr⟩ := slide_ok hsl
  obtain ⟨-, -, k1, k2, st1, st2, pd1, pd2, -⟩ := argsB_yes har1
  rw [ha, hb] at hsr
  obtain ⟨q1, q2, q3, q4, q5, q6, q7⟩ := shapeB_yes hsr
  have hNI : (a : Int) * (b : Int) * O = (N : Int) := by rw [hO, ← hN]; simp
  have hN2 : N ≤ 1024 := by rw [hNI] at q7; omega
  have hel : elemsZ (a : Int) (b : Int) O = (N : Int) := by rw [elemsZ_yes hsr]; exact hNI
  have hS : convS H W C K S P O nW nB = #[.int .i64 (a : Int), .int .i64 (b : Int), .int .i64 O] := by unfold convS; rw [he, if_pos rfl, ha, hb]
  have hnWN : oo * kk * kk * d = nW := by
    have : ((oo * kk * kk * d : Nat) : Int) = (nW : Int) := by rw [hnW, hO, hk, hd]; simp
    omega
  obtain ⟨F, hF⟩ : ∃ F, F = gridF b oo (sumF zs ws bs H W C S P d kk Z) := ⟨_, rfl⟩
  have hFF : ∀ i j k : Nat, j < b → k < oo → F ((i * b + j) * oo + k) = sumF zs ws bs H W C S P d kk Z i j k := fun i j k hj hk => by rw [hF, grid_at b oo _ hj hk]
  rw [← hF]
  have hboo : 0 < nB := by omega
  obtain ⟨bb, ob, rfl, hbb, hcb⟩ := ints_getD hrb (j := 0) (by omega)
  obtain ⟨i0, hi0, hi1, hi2, hi3⟩ := info_parts32 info_i32
  have hkk1 : 1 ≤ kk := by omega
  have hkk7 : kk ≤ 7 := by omega
  have hOO : O = (oo : Int) := hO
  have HT := Lib.hid ht
  have HE := Lib.hid he
  have HS := Lib.hid hS
  have HEL := Lib.hid hel
  have HFF := Lib.hid hFF
  have HN := Lib.hid hn
  have HZ := Lib.hid hz
  have HWS := Lib.hid hws
  have HWB := Lib.hid hwb
  have HBS := Lib.hid hbs
  have HO := Lib.hid hO
  have HD := Lib.hid hd
  have HK := Lib.hid hk
  have HNN := Lib.hid hN
  have HNW := Lib.hid hnWN
  have HNB := Lib.hid hnB
  have HR := Lib.hid hr
  have HRW := Lib.hid hrw
  have HRB := Lib.hid hrb
  have HB32 := Lib.hid hb32
  have HCB := Lib.hid hcb
  clear hb32 hcb ht he hS hel hFF hn hz hws hwb hbs hO hd hk hN hnWN hr hrw hrb hnW hnB hsl hs0 har1 har2 hsr q7 hNI hF ha hb hOO
  go_enter Try.func8, Try.ntmps8
  go_wp2_with (first
    | (go_at_call 10
       have hal : Below w.heap.size w (((w.alloc (.cells #[.int .i64 H, .int .i64 W, .int .i64 C, .slice A n c] 26)).alloc (.cells #[x0, x1, x2, .int .i64 K, .int .i64 S, .int .i64 P, .int .i64 O, .int .i8 Z, x8, .slice WA nW cW, .slice (some ⟨bb, ob, none⟩) nB cB, x11, x12, x13, x14, x15, x16, x17, x18] 32)).alloc (.cells #[.int .i64 0, .int .i64 0, .int .i64 0, .slice none 0 0] 36)) := (((Below.refl _ _).alloc (by first | exact Nat.le_refl _ | (simp; done) | (simp; omega)) _).alloc (by first | exact Nat.le_refl _ | (simp; done) | (simp; omega)) _).alloc (by first | exact Nat.le_refl _ | (simp; done) | (simp; omega)) _
       refine (refRight_to H W C A n c true HT.out _).mono ?_
       rintro e w1 ⟨rfl, hb⟩
       have hh : Below w.heap.size w w1 := hal.trans (hb.mono hal.size)
       have qTB := (boxNew H W C A n c 26) w
       try simp only [World.size_alloc] at qTB
       have TB := Lib.hid ((qTB.below (B' := w.heap.size + 1) (by omega) ((((Below.refl _ _).alloc (by first | exact Nat.le_refl _ | (simp; done) | (simp; omega)) _).alloc (by first | exact Nat.le_refl _ | (simp; done) | (simp; omega)) _).mono (by simp))).below (by first | (simp; done) | (simp; omega)) hb)
       have yTB : w.heap.size < w1.heap.size := by have := hb.size; simp at this; omega
       clear qTB
       have qTN := (NodeAt.new x0 x1 x2 x8 x11 x12 x13 x14 x15 x16 x17 x18 K S P O Z WA (some ⟨bb, ob, none⟩) nW cW nB cB 32) (w.alloc (.cells #[.int .i64 H, .int .i64 W, .int .i64 C, .slice A n c] 26))
       try simp only [World.size_alloc] at qTN
       have TN := Lib.hid ((qTN.below (B' := w.heap.size + 2) (by omega) (((Below.refl _ _).alloc (by first | exact Nat.le_refl _ | (simp; done) | (simp; omega)) _).mono (by simp))).below (by first | (simp; done) | (simp; omega)) hb)
       have yTN : w.heap.size + 1 < w1.heap.size := by have := hb.size; simp at this; omega
       clear qTN
       have qFR := (freshNew 36) ((w.alloc (.cells #[.int .i64 H, .int .i64 W, .int .i64 C, .slice A n c] 26)).alloc (.cells #[x0, x1, x2, .int .i64 K, .int .i64 S, .int .i64 P, .int .i64 O, .int .i8 Z, x8, .slice WA nW cW, .slice (some ⟨bb, ob, none⟩) nB cB, x11, x12, x13, x14, x15, x16, x17, x18] 32))
       try simp only [World.size_alloc] at qFR
       have FR := Lib.hid (qFR.below (by first | (simp; done) | (simp; omega)) hb)
       have yFR : w.heap.size + 2 < w1.heap.size := by have := hb.size; simp at this; omega
       clear qFR
       have HBW : Hid (Below w.heap.size w w1) := Lib.hid hh
       obtain ⟨tbp0, tbp1, tbp2, tbp3⟩ := TB.out
       clear hb hh hal)
    | (go_at_call 22
       have hal : Below w1.heap.size w1 w1 := Below.refl _ _
       refine (refConv_to H W C x0 x1 x2 x8 x11 x12 x13 x14 x15 x16 x17 x18 K S P O Z WA (some ⟨bb, ob, none⟩) nW cW nB cB 0 _ HE.out HS.out _).mono ?_
       rintro e w2 ⟨rfl, hb⟩
       have hh : Below w1.heap.size w1 w2 := hal.trans (hb.mono hal.size)
       replace TB := Lib.hid (TB.out.below yTB hh)
       replace yTB := Nat.lt_of_lt_of_le yTB hh.size
       replace TN := Lib.hid (TN.out.below yTN hh)
       replace yTN := Nat.lt_of_lt_of_le yTN hh.size
       replace FR := Lib.hid (FR.out.below yFR hh)
       replace yFR := Nat.lt_of_lt_of_le yFR hh.size
       replace HBW := Lib.hid (HBW.out.trans (hh.mono HBW.out.size))
       clear tbp0 tbp1 tbp2 tbp3
       have hg2 : w.heap.size + 3 ≤ w2.heap.size := yFR
       obtain ⟨tbp0, tbp1, tbp2, tbp3⟩ := TB.out
       clear hb hh hal)
    | (refine wpList_load_mid rfl 32 (.tmp 3) rfl (w.heap.size + 1) 0 rfl [x0, x1, x2, .int .i64 K, .int .i64 S, .int .i64 P, .int .i64 O, .int .i8 Z, x8, .slice WA nW cW, .slice (some ⟨bb, ob, none⟩) nB cB, x11, x12, x13, x14, x15, x16, x17, x18] _ TN.out Try.underlying32 rfl (by kernel_rfl) ?_))
  have hal : Below w2.heap.size w2 ((w2.alloc (.cells #[.int .i64 (a : Int), .int .i64 (b : Int), .int .i64 O] 23)).alloc (.cells #[.int .i64 (a : Int), .int .i64 (b : Int), .int .i64 O, .slice none 0 0] 36)) := ((Below.refl _ _).alloc (Nat.le_refl _) _).alloc (by simp) _
  have h63 : w.heap.size + 3 ≤ w2.heap.size := hg2
  have hts := (shapeNew (a : Int) (b : Int) O 23 w2).below (B' := w2.heap.size + 1) (by omega) ((Below.refl _ _).alloc (by simp) (.cells #[.int .i64 (a : Int), .int .i64 (b : Int), .int .i64 O, .slice none 0 0] 36))
  have hot := OutAt.new (a : Int) (b : Int) O (.slice none 0 0) 36 (w2.alloc (.cells #[.int .i64 (a : Int), .int .i64 (b : Int), .int .i64 O] 23))
  rw [World.size_alloc] at hot
  have HOT := Lib.hid hot
  have hOA : Hid (OfAt w H W C A n c x0 x1 x2 x8 x11 x12 x13 x14 x15 x16 x17 x18 K S P O Z WA (some ⟨bb, ob, none⟩) nW cW nB cB (a : Int) (b : Int) O w2.heap.size ((w2.alloc (.cells #[.int .i64 (a : Int), .int .i64 (b : Int), .int .i64 O] 23)).alloc (.cells #[.int .i64 (a : Int), .int .i64 (b : Int), .int .i64 O, .slice none 0 0] 36))) := Lib.hid ⟨TB.out.below yTB hal, TN.out.below yTN hal, FR.out.below yFR hal, hts, HBW.out.trans (hal.mono HBW.out.size), by first | (simp; done) | (simp; omega)⟩
  have hW : Hid (((w2.alloc (.cells #[.int .i64 (a : Int), .int .i64 (b : Int), .int .i64 O] 23)).alloc (.cells #[.int .i64 (a : Int), .int .i64 (b : Int), .int .i64 O, .slice none 0 0] 36)).ownsRow (w2.heap.size + 2) 21 1 (.slice none 0 0) 0 (I32v (rowL F 0))) := Lib.hid ⟨by simp [I32v, rowL], .inl ⟨rfl, rfl⟩⟩
  have hzz : w2.heap.size + 2 ≤ ((w2.alloc (.cells #[.int .i64 (a : Int), .int .i64 (b : Int), .int .i64 O] 23)).alloc (.cells #[.int .i64 (a : Int), .int .i64 (b : Int), .int .i64 O, .slice none 0 0] 36)).heap.size := by simp
  clear TB TN FR yTB yTN yFR hal tbp0 tbp1 tbp2 tbp3 HBW hg2 hts hot
  generalize ((w2.alloc (.cells #[.int .i64 (a : Int), .int .i64 (b : Int), .int .i64 O] 23)).alloc (.cells #[.int .i64 (a : Int), .int .i64 (b : Int), .int .i64 O, .slice none 0 0] 36)) = Wm at hOA hW HOT hzz ⊢
  generalize w2.heap.size = g6 at hOA hW HOT h63 hzz ⊢
  go_loopw [9] (fun u wr => ∃ (i : Nat) (v : Value), i ≤ a ∧ u = .int .i64 i ∧ Hid (OfAt w H W C A n c x0 x1 x2 x8 x11 x12 x13 x14 x15 x16 x17 x18 K S P O Z WA (some ⟨bb, ob, none⟩) nW cW nB cB (a : Int) (b : Int) O g6 wr) ∧ Hid (OutAt (g6 + 1) (a : Int) (b : Int) O v wr) ∧ Hid (wr.ownsRow (g6 + 2) 21 1 v (i * b * oo) (I32v (rowL F (i * b * oo)))) ∧ g6 + 2 ≤ wr.heap.size) (fun u _ => a - (intOf u).toNat)
  case atStart => exact ⟨0, _, Nat.zero_le _, rfl, hOA, HOT, by simpa using hW, hzz⟩
  case round =>
    obtain ⟨i, v0, hi, rfl, hA0, hT0, hW0, hz0⟩ := hrel
    clear hOA hW HOT hzz
    obtain ⟨-, -, -, ⟨s1, s2, s3⟩, -, -⟩ := hA0.out
    by_cases hlt : i < a
    · have hiI : (i : Int) < (a : Int) := by omega
      go_wp2_with fail
      go_loopw [10] (fun u wr => ∃ (j : Nat) (v : Value), j ≤ b ∧ u = .int .i64 j ∧ Hid (OfAt w H W C A n c x0 x1 x2 x8 x11 x12 x13 x14 x15 x16 x17 x18 K S P O Z WA (some ⟨bb, ob, none⟩) nW cW nB cB (a : Int) (b : Int) O g6 wr) ∧ Hid (OutAt (g6 + 1) (a : Int) (b : Int) O v wr) ∧ Hid (wr.ownsRow (g6 + 2) 21 1 v ((i * b + j) * oo) (I32v (rowL F ((i * b + j) * oo)))) ∧ g6 + 2 ≤ wr.heap.size) (fun u _ => b - (intOf u).toNat)
      case atStart => exact ⟨0, _, Nat.zero_le _, rfl, hA0, hT0, by simpa using hW0, hz0⟩
      case round =>
        obtain ⟨j, v1, hj, rfl, hA1, hT1, hW1, hz1⟩ := hrel
        clear hA0 hT0 hW0 hz0 s1 s2 s3
        obtain ⟨-, -, -, ⟨s1, s2, s3⟩, -, -⟩ := hA1.out
        by_cases hltj : j < b
        · have hjI : (j : Int) < (b : Int) := by omega
          obtain ⟨o, ho⟩ : ∃ o, (i * b + j) * oo = o := ⟨_, rfl⟩
          rw [ho] at hW1
          have HOO := Lib.hid ho
          clear ho
          go_wp2_with fail
          go_loopw [11] (fun u wr => ∃ (k : Nat) (v : Value), k ≤ oo ∧ u = .int .i64 k ∧ Hid (OfAt w H W C A n c x0 x1 x2 x8 x11 x12 x13 x14 x15 x16 x17 x18 K S P O Z WA (some ⟨bb, ob, none⟩) nW cW nB cB (a : Int) (b : Int) O g6 wr) ∧ Hid (OutAt (g6 + 1) (a : Int) (b : Int) O v wr) ∧ Hid (wr.ownsRow (g6 + 2) 21 1 v (o + k) (I32v (rowL F (o + k)))) ∧ g6 + 2 ≤ wr.heap.size) (fun u _ => oo - (intOf u).toNat)
          case atStart => exact ⟨0, _, Nat.zero_le _, rfl, hA1, hT1, hW1, hz1⟩
          case round =>
            obtain ⟨k, v2, hk, rfl, hA2, hT2, hW2, hz2⟩ := hrel
            clear hA1 hT1 hW1 hz1 s1 s2 s3
            obtain ⟨Av, cv, rfl, -, -, -⟩ := Kit.own_rd hW2.out
            obtain ⟨hbx, hnd, -, ⟨s1, s2, s3⟩, hbw, hsz⟩ := hA2.out
            have HBW := Lib.hid hbw
            clear hbw
            by_cases hltk : k < oo
            · have hkI : (k : Int) < O := by have := HO.out; omega
              have hk0 : (0 : Int) ≤ (k : Int) := by omega
              have hom : o + k < N := by rw [← HOO.out, ← HNN.out]; exact at_lt hlt hltj hltk
              have hoon : oo = nB := by have := HO.out; have := HNB.out; omega
              obtain ⟨R1, hR1⟩ : ∃ R1, bs.getD k 0 + winF zs ws H W C ((i : Int) * S - P) ((j : Int) * S - P) d kk k Z = R1 := ⟨_, rfl⟩
              have HR1 := Lib.hid hR1
              obtain ⟨x, hx⟩ : ∃ x, F (o + k) = x := ⟨_, rfl⟩
              have hcv : IntKind.i32.wrap R1 = x := by
                rw [← hx, ← hR1, ← HOO.out, HFF.out i j k hltj hltk]
                rfl
              have HXX := Lib.hid hx
              have hi16 : i ≤ 16 := by omega
              have hj16 : j ≤ 16 := by omega
              clear hx hR1
              obtain ⟨-, -, -, ov3, ovf⟩ := hT2.out
              go_wp2_with fail
              refine wp_region_held_drew (S := fun w' => BoxAt w.heap.size H W C A n c w' ∧ NodeAt (w.heap.size + 1) x0 x1 x2 x8 x11 x12 x13 x14 x15 x16 x17 x18 K S P O Z WA (some ⟨bb, ob, none⟩) nW cW nB cB w') (by kernel_rfl) ⟨hbx, hnd⟩ (fun hHeld => ?_)
              clear hbx hnd s1 s2 s3 ov3 ovf
              replace HBW := Lib.hid HBW.out.drew
              have hA3 : Hid (OfAt w H W C A n c x0 x1 x2 x8 x11 x12 x13 x14 x15 x16 x17 x18 K S P O Z WA (some ⟨bb, ob, none⟩) nW cW nB cB (a : Int) (b : Int) O g6 wr.drew) := Lib.hid (hA2.out.below h63 (Nat.lt_succ_self _) (Below.refl _ _).drew)
              have hT3 : Hid (OutAt (g6 + 1) (a : Int) (b : Int) O (.slice Av (o + k) cv) wr.drew) := hT2
              have hW3 : Hid (wr.drew.ownsRow (g6 + 2) 21 1 (.slice Av (o + k) cv) (o + k) (I32v (rowL F (o + k)))) := Lib.hid (Kit.own_below hW2.out (Below.refl _ _).drew)
              have hsz : g6 + 2 ≤ wr.drew.heap.size := hz2
              obtain ⟨-, -, -, ov3, ovf⟩ := hT3.out
              clear hA2 hW2 hT2 hz2
              generalize wr.drew = Wa at HBW hA3 hT3 hW3 hsz ov3 ovf hHeld ⊢
              refine wpAnyH_take (i := 0) (oi := ({ dst := some 47, op := Op.fieldAddr 36 (Operand.tmp 8) 1, type := 0, pos := "ref.go:50", after := #[], guard := none } : Oper)) (v := ?_) rfl (by kernel_rfl) (by kernel_rfl) (by kernel_rfl) (fun _ _ _ h => h) (Or.inl ⟨by rfl, ?_⟩) (by assumption) ?_
              rotate_left
              · intro wS hSw
                first
                  | (go_simp; done)
                  | (go_simp; with_reducible rfl)
              try simp only [Act.put, List.setIfInBounds_toArray, List.set_cons_zero, List.set_cons_succ]
              refine wpAnyH_take (i := 2) (oi := ({ dst := some 49, op := Op.load 26 (Operand.tmp 2), type := 26, pos := "ref.go:50", after := #[], guard := none } : Oper)) (v := ?_) rfl (by kernel_rfl) (by kernel_rfl) (by kernel_rfl) (fun _ _ _ h => h) (Or.inl ⟨by rfl, ?_⟩) (by assumption) ?_
              rotate_left
              · intro wS hSw
                obtain ⟨hq1, hq2⟩ := hSw
                obtain ⟨s1, s2, s3, s4⟩ := hq1; clear hq2
                first
                  | (go_simp; done)
                  | (go_simp; with_reducible rfl)
              try simp only [Act.put, List.setIfInBounds_toArray, List.set_cons_zero, List.set_cons_succ]
              refine wpAnyH_take (i := 3) (oi := ({ dst := some 50, op := Op.load 32 (Operand.tmp 3), type := 32, pos := "ref.go:50", after := #[], guard := none } : Oper)) (v := .agg #[x0, x1, x2, .int .i64 K, .int .i64 S, .int .i64 P, .int .i64 O, .int .i8 Z, x8, .slice WA nW cW, .slice (some ⟨bb, ob, none⟩) nB cB, x11, x12, x13, x14, x15, x16, x17, x18]) rfl (by kernel_rfl) (by kernel_rfl) (by kernel_rfl) (fun _ _ _ h => h) (yieldsIf_load_mid (by rfl) _ _ rfl (w.heap.size + 1) 0 rfl [x0, x1, x2, .int .i64 K, .int .i64 S, .int .i64 P, .int .i64 O, .int .i8 Z, x8, .slice WA nW cW, .slice (some ⟨bb, ob, none⟩) nB cB, x11, x12, x13, x14, x15, x16, x17, x18] _ (fun w' h => h.2) Try.underlying32 rfl (by kernel_rfl)) (by assumption) ?_
              try simp only [Act.put, List.setIfInBounds_toArray, List.set_cons_zero, List.set_cons_succ]
              refine wpAnyH_take (i := 4) (oi := ({ dst := some 51, op := Op.move (Operand.tmp 9), type := 3, pos := "ref.go:50", after := #[], guard := none } : Oper)) (v := ?_) rfl (by kernel_rfl) (by kernel_rfl) (by kernel_rfl) (fun _ _ _ h => h) (Or.inl ⟨by rfl, ?_⟩) (by assumption) ?_
              rotate_left
              · intro wS hSw
                first
                  | (go_simp; done)
                  | (go_simp; with_reducible rfl)
              try simp only [Act.put, List.setIfInBounds_toArray, List.set_cons_zero, List.set_cons_succ]
              refine wpAnyH_take (i := 5) (oi := ({ dst := some 52, op := Op.move (Operand.tmp 10), type := 3, pos := "ref.go:50", after := #[], guard := none } : Oper)) (v := ?_) rfl (by kernel_rfl) (by kernel_rfl) (by kernel_rfl) (fun _ _ _ h => h) (Or.inl ⟨by rfl, ?_⟩) (by assumption) ?_
              rotate_left
              · intro wS hSw
                first
                  | (go_simp; done)
                  | (go_simp; with_reducible rfl)
              try simp only [Act.put, List.setIfInBounds_toArray, List.set_cons_zero, List.set_cons_succ]
              refine wpAnyH_take (i := 6) (oi := ({ dst := some 53, op := Op.move (Operand.tmp 11), type := 3, pos := "ref.go:50", after := #[], guard := none } : Oper)) (v := ?_) rfl (by kernel_rfl) (by kernel_rfl) (by kernel_rfl) (fun _ _ _ h => h) (Or.inl ⟨by rfl, ?_⟩) (by assumption) ?_
              rotate_left
              · intro wS hSw
                first
                  | (go_simp; done)
                  | (go_simp; with_reducible rfl)
              try simp only [Act.put, List.setIfInBounds_toArray, List.set_cons_zero, List.set_cons_succ]
              refine wpAnyH_ready (rs := [1, 7]) (by kernel_rfl) (by simp) ?_
              refine AllReadyH.cons (o := ({ dst := some 48, op := Op.load 28 (Operand.tmp 47), type := 28, pos := "ref.go:50", after := #[{ on := 0, ground := Ground.data }], guard := none } : Oper)) rfl (fun Kq hK => ?_) ?_
              · go_simp
                refine hK.out _ _ ?_ (fun hHeld => ?_)
                · exact hHeld
                clear hK Kq
                try simp only [Act.put, List.setIfInBounds_toArray, List.set_cons_zero, List.set_cons_succ]
                refine wpAnyH_ready (rs := [7]) (by kernel_rfl) (by simp) ?_
                refine AllReadyH.cons (o := ({ dst := some 54, op := Op.call { callee := Callee.value (Operand.func 23), args := #[Operand.tmp 49, Operand.tmp 50, Operand.tmp 51, Operand.tmp 52, Operand.tmp 53], argTypes := #[26, 32, 3, 3, 3] }, type := 3, pos := "ref.go:50", after := #[{ on := 2, ground := Ground.data }, { on := 3, ground := Ground.data }, { on := 4, ground := Ground.data }, { on := 5, ground := Ground.data }, { on := 6, ground := Ground.data }], guard := none } : Oper)) rfl (fun Kq hK => ?_) (AllReadyH.nil)
                go_simp
                go_at_call 23
                refine (refSum_to H W C A zs n c HN.out HT.out HZ.out x0 x1 x2 x8 x11 x12 x13 x14 x15 x16 x17 x18 K S P O Z WA (some ⟨bb, ob, none⟩) nW cW nB cB ws HWS.out HWB.out bs HBS.out HB32.out d kk k oo HD.out HK.out hkk1 hkk7 hltk hoon HNW.out hn16 z1 z2 i j hi16 hj16 st1 st2 pd1 pd2 _ ((HR.out.below HBW.out).more HBW.out.size) ((HRW.out.below HBW.out).more HBW.out.size) ((HRB.out.below HBW.out).more HBW.out.size) R1 HR1.out).mono ?_
                rintro e Wb1 ⟨rfl, hb1⟩
                have hS1 : BoxAt w.heap.size H W C A n c _ ∧ NodeAt (w.heap.size + 1) x0 x1 x2 x8 x11 x12 x13 x14 x15 x16 x17 x18 K S P O Z WA (some ⟨bb, ob, none⟩) nW cW nB cB _ := ⟨hHeld.1.below (B' := _) (by omega) hb1, hHeld.2.below (B' := _) (by omega) hb1⟩
                replace HBW := Lib.hid (HBW.out.trans (hb1.mono (by omega)))
                replace hA3 := Lib.hid (hA3.out.below h63 (by omega) hb1)
                replace hT3 := Lib.hid (hT3.out.below (by omega) hb1)
                replace hW3 := Lib.hid (Kit.own_below hW3.out hb1)
                replace hsz := Nat.le_trans hsz hb1.size
                clear hHeld ov3 ovf
                obtain ⟨-, -, -, ov3, ovf⟩ := hT3.out
                clear hb1
                dsimp only
                refine hK.out _ _ ?_ (fun hHeld => ?_)
                · exact hS1
                clear hK Kq
                try simp only [Act.put, List.setIfInBounds_toArray, List.set_cons_zero, List.set_cons_succ]
                refine wpAnyH_take (i := 8) (oi := ({ dst := some 55, op := Op.convert 3 21 (Operand.tmp 54), type := 21, pos := "ref.go:50", after := #[{ on := 7, ground := Ground.data }], guard := none } : Oper)) (v := ?_) rfl (by kernel_rfl) (by kernel_rfl) (by kernel_rfl) (fun _ _ _ h => h) (Or.inl ⟨by rfl, ?_⟩) (by assumption) ?_
                rotate_left
                · intro wS hSw
                  first
                    | (go_simp; done)
                    | (go_simp; with_reducible rfl)
                try simp only [Act.put, List.setIfInBounds_toArray, List.set_cons_zero, List.set_cons_succ]
                refine wpAnyH_ready (rs := [9]) (by kernel_rfl) (by simp) ?_
                refine AllReadyH.cons (o := ({ dst := some 56, op := Op.buildSlice 28 1 #[(0, Operand.tmp 55)], type := 28, pos := "ref.go:50", after := #[{ on := 8, ground := Ground.data }], guard := none } : Oper)) rfl (fun Kq hK => ?_) (AllReadyH.nil)
                go_simp
                refine hK.out _ _ ?_ (fun hHeld => ?_)
                · exact ⟨hHeld.1.below (B' := Wb1.heap.size) (by omega) ((Below.refl _ _).alloc (Nat.le_refl _) _), hHeld.2.below (B' := Wb1.heap.size) (by omega) ((Below.refl _ _).alloc (Nat.le_refl _) _)⟩
                clear hK Kq
                try simp only [Act.put, List.setIfInBounds_toArray, List.set_cons_zero, List.set_cons_succ]
                replace HBW := Lib.hid (HBW.out.alloc HBW.out.size (.cells #[.int .i32 x] 21))
                replace hA3 := Lib.hid (hA3.out.below h63 (B' := Wb1.heap.size) (by omega) ((Below.refl _ _).alloc (Nat.le_refl _) (.cells #[.int .i32 x] 21)))
                replace hT3 := Lib.hid (hT3.out.below (B' := Wb1.heap.size) (by omega) ((Below.refl _ _).alloc (Nat.le_refl _) (.cells #[.int .i32 x] 21)))
                replace hW3 := Lib.hid (hW3.out.alloc (.cells #[.int .i32 x] 21))
                have HXR := Lib.hid (Kit.Rd.new Wb1 [.int .i32 x] 21 (Nat.lt_succ_self _))
                replace hsz : g6 + 2 ≤ (Wb1.alloc (.cells #[.int .i32 x] 21)).heap.size := by simp; omega
                clear ov3 ovf
                obtain ⟨-, -, -, ov3, ovf⟩ := hT3.out
                generalize Wb1.alloc (.cells #[.int .i32 x] 21) = Wc2 at HBW hA3 hT3 hW3 HXR hsz ov3 ovf hHeld ⊢
                refine wpAnyH_ready (rs := [10]) (by kernel_rfl) (by simp) ?_
                refine AllReadyH.cons (o := ({ dst := some 57, op := Op.call { callee := Callee.builtin Builtin.append, args := #[Operand.tmp 48, Operand.tmp 56], argTypes := #[28, 28] }, type := 28, pos := "ref.go:50", after := #[{ on := 1, ground := Ground.data }, { on := 9, ground := Ground.data }, { on := 7, ground := Ground.chain }], guard := none } : Oper)) rfl (fun Kq hK => ?_) (AllReadyH.nil)
                refine Kit.step_append_rd _ rfl (.tmp 48) (.tmp 56) _ rfl (g6 + 2) 21 i0 (.int .i32 0) 1 4 Try.underlying28 hi0 hi1 hi2 hi3 rfl (by decide) _ (o + k) (I32v (rowL F (o + k))) rfl hW3.out _ _ 1 1 [.int .i32 x] rfl rfl HXR.out (Kit.ints_one .i32 [x]) (by unfold maxLen; omega) (by omega) (by omega) ?_
                intro v5 w5 hown5 hg5 _
                obtain ⟨A5, c5, rfl, -, -, -⟩ := Kit.own_rd hown5
                have hb5 : Below (g6 + 2) Wc2 w5 := (Below.refl _ _).grown hg5 hsz (Kit.own_block_ge hW3.out)
                rw [rowL_succ F (o + k) x HXX.out] at hown5
                have hS1 : BoxAt w.heap.size H W C A n c _ ∧ NodeAt (w.heap.size + 1) x0 x1 x2 x8 x11 x12 x13 x14 x15 x16 x17 x18 K S P O Z WA (some ⟨bb, ob, none⟩) nW cW nB cB _ := ⟨hHeld.1.below (B' := _) (by omega) hb5, hHeld.2.below (B' := _) (by omega) hb5⟩
                replace HBW := Lib.hid (HBW.out.trans (hb5.mono (by omega)))
                replace hA3 := Lib.hid (hA3.out.below h63 (by omega) hb5)
                replace hT3 := Lib.hid (hT3.out.below (by omega) hb5)
                replace hW3 := Lib.hid (hown5)
                replace hsz := Nat.le_trans hsz hb5.size
                clear hHeld ov3 ovf
                obtain ⟨-, -, -, ov3, ovf⟩ := hT3.out
                clear hown5 hg5 hb5 HXR
                dsimp only
                refine hK.out _ _ ?_ (fun hHeld => ?_)
                · exact hS1
                clear hK Kq
                try simp only [Act.put, List.setIfInBounds_toArray, List.set_cons_zero, List.set_cons_succ]
                refine wpAnyH_take (i := 11) (oi := ({ dst := some 58, op := Op.fieldAddr 36 (Operand.tmp 8) 1, type := 0, pos := "ref.go:50", after := #[{ on := 0, ground := Ground.phase }, { on := 1, ground := Ground.phase }, { on := 2, ground := Ground.phase }, { on := 3, ground := Ground.phase }, { on := 4, ground := Ground.phase }, { on := 5, ground := Ground.phase }, { on := 6, ground := Ground.phase }, { on := 7, ground := Ground.phase }, { on := 8, ground := Ground.phase }, { on := 9, ground := Ground.phase }, { on := 10, ground := Ground.phase }], guard := none } : Oper)) (v := ?_) rfl (by kernel_rfl) (by kernel_rfl) (by kernel_rfl) (fun _ _ _ h => h) (Or.inl ⟨by rfl, ?_⟩) (by assumption) ?_
                rotate_left
                · intro wS hSw
                  first
                    | (go_simp; done)
                    | (go_simp; with_reducible rfl)
                try simp only [Act.put, List.setIfInBounds_toArray, List.set_cons_zero, List.set_cons_succ]
                have hb9 : Below (g6 + 1) w5 (w5.setCell ⟨g6 + 1, 3, none⟩ (.slice A5 (o + k + 1) c5)) := (Below.refl _ _).setCell (p := ⟨g6 + 1, 3, none⟩) (Nat.le_refl _) _
                have hA4 := Lib.hid (hA3.out.below h63 (Nat.lt_succ_self _) hb9)
                have hT4 := Lib.hid (hT3.out.store (.slice A5 (o + k + 1) c5))
                have hW4 := Lib.hid (own_set hW3.out ⟨g6 + 1, 3, none⟩ (.slice A5 (o + k + 1) c5) (by simp))
                have hz4 : g6 + 2 ≤ (w5.setCell ⟨g6 + 1, 3, none⟩ (.slice A5 (o + k + 1) c5)).heap.size := by simpa using hsz
                refine wpAnyH_ready (rs := [12]) (by kernel_rfl) (by simp) ?_
                refine AllReadyH.cons (o := ({ dst := none, op := Op.store 28 (Operand.tmp 58) (Operand.tmp 57), type := 0, pos := "ref.go:50", after := #[{ on := 11, ground := Ground.data }, { on := 10, ground := Ground.data }, { on := 10, ground := Ground.chain }, { on := 0, ground := Ground.phase }, { on := 1, ground := Ground.phase }, { on := 2, ground := Ground.phase }, { on := 3, ground := Ground.phase }, { on := 4, ground := Ground.phase }, { on := 5, ground := Ground.phase }, { on := 6, ground := Ground.phase }, { on := 7, ground := Ground.phase }, { on := 8, ground := Ground.phase }, { on := 9, ground := Ground.phase }, { on := 10, ground := Ground.phase }], guard := none } : Oper)) rfl (fun Kq hK => ?_) (AllReadyH.nil)
                go_simp
                refine hK.out _ _ ?_ (fun hHeld => ?_)
                · exact ⟨hA4.out.1, hA4.out.2.1⟩
                clear hK Kq
                try simp only [Act.put, List.setIfInBounds_toArray, List.set_cons_zero, List.set_cons_succ]
                refine wpAnyH_done (by kernel_rfl) ?_ _
                clear hHeld hcv ov3 ovf hA3 hT3 hW3 hsz hb9
                go_wp2_with fail
                go_roundw
                case rel => exact ⟨k + 1, _, by omega, by go_num, hA4, hT4, hW4, hz4⟩
                case measure => simp [intOf]; omega
              refine AllReadyH.cons (o := ({ dst := some 54, op := Op.call { callee := Callee.value (Operand.func 23), args := #[Operand.tmp 49, Operand.tmp 50, Operand.tmp 51, Operand.tmp 52, Operand.tmp 53], argTypes := #[26, 32, 3, 3, 3] }, type := 3, pos := "ref.go:50", after := #[{ on := 2, ground := Ground.data }, { on := 3, ground := Ground.data }, { on := 4, ground := Ground.data }, { on := 5, ground := Ground.data }, { on := 6, ground := Ground.data }], guard := none } : Oper)) rfl (fun Kq hK => ?_) ?_
              · go_simp
                go_at_call 23
                refine (refSum_to H W C A zs n c HN.out HT.out HZ.out x0 x1 x2 x8 x11 x12 x13 x14 x15 x16 x17 x18 K S P O Z WA (some ⟨bb, ob, none⟩) nW cW nB cB ws HWS.out HWB.out bs HBS.out HB32.out d kk k oo HD.out HK.out hkk1 hkk7 hltk hoon HNW.out hn16 z1 z2 i j hi16 hj16 st1 st2 pd1 pd2 _ ((HR.out.below HBW.out).more HBW.out.size) ((HRW.out.below HBW.out).more HBW.out.size) ((HRB.out.below HBW.out).more HBW.out.size) R1 HR1.out).mono ?_
                rintro e Wb0 ⟨rfl, hb1⟩
                have hS1 : BoxAt w.heap.size H W C A n c _ ∧ NodeAt (w.heap.size + 1) x0 x1 x2 x8 x11 x12 x13 x14 x15 x16 x17 x18 K S P O Z WA (some ⟨bb, ob, none⟩) nW cW nB cB _ := ⟨hHeld.1.below (B' := _) (by omega) hb1, hHeld.2.below (B' := _) (by omega) hb1⟩
                replace HBW := Lib.hid (HBW.out.trans (hb1.mono (by omega)))
                replace hA3 := Lib.hid (hA3.out.below h63 (by omega) hb1)
                replace hT3 := Lib.hid (hT3.out.below (by omega) hb1)
                replace hW3 := Lib.hid (Kit.own_below hW3.out hb1)
                replace hsz := Nat.le_trans hsz hb1.size
                clear hHeld ov3 ovf
                obtain ⟨-, -, -, ov3, ovf⟩ := hT3.out
                clear hb1
                dsimp only
                refine hK.out _ _ ?_ (fun hHeld => ?_)
                · exact hS1
                clear hK Kq
                try simp only [Act.put, List.setIfInBounds_toArray, List.set_cons_zero, List.set_cons_succ]
                refine wpAnyH_take (i := 8) (oi := ({ dst := some 55, op := Op.convert 3 21 (Operand.tmp 54), type := 21, pos := "ref.go:50", after := #[{ on := 7, ground := Ground.data }], guard := none } : Oper)) (v := ?_) rfl (by kernel_rfl) (by kernel_rfl) (by kernel_rfl) (fun _ _ _ h => h) (Or.inl ⟨by rfl, ?_⟩) (by assumption) ?_
                rotate_left
                · intro wS hSw
                  first
                    | (go_simp; done)
                    | (go_simp; with_reducible rfl)
                try simp only [Act.put, List.setIfInBounds_toArray, List.set_cons_zero, List.set_cons_succ]
                refine wpAnyH_ready (rs := [1, 9]) (by kernel_rfl) (by simp) ?_
                refine AllReadyH.cons (o := ({ dst := some 48, op := Op.load 28 (Operand.tmp 47), type := 28, pos := "ref.go:50", after := #[{ on := 0, ground := Ground.data }], guard := none } : Oper)) rfl (fun Kq hK => ?_) ?_
                · go_simp
                  refine hK.out _ _ ?_ (fun hHeld => ?_)
                  · exact hHeld
                  clear hK Kq
                  try simp only [Act.put, List.setIfInBounds_toArray, List.set_cons_zero, List.set_cons_succ]
                  refine wpAnyH_ready (rs := [9]) (by kernel_rfl) (by simp) ?_
                  refine AllReadyH.cons (o := ({ dst := some 56, op := Op.buildSlice 28 1 #[(0, Operand.tmp 55)], type := 28, pos := "ref.go:50", after := #[{ on := 8, ground := Ground.data }], guard := none } : Oper)) rfl (fun Kq hK => ?_) (AllReadyH.nil)
                  go_simp
                  refine hK.out _ _ ?_ (fun hHeld => ?_)
                  · exact ⟨hHeld.1.below (B' := Wb0.heap.size) (by omega) ((Below.refl _ _).alloc (Nat.le_refl _) _), hHeld.2.below (B' := Wb0.heap.size) (by omega) ((Below.refl _ _).alloc (Nat.le_refl _) _)⟩
                  clear hK Kq
                  try simp only [Act.put, List.setIfInBounds_toArray, List.set_cons_zero, List.set_cons_succ]
                  replace HBW := Lib.hid (HBW.out.alloc HBW.out.size (.cells #[.int .i32 x] 21))
                  replace hA3 := Lib.hid (hA3.out.below h63 (B' := Wb0.heap.size) (by omega) ((Below.refl _ _).alloc (Nat.le_refl _) (.cells #[.int .i32 x] 21)))
                  replace hT3 := Lib.hid (hT3.out.below (B' := Wb0.heap.size) (by omega) ((Below.refl _ _).alloc (Nat.le_refl _) (.cells #[.int .i32 x] 21)))
                  replace hW3 := Lib.hid (hW3.out.alloc (.cells #[.int .i32 x] 21))
                  have HXR := Lib.hid (Kit.Rd.new Wb0 [.int .i32 x] 21 (Nat.lt_succ_self _))
                  replace hsz : g6 + 2 ≤ (Wb0.alloc (.cells #[.int .i32 x] 21)).heap.size := by simp; omega
                  clear ov3 ovf
                  obtain ⟨-, -, -, ov3, ovf⟩ := hT3.out
                  generalize Wb0.alloc (.cells #[.int .i32 x] 21) = Wc2 at HBW hA3 hT3 hW3 HXR hsz ov3 ovf hHeld ⊢
                  refine wpAnyH_ready (rs := [10]) (by kernel_rfl) (by simp) ?_
                  refine AllReadyH.cons (o := ({ dst := some 57, op := Op.call { callee := Callee.builtin Builtin.append, args := #[Operand.tmp 48, Operand.tmp 56], argTypes := #[28, 28] }, type := 28, pos := "ref.go:50", after := #[{ on := 1, ground := Ground.data }, { on := 9, ground := Ground.data }, { on := 7, ground := Ground.chain }], guard := none } : Oper)) rfl (fun Kq hK => ?_) (AllReadyH.nil)
                  refine Kit.step_append_rd _ rfl (.tmp 48) (.tmp 56) _ rfl (g6 + 2) 21 i0 (.int .i32 0) 1 4 Try.underlying28 hi0 hi1 hi2 hi3 rfl (by decide) _ (o + k) (I32v (rowL F (o + k))) rfl hW3.out _ _ 1 1 [.int .i32 x] rfl rfl HXR.out (Kit.ints_one .i32 [x]) (by unfold maxLen; omega) (by omega) (by omega) ?_
                  intro v5 w5 hown5 hg5 _
                  obtain ⟨A5, c5, rfl, -, -, -⟩ := Kit.own_rd hown5
                  have hb5 : Below (g6 + 2) Wc2 w5 := (Below.refl _ _).grown hg5 hsz (Kit.own_block_ge hW3.out)
                  rw [rowL_succ F (o + k) x HXX.out] at hown5
                  have hS1 : BoxAt w.heap.size H W C A n c _ ∧ NodeAt (w.heap.size + 1) x0 x1 x2 x8 x11 x12 x13 x14 x15 x16 x17 x18 K S P O Z WA (some ⟨bb, ob, none⟩) nW cW nB cB _ := ⟨hHeld.1.below (B' := _) (by omega) hb5, hHeld.2.below (B' := _) (by omega) hb5⟩
                  replace HBW := Lib.hid (HBW.out.trans (hb5.mono (by omega)))
                  replace hA3 := Lib.hid (hA3.out.below h63 (by omega) hb5)
                  replace hT3 := Lib.hid (hT3.out.below (by omega) hb5)
                  replace hW3 := Lib.hid (hown5)
                  replace hsz := Nat.le_trans hsz hb5.size
                  clear hHeld ov3 ovf
                  obtain ⟨-, -, -, ov3, ovf⟩ := hT3.out
                  clear hown5 hg5 hb5 HXR
                  dsimp only
                  refine hK.out _ _ ?_ (fun hHeld => ?_)
                  · exact hS1
                  clear hK Kq
                  try simp only [Act.put, List.setIfInBounds_toArray, List.set_cons_zero, List.set_cons_succ]
                  refine wpAnyH_take (i := 11) (oi := ({ dst := some 58, op := Op.fieldAddr 36 (Operand.tmp 8) 1, type := 0, pos := "ref.go:50", after := #[{ on := 0, ground := Ground.phase }, { on := 1, ground := Ground.phase }, { on := 2, ground := Ground.phase }, { on := 3, ground := Ground.phase }, { on := 4, ground := Ground.phase }, { on := 5, ground := Ground.phase }, { on := 6, ground := Ground.phase }, { on := 7, ground := Ground.phase }, { on := 8, ground := Ground.phase }, { on := 9, ground := Ground.phase }, { on := 10, ground := Ground.phase }], guard := none } : Oper)) (v := ?_) rfl (by kernel_rfl) (by kernel_rfl) (by kernel_rfl) (fun _ _ _ h => h) (Or.inl ⟨by rfl, ?_⟩) (by assumption) ?_
                  rotate_left
                  · intro wS hSw
                    first
                      | (go_simp; done)
                      | (go_simp; with_reducible rfl)
                  try simp only [Act.put, List.setIfInBounds_toArray, List.set_cons_zero, List.set_cons_succ]
                  have hb9 : Below (g6 + 1) w5 (w5.setCell ⟨g6 + 1, 3, none⟩ (.slice A5 (o + k + 1) c5)) := (Below.refl _ _).setCell (p := ⟨g6 + 1, 3, none⟩) (Nat.le_refl _) _
                  have hA4 := Lib.hid (hA3.out.below h63 (Nat.lt_succ_self _) hb9)
                  have hT4 := Lib.hid (hT3.out.store (.slice A5 (o + k + 1) c5))
                  have hW4 := Lib.hid (own_set hW3.out ⟨g6 + 1, 3, none⟩ (.slice A5 (o + k + 1) c5) (by simp))
                  have hz4 : g6 + 2 ≤ (w5.setCell ⟨g6 + 1, 3, none⟩ (.slice A5 (o + k + 1) c5)).heap.size := by simpa using hsz
                  refine wpAnyH_ready (rs := [12]) (by kernel_rfl) (by simp) ?_
                  refine AllReadyH.cons (o := ({ dst := none, op := Op.store 28 (Operand.tmp 58) (Operand.tmp 57), type := 0, pos := "ref.go:50", after := #[{ on := 11, ground := Ground.data }, { on := 10, ground := Ground.data }, { on := 10, ground := Ground.chain }, { on := 0, ground := Ground.phase }, { on := 1, ground := Ground.phase }, { on := 2, ground := Ground.phase }, { on := 3, ground := Ground.phase }, { on := 4, ground := Ground.phase }, { on := 5, ground := Ground.phase }, { on := 6, ground := Ground.phase }, { on := 7, ground := Ground.phase }, { on := 8, ground := Ground.phase }, { on := 9, ground := Ground.phase }, { on := 10, ground := Ground.phase }], guard := none } : Oper)) rfl (fun Kq hK => ?_) (AllReadyH.nil)
                  go_simp
                  refine hK.out _ _ ?_ (fun hHeld => ?_)
                  · exact ⟨hA4.out.1, hA4.out.2.1⟩
                  clear hK Kq
                  try simp only [Act.put, List.setIfInBounds_toArray, List.set_cons_zero, List.set_cons_succ]
                  refine wpAnyH_done (by kernel_rfl) ?_ _
                  clear hHeld hcv ov3 ovf hA3 hT3 hW3 hsz hb9
                  go_wp2_with fail
                  go_roundw
                  case rel => exact ⟨k + 1, _, by omega, by go_num, hA4, hT4, hW4, hz4⟩
                  case measure => simp [intOf]; omega
                refine AllReadyH.cons (o := ({ dst := some 56, op := Op.buildSlice 28 1 #[(0, Operand.tmp 55)], type := 28, pos := "ref.go:50", after := #[{ on := 8, ground := Ground.data }], guard := none } : Oper)) rfl (fun Kq hK => ?_) ?_
                · go_simp
                  refine hK.out _ _ ?_ (fun hHeld => ?_)
                  · exact ⟨hHeld.1.below (B' := Wb0.heap.size) (by omega) ((Below.refl _ _).alloc (Nat.le_refl _) _), hHeld.2.below (B' := Wb0.heap.size) (by omega) ((Below.refl _ _).alloc (Nat.le_refl _) _)⟩
                  clear hK Kq
                  try simp only [Act.put, List.setIfInBounds_toArray, List.set_cons_zero, List.set_cons_succ]
                  replace HBW := Lib.hid (HBW.out.alloc HBW.out.size (.cells #[.int .i32 x] 21))
                  replace hA3 := Lib.hid (hA3.out.below h63 (B' := Wb0.heap.size) (by omega) ((Below.refl _ _).alloc (Nat.le_refl _) (.cells #[.int .i32 x] 21)))
                  replace hT3 := Lib.hid (hT3.out.below (B' := Wb0.heap.size) (by omega) ((Below.refl _ _).alloc (Nat.le_refl _) (.cells #[.int .i32 x] 21)))
                  replace hW3 := Lib.hid (hW3.out.alloc (.cells #[.int .i32 x] 21))
                  have HXR := Lib.hid (Kit.Rd.new Wb0 [.int .i32 x] 21 (Nat.lt_succ_self _))
                  replace hsz : g6 + 2 ≤ (Wb0.alloc (.cells #[.int .i32 x] 21)).heap.size := by simp; omega
                  clear ov3 ovf
                  obtain ⟨-, -, -, ov3, ovf⟩ := hT3.out
                  generalize Wb0.alloc (.cells #[.int .i32 x] 21) = Wc1 at HBW hA3 hT3 hW3 HXR hsz ov3 ovf hHeld ⊢
                  refine wpAnyH_ready (rs := [1]) (by kernel_rfl) (by simp) ?_
                  refine AllReadyH.cons (o := ({ dst := some 48, op := Op.load 28 (Operand.tmp 47), type := 28, pos := "ref.go:50", after := #[{ on := 0, ground := Ground.data }], guard := none } : Oper)) rfl (fun Kq hK => ?_) (AllReadyH.nil)
                  go_simp
                  refine hK.out _ _ ?_ (fun hHeld => ?_)
                  · exact hHeld
                  clear hK Kq
                  try simp only [Act.put, List.setIfInBounds_toArray, List.set_cons_zero, List.set_cons_succ]
                  refine wpAnyH_ready (rs := [10]) (by kernel_rfl) (by simp) ?_
                  refine AllReadyH.cons (o := ({ dst := some 57, op := Op.call { callee := Callee.builtin Builtin.append, args := #[Operand.tmp 48, Operand.tmp 56], argTypes := #[28, 28] }, type := 28, pos := "ref.go:50", after := #[{ on := 1, ground := Ground.data }, { on := 9, ground := Ground.data }, { on := 7, ground := Ground.chain }], guard := none } : Oper)) rfl (fun Kq hK => ?_) (AllReadyH.nil)
                  refine Kit.step_append_rd _ rfl (.tmp 48) (.tmp 56) _ rfl (g6 + 2) 21 i0 (.int .i32 0) 1 4 Try.underlying28 hi0 hi1 hi2 hi3 rfl (by decide) _ (o + k) (I32v (rowL F (o + k))) rfl hW3.out _ _ 1 1 [.int .i32 x] rfl rfl HXR.out (Kit.ints_one .i32 [x]) (by unfold maxLen; omega) (by omega) (by omega) ?_
                  intro v5 w5 hown5 hg5 _
                  obtain ⟨A5, c5, rfl, -, -, -⟩ := Kit.own_rd hown5
                  have hb5 : Below (g6 + 2) Wc1 w5 := (Below.refl _ _).grown hg5 hsz (Kit.own_block_ge hW3.out)
                  rw [rowL_succ F (o + k) x HXX.out] at hown5
                  have hS1 : BoxAt w.heap.size H W C A n c _ ∧ NodeAt (w.heap.size + 1) x0 x1 x2 x8 x11 x12 x13 x14 x15 x16 x17 x18 K S P O Z WA (some ⟨bb, ob, none⟩) nW cW nB cB _ := ⟨hHeld.1.below (B' := _) (by omega) hb5, hHeld.2.below (B' := _) (by omega) hb5⟩
                  replace HBW := Lib.hid (HBW.out.trans (hb5.mono (by omega)))
                  replace hA3 := Lib.hid (hA3.out.below h63 (by omega) hb5)
                  replace hT3 := Lib.hid (hT3.out.below (by omega) hb5)
                  replace hW3 := Lib.hid (hown5)
                  replace hsz := Nat.le_trans hsz hb5.size
                  clear hHeld ov3 ovf
                  obtain ⟨-, -, -, ov3, ovf⟩ := hT3.out
                  clear hown5 hg5 hb5 HXR
                  dsimp only
                  refine hK.out _ _ ?_ (fun hHeld => ?_)
                  · exact hS1
                  clear hK Kq
                  try simp only [Act.put, List.setIfInBounds_toArray, List.set_cons_zero, List.set_cons_succ]
                  refine wpAnyH_take (i := 11) (oi := ({ dst := some 58, op := Op.fieldAddr 36 (Operand.tmp 8) 1, type := 0, pos := "ref.go:50", after := #[{ on := 0, ground := Ground.phase }, { on := 1, ground := Ground.phase }, { on := 2, ground := Ground.phase }, { on := 3, ground := Ground.phase }, { on := 4, ground := Ground.phase }, { on := 5, ground := Ground.phase }, { on := 6, ground := Ground.phase }, { on := 7, ground := Ground.phase }, { on := 8, ground := Ground.phase }, { on := 9, ground := Ground.phase }, { on := 10, ground := Ground.phase }], guard := none } : Oper)) (v := ?_) rfl (by kernel_rfl) (by kernel_rfl) (by kernel_rfl) (fun _ _ _ h => h) (Or.inl ⟨by rfl, ?_⟩) (by assumption) ?_
                  rotate_left
                  · intro wS hSw
                    first
                      | (go_simp; done)
                      | (go_simp; with_reducible rfl)
                  try simp only [Act.put, List.setIfInBounds_toArray, List.set_cons_zero, List.set_cons_succ]
                  have hb9 : Below (g6 + 1) w5 (w5.setCell ⟨g6 + 1, 3, none⟩ (.slice A5 (o + k + 1) c5)) := (Below.refl _ _).setCell (p := ⟨g6 + 1, 3, none⟩) (Nat.le_refl _) _
                  have hA4 := Lib.hid (hA3.out.below h63 (Nat.lt_succ_self _) hb9)
                  have hT4 := Lib.hid (hT3.out.store (.slice A5 (o + k + 1) c5))
                  have hW4 := Lib.hid (own_set hW3.out ⟨g6 + 1, 3, none⟩ (.slice A5 (o + k + 1) c5) (by simp))
                  have hz4 : g6 + 2 ≤ (w5.setCell ⟨g6 + 1, 3, none⟩ (.slice A5 (o + k + 1) c5)).heap.size := by simpa using hsz
                  refine wpAnyH_ready (rs := [12]) (by kernel_rfl) (by simp) ?_
                  refine AllReadyH.cons (o := ({ dst := none, op := Op.store 28 (Operand.tmp 58) (Operand.tmp 57), type := 0, pos := "ref.go:50", after := #[{ on := 11, ground := Ground.data }, { on := 10, ground := Ground.data }, { on := 10, ground := Ground.chain }, { on := 0, ground := Ground.phase }, { on := 1, ground := Ground.phase }, { on := 2, ground := Ground.phase }, { on := 3, ground := Ground.phase }, { on := 4, ground := Ground.phase }, { on := 5, ground := Ground.phase }, { on := 6, ground := Ground.phase }, { on := 7, ground := Ground.phase }, { on := 8, ground := Ground.phase }, { on := 9, ground := Ground.phase }, { on := 10, ground := Ground.phase }], guard := none } : Oper)) rfl (fun Kq hK => ?_) (AllReadyH.nil)
                  go_simp
                  refine hK.out _ _ ?_ (fun hHeld => ?_)
                  · exact ⟨hA4.out.1, hA4.out.2.1⟩
                  clear hK Kq
                  try simp only [Act.put, List.setIfInBounds_toArray, List.set_cons_zero, List.set_cons_succ]
                  refine wpAnyH_done (by kernel_rfl) ?_ _
                  clear hHeld hcv ov3 ovf hA3 hT3 hW3 hsz hb9
                  go_wp2_with fail
                  go_roundw
                  case rel => exact ⟨k + 1, _, by omega, by go_num, hA4, hT4, hW4, hz4⟩
                  case measure => simp [intOf]; omega
                exact AllReadyH.nil
              exact AllReadyH.nil
            · obtain rfl : k = oo := by omega
              have hkI : ¬ (k : Int) < O := by have := HO.out; omega
              have e : (i * b + (j + 1)) * k = o + k := by rw [← HOO.out, ← Nat.add_assoc, Nat.add_mul _ 1, Nat.one_mul]
              have hW3 : Hid (wr.ownsRow (g6 + 2) 21 1 (.slice Av (o + k) cv) ((i * b + (j + 1)) * k) (I32v (rowL F ((i * b + (j + 1)) * k)))) := by rw [e]; exact hW2
              go_wp2_with fail
              go_roundw
              case rel => exact ⟨j + 1, _, by omega, by go_num, hA2, hT2, hW3, hz2⟩
              case measure => simp [intOf]; omega
        · obtain rfl : j = b := by omega
          have e : (i + 1) * j * oo = (i * j + j) * oo := by rw [Nat.add_mul i 1, Nat.one_mul]
          have hW3 : Hid (wr.ownsRow (g6 + 2) 21 1 v1 ((i + 1) * j * oo) (I32v (rowL F ((i + 1) * j * oo)))) := by rw [e]; exact hW1
          go_wp2_with fail
          go_roundw
          case rel => exact ⟨i + 1, _, by omega, by go_num, hA1, hT1, hW3, hz1⟩
          case measure => simp [intOf]; omega
    · obtain rfl : i = a := by omega
      rw [HNN.out] at hW0
      clear s1 s2 s3
      obtain ⟨Av0, cv0, rfl, -, -, -⟩ := Kit.own_rd hW0.out
      obtain ⟨-, -, ⟨⟨z0, z1, z2, z3⟩, z4, z5, z6, z7⟩, ⟨s1, s2, s3⟩, hbw, hsz⟩ := hA0.out
      obtain ⟨o0, o1, o2, o3, -⟩ := hT0.out
      have HBW := Lib.hid hbw
      clear hbw
      go_wp2_with fail
      refine bodyPost_ret (Kit.results_ct rfl _ _ (w.heap.size + 2) 0 [.int .i64 (i : Int), .int .i64 (b : Int), .int .i64 O, .slice Av0 N cv0] _ rfl (range_4 (by go_cell) (by go_cell) (by go_cell) (by go_cell)) Try.underlying36 rfl (by kernel_rfl)) rfl ?_
      refine ⟨_, rfl, Kit.own_base (own_set4 hW0.out ?_) ?_, ?_⟩
      any_goals (first | omega | (simp; done) | (simp; omega))
      exact (((HBW.out.setCell (p := ⟨w.heap.size + 2, 0, none⟩) (by simp) _).setCell (p := ⟨w.heap.size + 2, 1, none⟩) (by simp) _).setCell (p := ⟨w.heap.size + 2, 2, none⟩) (by simp) _).setCell (p := ⟨w.heap.size + 2, 3, none⟩) (by simp) _
end Go.Proofs.Ytceejjliboiciaa.CConv
