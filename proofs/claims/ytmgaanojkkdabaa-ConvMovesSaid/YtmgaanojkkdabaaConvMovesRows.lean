/- ConvMoves: where a window's place lies within both, it makes of a tensor without its first rows, as many as a step, what it made of the whole one row farther on; the call returns true and leaves its arguments as they were. No condition. -/
import Derived.Test.YtmgaanojkkdabaaConvBoth
import Derived.Test.YtmgaanojkkdabaaConvMovesLem
import Derived.Test.YtmgaanojkkdabaaOpenNode
namespace Go.Proofs.Ytmgaanojkkdabaa.lawConvMoves
open Go Go.ChangeShapes Go.WideShapes Go.ChangeAt Go.RowKit
open Plain CSat CShape CTensor CConv
set_option linter.unusedVariables false

set_option maxRecDepth 100000 in
set_option maxHeartbeats 8000000 in
theorem walk_rows {w : World} (H W C : Int) (A : Option Addr) (zs : List Int) (n c : Nat) (hn : zs.length = n) (hnc : n ≤ c) (ht : tensB H W C n = true) (hz : I8b zs) (x0 x1 x2 x8 x11 x12 x13 x14 x15 x16 x17 x18 : Value) (K S P O Z : Int) (WA BA : Option Addr) (nW cW nB cB : Nat) (ws : List Int) (hws : ws.length = nW) (hwc : nW ≤ cW) (hwb : I8b ws) (bs : List Int) (hbs : bs.length = nB) (hb32 : ∀ q, -2147483648 ≤ bs.getD q 0 ∧ bs.getD q 0 ≤ 2147483647)
    (he : convE H W C K S P O nW nB = 0) (a b oo d kk N sn : Nat) (ha : stepsM H K S P = (a : Int)) (hb : stepsM W K S P = (b : Int)) (hO : O = (oo : Int)) (hd : C = (d : Int)) (hk : K = (kk : Int)) (hN : a * b * oo = N) (hsn : S * W * C = (sn : Int)) (F1 : Nat → Int) (hF1 : F1 = gridF b oo (sumF zs ws bs H W C S P d kk Z))
    (m1 : Nat) (ys : List Int) (a1 : Nat) (Y1 U1 : Int) (hyl : ys.length = m1) (hOL : ∀ (w : World) (A4 : Option Addr) (c4 : Nat), Kit.Rd w w.heap.size A4 (I8s (zs.drop sn)) → Kit.Rd w w.heap.size WA (I8s ws) → Kit.Rd w w.heap.size BA (I32v bs) → Calls Try.prog 7 #[.agg #[.int .i64 (H - S), .int .i64 W, .int .i64 C, .slice A4 (n - sn) c4], .agg #[x0, x1, x2, .int .i64 K, .int .i64 S, .int .i64 P, .int .i64 O, .int .i8 Z, x8, .slice WA nW cW, .slice BA nB cB, x11, x12, x13, x14, x15, x16, x17, x18]] w (MadeA w (a1 : Int) Y1 U1 m1 ys (.int .i64 0))) (haa : a = a1 + 1) (hm1 : m1 = a1 * (b * oo)) (hrows : ∀ h i : Nat, h < a1 → i < b * oo → P ≤ (h : Int) * S → ys.getD (h * (b * oo) + i) 0 = (rowL F1 N).getD ((h + 1) * (b * oo) + i) 0) (hSH : S < H) (z1 : -128 ≤ Z) (z2 : Z ≤ 127) (hf1 : n ≤ 1024) (hf2 : nW ≤ 2000) (hf3 : nB ≤ 200) (hr : Kit.Rd w w.heap.size A (I8s zs)) (hrw : Kit.Rd w w.heap.size WA (I8s ws)) (hrb : Kit.Rd w w.heap.size BA (I32v bs)) :
    Calls Try.prog 4 #[.agg #[.int .i64 H, .int .i64 W, .int .i64 C, .slice A n c], .agg #[x0, x1, x2, .int .i64 K, .int .i64 S, .int .i64 P, .int .i64 O, .int .i8 Z, x8, .slice WA nW cW, .slice BA nB cB, x11, x12, x13, x14, x15, x16, x17, x18]] w fun e w' => e = .returned (.bool true) ∧ Below w.heap.size w w' := by
  obtain ⟨hsl, hnW, hn16, hnB⟩ := convE_ok he
  obtain ⟨hs0, har1, har2, -, -, hsr⟩ := slide_ok hsl
  obtain ⟨q1, q2, q3, q4, q5, q6, q7⟩ := shapeB_yes hsr
  obtain ⟨g1, g2, g3, g4, c1, c2, g7⟩ := shapeB_yes hs0
  obtain ⟨-, -, k1, k2, st1, st2, pd1, pd2, -⟩ := argsB_yes har1
  have hN2 : (N : Int) ≤ 1024 := by
    have : (N : Int) = stepsM H K S P * stepsM W K S P * O := by rw [ha, hb, hO, ← hN]; simp
    omega
  rw [ha] at q1 q2
  rw [hb] at q3 q4
  obtain ⟨htu, hsnn⟩ := tens_drop ht st1 hSH hsn
  have HA1 : Hid (∀ (w : World), Kit.Rd w w.heap.size A (I8s zs) → Kit.Rd w w.heap.size WA (I8s ws) → Kit.Rd w w.heap.size BA (I32v bs) → Calls Try.prog 7 #[.agg #[.int .i64 H, .int .i64 W, .int .i64 C, .slice A n c], .agg #[x0, x1, x2, .int .i64 K, .int .i64 S, .int .i64 P, .int .i64 O, .int .i8 Z, x8, .slice WA nW cW, .slice BA nB cB, x11, x12, x13, x14, x15, x16, x17, x18]] w (MadeA w (a : Int) (b : Int) O N (rowL F1 N) (.int .i64 0))) := Lib.hid (fun w hr hrw hrb => by
    rw [hF1]; exact of_yes H W C A zs n c hn ht hz x0 x1 x2 x8 x11 x12 x13 x14 x15 x16 x17 x18 K S P O Z WA BA nW cW nB cB ws hws hwc hwb bs hbs he a b oo d kk ha hb hO hd hk N hN z1 z2 w hr hrw hrb)
  have HA2 : Hid (∀ (w : World), Kit.Rd w w.heap.size A (I8s zs) → Kit.Rd w w.heap.size WA (I8s ws) → Kit.Rd w w.heap.size BA (I32v bs) → Calls Try.prog 8 #[.agg #[.int .i64 H, .int .i64 W, .int .i64 C, .slice A n c], .agg #[x0, x1, x2, .int .i64 K, .int .i64 S, .int .i64 P, .int .i64 O, .int .i8 Z, x8, .slice WA nW cW, .slice BA nB cB, x11, x12, x13, x14, x15, x16, x17, x18]] w (MadeA w (a : Int) (b : Int) O N (rowL F1 N) (.int .i64 0))) := Lib.hid (fun w hr hrw hrb => by
    rw [hF1]; exact refOf_yes H W C A zs n c hn ht hz x0 x1 x2 x8 x11 x12 x13 x14 x15 x16 x17 x18 K S P O Z WA BA nW cW nB cB ws hws hwc hwb bs hbs hb32 he a b oo d kk ha hb hO hd hk N hN z1 z2 w hr hrw hrb)
  obtain ⟨bz, oz, rfl, hbz, -⟩ := hr.plain (by simp [I8s]; omega)
  have HR := Lib.hid hr
  have HRW := Lib.hid hrw
  have HRB := Lib.hid hrb
  have hHS : ¬ H ≤ S := by omega
  have w0 : IntKind.i64.wrap (H - S) = H - S := IntWalk.i64_in _ (by omega)
  have HALL := Lib.hid (And.intro hn (And.intro ht (And.intro hz (And.intro hws (And.intro hwb (And.intro hbs (And.intro hb32 (And.intro he (And.intro ha (And.intro hb (And.intro hO (And.intro hd (And.intro hk (And.intro hN (And.intro hsn (And.intro htu hF1))))))))))))))))
  obtain ⟨sw, hsw⟩ : ∃ sw, S * W = sw := ⟨_, rfl⟩
  have hsw0 : 0 ≤ sw ∧ sw ≤ 64 := by
    rw [← hsw]
    exact ⟨Int.mul_nonneg (by omega) (by omega), Int.le_trans (Int.mul_le_mul st2 g4 (by omega) (by omega)) (by omega)⟩
  obtain ⟨sw1, sw2⟩ := hsw0
  have w1' : IntKind.i64.wrap sw = sw := IntWalk.i64_in _ (by omega)
  have hswc : sw * C = (sn : Int) := by rw [← hsw]; exact hsn
  have w2' : IntKind.i64.wrap (sn : Int) = (sn : Int) := IntWalk.i64_in _ (by omega)
  have y1 : (sn : Int) ≤ (n : Int) := by omega
  have y2 : (sn : Int) ≤ (c : Int) := by omega
  have y3 : ¬ c = sn := by omega
  have y4 : ¬ sn = c := by omega
  have y5 : (0 : Int) ≤ (sn : Int) := by omega
  have HOL := Lib.hid hOL
  have HAA := Lib.hid haa
  have HM1 := Lib.hid hm1
  have HRO := Lib.hid hrows
  have HYL := Lib.hid hyl
  obtain ⟨L, hL⟩ : ∃ L, b * oo = L := ⟨_, rfl⟩
  have hLI : (b : Int) * O = (L : Int) := by rw [hO, ← hL]; simp
  have HLL := Lib.hid hL
  have HNL : Hid (N = (a1 + 1) * L) := Lib.hid (by rw [← hN, haa, Nat.mul_assoc, hL])
  have hLN : L ≤ 1024 := by
    have h1 := HNL.out
    have h2 := Nat.le_mul_of_pos_left L (show 0 < a1 + 1 by omega)
    omega
  have hLw : IntKind.i64.wrap (L : Int) = (L : Int) := IntWalk.i64_in _ (by omega)
  have ha15 : a1 ≤ 15 := by omega
  clear hOL haa hm1 hrows hyl hL
  clear hn ht hz hws hwb hbs hb32 he ha hb hO hd hk hN htu hF1 hr hrw hrb hsl hs0 har1 har2 hsr g7 q7 hnW hnB
  have TN0 : Hid (NodeAt (w.heap.size + 1) x0 x1 x2 x8 x11 x12 x13 x14 x15 x16 x17 x18 K S P O Z WA BA nW cW nB cB ((w.alloc (.cells #[.int .i64 H, .int .i64 W, .int .i64 C, .slice (some ⟨bz, oz, none⟩) n c] 26)).alloc (.cells #[x0, x1, x2, .int .i64 K, .int .i64 S, .int .i64 P, .int .i64 O, .int .i8 Z, x8, .slice WA nW cW, .slice BA nB cB, x11, x12, x13, x14, x15, x16, x17, x18] 32))) := by
    have h := NodeAt.new x0 x1 x2 x8 x11 x12 x13 x14 x15 x16 x17 x18 K S P O Z WA BA nW cW nB cB 32 (w.alloc (.cells #[.int .i64 H, .int .i64 W, .int .i64 C, .slice (some ⟨bz, oz, none⟩) n c] 26))
    rw [World.size_alloc] at h
    exact Lib.hid h
  go_enter Try.func4, Try.ntmps4
  go_wp2_with (first
    | (go_at_call 5
       have hal : Below w.heap.size w ((w.alloc (.cells #[.int .i64 H, .int .i64 W, .int .i64 C, .slice (some ⟨bz, oz, none⟩) n c] 26)).alloc (.cells #[x0, x1, x2, .int .i64 K, .int .i64 S, .int .i64 P, .int .i64 O, .int .i8 Z, x8, .slice WA nW cW, .slice BA nB cB, x11, x12, x13, x14, x15, x16, x17, x18] 32)) := ((Below.refl _ _).alloc (by first | exact Nat.le_refl _ | (simp; done) | (simp; omega)) _).alloc (by first | exact Nat.le_refl _ | (simp; done) | (simp; omega)) _
       refine (few_yes H W C (some ⟨bz, oz, none⟩) n c x0 x1 x2 x8 x11 x12 x13 x14 x15 x16 x17 x18 K S P O Z WA BA nW cW nB cB hf1 hf2 hf3 _).mono ?_
       rintro e w1 ⟨rfl, hb⟩
       have hh : Below w.heap.size w w1 := hal.trans (hb.mono hal.size)
       have qTB := (boxNew H W C (some ⟨bz, oz, none⟩) n c 26) w
       try simp only [World.size_alloc] at qTB
       have TB := Lib.hid ((qTB.below (B' := w.heap.size + 1) (by omega) (((Below.refl _ _).alloc (by first | exact Nat.le_refl _ | (simp; done) | (simp; omega)) _).mono (by simp))).below (by first | (simp; done) | (simp; omega)) hb)
       have yTB : w.heap.size < w1.heap.size := by have := hb.size; simp at this; omega
       clear qTB
       have qTN := (NodeAt.new x0 x1 x2 x8 x11 x12 x13 x14 x15 x16 x17 x18 K S P O Z WA BA nW cW nB cB 32) (w.alloc (.cells #[.int .i64 H, .int .i64 W, .int .i64 C, .slice (some ⟨bz, oz, none⟩) n c] 26))
       try simp only [World.size_alloc] at qTN
       have TN := Lib.hid (qTN.below (by first | (simp; done) | (simp; omega)) hb)
       have yTN : w.heap.size + 1 < w1.heap.size := by have := hb.size; simp at this; omega
       clear qTN
       replace HR := Lib.hid ((HR.out.below hh).more hh.size)
       replace HRW := Lib.hid ((HRW.out.below hh).more hh.size)
       replace HRB := Lib.hid ((HRB.out.below hh).more hh.size)
       have HBW : Hid (Below w.heap.size w w1) := Lib.hid hh
       obtain ⟨tbp0, tbp1, tbp2, tbp3⟩ := TB.out
       have n4 := TN.out.at 4 _ rfl
       clear hb hh hal)
    | (go_at_call 7
       have hal : Below w1.heap.size w1 w1 := Below.refl _ _
       refine (HA1.out _ ((HR.out.below hal).more hal.size) ((HRW.out.below hal).more hal.size) ((HRB.out.below hal).more hal.size)).mono ?_
       rintro e w2 ⟨v2, rfl, ho2, hb⟩
       have hh : Below w1.heap.size w1 w2 := hal.trans (hb.mono hal.size)
       replace TB := Lib.hid (TB.out.below yTB hh)
       replace yTB := Nat.lt_of_lt_of_le yTB hh.size
       replace TN := Lib.hid (TN.out.below yTN hh)
       replace yTN := Nat.lt_of_lt_of_le yTN hh.size
       replace HR := Lib.hid ((HR.out.below hh).more hh.size)
       replace HRW := Lib.hid ((HRW.out.below hh).more hh.size)
       replace HRB := Lib.hid ((HRB.out.below hh).more hh.size)
       replace HBW := Lib.hid (HBW.out.trans (hh.mono HBW.out.size))
       clear tbp0 tbp1 tbp2 tbp3 n4
       obtain ⟨A2, c2, rfl, -, -, hrd2⟩ := Kit.own_rd ho2
       have RA2 := Lib.hid hrd2
       clear ho2 hrd2
       obtain ⟨tbp0, tbp1, tbp2, tbp3⟩ := TB.out
       have n4 := TN.out.at 4 _ rfl
       clear hb hh hal)
    | (go_at_call 8
       have hal : Below w2.heap.size w2 (w2.alloc (.cells #[.int .i64 (a : Int), .int .i64 (b : Int), .int .i64 O, .slice A2 N c2] 36)) := (Below.refl _ _).alloc (by first | exact Nat.le_refl _ | (simp; done) | (simp; omega)) _
       refine (HA2.out _ ((HR.out.below hal).more hal.size) ((HRW.out.below hal).more hal.size) ((HRB.out.below hal).more hal.size)).mono ?_
       rintro e w3 ⟨v3, rfl, ho3, hb⟩
       have hh : Below w2.heap.size w2 w3 := hal.trans (hb.mono hal.size)
       have qTA2 := (boxNew (a : Int) (b : Int) O A2 N c2 36) w2
       try simp only [World.size_alloc] at qTA2
       have TA2 := Lib.hid (qTA2.below (by first | (simp; done) | (simp; omega)) hb)
       have yTA2 : w2.heap.size < w3.heap.size := by have := hb.size; simp at this; omega
       clear qTA2
       replace TB := Lib.hid (TB.out.below yTB hh)
       replace yTB := Nat.lt_of_lt_of_le yTB hh.size
       replace TN := Lib.hid (TN.out.below yTN hh)
       replace yTN := Nat.lt_of_lt_of_le yTN hh.size
       replace HR := Lib.hid ((HR.out.below hh).more hh.size)
       replace HRW := Lib.hid ((HRW.out.below hh).more hh.size)
       replace HRB := Lib.hid ((HRB.out.below hh).more hh.size)
       replace RA2 := Lib.hid ((RA2.out.below hh).more hh.size)
       replace HBW := Lib.hid (HBW.out.trans (hh.mono HBW.out.size))
       clear tbp0 tbp1 tbp2 tbp3 n4
       obtain ⟨A3, c3, rfl, -, -, hrd3⟩ := Kit.own_rd ho3
       have RA3 := Lib.hid hrd3
       clear ho3 hrd3
       obtain ⟨tbp0, tbp1, tbp2, tbp3⟩ := TB.out
       have n4 := TN.out.at 4 _ rfl
       obtain ⟨ta2p0, ta2p1, ta2p2, ta2p3⟩ := TA2.out
       clear hb hh hal)
    | (refine wpList_load_mid rfl 32 (.tmp 3) rfl (w.heap.size + 1) 0 rfl [x0, x1, x2, .int .i64 K, .int .i64 S, .int .i64 P, .int .i64 O, .int .i8 Z, x8, .slice WA nW cW, .slice BA nB cB, x11, x12, x13, x14, x15, x16, x17, x18] _ (TN0.out) Try.underlying32 rfl (by kernel_rfl) ?_)
    | (refine wpList_load_mid rfl 32 (.tmp 3) rfl (w.heap.size + 1) 0 rfl [x0, x1, x2, .int .i64 K, .int .i64 S, .int .i64 P, .int .i64 O, .int .i8 Z, x8, .slice WA nW cW, .slice BA nB cB, x11, x12, x13, x14, x15, x16, x17, x18] _ (TN.out) Try.underlying32 rfl (by kernel_rfl) ?_)
    | (refine wpList_load_mid rfl 32 (.tmp 3) rfl (w.heap.size + 1) 0 rfl [x0, x1, x2, .int .i64 K, .int .i64 S, .int .i64 P, .int .i64 O, .int .i8 Z, x8, .slice WA nW cW, .slice BA nB cB, x11, x12, x13, x14, x15, x16, x17, x18] _ (TN.out.below yTN ((Below.refl _ _).alloc (Nat.le_refl _) _)) Try.underlying32 rfl (by kernel_rfl) ?_))
  have hal : Below w3.heap.size w3 ((w3.alloc (.cells #[.int .i64 (a : Int), .int .i64 (b : Int), .int .i64 O, .slice A3 N c3] 36)).alloc (.cells #[.int .i64 H, .int .i64 W, .int .i64 C] 23)).drew := (((Below.refl _ _).alloc (Nat.le_refl _) _).alloc (by simp) _).drew
  have hsh := shapeNew H W C 23 (w3.alloc (.cells #[.int .i64 (a : Int), .int .i64 (b : Int), .int .i64 O, .slice A3 N c3] 36))
  rw [World.size_alloc] at hsh
  replace TB := Lib.hid (TB.out.below yTB hal)
  replace TN := Lib.hid (TN.out.below yTN hal)
  replace TA2 := Lib.hid (TA2.out.below yTA2 hal)
  replace HR := Lib.hid ((HR.out.below hal).more hal.size)
  replace HRW := Lib.hid ((HRW.out.below hal).more hal.size)
  replace HRB := Lib.hid ((HRB.out.below hal).more hal.size)
  replace RA2 := Lib.hid ((RA2.out.below hal).more hal.size)
  replace HBW := Lib.hid (HBW.out.trans (hal.mono HBW.out.size))
  replace yTB := Nat.lt_of_lt_of_le yTB hal.size
  replace yTN := Nat.lt_of_lt_of_le yTN hal.size
  replace yTA2 := Nat.lt_of_lt_of_le yTA2 hal.size
  have yg : w3.heap.size + 1 < ((w3.alloc (.cells #[.int .i64 (a : Int), .int .i64 (b : Int), .int .i64 O, .slice A3 N c3] 36)).alloc (.cells #[.int .i64 H, .int .i64 W, .int .i64 C] 23)).drew.heap.size := by simp
  have hS0 : ShapeAt (w3.heap.size + 1) H W C ((w3.alloc (.cells #[.int .i64 (a : Int), .int .i64 (b : Int), .int .i64 O, .slice A3 N c3] 36)).alloc (.cells #[.int .i64 H, .int .i64 W, .int .i64 C] 23)).drew := hsh
  clear hal hsh n4 tbp0 tbp1 tbp2 tbp3 ta2p0 ta2p1 ta2p2 ta2p3 RA3
  refine wp_region_held_drew (S := fun w' => ShapeAt (w3.heap.size + 1) H W C w' ∧ BoxAt w.heap.size H W C (some ⟨bz, oz, none⟩) n c w' ∧ NodeAt (w.heap.size + 1) x0 x1 x2 x8 x11 x12 x13 x14 x15 x16 x17 x18 K S P O Z WA BA nW cW nB cB w') (by kernel_rfl) ⟨hS0, TB.out, TN.out⟩ (fun hHeld => ?_)
  clear hS0
  generalize ((w3.alloc (.cells #[.int .i64 (a : Int), .int .i64 (b : Int), .int .i64 O, .slice A3 N c3] 36)).alloc (.cells #[.int .i64 H, .int .i64 W, .int .i64 C] 23)).drew = Wa at TB TN TA2 HR HRW HRB RA2 HBW yTB yTN yTA2 yg hHeld ⊢
  obtain ⟨i8, hi0, hi1, hi2, hi3⟩ := info_parts32 info_i8
  refine wpAnyH_take (i := 0) (oi := ({ dst := some 51, op := Op.fieldAddr 23 (Operand.tmp 9) 0, type := 0, pos := "law.go:69", after := #[], guard := none } : Oper)) (v := ?_) rfl (by kernel_rfl) (by kernel_rfl) (by kernel_rfl) (fun _ _ _ h => h) (Or.inl ⟨by rfl, ?_⟩) (by assumption) ?_
  rotate_left
  · intro wS hSw
    first
      | (go_simp; done)
      | (go_simp; with_reducible rfl)
  try simp only [Act.put, List.setIfInBounds_toArray, List.set_cons_zero, List.set_cons_succ]
  refine wpAnyH_take (i := 1) (oi := ({ dst := some 52, op := Op.load 3 (Operand.tmp 51), type := 3, pos := "law.go:69", after := #[{ on := 0, ground := Ground.data }], guard := none } : Oper)) (v := ?_) rfl (by kernel_rfl) (by kernel_rfl) (by kernel_rfl) (fun _ _ _ h => h) (Or.inl ⟨by rfl, ?_⟩) (by assumption) ?_
  rotate_left
  · intro wS hSw
    obtain ⟨hq1, hq2, hq3⟩ := hSw
    obtain ⟨s1, s2, s3⟩ := hq1; clear hq2 hq3
    first
      | (go_simp; done)
      | (go_simp; with_reducible rfl)
  try simp only [Act.put, List.setIfInBounds_toArray, List.set_cons_zero, List.set_cons_succ]
  refine wpAnyH_take (i := 2) (oi := ({ dst := some 53, op := Op.fieldAddr 32 (Operand.tmp 3) 4, type := 0, pos := "law.go:69", after := #[], guard := none } : Oper)) (v := ?_) rfl (by kernel_rfl) (by kernel_rfl) (by kernel_rfl) (fun _ _ _ h => h) (Or.inl ⟨by rfl, ?_⟩) (by assumption) ?_
  rotate_left
  · intro wS hSw
    first
      | (go_simp; done)
      | (go_simp; with_reducible rfl)
  try simp only [Act.put, List.setIfInBounds_toArray, List.set_cons_zero, List.set_cons_succ]
  refine wpAnyH_take (i := 3) (oi := ({ dst := some 54, op := Op.load 3 (Operand.tmp 53), type := 3, pos := "law.go:69", after := #[{ on := 2, ground := Ground.data }], guard := none } : Oper)) (v := ?_) rfl (by kernel_rfl) (by kernel_rfl) (by kernel_rfl) (fun _ _ _ h => h) (Or.inl ⟨by rfl, ?_⟩) (by assumption) ?_
  rotate_left
  · intro wS hSw
    obtain ⟨hq1, hq2, hq3⟩ := hSw
    have hn9 := hq3.at 4 _ rfl; clear hq1 hq2 hq3
    first
      | (go_simp; done)
      | (go_simp; with_reducible rfl)
  try simp only [Act.put, List.setIfInBounds_toArray, List.set_cons_zero, List.set_cons_succ]
  refine wpAnyH_take (i := 4) (oi := ({ dst := some 55, op := Op.binOp BinOp.sub 3 (Operand.tmp 52) (Operand.tmp 54) 3, type := 3, pos := "law.go:69", after := #[{ on := 1, ground := Ground.data }, { on := 3, ground := Ground.data }], guard := none } : Oper)) (v := ?_) rfl (by kernel_rfl) (by kernel_rfl) (by kernel_rfl) (fun _ _ _ h => h) (Or.inl ⟨by rfl, ?_⟩) (by assumption) ?_
  rotate_left
  · intro wS hSw
    first
      | (go_simp; done)
      | (go_simp; with_reducible rfl)
  try simp only [Act.put, List.setIfInBounds_toArray, List.set_cons_zero, List.set_cons_succ]
  refine wpAnyH_take (i := 5) (oi := ({ dst := some 56, op := Op.fieldAddr 23 (Operand.tmp 9) 1, type := 0, pos := "law.go:69", after := #[], guard := none } : Oper)) (v := ?_) rfl (by kernel_rfl) (by kernel_rfl) (by kernel_rfl) (fun _ _ _ h => h) (Or.inl ⟨by rfl, ?_⟩) (by assumption) ?_
  rotate_left
  · intro wS hSw
    first
      | (go_simp; done)
      | (go_simp; with_reducible rfl)
  try simp only [Act.put, List.setIfInBounds_toArray, List.set_cons_zero, List.set_cons_succ]
  refine wpAnyH_take (i := 6) (oi := ({ dst := some 57, op := Op.load 3 (Operand.tmp 56), type := 3, pos := "law.go:69", after := #[{ on := 5, ground := Ground.data }], guard := none } : Oper)) (v := ?_) rfl (by kernel_rfl) (by kernel_rfl) (by kernel_rfl) (fun _ _ _ h => h) (Or.inl ⟨by rfl, ?_⟩) (by assumption) ?_
  rotate_left
  · intro wS hSw
    obtain ⟨hq1, hq2, hq3⟩ := hSw
    obtain ⟨s1, s2, s3⟩ := hq1; clear hq2 hq3
    first
      | (go_simp; done)
      | (go_simp; with_reducible rfl)
  try simp only [Act.put, List.setIfInBounds_toArray, List.set_cons_zero, List.set_cons_succ]
  refine wpAnyH_take (i := 7) (oi := ({ dst := some 58, op := Op.fieldAddr 23 (Operand.tmp 9) 2, type := 0, pos := "law.go:69", after := #[], guard := none } : Oper)) (v := ?_) rfl (by kernel_rfl) (by kernel_rfl) (by kernel_rfl) (fun _ _ _ h => h) (Or.inl ⟨by rfl, ?_⟩) (by assumption) ?_
  rotate_left
  · intro wS hSw
    first
      | (go_simp; done)
      | (go_simp; with_reducible rfl)
  try simp only [Act.put, List.setIfInBounds_toArray, List.set_cons_zero, List.set_cons_succ]
  refine wpAnyH_take (i := 8) (oi := ({ dst := some 59, op := Op.load 3 (Operand.tmp 58), type := 3, pos := "law.go:69", after := #[{ on := 7, ground := Ground.data }], guard := none } : Oper)) (v := ?_) rfl (by kernel_rfl) (by kernel_rfl) (by kernel_rfl) (fun _ _ _ h => h) (Or.inl ⟨by rfl, ?_⟩) (by assumption) ?_
  rotate_left
  · intro wS hSw
    obtain ⟨hq1, hq2, hq3⟩ := hSw
    obtain ⟨s1, s2, s3⟩ := hq1; clear hq2 hq3
    first
      | (go_simp; done)
      | (go_simp; with_reducible rfl)
  try simp only [Act.put, List.setIfInBounds_toArray, List.set_cons_zero, List.set_cons_succ]
  refine wpAnyH_take (i := 9) (oi := ({ dst := some 60, op := Op.build 23 #[(0, Operand.tmp 55), (1, Operand.tmp 57), (2, Operand.tmp 59)], type := 23, pos := "law.go:69", after := #[{ on := 4, ground := Ground.data }, { on := 6, ground := Ground.data }, { on := 8, ground := Ground.data }], guard := none } : Oper)) (v := ?_) rfl (by kernel_rfl) (by kernel_rfl) (by kernel_rfl) (fun _ _ _ h => h) (Or.inl ⟨by rfl, ?_⟩) (by assumption) ?_
  rotate_left
  · intro wS hSw
    first
      | (go_simp; done)
      | (go_simp; with_reducible rfl)
  try simp only [Act.put, List.setIfInBounds_toArray, List.set_cons_zero, List.set_cons_succ]
  refine wpAnyH_take (i := 11) (oi := ({ dst := some 62, op := Op.fieldAddr 26 (Operand.tmp 2) 1, type := 0, pos := "law.go:69", after := #[], guard := none } : Oper)) (v := ?_) rfl (by kernel_rfl) (by kernel_rfl) (by kernel_rfl) (fun _ _ _ h => h) (Or.inl ⟨by rfl, ?_⟩) (by assumption) ?_
  rotate_left
  · intro wS hSw
    first
      | (go_simp; done)
      | (go_simp; with_reducible rfl)
  try simp only [Act.put, List.setIfInBounds_toArray, List.set_cons_zero, List.set_cons_succ]
  refine wpAnyH_take (i := 12) (oi := ({ dst := some 63, op := Op.load 24 (Operand.tmp 62), type := 24, pos := "law.go:69", after := #[{ on := 11, ground := Ground.data }], guard := none } : Oper)) (v := ?_) rfl (by kernel_rfl) (by kernel_rfl) (by kernel_rfl) (fun _ _ _ h => h) (Or.inl ⟨by rfl, ?_⟩) (by assumption) ?_
  rotate_left
  · intro wS hSw
    obtain ⟨hq1, hq2, hq3⟩ := hSw
    obtain ⟨s1, s2, s3, s4⟩ := hq2; clear hq1 hq3
    first
      | (go_simp; done)
      | (go_simp; with_reducible rfl)
  try simp only [Act.put, List.setIfInBounds_toArray, List.set_cons_zero, List.set_cons_succ]
  refine wpAnyH_take (i := 13) (oi := ({ dst := some 64, op := Op.fieldAddr 32 (Operand.tmp 3) 4, type := 0, pos := "law.go:69", after := #[], guard := none } : Oper)) (v := ?_) rfl (by kernel_rfl) (by kernel_rfl) (by kernel_rfl) (fun _ _ _ h => h) (Or.inl ⟨by rfl, ?_⟩) (by assumption) ?_
  rotate_left
  · intro wS hSw
    first
      | (go_simp; done)
      | (go_simp; with_reducible rfl)
  try simp only [Act.put, List.setIfInBounds_toArray, List.set_cons_zero, List.set_cons_succ]
  refine wpAnyH_take (i := 14) (oi := ({ dst := some 65, op := Op.load 3 (Operand.tmp 64), type := 3, pos := "law.go:69", after := #[{ on := 13, ground := Ground.data }], guard := none } : Oper)) (v := ?_) rfl (by kernel_rfl) (by kernel_rfl) (by kernel_rfl) (fun _ _ _ h => h) (Or.inl ⟨by rfl, ?_⟩) (by assumption) ?_
  rotate_left
  · intro wS hSw
    obtain ⟨hq1, hq2, hq3⟩ := hSw
    have hn9 := hq3.at 4 _ rfl; clear hq1 hq2 hq3
    first
      | (go_simp; done)
      | (go_simp; with_reducible rfl)
  try simp only [Act.put, List.setIfInBounds_toArray, List.set_cons_zero, List.set_cons_succ]
  refine wpAnyH_take (i := 15) (oi := ({ dst := some 66, op := Op.fieldAddr 23 (Operand.tmp 9) 1, type := 0, pos := "law.go:69", after := #[], guard := none } : Oper)) (v := ?_) rfl (by kernel_rfl) (by kernel_rfl) (by kernel_rfl) (fun _ _ _ h => h) (Or.inl ⟨by rfl, ?_⟩) (by assumption) ?_
  rotate_left
  · intro wS hSw
    first
      | (go_simp; done)
      | (go_simp; with_reducible rfl)
  try simp only [Act.put, List.setIfInBounds_toArray, List.set_cons_zero, List.set_cons_succ]
  refine wpAnyH_take (i := 16) (oi := ({ dst := some 67, op := Op.load 3 (Operand.tmp 66), type := 3, pos := "law.go:69", after := #[{ on := 15, ground := Ground.data }], guard := none } : Oper)) (v := ?_) rfl (by kernel_rfl) (by kernel_rfl) (by kernel_rfl) (fun _ _ _ h => h) (Or.inl ⟨by rfl, ?_⟩) (by assumption) ?_
  rotate_left
  · intro wS hSw
    obtain ⟨hq1, hq2, hq3⟩ := hSw
    obtain ⟨s1, s2, s3⟩ := hq1; clear hq2 hq3
    first
      | (go_simp; done)
      | (go_simp; with_reducible rfl)
  try simp only [Act.put, List.setIfInBounds_toArray, List.set_cons_zero, List.set_cons_succ]
  refine wpAnyH_take (i := 17) (oi := ({ dst := some 68, op := Op.binOp BinOp.mul 3 (Operand.tmp 65) (Operand.tmp 67) 3, type := 3, pos := "law.go:69", after := #[{ on := 14, ground := Ground.data }, { on := 16, ground := Ground.data }], guard := none } : Oper)) (v := ?_) rfl (by kernel_rfl) (by kernel_rfl) (by kernel_rfl) (fun _ _ _ h => h) (Or.inl ⟨by rfl, ?_⟩) (by assumption) ?_
  rotate_left
  · intro wS hSw
    first
      | (go_simp; done)
      | (go_simp; with_reducible rfl)
  try simp only [Act.put, List.setIfInBounds_toArray, List.set_cons_zero, List.set_cons_succ]
  refine wpAnyH_take (i := 18) (oi := ({ dst := some 69, op := Op.fieldAddr 23 (Operand.tmp 9) 2, type := 0, pos := "law.go:69", after := #[], guard := none } : Oper)) (v := ?_) rfl (by kernel_rfl) (by kernel_rfl) (by kernel_rfl) (fun _ _ _ h => h) (Or.inl ⟨by rfl, ?_⟩) (by assumption) ?_
  rotate_left
  · intro wS hSw
    first
      | (go_simp; done)
      | (go_simp; with_reducible rfl)
  try simp only [Act.put, List.setIfInBounds_toArray, List.set_cons_zero, List.set_cons_succ]
  refine wpAnyH_take (i := 19) (oi := ({ dst := some 70, op := Op.load 3 (Operand.tmp 69), type := 3, pos := "law.go:69", after := #[{ on := 18, ground := Ground.data }], guard := none } : Oper)) (v := ?_) rfl (by kernel_rfl) (by kernel_rfl) (by kernel_rfl) (fun _ _ _ h => h) (Or.inl ⟨by rfl, ?_⟩) (by assumption) ?_
  rotate_left
  · intro wS hSw
    obtain ⟨hq1, hq2, hq3⟩ := hSw
    obtain ⟨s1, s2, s3⟩ := hq1; clear hq2 hq3
    first
      | (go_simp; done)
      | (go_simp; with_reducible rfl)
  try simp only [Act.put, List.setIfInBounds_toArray, List.set_cons_zero, List.set_cons_succ]
  refine wpAnyH_take (i := 20) (oi := ({ dst := some 71, op := Op.binOp BinOp.mul 3 (Operand.tmp 68) (Operand.tmp 70) 3, type := 3, pos := "law.go:69", after := #[{ on := 17, ground := Ground.data }, { on := 19, ground := Ground.data }], guard := none } : Oper)) (v := ?_) rfl (by kernel_rfl) (by kernel_rfl) (by kernel_rfl) (fun _ _ _ h => h) (Or.inl ⟨by rfl, ?_⟩) (by assumption) ?_
  rotate_left
  · intro wS hSw
    first
      | (go_simp; done)
      | (go_simp; with_reducible rfl)
  try simp only [Act.put, List.setIfInBounds_toArray, List.set_cons_zero, List.set_cons_succ]
  refine wpAnyH_take (i := 21) (oi := ({ dst := some 72, op := Op.slice 24 (Operand.tmp 63) (some (Operand.tmp 71)) none none, type := 24, pos := "law.go:69", after := #[{ on := 12, ground := Ground.data }, { on := 20, ground := Ground.data }], guard := none } : Oper)) (v := ?_) rfl (by kernel_rfl) (by kernel_rfl) (by kernel_rfl) (fun _ _ _ h => h) (Or.inl ⟨by rfl, ?_⟩) (by assumption) ?_
  rotate_left
  · intro wS hSw
    first
      | (go_simp; done)
      | (go_simp; with_reducible rfl)
  try simp only [Act.put, List.setIfInBounds_toArray, List.set_cons_zero, List.set_cons_succ]
  have HLN : Hid (zs.length = n) := Lib.hid HALL.out.1
  have HDR : Hid (Kit.Rd Wa Wa.heap.size (some ⟨bz, oz + sn, none⟩) (I8s (zs.drop sn))) := by
    have h9 := HR.out.drop sn
    rw [i8s_drop] at h9
    rw [Option.map_some, Go.WideShapes.add_plain] at h9
    exact Lib.hid h9
  have HBZ := Lib.hid (Below.refl Wa.heap.size Wa)
  obtain ⟨z0, hz0⟩ : ∃ z0, Wa.heap.size = z0 := ⟨_, rfl⟩
  rw [hz0] at HDR HBZ HR HRW HRB RA2 yTB yTN yTA2 yg
  have HZ0 := Lib.hid hz0
  clear hz0
  refine wpAnyH_ready (rs := [10, 24]) (by kernel_rfl) (by simp) ?_
  refine AllReadyH.cons (o := ({ dst := some 61, op := Op.buildSlice 24 0 #[], type := 24, pos := "law.go:69", after := #[], guard := none } : Oper)) rfl (fun Kq hK => ?_) ?_
  · have hbs : Below z0 Wa (Wa.alloc (.cells #[] 27)) := (Below.refl _ _).alloc (by have := HBZ.out.size; have := HZ0.out; omega) _
    have hS1 : ShapeAt (w3.heap.size + 1) H W C _ ∧ BoxAt w.heap.size H W C (some ⟨bz, oz, none⟩) n c _ ∧ NodeAt (w.heap.size + 1) x0 x1 x2 x8 x11 x12 x13 x14 x15 x16 x17 x18 K S P O Z WA BA nW cW nB cB _ := ⟨hHeld.1.below (B' := z0) yg hbs, hHeld.2.1.below (B' := z0) yTB hbs, hHeld.2.2.below (B' := z0) yTN hbs⟩
    go_simp
    refine hK.out _ _ ?_ (fun hHeld => ?_)
    · exact hS1
    clear hK Kq
    try simp only [Act.put, List.setIfInBounds_toArray, List.set_cons_zero, List.set_cons_succ]
    clear hS1
    have HO : Hid ((Wa.alloc (.cells #[] 27)).ownsRow z0 27 1 (.slice (some ⟨Wa.heap.size, 0, none⟩) 0 0) 0 []) := Lib.hid (World.ownsRow_made (e := 27) Wa #[] 0 (by have := HBZ.out.size; have := HZ0.out; omega) (by unfold maxLen; omega) (by simp))
    replace HBZ := Lib.hid (HBZ.out.trans hbs)
    have ysB : Wa.heap.size < (Wa.alloc (.cells #[] 27)).heap.size := by simp
    clear hbs
    generalize Wa.alloc (.cells #[] 27) = Wy0 at HO HBZ hHeld ysB  ⊢
    generalize Wa.heap.size = gB at HO ysB  ⊢
    refine wpAnyH_ready (rs := [22, 24]) (by kernel_rfl) (by simp) ?_
    refine AllReadyH.cons (o := ({ dst := some 73, op := Op.call { callee := Callee.builtin Builtin.append, args := #[Operand.tmp 61, Operand.tmp 72], argTypes := #[24, 24] }, type := 24, pos := "law.go:69", after := #[{ on := 10, ground := Ground.data }, { on := 21, ground := Ground.data }], guard := none } : Oper)) rfl (fun Kq hK => ?_) ?_
    · refine Kit.step_append_rd _ rfl (.tmp 61) (.tmp 72) _ rfl z0 27 i8 (.int .i8 0) 1 1 Try.underlying24 hi0 hi1 hi2 hi3 rfl (by decide) _ 0 [] rfl HO.out z0 (some ⟨bz, oz + sn, none⟩) (n - sn) (c - sn) (I8s (zs.drop sn)) rfl (by have := HLN.out; simp [I8s]; omega) (HDR.out.below HBZ.out) (Kit.ints_one .i8 _) (by unfold maxLen; omega) (by omega) (by have := HBZ.out.size; have := HZ0.out; omega) ?_
      intro v4 w4 hown4 hg4 hor4
      rw [Nat.zero_add, List.nil_append] at hown4
      have hbs : Below z0 Wy0 w4 := (Below.refl _ _).grown hg4 (by have := HBZ.out.size; have := HZ0.out; omega) (Kit.own_block_ge HO.out)
      have hS1 : ShapeAt (w3.heap.size + 1) H W C _ ∧ BoxAt w.heap.size H W C (some ⟨bz, oz, none⟩) n c _ ∧ NodeAt (w.heap.size + 1) x0 x1 x2 x8 x11 x12 x13 x14 x15 x16 x17 x18 K S P O Z WA BA nW cW nB cB _ := ⟨hHeld.1.below (B' := z0) yg hbs, hHeld.2.1.below (B' := z0) yTB hbs, hHeld.2.2.below (B' := z0) yTN hbs⟩
      have HO4 := Lib.hid hown4
      replace HBZ := Lib.hid (HBZ.out.trans hbs)
      clear hown4 hg4 hor4 hbs HO ysB
      obtain ⟨A4, c4, rfl, hc4, -, -⟩ := Kit.own_rd HO4.out
      dsimp only
      refine hK.out _ _ ?_ (fun hHeld => ?_)
      · exact hS1
      clear hK Kq
      try simp only [Act.put, List.setIfInBounds_toArray, List.set_cons_zero, List.set_cons_succ]
      clear hS1
      refine wpAnyH_take (i := 23) (oi := ({ dst := some 74, op := Op.build 26 #[(0, Operand.tmp 60), (1, Operand.tmp 73)], type := 26, pos := "law.go:69", after := #[{ on := 9, ground := Ground.data }, { on := 22, ground := Ground.data }], guard := none } : Oper)) (v := ?_) rfl (by kernel_rfl) (by kernel_rfl) (by kernel_rfl) (fun _ _ _ h => h) (Or.inl ⟨by rfl, ?_⟩) (by assumption) ?_
      rotate_left
      · intro wS hSw
        first
          | (go_simp; done)
          | (go_simp; with_reducible rfl)
      try simp only [Act.put, List.setIfInBounds_toArray, List.set_cons_zero, List.set_cons_succ]
      refine wpAnyH_ready (rs := [24]) (by kernel_rfl) (by simp) ?_
      refine AllReadyH.cons (o := ({ dst := some 10, op := Op.alloc 26, type := 0, pos := "law.go:69", after := #[], guard := none } : Oper)) rfl (fun Kq hK => ?_) (AllReadyH.nil)
      have hbs : Below z0 w4 (w4.alloc (.cells #[.int .i64 0, .int .i64 0, .int .i64 0, .slice none 0 0] 26)) := (Below.refl _ _).alloc (by have := HBZ.out.size; have := HZ0.out; omega) _
      have hS1 : ShapeAt (w3.heap.size + 1) H W C _ ∧ BoxAt w.heap.size H W C (some ⟨bz, oz, none⟩) n c _ ∧ NodeAt (w.heap.size + 1) x0 x1 x2 x8 x11 x12 x13 x14 x15 x16 x17 x18 K S P O Z WA BA nW cW nB cB _ := ⟨hHeld.1.below (B' := z0) yg hbs, hHeld.2.1.below (B' := z0) yTB hbs, hHeld.2.2.below (B' := z0) yTN hbs⟩
      go_simp
      refine hK.out _ _ ?_ (fun hHeld => ?_)
      · exact hS1
      clear hK Kq
      try simp only [Act.put, List.setIfInBounds_toArray, List.set_cons_zero, List.set_cons_succ]
      clear hS1
      have FU : Hid (FreshT w4.heap.size (w4.alloc (.cells #[.int .i64 0, .int .i64 0, .int .i64 0, .slice none 0 0] 26))) := Lib.hid (freshNew 26 w4)
      have yU : w4.heap.size < (w4.alloc (.cells #[.int .i64 0, .int .i64 0, .int .i64 0, .slice none 0 0] 26)).heap.size := by simp
      have yzu : z0 ≤ w4.heap.size := (by have := HBZ.out.size; have := HZ0.out; omega)
      have hgP : (Value.slice A4 (n - sn) c4).ownBlock ≠ some w4.heap.size := fun e => by have := (HO4.out.lt _ e).2; omega
      replace HO4 := Lib.hid (HO4.out.alloc (.cells #[.int .i64 0, .int .i64 0, .int .i64 0, .slice none 0 0] 26))
      replace HBZ := Lib.hid (HBZ.out.trans hbs)
      clear hbs
      generalize w4.alloc (.cells #[.int .i64 0, .int .i64 0, .int .i64 0, .slice none 0 0] 26) = Wy2 at FU yU HBZ hHeld  HO4 ⊢
      generalize w4.heap.size = gu at FU yU yzu  hgP ⊢
      have hbs : Below z0 Wy2 ((((Wy2.setCell ⟨gu, 0, none⟩ (.int .i64 (H - S))).setCell ⟨gu, 1, none⟩ (.int .i64 W)).setCell ⟨gu, 2, none⟩ (.int .i64 C)).setCell ⟨gu, 3, none⟩ (.slice A4 (n - sn) c4)) := ((((Below.refl _ _).setCell (p := ⟨gu, 0, none⟩) yzu _).setCell (p := ⟨gu, 1, none⟩) yzu _).setCell (p := ⟨gu, 2, none⟩) yzu _).setCell (p := ⟨gu, 3, none⟩) yzu _
      have hS1 : ShapeAt (w3.heap.size + 1) H W C _ ∧ BoxAt w.heap.size H W C (some ⟨bz, oz, none⟩) n c _ ∧ NodeAt (w.heap.size + 1) x0 x1 x2 x8 x11 x12 x13 x14 x15 x16 x17 x18 K S P O Z WA BA nW cW nB cB _ := ⟨hHeld.1.below (B' := z0) yg hbs, hHeld.2.1.below (B' := z0) yTB hbs, hHeld.2.2.below (B' := z0) yTN hbs⟩
      have TU : Hid (BoxAt gu (H - S) W C A4 (n - sn) c4 ((((Wy2.setCell ⟨gu, 0, none⟩ (.int .i64 (H - S))).setCell ⟨gu, 1, none⟩ (.int .i64 W)).setCell ⟨gu, 2, none⟩ (.int .i64 C)).setCell ⟨gu, 3, none⟩ (.slice A4 (n - sn) c4))) := Lib.hid (FU.out.boxed _ _ _ _ _ _)
      have RU := Lib.hid (own_rd' (own_ne4 (x := .int .i64 (H - S)) (y := .int .i64 W) (z := .int .i64 C) (u := .slice A4 (n - sn) c4) HO4.out hgP))
      have zU : gu < ((((Wy2.setCell ⟨gu, 0, none⟩ (.int .i64 (H - S))).setCell ⟨gu, 1, none⟩ (.int .i64 W)).setCell ⟨gu, 2, none⟩ (.int .i64 C)).setCell ⟨gu, 3, none⟩ (.slice A4 (n - sn) c4)).heap.size := by simpa using yU
      obtain ⟨⟨fz0, fz1, fz2, fz3⟩, fz4, fz5, fz6, fz7⟩ := FU.out
      replace HBZ := Lib.hid (HBZ.out.trans hbs)
      clear hbs FU HO4 hgP yU
      refine wpAnyH_ready (rs := [25]) (by kernel_rfl) (by simp) ?_
      refine AllReadyH.cons (o := ({ dst := none, op := Op.store 26 (Operand.tmp 10) (Operand.tmp 74), type := 0, pos := "law.go:69", after := #[{ on := 24, ground := Ground.data }, { on := 23, ground := Ground.data }, { on := 22, ground := Ground.chain }, { on := 0, ground := Ground.phase }, { on := 1, ground := Ground.phase }, { on := 2, ground := Ground.phase }, { on := 3, ground := Ground.phase }, { on := 4, ground := Ground.phase }, { on := 5, ground := Ground.phase }, { on := 6, ground := Ground.phase }, { on := 7, ground := Ground.phase }, { on := 8, ground := Ground.phase }, { on := 9, ground := Ground.phase }, { on := 10, ground := Ground.phase }, { on := 11, ground := Ground.phase }, { on := 12, ground := Ground.phase }, { on := 13, ground := Ground.phase }, { on := 14, ground := Ground.phase }, { on := 15, ground := Ground.phase }, { on := 16, ground := Ground.phase }, { on := 17, ground := Ground.phase }, { on := 18, ground := Ground.phase }, { on := 19, ground := Ground.phase }, { on := 20, ground := Ground.phase }, { on := 21, ground := Ground.phase }, { on := 22, ground := Ground.phase }, { on := 23, ground := Ground.phase }, { on := 24, ground := Ground.phase }], guard := none } : Oper)) rfl (fun Kq hK => ?_) (AllReadyH.nil)
      go_simp
      refine hK.out _ _ ?_ (fun hHeld => ?_)
      · exact hS1
      clear hK Kq
      try simp only [Act.put, List.setIfInBounds_toArray, List.set_cons_zero, List.set_cons_succ]
      clear hS1 hHeld fz0 fz1 fz2 fz3 fz4 fz5 fz6 fz7
      refine wpAnyH_done (by kernel_rfl) ?_ _
      generalize ((((Wy2.setCell ⟨gu, 0, none⟩ (.int .i64 (H - S))).setCell ⟨gu, 1, none⟩ (.int .i64 W)).setCell ⟨gu, 2, none⟩ (.int .i64 C)).setCell ⟨gu, 3, none⟩ (.slice A4 (n - sn) c4)) = Wq at TU RU HBZ zU ⊢
      have hzq : z0 ≤ Wq.heap.size := by have := HBZ.out.size; have := HZ0.out; omega
      replace TB := Lib.hid (TB.out.below yTB HBZ.out)
      replace TN := Lib.hid (TN.out.below yTN HBZ.out)
      replace TA2 := Lib.hid (TA2.out.below yTA2 HBZ.out)
      replace HRW := Lib.hid ((HRW.out.below HBZ.out).more hzq)
      replace HRB := Lib.hid ((HRB.out.below HBZ.out).more hzq)
      replace RA2 := Lib.hid ((RA2.out.below HBZ.out).more hzq)
      replace HBW := Lib.hid (HBW.out.trans (HBZ.out.mono (by have := HBW.out.size; have := HZ0.out; omega)))
      replace yTB := Nat.lt_of_lt_of_le yTB hzq
      replace yTN := Nat.lt_of_lt_of_le yTN hzq
      replace yTA2 := Nat.lt_of_lt_of_le yTA2 hzq
      have yTU := zU
      clear HBZ hzq HDR zU yg
      obtain ⟨tbp0, tbp1, tbp2, tbp3⟩ := TB.out
      obtain ⟨ta2p0, ta2p1, ta2p2, ta2p3⟩ := TA2.out
      obtain ⟨tup0, tup1, tup2, tup3⟩ := TU.out
      go_wp2_with (first
        | (go_at_call 7
           have hal : Below Wq.heap.size Wq Wq := Below.refl _ _
           refine (HOL.out _ A4 c4 ((RU.out.below hal).more hal.size) ((HRW.out.below hal).more hal.size) ((HRB.out.below hal).more hal.size)).mono ?_
           rintro e w5 ⟨v5, rfl, ho5, hb⟩
           have hh : Below Wq.heap.size Wq w5 := hal.trans (hb.mono hal.size)
           replace TB := Lib.hid (TB.out.below yTB hh)
           replace yTB := Nat.lt_of_lt_of_le yTB hh.size
           replace TN := Lib.hid (TN.out.below yTN hh)
           replace yTN := Nat.lt_of_lt_of_le yTN hh.size
           replace TA2 := Lib.hid (TA2.out.below yTA2 hh)
           replace yTA2 := Nat.lt_of_lt_of_le yTA2 hh.size
           replace TU := Lib.hid (TU.out.below yTU hh)
           replace yTU := Nat.lt_of_lt_of_le yTU hh.size
           replace HRW := Lib.hid ((HRW.out.below hh).more hh.size)
           replace HRB := Lib.hid ((HRB.out.below hh).more hh.size)
           replace RA2 := Lib.hid ((RA2.out.below hh).more hh.size)
           replace RU := Lib.hid ((RU.out.below hh).more hh.size)
           replace HBW := Lib.hid (HBW.out.trans (hh.mono HBW.out.size))
           clear tbp0 tbp1 tbp2 tbp3 ta2p0 ta2p1 ta2p2 ta2p3 tup0 tup1 tup2 tup3
           obtain ⟨A5, c5, rfl, -, -, hrd5⟩ := Kit.own_rd ho5
           have RA5 := Lib.hid hrd5
           clear ho5 hrd5
           obtain ⟨tbp0, tbp1, tbp2, tbp3⟩ := TB.out
           have n4 := TN.out.at 4 _ rfl
           have n5 := TN.out.at 5 _ rfl
           obtain ⟨ta2p0, ta2p1, ta2p2, ta2p3⟩ := TA2.out
           obtain ⟨tup0, tup1, tup2, tup3⟩ := TU.out
           clear hb hh hal)
        | (refine wpList_load_mid rfl 32 (.tmp 3) rfl (w.heap.size + 1) 0 rfl [x0, x1, x2, .int .i64 K, .int .i64 S, .int .i64 P, .int .i64 O, .int .i8 Z, x8, .slice WA nW cW, .slice BA nB cB, x11, x12, x13, x14, x15, x16, x17, x18] _ (TN.out) Try.underlying32 rfl (by kernel_rfl) ?_)
        | (refine wpList_load_mid rfl 32 (.tmp 3) rfl (w.heap.size + 1) 0 rfl [x0, x1, x2, .int .i64 K, .int .i64 S, .int .i64 P, .int .i64 O, .int .i8 Z, x8, .slice WA nW cW, .slice BA nB cB, x11, x12, x13, x14, x15, x16, x17, x18] _ (TN.out.below yTN ((Below.refl _ _).alloc (Nat.le_refl _) _)) Try.underlying32 rfl (by kernel_rfl) ?_))
      have hal : Below w5.heap.size w5 (w5.alloc (.cells #[.int .i64 (a1 : Int), .int .i64 Y1, .int .i64 U1, .slice A5 m1 c5] 36)) := (Below.refl _ _).alloc (Nat.le_refl _) _
      replace TN := Lib.hid (TN.out.below yTN hal)
      replace TA2 := Lib.hid (TA2.out.below yTA2 hal)
      have TA5 := Lib.hid (boxNew (a1 : Int) Y1 U1 A5 m1 c5 36 w5)
      replace RA2 := Lib.hid ((RA2.out.below hal).more hal.size)
      replace RA5 := Lib.hid ((RA5.out.below hal).more hal.size)
      replace HBW := Lib.hid (HBW.out.trans (hal.mono HBW.out.size))
      replace yTN := Nat.lt_of_lt_of_le yTN hal.size
      replace yTA2 := Nat.lt_of_lt_of_le yTA2 hal.size
      have yTA5 : w5.heap.size < (w5.alloc (.cells #[.int .i64 (a1 : Int), .int .i64 Y1, .int .i64 U1, .slice A5 m1 c5] 36)).heap.size := by simp
      clear hal n4 n5 tbp0 tbp1 tbp2 tbp3 ta2p0 ta2p1 ta2p2 ta2p3 tup0 tup1 tup2 tup3 TB TU HRW HRB RU
      generalize (w5.alloc (.cells #[.int .i64 (a1 : Int), .int .i64 Y1, .int .i64 U1, .slice A5 m1 c5] 36)) = Wm at TN TA2 TA5 RA2 RA5 HBW yTN yTA2 yTA5 ⊢
      generalize w5.heap.size = g5 at TA5 yTA5 ⊢
      go_loopw [14] (fun u wr => ∃ h : Nat, h ≤ a1 ∧ u = .int .i64 h ∧ Hid (Below Wm.heap.size Wm wr)) (fun u _ => a1 - (intOf u).toNat)
      case atStart => exact ⟨0, Nat.zero_le _, rfl, Lib.hid (Below.refl _ _)⟩
      case round =>
        obtain ⟨h, hh, rfl, hB0⟩ := hrel
        obtain ⟨tb0, tb1, tb2, tb3⟩ := TA5.out.below yTA5 hB0.out
        by_cases hlt : h < a1
        · have hI : (h : Int) < (a1 : Int) := by omega
          have h0 : (0 : Int) ≤ (h : Int) := by omega
          obtain ⟨hs, hhs⟩ : ∃ hs, (h : Int) * S = hs := ⟨_, rfl⟩
          have hb1 : 0 ≤ hs ∧ hs ≤ 64 := by
            rw [← hhs]
            exact ⟨Int.mul_nonneg (by omega) (by omega), Int.le_trans (Int.mul_le_mul (show (h : Int) ≤ 16 by omega) st2 (by omega) (by omega)) (by omega)⟩
          obtain ⟨hb2, hb3⟩ := hb1
          have e1 : IntKind.i64.wrap hs = hs := IntWalk.i64_in _ (by omega)
          go_wp2_with fail
          go_loopw [15] (fun u wr => ∃ i : Nat, i ≤ L ∧ u = .int .i64 i ∧ Hid (Below Wm.heap.size Wm wr)) (fun u _ => L - (intOf u).toNat)
          case atStart => exact ⟨0, Nat.zero_le _, rfl, hB0⟩
          case round =>
            obtain ⟨i, hi, rfl, hB1⟩ := hrel
            clear hB0 tb0 tb1 tb2 tb3
            obtain ⟨tb0, tb1, tb2, tb3⟩ := TA5.out.below yTA5 hB1.out
            obtain ⟨ta0, ta1, ta2, ta3⟩ := TA2.out.below yTA2 hB1.out
            have n4 := (TN.out.below yTN hB1.out).at 4 _ rfl
            have n5 := (TN.out.below yTN hB1.out).at 5 _ rfl
            by_cases hlti : i < L
            · have hiI : (i : Int) < (L : Int) := by omega
              by_cases hP : P ≤ hs
              · have hx := HRO.out h i hlt (by rw [HLL.out]; exact hlti) (by rw [hhs]; exact hP)
                rw [HLL.out] at hx
                obtain ⟨q0, hq0⟩ : ∃ q0, h * L = q0 := ⟨_, rfl⟩
                obtain ⟨h1, hh1⟩ : ∃ h1, h + 1 = h1 := ⟨_, rfl⟩
                obtain ⟨h2, hh2⟩ : ∃ h2, h + 2 = h2 := ⟨_, rfl⟩
                obtain ⟨q1, hq1⟩ : ∃ q1, h1 * L = q1 := ⟨_, rfl⟩
                obtain ⟨q2, hq2⟩ : ∃ q2, h2 * L = q2 := ⟨_, rfl⟩
                rw [hh1, hq0, hq1] at hx
                have hqm : q1 ≤ m1 := by
                  have := Nat.mul_le_mul_right L (show h1 ≤ a1 by omega)
                  have h3 := HM1.out
                  rw [HLL.out] at h3
                  omega
                have hqn : q2 ≤ N := by
                  have := Nat.mul_le_mul_right L (show h2 ≤ a1 + 1 by omega)
                  have h3 := HNL.out
                  omega
                have hq01 : q0 + L = q1 := by rw [← hq0, ← hq1, ← hh1, Nat.add_mul, Nat.one_mul]
                have hq12 : q1 + L = q2 := by rw [← hq1, ← hq2, ← hh2, ← hh1, Nat.add_mul, Nat.add_mul]; omega
                have i0 : (h : Int) * (L : Int) = (q0 : Int) := by rw [← hq0]; simp
                have i1 : (h1 : Int) * (L : Int) = (q1 : Int) := by rw [← hq1]; simp
                have i2 : (h2 : Int) * (L : Int) = (q2 : Int) := by rw [← hq2]; simp
                have f1 : IntKind.i64.wrap ((h : Int) + 1) = (h1 : Int) := by rw [IntWalk.i64_in _ (by omega)]; omega
                have f2 : IntKind.i64.wrap ((h : Int) + 2) = (h2 : Int) := by rw [IntWalk.i64_in _ (by omega)]; omega
                have r0 : IntKind.i64.wrap (q0 : Int) = (q0 : Int) := IntWalk.i64_in _ (by omega)
                have r1 : IntKind.i64.wrap (q1 : Int) = (q1 : Int) := IntWalk.i64_in _ (by omega)
                have r2 : IntKind.i64.wrap (q2 : Int) = (q2 : Int) := IntWalk.i64_in _ (by omega)
                obtain ⟨p0, hp0⟩ : ∃ p0, q0 + i = p0 := ⟨_, rfl⟩
                obtain ⟨p1, hp1⟩ : ∃ p1, q1 + i = p1 := ⟨_, rfl⟩
                have f3 : IntKind.i64.wrap ((q0 : Int) + (i : Int)) = (p0 : Int) := by rw [IntWalk.i64_in _ (by omega)]; omega
                have f4 : IntKind.i64.wrap ((q1 : Int) + (i : Int)) = (p1 : Int) := by rw [IntWalk.i64_in _ (by omega)]; omega
                have x0 : (0 : Int) ≤ (p0 : Int) := by omega
                have xI : (p0 : Int) < (m1 : Int) := by omega
                have z0' : (0 : Int) ≤ (p1 : Int) := by omega
                have zI : (p1 : Int) < (N : Int) := by omega
                have d1 : ¬ (m1 : Int) < (q1 : Int) := by omega
                have d2 : ¬ (N : Int) < (q2 : Int) := by omega
                have d3 : ¬ m1 < q1 := by omega
                have d4 : ¬ N < q2 := by omega
                have d5 : decide ((m1 : Int) < (q1 : Int)) = false := decide_eq_false d1
                have d6 : decide ((N : Int) < (q2 : Int)) = false := decide_eq_false d2
                have d7 : decide (m1 < q1) = false := decide_eq_false d3
                have d8 : decide (N < q2) = false := decide_eq_false d4
                rw [hp0, hp1] at hx
                obtain ⟨b5, o5, rfl, -, hc5⟩ := ints_getD (RA5.out.below hB1.out) (j := p0) (by have := HYL.out; omega)
                obtain ⟨b2, o2, rfl, -, hc2⟩ := ints_getD (RA2.out.below hB1.out) (j := p1) (by rw [rowL_len]; omega)
                have k5 := hc5 p0 (by have := HYL.out; omega)
                have k2 := hc2 p1 (by rw [rowL_len]; omega)
                rw [hx] at k5
                generalize (rowL F1 N).getD p1 0 = xv at k5 k2
                clear hc5 hc2 hq0 hq1 hq2 hh1 hh2 hqm hqn hq01 hq12 hp0 hp1 hx
                go_wp2_with fail
                refine wp_region_held_drew (S := fun w' => w'.cell? ⟨w2.heap.size, 3, none⟩ = some (.slice (some ⟨b2, o2, none⟩) N c2) ∧ w'.cell? ⟨g5, 3, none⟩ = some (.slice (some ⟨b5, o5, none⟩) m1 c5) ∧ w'.cell? ⟨b2, o2 + p1, none⟩ = some (.int .i32 xv) ∧ w'.cell? ⟨b5, o5 + p0, none⟩ = some (.int .i32 xv)) (by kernel_rfl) ⟨ta3, tb3, k2, k5⟩ (fun hHeld => ?_)
                refine wpAnyH_take (i := 0) (oi := ({ dst := some 118, op := Op.fieldAddr 36 (Operand.tmp 11) 1, type := 0, pos := "law.go:77", after := #[], guard := none } : Oper)) (v := ?_) rfl (by kernel_rfl) (by kernel_rfl) (by kernel_rfl) (fun _ _ _ h => h) (Or.inl ⟨by rfl, ?_⟩) (by assumption) ?_
                rotate_left
                · intro wS hSw
                  first
                    | (go_simp; done)
                    | (go_simp; with_reducible rfl)
                try simp only [Act.put, List.setIfInBounds_toArray, List.set_cons_zero, List.set_cons_succ]
                refine wpAnyH_take (i := 1) (oi := ({ dst := some 119, op := Op.load 28 (Operand.tmp 118), type := 28, pos := "law.go:77", after := #[{ on := 0, ground := Ground.data }], guard := none } : Oper)) (v := ?_) rfl (by kernel_rfl) (by kernel_rfl) (by kernel_rfl) (fun _ _ _ h => h) (Or.inl ⟨by rfl, ?_⟩) (by assumption) ?_
                rotate_left
                · intro wS hSw
                  obtain ⟨v1, v2, v3, v4⟩ := hSw
                  first
                    | (go_simp; done)
                    | (go_simp; with_reducible rfl)
                try simp only [Act.put, List.setIfInBounds_toArray, List.set_cons_zero, List.set_cons_succ]
                refine wpAnyH_take (i := 2) (oi := ({ dst := some 120, op := Op.call { callee := Callee.builtin Builtin.len, args := #[Operand.tmp 119], argTypes := #[28] }, type := 3, pos := "law.go:77", after := #[{ on := 1, ground := Ground.data }], guard := none } : Oper)) (v := ?_) rfl (by kernel_rfl) (by kernel_rfl) (by kernel_rfl) (fun _ _ _ h => h) (Or.inl ⟨by rfl, ?_⟩) (by assumption) ?_
                rotate_left
                · intro wS hSw
                  first
                    | (go_simp; done)
                    | (go_simp; with_reducible rfl)
                try simp only [Act.put, List.setIfInBounds_toArray, List.set_cons_zero, List.set_cons_succ]
                refine wpAnyH_take (i := 3) (oi := ({ dst := some 121, op := Op.move (Operand.tmp 14), type := 3, pos := "law.go:77", after := #[], guard := none } : Oper)) (v := ?_) rfl (by kernel_rfl) (by kernel_rfl) (by kernel_rfl) (fun _ _ _ h => h) (Or.inl ⟨by rfl, ?_⟩) (by assumption) ?_
                rotate_left
                · intro wS hSw
                  first
                    | (go_simp; done)
                    | (go_simp; with_reducible rfl)
                try simp only [Act.put, List.setIfInBounds_toArray, List.set_cons_zero, List.set_cons_succ]
                refine wpAnyH_take (i := 4) (oi := ({ dst := some 122, op := Op.binOp BinOp.add 3 (Operand.tmp 121) (Operand.const (Value.int IntKind.i64 1)) 3, type := 3, pos := "law.go:77", after := #[{ on := 3, ground := Ground.data }], guard := none } : Oper)) (v := ?_) rfl (by kernel_rfl) (by kernel_rfl) (by kernel_rfl) (fun _ _ _ h => h) (Or.inl ⟨by rfl, ?_⟩) (by assumption) ?_
                rotate_left
                · intro wS hSw
                  first
                    | (go_simp; done)
                    | (go_simp; with_reducible rfl)
                try simp only [Act.put, List.setIfInBounds_toArray, List.set_cons_zero, List.set_cons_succ]
                refine wpAnyH_take (i := 5) (oi := ({ dst := some 123, op := Op.move (Operand.tmp 13), type := 3, pos := "law.go:77", after := #[], guard := none } : Oper)) (v := ?_) rfl (by kernel_rfl) (by kernel_rfl) (by kernel_rfl) (fun _ _ _ h => h) (Or.inl ⟨by rfl, ?_⟩) (by assumption) ?_
                rotate_left
                · intro wS hSw
                  first
                    | (go_simp; done)
                    | (go_simp; with_reducible rfl)
                try simp only [Act.put, List.setIfInBounds_toArray, List.set_cons_zero, List.set_cons_succ]
                refine wpAnyH_take (i := 6) (oi := ({ dst := some 124, op := Op.binOp BinOp.mul 3 (Operand.tmp 122) (Operand.tmp 123) 3, type := 3, pos := "law.go:77", after := #[{ on := 4, ground := Ground.data }, { on := 5, ground := Ground.data }], guard := none } : Oper)) (v := ?_) rfl (by kernel_rfl) (by kernel_rfl) (by kernel_rfl) (fun _ _ _ h => h) (Or.inl ⟨by rfl, ?_⟩) (by assumption) ?_
                rotate_left
                · intro wS hSw
                  first
                    | (go_simp; done)
                    | (go_simp; with_reducible rfl)
                try simp only [Act.put, List.setIfInBounds_toArray, List.set_cons_zero, List.set_cons_succ]
                refine wpAnyH_take (i := 7) (oi := ({ dst := some 125, op := Op.binOp BinOp.lss 3 (Operand.tmp 120) (Operand.tmp 124) 3, type := 4, pos := "law.go:77", after := #[{ on := 2, ground := Ground.data }, { on := 6, ground := Ground.data }], guard := none } : Oper)) (v := ?_) rfl (by kernel_rfl) (by kernel_rfl) (by kernel_rfl) (fun _ _ _ h => h) (Or.inl ⟨by rfl, ?_⟩) (by assumption) ?_
                rotate_left
                · intro wS hSw
                  first
                    | (go_simp; done)
                    | (go_simp; with_reducible rfl)
                try simp only [Act.put, List.setIfInBounds_toArray, List.set_cons_zero, List.set_cons_succ]
                refine wpAnyH_take (i := 8) (oi := ({ dst := some 126, op := Op.move (Operand.tmp 125), type := 4, pos := "law.go:77", after := #[{ on := 7, ground := Ground.data }], guard := none } : Oper)) (v := ?_) rfl (by kernel_rfl) (by kernel_rfl) (by kernel_rfl) (fun _ _ _ h => h) (Or.inl ⟨by rfl, ?_⟩) (by assumption) ?_
                rotate_left
                · intro wS hSw
                  first
                    | (go_simp; done)
                    | (go_simp; with_reducible rfl)
                try simp only [Act.put, List.setIfInBounds_toArray, List.set_cons_zero, List.set_cons_succ]
                refine wpAnyH_take (i := 9) (oi := ({ dst := some 127, op := Op.fieldAddr 36 (Operand.tmp 5) 1, type := 0, pos := "law.go:77", after := #[{ on := 8, ground := Ground.guard }], guard := some (8, false) } : Oper)) (v := ?_) rfl (by kernel_rfl) (by kernel_rfl) (by kernel_rfl) (fun _ _ _ h => h) (Or.inl ⟨by rfl, ?_⟩) (by assumption) ?_
                rotate_left
                · intro wS hSw
                  first
                    | (go_simp; done)
                    | (go_simp; with_reducible rfl)
                try simp only [Act.put, List.setIfInBounds_toArray, List.set_cons_zero, List.set_cons_succ]
                refine wpAnyH_take (i := 10) (oi := ({ dst := some 128, op := Op.load 28 (Operand.tmp 127), type := 28, pos := "law.go:77", after := #[{ on := 9, ground := Ground.data }, { on := 8, ground := Ground.guard }], guard := some (8, false) } : Oper)) (v := ?_) rfl (by kernel_rfl) (by kernel_rfl) (by kernel_rfl) (fun _ _ _ h => h) (Or.inl ⟨by rfl, ?_⟩) (by assumption) ?_
                rotate_left
                · intro wS hSw
                  obtain ⟨v1, v2, v3, v4⟩ := hSw
                  first
                    | (go_simp; done)
                    | (go_simp; with_reducible rfl)
                try simp only [Act.put, List.setIfInBounds_toArray, List.set_cons_zero, List.set_cons_succ]
                refine wpAnyH_take (i := 11) (oi := ({ dst := some 129, op := Op.call { callee := Callee.builtin Builtin.len, args := #[Operand.tmp 128], argTypes := #[28] }, type := 3, pos := "law.go:77", after := #[{ on := 10, ground := Ground.data }, { on := 8, ground := Ground.guard }], guard := some (8, false) } : Oper)) (v := ?_) rfl (by kernel_rfl) (by kernel_rfl) (by kernel_rfl) (fun _ _ _ h => h) (Or.inl ⟨by rfl, ?_⟩) (by assumption) ?_
                rotate_left
                · intro wS hSw
                  first
                    | (go_simp; done)
                    | (go_simp; with_reducible rfl)
                try simp only [Act.put, List.setIfInBounds_toArray, List.set_cons_zero, List.set_cons_succ]
                refine wpAnyH_take (i := 12) (oi := ({ dst := some 130, op := Op.move (Operand.tmp 14), type := 3, pos := "law.go:77", after := #[{ on := 8, ground := Ground.guard }], guard := some (8, false) } : Oper)) (v := ?_) rfl (by kernel_rfl) (by kernel_rfl) (by kernel_rfl) (fun _ _ _ h => h) (Or.inl ⟨by rfl, ?_⟩) (by assumption) ?_
                rotate_left
                · intro wS hSw
                  first
                    | (go_simp; done)
                    | (go_simp; with_reducible rfl)
                try simp only [Act.put, List.setIfInBounds_toArray, List.set_cons_zero, List.set_cons_succ]
                refine wpAnyH_take (i := 13) (oi := ({ dst := some 131, op := Op.binOp BinOp.add 3 (Operand.tmp 130) (Operand.const (Value.int IntKind.i64 2)) 3, type := 3, pos := "law.go:77", after := #[{ on := 12, ground := Ground.data }, { on := 8, ground := Ground.guard }], guard := some (8, false) } : Oper)) (v := ?_) rfl (by kernel_rfl) (by kernel_rfl) (by kernel_rfl) (fun _ _ _ h => h) (Or.inl ⟨by rfl, ?_⟩) (by assumption) ?_
                rotate_left
                · intro wS hSw
                  first
                    | (go_simp; done)
                    | (go_simp; with_reducible rfl)
                try simp only [Act.put, List.setIfInBounds_toArray, List.set_cons_zero, List.set_cons_succ]
                refine wpAnyH_take (i := 14) (oi := ({ dst := some 132, op := Op.move (Operand.tmp 13), type := 3, pos := "law.go:77", after := #[{ on := 8, ground := Ground.guard }], guard := some (8, false) } : Oper)) (v := ?_) rfl (by kernel_rfl) (by kernel_rfl) (by kernel_rfl) (fun _ _ _ h => h) (Or.inl ⟨by rfl, ?_⟩) (by assumption) ?_
                rotate_left
                · intro wS hSw
                  first
                    | (go_simp; done)
                    | (go_simp; with_reducible rfl)
                try simp only [Act.put, List.setIfInBounds_toArray, List.set_cons_zero, List.set_cons_succ]
                refine wpAnyH_take (i := 15) (oi := ({ dst := some 133, op := Op.binOp BinOp.mul 3 (Operand.tmp 131) (Operand.tmp 132) 3, type := 3, pos := "law.go:77", after := #[{ on := 13, ground := Ground.data }, { on := 14, ground := Ground.data }, { on := 8, ground := Ground.guard }], guard := some (8, false) } : Oper)) (v := ?_) rfl (by kernel_rfl) (by kernel_rfl) (by kernel_rfl) (fun _ _ _ h => h) (Or.inl ⟨by rfl, ?_⟩) (by assumption) ?_
                rotate_left
                · intro wS hSw
                  first
                    | (go_simp; done)
                    | (go_simp; with_reducible rfl)
                try simp only [Act.put, List.setIfInBounds_toArray, List.set_cons_zero, List.set_cons_succ]
                refine wpAnyH_take (i := 16) (oi := ({ dst := some 134, op := Op.binOp BinOp.lss 3 (Operand.tmp 129) (Operand.tmp 133) 3, type := 4, pos := "law.go:77", after := #[{ on := 11, ground := Ground.data }, { on := 15, ground := Ground.data }, { on := 8, ground := Ground.guard }], guard := some (8, false) } : Oper)) (v := ?_) rfl (by kernel_rfl) (by kernel_rfl) (by kernel_rfl) (fun _ _ _ h => h) (Or.inl ⟨by rfl, ?_⟩) (by assumption) ?_
                rotate_left
                · intro wS hSw
                  first
                    | (go_simp; done)
                    | (go_simp; with_reducible rfl)
                try simp only [Act.put, List.setIfInBounds_toArray, List.set_cons_zero, List.set_cons_succ]
                refine wpAnyH_take (i := 17) (oi := ({ dst := some 135, op := Op.pick (Operand.tmp 126) (Operand.const (Value.bool true)) (Operand.tmp 134), type := 4, pos := "law.go:77", after := #[{ on := 8, ground := Ground.data }, { on := 16, ground := Ground.data }], guard := none } : Oper)) (v := ?_) rfl (by kernel_rfl) (by kernel_rfl) (by kernel_rfl) (fun _ _ _ h => h) (Or.inl ⟨by rfl, ?_⟩) (by assumption) ?_
                rotate_left
                · intro wS hSw
                  first
                    | (go_simp; done)
                    | (go_simp; with_reducible rfl)
                try simp only [Act.put, List.setIfInBounds_toArray, List.set_cons_zero, List.set_cons_succ]
                refine wpAnyH_take (i := 18) (oi := ({ dst := some 136, op := Op.move (Operand.tmp 135), type := 4, pos := "law.go:77", after := #[{ on := 17, ground := Ground.data }, { on := 8, ground := Ground.chain }], guard := none } : Oper)) (v := ?_) rfl (by kernel_rfl) (by kernel_rfl) (by kernel_rfl) (fun _ _ _ h => h) (Or.inl ⟨by rfl, ?_⟩) (by assumption) ?_
                rotate_left
                · intro wS hSw
                  first
                    | (go_simp; done)
                    | (go_simp; with_reducible rfl)
                try simp only [Act.put, List.setIfInBounds_toArray, List.set_cons_zero, List.set_cons_succ]
                refine wpAnyH_take (i := 19) (oi := ({ dst := some 137, op := Op.fieldAddr 36 (Operand.tmp 11) 1, type := 0, pos := "law.go:77", after := #[{ on := 18, ground := Ground.guard }], guard := some (18, false) } : Oper)) (v := ?_) rfl (by kernel_rfl) (by kernel_rfl) (by kernel_rfl) (fun _ _ _ h => h) (Or.inl ⟨by rfl, ?_⟩) (by assumption) ?_
                rotate_left
                · intro wS hSw
                  first
                    | (go_simp; done)
                    | (go_simp; with_reducible rfl)
                try simp only [Act.put, List.setIfInBounds_toArray, List.set_cons_zero, List.set_cons_succ]
                refine wpAnyH_take (i := 20) (oi := ({ dst := some 138, op := Op.load 28 (Operand.tmp 137), type := 28, pos := "law.go:77", after := #[{ on := 19, ground := Ground.data }, { on := 18, ground := Ground.guard }], guard := some (18, false) } : Oper)) (v := ?_) rfl (by kernel_rfl) (by kernel_rfl) (by kernel_rfl) (fun _ _ _ h => h) (Or.inl ⟨by rfl, ?_⟩) (by assumption) ?_
                rotate_left
                · intro wS hSw
                  obtain ⟨v1, v2, v3, v4⟩ := hSw
                  first
                    | (go_simp; done)
                    | (go_simp; with_reducible rfl)
                try simp only [Act.put, List.setIfInBounds_toArray, List.set_cons_zero, List.set_cons_succ]
                refine wpAnyH_take (i := 21) (oi := ({ dst := some 139, op := Op.move (Operand.tmp 14), type := 3, pos := "law.go:77", after := #[{ on := 18, ground := Ground.guard }], guard := some (18, false) } : Oper)) (v := ?_) rfl (by kernel_rfl) (by kernel_rfl) (by kernel_rfl) (fun _ _ _ h => h) (Or.inl ⟨by rfl, ?_⟩) (by assumption) ?_
                rotate_left
                · intro wS hSw
                  first
                    | (go_simp; done)
                    | (go_simp; with_reducible rfl)
                try simp only [Act.put, List.setIfInBounds_toArray, List.set_cons_zero, List.set_cons_succ]
                refine wpAnyH_take (i := 22) (oi := ({ dst := some 140, op := Op.move (Operand.tmp 13), type := 3, pos := "law.go:77", after := #[{ on := 18, ground := Ground.guard }], guard := some (18, false) } : Oper)) (v := ?_) rfl (by kernel_rfl) (by kernel_rfl) (by kernel_rfl) (fun _ _ _ h => h) (Or.inl ⟨by rfl, ?_⟩) (by assumption) ?_
                rotate_left
                · intro wS hSw
                  first
                    | (go_simp; done)
                    | (go_simp; with_reducible rfl)
                try simp only [Act.put, List.setIfInBounds_toArray, List.set_cons_zero, List.set_cons_succ]
                refine wpAnyH_take (i := 23) (oi := ({ dst := some 141, op := Op.binOp BinOp.mul 3 (Operand.tmp 139) (Operand.tmp 140) 3, type := 3, pos := "law.go:77", after := #[{ on := 21, ground := Ground.data }, { on := 22, ground := Ground.data }, { on := 18, ground := Ground.guard }], guard := some (18, false) } : Oper)) (v := ?_) rfl (by kernel_rfl) (by kernel_rfl) (by kernel_rfl) (fun _ _ _ h => h) (Or.inl ⟨by rfl, ?_⟩) (by assumption) ?_
                rotate_left
                · intro wS hSw
                  first
                    | (go_simp; done)
                    | (go_simp; with_reducible rfl)
                try simp only [Act.put, List.setIfInBounds_toArray, List.set_cons_zero, List.set_cons_succ]
                refine wpAnyH_take (i := 24) (oi := ({ dst := some 142, op := Op.move (Operand.tmp 15), type := 3, pos := "law.go:77", after := #[{ on := 18, ground := Ground.guard }], guard := some (18, false) } : Oper)) (v := ?_) rfl (by kernel_rfl) (by kernel_rfl) (by kernel_rfl) (fun _ _ _ h => h) (Or.inl ⟨by rfl, ?_⟩) (by assumption) ?_
                rotate_left
                · intro wS hSw
                  first
                    | (go_simp; done)
                    | (go_simp; with_reducible rfl)
                try simp only [Act.put, List.setIfInBounds_toArray, List.set_cons_zero, List.set_cons_succ]
                refine wpAnyH_take (i := 25) (oi := ({ dst := some 143, op := Op.binOp BinOp.add 3 (Operand.tmp 141) (Operand.tmp 142) 3, type := 3, pos := "law.go:77", after := #[{ on := 23, ground := Ground.data }, { on := 24, ground := Ground.data }, { on := 18, ground := Ground.guard }], guard := some (18, false) } : Oper)) (v := ?_) rfl (by kernel_rfl) (by kernel_rfl) (by kernel_rfl) (fun _ _ _ h => h) (Or.inl ⟨by rfl, ?_⟩) (by assumption) ?_
                rotate_left
                · intro wS hSw
                  first
                    | (go_simp; done)
                    | (go_simp; with_reducible rfl)
                try simp only [Act.put, List.setIfInBounds_toArray, List.set_cons_zero, List.set_cons_succ]
                refine wpAnyH_take (i := 26) (oi := ({ dst := some 144, op := Op.indexAddr 28 (Operand.tmp 138) (Operand.tmp 143), type := 0, pos := "law.go:77", after := #[{ on := 20, ground := Ground.data }, { on := 25, ground := Ground.data }, { on := 18, ground := Ground.guard }], guard := some (18, false) } : Oper)) (v := ?_) rfl (by kernel_rfl) (by kernel_rfl) (by kernel_rfl) (fun _ _ _ h => h) (Or.inl ⟨by rfl, ?_⟩) (by assumption) ?_
                rotate_left
                · intro wS hSw
                  first
                    | (go_simp; done)
                    | (go_simp; with_reducible rfl)
                try simp only [Act.put, List.setIfInBounds_toArray, List.set_cons_zero, List.set_cons_succ]
                refine wpAnyH_take (i := 27) (oi := ({ dst := some 145, op := Op.load 21 (Operand.tmp 144), type := 21, pos := "law.go:77", after := #[{ on := 26, ground := Ground.data }, { on := 18, ground := Ground.guard }], guard := some (18, false) } : Oper)) (v := ?_) rfl (by kernel_rfl) (by kernel_rfl) (by kernel_rfl) (fun _ _ _ h => h) (Or.inl ⟨by rfl, ?_⟩) (by assumption) ?_
                rotate_left
                · intro wS hSw
                  obtain ⟨v1, v2, v3, v4⟩ := hSw
                  first
                    | (go_simp; done)
                    | (go_simp; with_reducible rfl)
                try simp only [Act.put, List.setIfInBounds_toArray, List.set_cons_zero, List.set_cons_succ]
                refine wpAnyH_take (i := 28) (oi := ({ dst := some 146, op := Op.fieldAddr 36 (Operand.tmp 5) 1, type := 0, pos := "law.go:77", after := #[{ on := 18, ground := Ground.guard }], guard := some (18, false) } : Oper)) (v := ?_) rfl (by kernel_rfl) (by kernel_rfl) (by kernel_rfl) (fun _ _ _ h => h) (Or.inl ⟨by rfl, ?_⟩) (by assumption) ?_
                rotate_left
                · intro wS hSw
                  first
                    | (go_simp; done)
                    | (go_simp; with_reducible rfl)
                try simp only [Act.put, List.setIfInBounds_toArray, List.set_cons_zero, List.set_cons_succ]
                refine wpAnyH_take (i := 29) (oi := ({ dst := some 147, op := Op.load 28 (Operand.tmp 146), type := 28, pos := "law.go:77", after := #[{ on := 28, ground := Ground.data }, { on := 18, ground := Ground.guard }], guard := some (18, false) } : Oper)) (v := ?_) rfl (by kernel_rfl) (by kernel_rfl) (by kernel_rfl) (fun _ _ _ h => h) (Or.inl ⟨by rfl, ?_⟩) (by assumption) ?_
                rotate_left
                · intro wS hSw
                  obtain ⟨v1, v2, v3, v4⟩ := hSw
                  first
                    | (go_simp; done)
                    | (go_simp; with_reducible rfl)
                try simp only [Act.put, List.setIfInBounds_toArray, List.set_cons_zero, List.set_cons_succ]
                refine wpAnyH_take (i := 30) (oi := ({ dst := some 148, op := Op.move (Operand.tmp 14), type := 3, pos := "law.go:77", after := #[{ on := 18, ground := Ground.guard }], guard := some (18, false) } : Oper)) (v := ?_) rfl (by kernel_rfl) (by kernel_rfl) (by kernel_rfl) (fun _ _ _ h => h) (Or.inl ⟨by rfl, ?_⟩) (by assumption) ?_
                rotate_left
                · intro wS hSw
                  first
                    | (go_simp; done)
                    | (go_simp; with_reducible rfl)
                try simp only [Act.put, List.setIfInBounds_toArray, List.set_cons_zero, List.set_cons_succ]
                refine wpAnyH_take (i := 31) (oi := ({ dst := some 149, op := Op.binOp BinOp.add 3 (Operand.tmp 148) (Operand.const (Value.int IntKind.i64 1)) 3, type := 3, pos := "law.go:77", after := #[{ on := 30, ground := Ground.data }, { on := 18, ground := Ground.guard }], guard := some (18, false) } : Oper)) (v := ?_) rfl (by kernel_rfl) (by kernel_rfl) (by kernel_rfl) (fun _ _ _ h => h) (Or.inl ⟨by rfl, ?_⟩) (by assumption) ?_
                rotate_left
                · intro wS hSw
                  first
                    | (go_simp; done)
                    | (go_simp; with_reducible rfl)
                try simp only [Act.put, List.setIfInBounds_toArray, List.set_cons_zero, List.set_cons_succ]
                refine wpAnyH_take (i := 32) (oi := ({ dst := some 150, op := Op.move (Operand.tmp 13), type := 3, pos := "law.go:77", after := #[{ on := 18, ground := Ground.guard }], guard := some (18, false) } : Oper)) (v := ?_) rfl (by kernel_rfl) (by kernel_rfl) (by kernel_rfl) (fun _ _ _ h => h) (Or.inl ⟨by rfl, ?_⟩) (by assumption) ?_
                rotate_left
                · intro wS hSw
                  first
                    | (go_simp; done)
                    | (go_simp; with_reducible rfl)
                try simp only [Act.put, List.setIfInBounds_toArray, List.set_cons_zero, List.set_cons_succ]
                refine wpAnyH_take (i := 33) (oi := ({ dst := some 151, op := Op.binOp BinOp.mul 3 (Operand.tmp 149) (Operand.tmp 150) 3, type := 3, pos := "law.go:77", after := #[{ on := 31, ground := Ground.data }, { on := 32, ground := Ground.data }, { on := 18, ground := Ground.guard }], guard := some (18, false) } : Oper)) (v := ?_) rfl (by kernel_rfl) (by kernel_rfl) (by kernel_rfl) (fun _ _ _ h => h) (Or.inl ⟨by rfl, ?_⟩) (by assumption) ?_
                rotate_left
                · intro wS hSw
                  first
                    | (go_simp; done)
                    | (go_simp; with_reducible rfl)
                try simp only [Act.put, List.setIfInBounds_toArray, List.set_cons_zero, List.set_cons_succ]
                refine wpAnyH_take (i := 34) (oi := ({ dst := some 152, op := Op.move (Operand.tmp 15), type := 3, pos := "law.go:77", after := #[{ on := 18, ground := Ground.guard }], guard := some (18, false) } : Oper)) (v := ?_) rfl (by kernel_rfl) (by kernel_rfl) (by kernel_rfl) (fun _ _ _ h => h) (Or.inl ⟨by rfl, ?_⟩) (by assumption) ?_
                rotate_left
                · intro wS hSw
                  first
                    | (go_simp; done)
                    | (go_simp; with_reducible rfl)
                try simp only [Act.put, List.setIfInBounds_toArray, List.set_cons_zero, List.set_cons_succ]
                refine wpAnyH_take (i := 35) (oi := ({ dst := some 153, op := Op.binOp BinOp.add 3 (Operand.tmp 151) (Operand.tmp 152) 3, type := 3, pos := "law.go:77", after := #[{ on := 33, ground := Ground.data }, { on := 34, ground := Ground.data }, { on := 18, ground := Ground.guard }], guard := some (18, false) } : Oper)) (v := ?_) rfl (by kernel_rfl) (by kernel_rfl) (by kernel_rfl) (fun _ _ _ h => h) (Or.inl ⟨by rfl, ?_⟩) (by assumption) ?_
                rotate_left
                · intro wS hSw
                  first
                    | (go_simp; done)
                    | (go_simp; with_reducible rfl)
                try simp only [Act.put, List.setIfInBounds_toArray, List.set_cons_zero, List.set_cons_succ]
                refine wpAnyH_take (i := 36) (oi := ({ dst := some 154, op := Op.indexAddr 28 (Operand.tmp 147) (Operand.tmp 153), type := 0, pos := "law.go:77", after := #[{ on := 29, ground := Ground.data }, { on := 35, ground := Ground.data }, { on := 18, ground := Ground.guard }], guard := some (18, false) } : Oper)) (v := ?_) rfl (by kernel_rfl) (by kernel_rfl) (by kernel_rfl) (fun _ _ _ h => h) (Or.inl ⟨by rfl, ?_⟩) (by assumption) ?_
                rotate_left
                · intro wS hSw
                  first
                    | (go_simp; done)
                    | (go_simp; with_reducible rfl)
                try simp only [Act.put, List.setIfInBounds_toArray, List.set_cons_zero, List.set_cons_succ]
                refine wpAnyH_take (i := 37) (oi := ({ dst := some 155, op := Op.load 21 (Operand.tmp 154), type := 21, pos := "law.go:77", after := #[{ on := 36, ground := Ground.data }, { on := 18, ground := Ground.guard }], guard := some (18, false) } : Oper)) (v := ?_) rfl (by kernel_rfl) (by kernel_rfl) (by kernel_rfl) (fun _ _ _ h => h) (Or.inl ⟨by rfl, ?_⟩) (by assumption) ?_
                rotate_left
                · intro wS hSw
                  obtain ⟨v1, v2, v3, v4⟩ := hSw
                  first
                    | (go_simp; done)
                    | (go_simp; with_reducible rfl)
                try simp only [Act.put, List.setIfInBounds_toArray, List.set_cons_zero, List.set_cons_succ]
                refine wpAnyH_take (i := 38) (oi := ({ dst := some 156, op := Op.binOp BinOp.neq 21 (Operand.tmp 145) (Operand.tmp 155) 21, type := 4, pos := "law.go:77", after := #[{ on := 27, ground := Ground.data }, { on := 37, ground := Ground.data }, { on := 18, ground := Ground.guard }], guard := some (18, false) } : Oper)) (v := ?_) rfl (by kernel_rfl) (by kernel_rfl) (by kernel_rfl) (fun _ _ _ h => h) (Or.inl ⟨by rfl, ?_⟩) (by assumption) ?_
                rotate_left
                · intro wS hSw
                  first
                    | (go_simp; done)
                    | (go_simp; with_reducible rfl)
                try simp only [Act.put, List.setIfInBounds_toArray, List.set_cons_zero, List.set_cons_succ]
                refine wpAnyH_take (i := 39) (oi := ({ dst := some 157, op := Op.pick (Operand.tmp 136) (Operand.const (Value.bool true)) (Operand.tmp 156), type := 4, pos := "law.go:77", after := #[{ on := 18, ground := Ground.data }, { on := 38, ground := Ground.data }], guard := none } : Oper)) (v := ?_) rfl (by kernel_rfl) (by kernel_rfl) (by kernel_rfl) (fun _ _ _ h => h) (Or.inl ⟨by rfl, ?_⟩) (by assumption) ?_
                rotate_left
                · intro wS hSw
                  first
                    | (go_simp; done)
                    | (go_simp; with_reducible rfl)
                try simp only [Act.put, List.setIfInBounds_toArray, List.set_cons_zero, List.set_cons_succ]
                refine wpAnyH_done (by kernel_rfl) ?_ _
                clear hHeld
                go_wp2_with fail
                go_roundw
                case rel => exact ⟨i + 1, by omega, by go_num, Lib.hid hB1.out.drew⟩
                case measure => simp [intOf]; omega
              · have hP2 : ¬ P ≤ hs := hP
                go_wp2_with fail
                go_roundw
                case rel => exact ⟨h + 1, by omega, by go_num, hB1⟩
                case measure => simp [intOf]; omega
            · obtain rfl : i = L := by omega
              go_wp2_with fail
              go_roundw
              case rel => exact ⟨h + 1, by omega, by go_num, hB1⟩
              case measure => simp [intOf]; omega
        · obtain rfl : h = a1 := by omega
          go_wp2_with (go_at_call 6; (refine (known10 _).mono ?_); rintro e w7 ⟨rfl, hb⟩; (have HB := Lib.hid ((HBW.out.trans (hB0.out.mono HBW.out.size)).trans (hb.mono (Nat.le_trans HBW.out.size hB0.out.size)))); clear hb)
          go_ret
          exact ⟨rfl, HB.out⟩
    refine AllReadyH.cons (o := ({ dst := some 10, op := Op.alloc 26, type := 0, pos := "law.go:69", after := #[], guard := none } : Oper)) rfl (fun Kq hK => ?_) ?_
    · have hbs : Below z0 Wy0 (Wy0.alloc (.cells #[.int .i64 0, .int .i64 0, .int .i64 0, .slice none 0 0] 26)) := (Below.refl _ _).alloc (by have := HBZ.out.size; have := HZ0.out; omega) _
      have hS1 : ShapeAt (w3.heap.size + 1) H W C _ ∧ BoxAt w.heap.size H W C (some ⟨bz, oz, none⟩) n c _ ∧ NodeAt (w.heap.size + 1) x0 x1 x2 x8 x11 x12 x13 x14 x15 x16 x17 x18 K S P O Z WA BA nW cW nB cB _ := ⟨hHeld.1.below (B' := z0) yg hbs, hHeld.2.1.below (B' := z0) yTB hbs, hHeld.2.2.below (B' := z0) yTN hbs⟩
      go_simp
      refine hK.out _ _ ?_ (fun hHeld => ?_)
      · exact hS1
      clear hK Kq
      try simp only [Act.put, List.setIfInBounds_toArray, List.set_cons_zero, List.set_cons_succ]
      clear hS1
      have FU : Hid (FreshT Wy0.heap.size (Wy0.alloc (.cells #[.int .i64 0, .int .i64 0, .int .i64 0, .slice none 0 0] 26))) := Lib.hid (freshNew 26 Wy0)
      have yU : Wy0.heap.size < (Wy0.alloc (.cells #[.int .i64 0, .int .i64 0, .int .i64 0, .slice none 0 0] 26)).heap.size := by simp
      have yzu : z0 ≤ Wy0.heap.size := (by have := HBZ.out.size; have := HZ0.out; omega)
      have hgB : Wy0.heap.size ≠ gB := by omega
      replace HO := Lib.hid (HO.out.alloc (.cells #[.int .i64 0, .int .i64 0, .int .i64 0, .slice none 0 0] 26))
      replace ysB : gB < (Wy0.alloc (.cells #[.int .i64 0, .int .i64 0, .int .i64 0, .slice none 0 0] 26)).heap.size := by simp; omega
      replace HBZ := Lib.hid (HBZ.out.trans hbs)
      clear hbs
      generalize Wy0.alloc (.cells #[.int .i64 0, .int .i64 0, .int .i64 0, .slice none 0 0] 26) = Wy1 at FU yU HBZ hHeld HO ysB  ⊢
      generalize Wy0.heap.size = gu at FU yU yzu hgB  ⊢
      refine wpAnyH_ready (rs := [22]) (by kernel_rfl) (by simp) ?_
      refine AllReadyH.cons (o := ({ dst := some 73, op := Op.call { callee := Callee.builtin Builtin.append, args := #[Operand.tmp 61, Operand.tmp 72], argTypes := #[24, 24] }, type := 24, pos := "law.go:69", after := #[{ on := 10, ground := Ground.data }, { on := 21, ground := Ground.data }], guard := none } : Oper)) rfl (fun Kq hK => ?_) (AllReadyH.nil)
      refine Kit.step_append_rd _ rfl (.tmp 61) (.tmp 72) _ rfl z0 27 i8 (.int .i8 0) 1 1 Try.underlying24 hi0 hi1 hi2 hi3 rfl (by decide) _ 0 [] rfl HO.out z0 (some ⟨bz, oz + sn, none⟩) (n - sn) (c - sn) (I8s (zs.drop sn)) rfl (by have := HLN.out; simp [I8s]; omega) (HDR.out.below HBZ.out) (Kit.ints_one .i8 _) (by unfold maxLen; omega) (by omega) (by have := HBZ.out.size; have := HZ0.out; omega) ?_
      intro v4 w4 hown4 hg4 hor4
      rw [Nat.zero_add, List.nil_append] at hown4
      have hbs : Below z0 Wy1 w4 := (Below.refl _ _).grown hg4 (by have := HBZ.out.size; have := HZ0.out; omega) (Kit.own_block_ge HO.out)
      have hS1 : ShapeAt (w3.heap.size + 1) H W C _ ∧ BoxAt w.heap.size H W C (some ⟨bz, oz, none⟩) n c _ ∧ NodeAt (w.heap.size + 1) x0 x1 x2 x8 x11 x12 x13 x14 x15 x16 x17 x18 K S P O Z WA BA nW cW nB cB _ := ⟨hHeld.1.below (B' := z0) yg hbs, hHeld.2.1.below (B' := z0) yTB hbs, hHeld.2.2.below (B' := z0) yTN hbs⟩
      have HO4 := Lib.hid hown4
      replace FU := Lib.hid (FU.out.grown yU (fun e => hgB (by injection e)) hg4)
      have hgP : v4.ownBlock ≠ some gu := fun e2 => by rcases (show v4.ownBlock = some gB ∨ v4.ownBlock = some Wy1.heap.size from hor4) with e | e <;> (rw [e] at e2; injection e2 with e3; omega)
      replace yU := Nat.lt_of_lt_of_le yU hbs.size
      replace HBZ := Lib.hid (HBZ.out.trans hbs)
      clear hown4 hg4 hor4 hbs HO ysB
      obtain ⟨A4, c4, rfl, hc4, -, -⟩ := Kit.own_rd HO4.out
      dsimp only
      refine hK.out _ _ ?_ (fun hHeld => ?_)
      · exact hS1
      clear hK Kq
      try simp only [Act.put, List.setIfInBounds_toArray, List.set_cons_zero, List.set_cons_succ]
      clear hS1
      refine wpAnyH_take (i := 23) (oi := ({ dst := some 74, op := Op.build 26 #[(0, Operand.tmp 60), (1, Operand.tmp 73)], type := 26, pos := "law.go:69", after := #[{ on := 9, ground := Ground.data }, { on := 22, ground := Ground.data }], guard := none } : Oper)) (v := ?_) rfl (by kernel_rfl) (by kernel_rfl) (by kernel_rfl) (fun _ _ _ h => h) (Or.inl ⟨by rfl, ?_⟩) (by assumption) ?_
      rotate_left
      · intro wS hSw
        first
          | (go_simp; done)
          | (go_simp; with_reducible rfl)
      try simp only [Act.put, List.setIfInBounds_toArray, List.set_cons_zero, List.set_cons_succ]
      have hbs : Below z0 w4 ((((w4.setCell ⟨gu, 0, none⟩ (.int .i64 (H - S))).setCell ⟨gu, 1, none⟩ (.int .i64 W)).setCell ⟨gu, 2, none⟩ (.int .i64 C)).setCell ⟨gu, 3, none⟩ (.slice A4 (n - sn) c4)) := ((((Below.refl _ _).setCell (p := ⟨gu, 0, none⟩) yzu _).setCell (p := ⟨gu, 1, none⟩) yzu _).setCell (p := ⟨gu, 2, none⟩) yzu _).setCell (p := ⟨gu, 3, none⟩) yzu _
      have hS1 : ShapeAt (w3.heap.size + 1) H W C _ ∧ BoxAt w.heap.size H W C (some ⟨bz, oz, none⟩) n c _ ∧ NodeAt (w.heap.size + 1) x0 x1 x2 x8 x11 x12 x13 x14 x15 x16 x17 x18 K S P O Z WA BA nW cW nB cB _ := ⟨hHeld.1.below (B' := z0) yg hbs, hHeld.2.1.below (B' := z0) yTB hbs, hHeld.2.2.below (B' := z0) yTN hbs⟩
      have TU : Hid (BoxAt gu (H - S) W C A4 (n - sn) c4 ((((w4.setCell ⟨gu, 0, none⟩ (.int .i64 (H - S))).setCell ⟨gu, 1, none⟩ (.int .i64 W)).setCell ⟨gu, 2, none⟩ (.int .i64 C)).setCell ⟨gu, 3, none⟩ (.slice A4 (n - sn) c4))) := Lib.hid (FU.out.boxed _ _ _ _ _ _)
      have RU := Lib.hid (own_rd' (own_ne4 (x := .int .i64 (H - S)) (y := .int .i64 W) (z := .int .i64 C) (u := .slice A4 (n - sn) c4) HO4.out hgP))
      have zU : gu < ((((w4.setCell ⟨gu, 0, none⟩ (.int .i64 (H - S))).setCell ⟨gu, 1, none⟩ (.int .i64 W)).setCell ⟨gu, 2, none⟩ (.int .i64 C)).setCell ⟨gu, 3, none⟩ (.slice A4 (n - sn) c4)).heap.size := by simpa using yU
      obtain ⟨⟨fz0, fz1, fz2, fz3⟩, fz4, fz5, fz6, fz7⟩ := FU.out
      replace HBZ := Lib.hid (HBZ.out.trans hbs)
      clear hbs FU HO4 hgP yU
      refine wpAnyH_ready (rs := [25]) (by kernel_rfl) (by simp) ?_
      refine AllReadyH.cons (o := ({ dst := none, op := Op.store 26 (Operand.tmp 10) (Operand.tmp 74), type := 0, pos := "law.go:69", after := #[{ on := 24, ground := Ground.data }, { on := 23, ground := Ground.data }, { on := 22, ground := Ground.chain }, { on := 0, ground := Ground.phase }, { on := 1, ground := Ground.phase }, { on := 2, ground := Ground.phase }, { on := 3, ground := Ground.phase }, { on := 4, ground := Ground.phase }, { on := 5, ground := Ground.phase }, { on := 6, ground := Ground.phase }, { on := 7, ground := Ground.phase }, { on := 8, ground := Ground.phase }, { on := 9, ground := Ground.phase }, { on := 10, ground := Ground.phase }, { on := 11, ground := Ground.phase }, { on := 12, ground := Ground.phase }, { on := 13, ground := Ground.phase }, { on := 14, ground := Ground.phase }, { on := 15, ground := Ground.phase }, { on := 16, ground := Ground.phase }, { on := 17, ground := Ground.phase }, { on := 18, ground := Ground.phase }, { on := 19, ground := Ground.phase }, { on := 20, ground := Ground.phase }, { on := 21, ground := Ground.phase }, { on := 22, ground := Ground.phase }, { on := 23, ground := Ground.phase }, { on := 24, ground := Ground.phase }], guard := none } : Oper)) rfl (fun Kq hK => ?_) (AllReadyH.nil)
      go_simp
      refine hK.out _ _ ?_ (fun hHeld => ?_)
      · exact hS1
      clear hK Kq
      try simp only [Act.put, List.setIfInBounds_toArray, List.set_cons_zero, List.set_cons_succ]
      clear hS1 hHeld fz0 fz1 fz2 fz3 fz4 fz5 fz6 fz7
      refine wpAnyH_done (by kernel_rfl) ?_ _
      generalize ((((w4.setCell ⟨gu, 0, none⟩ (.int .i64 (H - S))).setCell ⟨gu, 1, none⟩ (.int .i64 W)).setCell ⟨gu, 2, none⟩ (.int .i64 C)).setCell ⟨gu, 3, none⟩ (.slice A4 (n - sn) c4)) = Wq at TU RU HBZ zU ⊢
      have hzq : z0 ≤ Wq.heap.size := by have := HBZ.out.size; have := HZ0.out; omega
      replace TB := Lib.hid (TB.out.below yTB HBZ.out)
      replace TN := Lib.hid (TN.out.below yTN HBZ.out)
      replace TA2 := Lib.hid (TA2.out.below yTA2 HBZ.out)
      replace HRW := Lib.hid ((HRW.out.below HBZ.out).more hzq)
      replace HRB := Lib.hid ((HRB.out.below HBZ.out).more hzq)
      replace RA2 := Lib.hid ((RA2.out.below HBZ.out).more hzq)
      replace HBW := Lib.hid (HBW.out.trans (HBZ.out.mono (by have := HBW.out.size; have := HZ0.out; omega)))
      replace yTB := Nat.lt_of_lt_of_le yTB hzq
      replace yTN := Nat.lt_of_lt_of_le yTN hzq
      replace yTA2 := Nat.lt_of_lt_of_le yTA2 hzq
      have yTU := zU
      clear HBZ hzq HDR zU yg
      obtain ⟨tbp0, tbp1, tbp2, tbp3⟩ := TB.out
      obtain ⟨ta2p0, ta2p1, ta2p2, ta2p3⟩ := TA2.out
      obtain ⟨tup0, tup1, tup2, tup3⟩ := TU.out
      go_wp2_with (first
        | (go_at_call 7
           have hal : Below Wq.heap.size Wq Wq := Below.refl _ _
           refine (HOL.out _ A4 c4 ((RU.out.below hal).more hal.size) ((HRW.out.below hal).more hal.size) ((HRB.out.below hal).more hal.size)).mono ?_
           rintro e w5 ⟨v5, rfl, ho5, hb⟩
           have hh : Below Wq.heap.size Wq w5 := hal.trans (hb.mono hal.size)
           replace TB := Lib.hid (TB.out.below yTB hh)
           replace yTB := Nat.lt_of_lt_of_le yTB hh.size
           replace TN := Lib.hid (TN.out.below yTN hh)
           replace yTN := Nat.lt_of_lt_of_le yTN hh.size
           replace TA2 := Lib.hid (TA2.out.below yTA2 hh)
           replace yTA2 := Nat.lt_of_lt_of_le yTA2 hh.size
           replace TU := Lib.hid (TU.out.below yTU hh)
           replace yTU := Nat.lt_of_lt_of_le yTU hh.size
           replace HRW := Lib.hid ((HRW.out.below hh).more hh.size)
           replace HRB := Lib.hid ((HRB.out.below hh).more hh.size)
           replace RA2 := Lib.hid ((RA2.out.below hh).more hh.size)
           replace RU := Lib.hid ((RU.out.below hh).more hh.size)
           replace HBW := Lib.hid (HBW.out.trans (hh.mono HBW.out.size))
           clear tbp0 tbp1 tbp2 tbp3 ta2p0 ta2p1 ta2p2 ta2p3 tup0 tup1 tup2 tup3
           obtain ⟨A5, c5, rfl, -, -, hrd5⟩ := Kit.own_rd ho5
           have RA5 := Lib.hid hrd5
           clear ho5 hrd5
           obtain ⟨tbp0, tbp1, tbp2, tbp3⟩ := TB.out
           have n4 := TN.out.at 4 _ rfl
           have n5 := TN.out.at 5 _ rfl
           obtain ⟨ta2p0, ta2p1, ta2p2, ta2p3⟩ := TA2.out
           obtain ⟨tup0, tup1, tup2, tup3⟩ := TU.out
           clear hb hh hal)
        | (refine wpList_load_mid rfl 32 (.tmp 3) rfl (w.heap.size + 1) 0 rfl [x0, x1, x2, .int .i64 K, .int .i64 S, .int .i64 P, .int .i64 O, .int .i8 Z, x8, .slice WA nW cW, .slice BA nB cB, x11, x12, x13, x14, x15, x16, x17, x18] _ (TN.out) Try.underlying32 rfl (by kernel_rfl) ?_)
        | (refine wpList_load_mid rfl 32 (.tmp 3) rfl (w.heap.size + 1) 0 rfl [x0, x1, x2, .int .i64 K, .int .i64 S, .int .i64 P, .int .i64 O, .int .i8 Z, x8, .slice WA nW cW, .slice BA nB cB, x11, x12, x13, x14, x15, x16, x17, x18] _ (TN.out.below yTN ((Below.refl _ _).alloc (Nat.le_refl _) _)) Try.underlying32 rfl (by kernel_rfl) ?_))
      have hal : Below w5.heap.size w5 (w5.alloc (.cells #[.int .i64 (a1 : Int), .int .i64 Y1, .int .i64 U1, .slice A5 m1 c5] 36)) := (Below.refl _ _).alloc (Nat.le_refl _) _
      replace TN := Lib.hid (TN.out.below yTN hal)
      replace TA2 := Lib.hid (TA2.out.below yTA2 hal)
      have TA5 := Lib.hid (boxNew (a1 : Int) Y1 U1 A5 m1 c5 36 w5)
      replace RA2 := Lib.hid ((RA2.out.below hal).more hal.size)
      replace RA5 := Lib.hid ((RA5.out.below hal).more hal.size)
      replace HBW := Lib.hid (HBW.out.trans (hal.mono HBW.out.size))
      replace yTN := Nat.lt_of_lt_of_le yTN hal.size
      replace yTA2 := Nat.lt_of_lt_of_le yTA2 hal.size
      have yTA5 : w5.heap.size < (w5.alloc (.cells #[.int .i64 (a1 : Int), .int .i64 Y1, .int .i64 U1, .slice A5 m1 c5] 36)).heap.size := by simp
      clear hal n4 n5 tbp0 tbp1 tbp2 tbp3 ta2p0 ta2p1 ta2p2 ta2p3 tup0 tup1 tup2 tup3 TB TU HRW HRB RU
      generalize (w5.alloc (.cells #[.int .i64 (a1 : Int), .int .i64 Y1, .int .i64 U1, .slice A5 m1 c5] 36)) = Wm at TN TA2 TA5 RA2 RA5 HBW yTN yTA2 yTA5 ⊢
      generalize w5.heap.size = g5 at TA5 yTA5 ⊢
      go_loopw [14] (fun u wr => ∃ h : Nat, h ≤ a1 ∧ u = .int .i64 h ∧ Hid (Below Wm.heap.size Wm wr)) (fun u _ => a1 - (intOf u).toNat)
      case atStart => exact ⟨0, Nat.zero_le _, rfl, Lib.hid (Below.refl _ _)⟩
      case round =>
        obtain ⟨h, hh, rfl, hB0⟩ := hrel
        obtain ⟨tb0, tb1, tb2, tb3⟩ := TA5.out.below yTA5 hB0.out
        by_cases hlt : h < a1
        · have hI : (h : Int) < (a1 : Int) := by omega
          have h0 : (0 : Int) ≤ (h : Int) := by omega
          obtain ⟨hs, hhs⟩ : ∃ hs, (h : Int) * S = hs := ⟨_, rfl⟩
          have hb1 : 0 ≤ hs ∧ hs ≤ 64 := by
            rw [← hhs]
            exact ⟨Int.mul_nonneg (by omega) (by omega), Int.le_trans (Int.mul_le_mul (show (h : Int) ≤ 16 by omega) st2 (by omega) (by omega)) (by omega)⟩
          obtain ⟨hb2, hb3⟩ := hb1
          have e1 : IntKind.i64.wrap hs = hs := IntWalk.i64_in _ (by omega)
          go_wp2_with fail
          go_loopw [15] (fun u wr => ∃ i : Nat, i ≤ L ∧ u = .int .i64 i ∧ Hid (Below Wm.heap.size Wm wr)) (fun u _ => L - (intOf u).toNat)
          case atStart => exact ⟨0, Nat.zero_le _, rfl, hB0⟩
          case round =>
            obtain ⟨i, hi, rfl, hB1⟩ := hrel
            clear hB0 tb0 tb1 tb2 tb3
            obtain ⟨tb0, tb1, tb2, tb3⟩ := TA5.out.below yTA5 hB1.out
            obtain ⟨ta0, ta1, ta2, ta3⟩ := TA2.out.below yTA2 hB1.out
            have n4 := (TN.out.below yTN hB1.out).at 4 _ rfl
            have n5 := (TN.out.below yTN hB1.out).at 5 _ rfl
            by_cases hlti : i < L
            · have hiI : (i : Int) < (L : Int) := by omega
              by_cases hP : P ≤ hs
              · have hx := HRO.out h i hlt (by rw [HLL.out]; exact hlti) (by rw [hhs]; exact hP)
                rw [HLL.out] at hx
                obtain ⟨q0, hq0⟩ : ∃ q0, h * L = q0 := ⟨_, rfl⟩
                obtain ⟨h1, hh1⟩ : ∃ h1, h + 1 = h1 := ⟨_, rfl⟩
                obtain ⟨h2, hh2⟩ : ∃ h2, h + 2 = h2 := ⟨_, rfl⟩
                obtain ⟨q1, hq1⟩ : ∃ q1, h1 * L = q1 := ⟨_, rfl⟩
                obtain ⟨q2, hq2⟩ : ∃ q2, h2 * L = q2 := ⟨_, rfl⟩
                rw [hh1, hq0, hq1] at hx
                have hqm : q1 ≤ m1 := by
                  have := Nat.mul_le_mul_right L (show h1 ≤ a1 by omega)
                  have h3 := HM1.out
                  rw [HLL.out] at h3
                  omega
                have hqn : q2 ≤ N := by
                  have := Nat.mul_le_mul_right L (show h2 ≤ a1 + 1 by omega)
                  have h3 := HNL.out
                  omega
                have hq01 : q0 + L = q1 := by rw [← hq0, ← hq1, ← hh1, Nat.add_mul, Nat.one_mul]
                have hq12 : q1 + L = q2 := by rw [← hq1, ← hq2, ← hh2, ← hh1, Nat.add_mul, Nat.add_mul]; omega
                have i0 : (h : Int) * (L : Int) = (q0 : Int) := by rw [← hq0]; simp
                have i1 : (h1 : Int) * (L : Int) = (q1 : Int) := by rw [← hq1]; simp
                have i2 : (h2 : Int) * (L : Int) = (q2 : Int) := by rw [← hq2]; simp
                have f1 : IntKind.i64.wrap ((h : Int) + 1) = (h1 : Int) := by rw [IntWalk.i64_in _ (by omega)]; omega
                have f2 : IntKind.i64.wrap ((h : Int) + 2) = (h2 : Int) := by rw [IntWalk.i64_in _ (by omega)]; omega
                have r0 : IntKind.i64.wrap (q0 : Int) = (q0 : Int) := IntWalk.i64_in _ (by omega)
                have r1 : IntKind.i64.wrap (q1 : Int) = (q1 : Int) := IntWalk.i64_in _ (by omega)
                have r2 : IntKind.i64.wrap (q2 : Int) = (q2 : Int) := IntWalk.i64_in _ (by omega)
                obtain ⟨p0, hp0⟩ : ∃ p0, q0 + i = p0 := ⟨_, rfl⟩
                obtain ⟨p1, hp1⟩ : ∃ p1, q1 + i = p1 := ⟨_, rfl⟩
                have f3 : IntKind.i64.wrap ((q0 : Int) + (i : Int)) = (p0 : Int) := by rw [IntWalk.i64_in _ (by omega)]; omega
                have f4 : IntKind.i64.wrap ((q1 : Int) + (i : Int)) = (p1 : Int) := by rw [IntWalk.i64_in _ (by omega)]; omega
                have x0 : (0 : Int) ≤ (p0 : Int) := by omega
                have xI : (p0 : Int) < (m1 : Int) := by omega
                have z0' : (0 : Int) ≤ (p1 : Int) := by omega
                have zI : (p1 : Int) < (N : Int) := by omega
                have d1 : ¬ (m1 : Int) < (q1 : Int) := by omega
                have d2 : ¬ (N : Int) < (q2 : Int) := by omega
                have d3 : ¬ m1 < q1 := by omega
                have d4 : ¬ N < q2 := by omega
                have d5 : decide ((m1 : Int) < (q1 : Int)) = false := decide_eq_false d1
                have d6 : decide ((N : Int) < (q2 : Int)) = false := decide_eq_false d2
                have d7 : decide (m1 < q1) = false := decide_eq_false d3
                have d8 : decide (N < q2) = false := decide_eq_false d4
                rw [hp0, hp1] at hx
                obtain ⟨b5, o5, rfl, -, hc5⟩ := ints_getD (RA5.out.below hB1.out) (j := p0) (by have := HYL.out; omega)
                obtain ⟨b2, o2, rfl, -, hc2⟩ := ints_getD (RA2.out.below hB1.out) (j := p1) (by rw [rowL_len]; omega)
                have k5 := hc5 p0 (by have := HYL.out; omega)
                have k2 := hc2 p1 (by rw [rowL_len]; omega)
                rw [hx] at k5
                generalize (rowL F1 N).getD p1 0 = xv at k5 k2
                clear hc5 hc2 hq0 hq1 hq2 hh1 hh2 hqm hqn hq01 hq12 hp0 hp1 hx
                go_wp2_with fail
                refine wp_region_held_drew (S := fun w' => w'.cell? ⟨w2.heap.size, 3, none⟩ = some (.slice (some ⟨b2, o2, none⟩) N c2) ∧ w'.cell? ⟨g5, 3, none⟩ = some (.slice (some ⟨b5, o5, none⟩) m1 c5) ∧ w'.cell? ⟨b2, o2 + p1, none⟩ = some (.int .i32 xv) ∧ w'.cell? ⟨b5, o5 + p0, none⟩ = some (.int .i32 xv)) (by kernel_rfl) ⟨ta3, tb3, k2, k5⟩ (fun hHeld => ?_)
                refine wpAnyH_take (i := 0) (oi := ({ dst := some 118, op := Op.fieldAddr 36 (Operand.tmp 11) 1, type := 0, pos := "law.go:77", after := #[], guard := none } : Oper)) (v := ?_) rfl (by kernel_rfl) (by kernel_rfl) (by kernel_rfl) (fun _ _ _ h => h) (Or.inl ⟨by rfl, ?_⟩) (by assumption) ?_
                rotate_left
                · intro wS hSw
                  first
                    | (go_simp; done)
                    | (go_simp; with_reducible rfl)
                try simp only [Act.put, List.setIfInBounds_toArray, List.set_cons_zero, List.set_cons_succ]
                refine wpAnyH_take (i := 1) (oi := ({ dst := some 119, op := Op.load 28 (Operand.tmp 118), type := 28, pos := "law.go:77", after := #[{ on := 0, ground := Ground.data }], guard := none } : Oper)) (v := ?_) rfl (by kernel_rfl) (by kernel_rfl) (by kernel_rfl) (fun _ _ _ h => h) (Or.inl ⟨by rfl, ?_⟩) (by assumption) ?_
                rotate_left
                · intro wS hSw
                  obtain ⟨v1, v2, v3, v4⟩ := hSw
                  first
                    | (go_simp; done)
                    | (go_simp; with_reducible rfl)
                try simp only [Act.put, List.setIfInBounds_toArray, List.set_cons_zero, List.set_cons_succ]
                refine wpAnyH_take (i := 2) (oi := ({ dst := some 120, op := Op.call { callee := Callee.builtin Builtin.len, args := #[Operand.tmp 119], argTypes := #[28] }, type := 3, pos := "law.go:77", after := #[{ on := 1, ground := Ground.data }], guard := none } : Oper)) (v := ?_) rfl (by kernel_rfl) (by kernel_rfl) (by kernel_rfl) (fun _ _ _ h => h) (Or.inl ⟨by rfl, ?_⟩) (by assumption) ?_
                rotate_left
                · intro wS hSw
                  first
                    | (go_simp; done)
                    | (go_simp; with_reducible rfl)
                try simp only [Act.put, List.setIfInBounds_toArray, List.set_cons_zero, List.set_cons_succ]
                refine wpAnyH_take (i := 3) (oi := ({ dst := some 121, op := Op.move (Operand.tmp 14), type := 3, pos := "law.go:77", after := #[], guard := none } : Oper)) (v := ?_) rfl (by kernel_rfl) (by kernel_rfl) (by kernel_rfl) (fun _ _ _ h => h) (Or.inl ⟨by rfl, ?_⟩) (by assumption) ?_
                rotate_left
                · intro wS hSw
                  first
                    | (go_simp; done)
                    | (go_simp; with_reducible rfl)
                try simp only [Act.put, List.setIfInBounds_toArray, List.set_cons_zero, List.set_cons_succ]
                refine wpAnyH_take (i := 4) (oi := ({ dst := some 122, op := Op.binOp BinOp.add 3 (Operand.tmp 121) (Operand.const (Value.int IntKind.i64 1)) 3, type := 3, pos := "law.go:77", after := #[{ on := 3, ground := Ground.data }], guard := none } : Oper)) (v := ?_) rfl (by kernel_rfl) (by kernel_rfl) (by kernel_rfl) (fun _ _ _ h => h) (Or.inl ⟨by rfl, ?_⟩) (by assumption) ?_
                rotate_left
                · intro wS hSw
                  first
                    | (go_simp; done)
                    | (go_simp; with_reducible rfl)
                try simp only [Act.put, List.setIfInBounds_toArray, List.set_cons_zero, List.set_cons_succ]
                refine wpAnyH_take (i := 5) (oi := ({ dst := some 123, op := Op.move (Operand.tmp 13), type := 3, pos := "law.go:77", after := #[], guard := none } : Oper)) (v := ?_) rfl (by kernel_rfl) (by kernel_rfl) (by kernel_rfl) (fun _ _ _ h => h) (Or.inl ⟨by rfl, ?_⟩) (by assumption) ?_
                rotate_left
                · intro wS hSw
                  first
                    | (go_simp; done)
                    | (go_simp; with_reducible rfl)
                try simp only [Act.put, List.setIfInBounds_toArray, List.set_cons_zero, List.set_cons_succ]
                refine wpAnyH_take (i := 6) (oi := ({ dst := some 124, op := Op.binOp BinOp.mul 3 (Operand.tmp 122) (Operand.tmp 123) 3, type := 3, pos := "law.go:77", after := #[{ on := 4, ground := Ground.data }, { on := 5, ground := Ground.data }], guard := none } : Oper)) (v := ?_) rfl (by kernel_rfl) (by kernel_rfl) (by kernel_rfl) (fun _ _ _ h => h) (Or.inl ⟨by rfl, ?_⟩) (by assumption) ?_
                rotate_left
                · intro wS hSw
                  first
                    | (go_simp; done)
                    | (go_simp; with_reducible rfl)
                try simp only [Act.put, List.setIfInBounds_toArray, List.set_cons_zero, List.set_cons_succ]
                refine wpAnyH_take (i := 7) (oi := ({ dst := some 125, op := Op.binOp BinOp.lss 3 (Operand.tmp 120) (Operand.tmp 124) 3, type := 4, pos := "law.go:77", after := #[{ on := 2, ground := Ground.data }, { on := 6, ground := Ground.data }], guard := none } : Oper)) (v := ?_) rfl (by kernel_rfl) (by kernel_rfl) (by kernel_rfl) (fun _ _ _ h => h) (Or.inl ⟨by rfl, ?_⟩) (by assumption) ?_
                rotate_left
                · intro wS hSw
                  first
                    | (go_simp; done)
                    | (go_simp; with_reducible rfl)
                try simp only [Act.put, List.setIfInBounds_toArray, List.set_cons_zero, List.set_cons_succ]
                refine wpAnyH_take (i := 8) (oi := ({ dst := some 126, op := Op.move (Operand.tmp 125), type := 4, pos := "law.go:77", after := #[{ on := 7, ground := Ground.data }], guard := none } : Oper)) (v := ?_) rfl (by kernel_rfl) (by kernel_rfl) (by kernel_rfl) (fun _ _ _ h => h) (Or.inl ⟨by rfl, ?_⟩) (by assumption) ?_
                rotate_left
                · intro wS hSw
                  first
                    | (go_simp; done)
                    | (go_simp; with_reducible rfl)
                try simp only [Act.put, List.setIfInBounds_toArray, List.set_cons_zero, List.set_cons_succ]
                refine wpAnyH_take (i := 9) (oi := ({ dst := some 127, op := Op.fieldAddr 36 (Operand.tmp 5) 1, type := 0, pos := "law.go:77", after := #[{ on := 8, ground := Ground.guard }], guard := some (8, false) } : Oper)) (v := ?_) rfl (by kernel_rfl) (by kernel_rfl) (by kernel_rfl) (fun _ _ _ h => h) (Or.inl ⟨by rfl, ?_⟩) (by assumption) ?_
                rotate_left
                · intro wS hSw
                  first
                    | (go_simp; done)
                    | (go_simp; with_reducible rfl)
                try simp only [Act.put, List.setIfInBounds_toArray, List.set_cons_zero, List.set_cons_succ]
                refine wpAnyH_take (i := 10) (oi := ({ dst := some 128, op := Op.load 28 (Operand.tmp 127), type := 28, pos := "law.go:77", after := #[{ on := 9, ground := Ground.data }, { on := 8, ground := Ground.guard }], guard := some (8, false) } : Oper)) (v := ?_) rfl (by kernel_rfl) (by kernel_rfl) (by kernel_rfl) (fun _ _ _ h => h) (Or.inl ⟨by rfl, ?_⟩) (by assumption) ?_
                rotate_left
                · intro wS hSw
                  obtain ⟨v1, v2, v3, v4⟩ := hSw
                  first
                    | (go_simp; done)
                    | (go_simp; with_reducible rfl)
                try simp only [Act.put, List.setIfInBounds_toArray, List.set_cons_zero, List.set_cons_succ]
                refine wpAnyH_take (i := 11) (oi := ({ dst := some 129, op := Op.call { callee := Callee.builtin Builtin.len, args := #[Operand.tmp 128], argTypes := #[28] }, type := 3, pos := "law.go:77", after := #[{ on := 10, ground := Ground.data }, { on := 8, ground := Ground.guard }], guard := some (8, false) } : Oper)) (v := ?_) rfl (by kernel_rfl) (by kernel_rfl) (by kernel_rfl) (fun _ _ _ h => h) (Or.inl ⟨by rfl, ?_⟩) (by assumption) ?_
                rotate_left
                · intro wS hSw
                  first
                    | (go_simp; done)
                    | (go_simp; with_reducible rfl)
                try simp only [Act.put, List.setIfInBounds_toArray, List.set_cons_zero, List.set_cons_succ]
                refine wpAnyH_take (i := 12) (oi := ({ dst := some 130, op := Op.move (Operand.tmp 14), type := 3, pos := "law.go:77", after := #[{ on := 8, ground := Ground.guard }], guard := some (8, false) } : Oper)) (v := ?_) rfl (by kernel_rfl) (by kernel_rfl) (by kernel_rfl) (fun _ _ _ h => h) (Or.inl ⟨by rfl, ?_⟩) (by assumption) ?_
                rotate_left
                · intro wS hSw
                  first
                    | (go_simp; done)
                    | (go_simp; with_reducible rfl)
                try simp only [Act.put, List.setIfInBounds_toArray, List.set_cons_zero, List.set_cons_succ]
                refine wpAnyH_take (i := 13) (oi := ({ dst := some 131, op := Op.binOp BinOp.add 3 (Operand.tmp 130) (Operand.const (Value.int IntKind.i64 2)) 3, type := 3, pos := "law.go:77", after := #[{ on := 12, ground := Ground.data }, { on := 8, ground := Ground.guard }], guard := some (8, false) } : Oper)) (v := ?_) rfl (by kernel_rfl) (by kernel_rfl) (by kernel_rfl) (fun _ _ _ h => h) (Or.inl ⟨by rfl, ?_⟩) (by assumption) ?_
                rotate_left
                · intro wS hSw
                  first
                    | (go_simp; done)
                    | (go_simp; with_reducible rfl)
                try simp only [Act.put, List.setIfInBounds_toArray, List.set_cons_zero, List.set_cons_succ]
                refine wpAnyH_take (i := 14) (oi := ({ dst := some 132, op := Op.move (Operand.tmp 13), type := 3, pos := "law.go:77", after := #[{ on := 8, ground := Ground.guard }], guard := some (8, false) } : Oper)) (v := ?_) rfl (by kernel_rfl) (by kernel_rfl) (by kernel_rfl) (fun _ _ _ h => h) (Or.inl ⟨by rfl, ?_⟩) (by assumption) ?_
                rotate_left
                · intro wS hSw
                  first
                    | (go_simp; done)
                    | (go_simp; with_reducible rfl)
                try simp only [Act.put, List.setIfInBounds_toArray, List.set_cons_zero, List.set_cons_succ]
                refine wpAnyH_take (i := 15) (oi := ({ dst := some 133, op := Op.binOp BinOp.mul 3 (Operand.tmp 131) (Operand.tmp 132) 3, type := 3, pos := "law.go:77", after := #[{ on := 13, ground := Ground.data }, { on := 14, ground := Ground.data }, { on := 8, ground := Ground.guard }], guard := some (8, false) } : Oper)) (v := ?_) rfl (by kernel_rfl) (by kernel_rfl) (by kernel_rfl) (fun _ _ _ h => h) (Or.inl ⟨by rfl, ?_⟩) (by assumption) ?_
                rotate_left
                · intro wS hSw
                  first
                    | (go_simp; done)
                    | (go_simp; with_reducible rfl)
                try simp only [Act.put, List.setIfInBounds_toArray, List.set_cons_zero, List.set_cons_succ]
                refine wpAnyH_take (i := 16) (oi := ({ dst := some 134, op := Op.binOp BinOp.lss 3 (Operand.tmp 129) (Operand.tmp 133) 3, type := 4, pos := "law.go:77", after := #[{ on := 11, ground := Ground.data }, { on := 15, ground := Ground.data }, { on := 8, ground := Ground.guard }], guard := some (8, false) } : Oper)) (v := ?_) rfl (by kernel_rfl) (by kernel_rfl) (by kernel_rfl) (fun _ _ _ h => h) (Or.inl ⟨by rfl, ?_⟩) (by assumption) ?_
                rotate_left
                · intro wS hSw
                  first
                    | (go_simp; done)
                    | (go_simp; with_reducible rfl)
                try simp only [Act.put, List.setIfInBounds_toArray, List.set_cons_zero, List.set_cons_succ]
                refine wpAnyH_take (i := 17) (oi := ({ dst := some 135, op := Op.pick (Operand.tmp 126) (Operand.const (Value.bool true)) (Operand.tmp 134), type := 4, pos := "law.go:77", after := #[{ on := 8, ground := Ground.data }, { on := 16, ground := Ground.data }], guard := none } : Oper)) (v := ?_) rfl (by kernel_rfl) (by kernel_rfl) (by kernel_rfl) (fun _ _ _ h => h) (Or.inl ⟨by rfl, ?_⟩) (by assumption) ?_
                rotate_left
                · intro wS hSw
                  first
                    | (go_simp; done)
                    | (go_simp; with_reducible rfl)
                try simp only [Act.put, List.setIfInBounds_toArray, List.set_cons_zero, List.set_cons_succ]
                refine wpAnyH_take (i := 18) (oi := ({ dst := some 136, op := Op.move (Operand.tmp 135), type := 4, pos := "law.go:77", after := #[{ on := 17, ground := Ground.data }, { on := 8, ground := Ground.chain }], guard := none } : Oper)) (v := ?_) rfl (by kernel_rfl) (by kernel_rfl) (by kernel_rfl) (fun _ _ _ h => h) (Or.inl ⟨by rfl, ?_⟩) (by assumption) ?_
                rotate_left
                · intro wS hSw
                  first
                    | (go_simp; done)
                    | (go_simp; with_reducible rfl)
                try simp only [Act.put, List.setIfInBounds_toArray, List.set_cons_zero, List.set_cons_succ]
                refine wpAnyH_take (i := 19) (oi := ({ dst := some 137, op := Op.fieldAddr 36 (Operand.tmp 11) 1, type := 0, pos := "law.go:77", after := #[{ on := 18, ground := Ground.guard }], guard := some (18, false) } : Oper)) (v := ?_) rfl (by kernel_rfl) (by kernel_rfl) (by kernel_rfl) (fun _ _ _ h => h) (Or.inl ⟨by rfl, ?_⟩) (by assumption) ?_
                rotate_left
                · intro wS hSw
                  first
                    | (go_simp; done)
                    | (go_simp; with_reducible rfl)
                try simp only [Act.put, List.setIfInBounds_toArray, List.set_cons_zero, List.set_cons_succ]
                refine wpAnyH_take (i := 20) (oi := ({ dst := some 138, op := Op.load 28 (Operand.tmp 137), type := 28, pos := "law.go:77", after := #[{ on := 19, ground := Ground.data }, { on := 18, ground := Ground.guard }], guard := some (18, false) } : Oper)) (v := ?_) rfl (by kernel_rfl) (by kernel_rfl) (by kernel_rfl) (fun _ _ _ h => h) (Or.inl ⟨by rfl, ?_⟩) (by assumption) ?_
                rotate_left
                · intro wS hSw
                  obtain ⟨v1, v2, v3, v4⟩ := hSw
                  first
                    | (go_simp; done)
                    | (go_simp; with_reducible rfl)
                try simp only [Act.put, List.setIfInBounds_toArray, List.set_cons_zero, List.set_cons_succ]
                refine wpAnyH_take (i := 21) (oi := ({ dst := some 139, op := Op.move (Operand.tmp 14), type := 3, pos := "law.go:77", after := #[{ on := 18, ground := Ground.guard }], guard := some (18, false) } : Oper)) (v := ?_) rfl (by kernel_rfl) (by kernel_rfl) (by kernel_rfl) (fun _ _ _ h => h) (Or.inl ⟨by rfl, ?_⟩) (by assumption) ?_
                rotate_left
                · intro wS hSw
                  first
                    | (go_simp; done)
                    | (go_simp; with_reducible rfl)
                try simp only [Act.put, List.setIfInBounds_toArray, List.set_cons_zero, List.set_cons_succ]
                refine wpAnyH_take (i := 22) (oi := ({ dst := some 140, op := Op.move (Operand.tmp 13), type := 3, pos := "law.go:77", after := #[{ on := 18, ground := Ground.guard }], guard := some (18, false) } : Oper)) (v := ?_) rfl (by kernel_rfl) (by kernel_rfl) (by kernel_rfl) (fun _ _ _ h => h) (Or.inl ⟨by rfl, ?_⟩) (by assumption) ?_
                rotate_left
                · intro wS hSw
                  first
                    | (go_simp; done)
                    | (go_simp; with_reducible rfl)
                try simp only [Act.put, List.setIfInBounds_toArray, List.set_cons_zero, List.set_cons_succ]
                refine wpAnyH_take (i := 23) (oi := ({ dst := some 141, op := Op.binOp BinOp.mul 3 (Operand.tmp 139) (Operand.tmp 140) 3, type := 3, pos := "law.go:77", after := #[{ on := 21, ground := Ground.data }, { on := 22, ground := Ground.data }, { on := 18, ground := Ground.guard }], guard := some (18, false) } : Oper)) (v := ?_) rfl (by kernel_rfl) (by kernel_rfl) (by kernel_rfl) (fun _ _ _ h => h) (Or.inl ⟨by rfl, ?_⟩) (by assumption) ?_
                rotate_left
                · intro wS hSw
                  first
                    | (go_simp; done)
                    | (go_simp; with_reducible rfl)
                try simp only [Act.put, List.setIfInBounds_toArray, List.set_cons_zero, List.set_cons_succ]
                refine wpAnyH_take (i := 24) (oi := ({ dst := some 142, op := Op.move (Operand.tmp 15), type := 3, pos := "law.go:77", after := #[{ on := 18, ground := Ground.guard }], guard := some (18, false) } : Oper)) (v := ?_) rfl (by kernel_rfl) (by kernel_rfl) (by kernel_rfl) (fun _ _ _ h => h) (Or.inl ⟨by rfl, ?_⟩) (by assumption) ?_
                rotate_left
                · intro wS hSw
                  first
                    | (go_simp; done)
                    | (go_simp; with_reducible rfl)
                try simp only [Act.put, List.setIfInBounds_toArray, List.set_cons_zero, List.set_cons_succ]
                refine wpAnyH_take (i := 25) (oi := ({ dst := some 143, op := Op.binOp BinOp.add 3 (Operand.tmp 141) (Operand.tmp 142) 3, type := 3, pos := "law.go:77", after := #[{ on := 23, ground := Ground.data }, { on := 24, ground := Ground.data }, { on := 18, ground := Ground.guard }], guard := some (18, false) } : Oper)) (v := ?_) rfl (by kernel_rfl) (by kernel_rfl) (by kernel_rfl) (fun _ _ _ h => h) (Or.inl ⟨by rfl, ?_⟩) (by assumption) ?_
                rotate_left
                · intro wS hSw
                  first
                    | (go_simp; done)
                    | (go_simp; with_reducible rfl)
                try simp only [Act.put, List.setIfInBounds_toArray, List.set_cons_zero, List.set_cons_succ]
                refine wpAnyH_take (i := 26) (oi := ({ dst := some 144, op := Op.indexAddr 28 (Operand.tmp 138) (Operand.tmp 143), type := 0, pos := "law.go:77", after := #[{ on := 20, ground := Ground.data }, { on := 25, ground := Ground.data }, { on := 18, ground := Ground.guard }], guard := some (18, false) } : Oper)) (v := ?_) rfl (by kernel_rfl) (by kernel_rfl) (by kernel_rfl) (fun _ _ _ h => h) (Or.inl ⟨by rfl, ?_⟩) (by assumption) ?_
                rotate_left
                · intro wS hSw
                  first
                    | (go_simp; done)
                    | (go_simp; with_reducible rfl)
                try simp only [Act.put, List.setIfInBounds_toArray, List.set_cons_zero, List.set_cons_succ]
                refine wpAnyH_take (i := 27) (oi := ({ dst := some 145, op := Op.load 21 (Operand.tmp 144), type := 21, pos := "law.go:77", after := #[{ on := 26, ground := Ground.data }, { on := 18, ground := Ground.guard }], guard := some (18, false) } : Oper)) (v := ?_) rfl (by kernel_rfl) (by kernel_rfl) (by kernel_rfl) (fun _ _ _ h => h) (Or.inl ⟨by rfl, ?_⟩) (by assumption) ?_
                rotate_left
                · intro wS hSw
                  obtain ⟨v1, v2, v3, v4⟩ := hSw
                  first
                    | (go_simp; done)
                    | (go_simp; with_reducible rfl)
                try simp only [Act.put, List.setIfInBounds_toArray, List.set_cons_zero, List.set_cons_succ]
                refine wpAnyH_take (i := 28) (oi := ({ dst := some 146, op := Op.fieldAddr 36 (Operand.tmp 5) 1, type := 0, pos := "law.go:77", after := #[{ on := 18, ground := Ground.guard }], guard := some (18, false) } : Oper)) (v := ?_) rfl (by kernel_rfl) (by kernel_rfl) (by kernel_rfl) (fun _ _ _ h => h) (Or.inl ⟨by rfl, ?_⟩) (by assumption) ?_
                rotate_left
                · intro wS hSw
                  first
                    | (go_simp; done)
                    | (go_simp; with_reducible rfl)
                try simp only [Act.put, List.setIfInBounds_toArray, List.set_cons_zero, List.set_cons_succ]
                refine wpAnyH_take (i := 29) (oi := ({ dst := some 147, op := Op.load 28 (Operand.tmp 146), type := 28, pos := "law.go:77", after := #[{ on := 28, ground := Ground.data }, { on := 18, ground := Ground.guard }], guard := some (18, false) } : Oper)) (v := ?_) rfl (by kernel_rfl) (by kernel_rfl) (by kernel_rfl) (fun _ _ _ h => h) (Or.inl ⟨by rfl, ?_⟩) (by assumption) ?_
                rotate_left
                · intro wS hSw
                  obtain ⟨v1, v2, v3, v4⟩ := hSw
                  first
                    | (go_simp; done)
                    | (go_simp; with_reducible rfl)
                try simp only [Act.put, List.setIfInBounds_toArray, List.set_cons_zero, List.set_cons_succ]
                refine wpAnyH_take (i := 30) (oi := ({ dst := some 148, op := Op.move (Operand.tmp 14), type := 3, pos := "law.go:77", after := #[{ on := 18, ground := Ground.guard }], guard := some (18, false) } : Oper)) (v := ?_) rfl (by kernel_rfl) (by kernel_rfl) (by kernel_rfl) (fun _ _ _ h => h) (Or.inl ⟨by rfl, ?_⟩) (by assumption) ?_
                rotate_left
                · intro wS hSw
                  first
                    | (go_simp; done)
                    | (go_simp; with_reducible rfl)
                try simp only [Act.put, List.setIfInBounds_toArray, List.set_cons_zero, List.set_cons_succ]
                refine wpAnyH_take (i := 31) (oi := ({ dst := some 149, op := Op.binOp BinOp.add 3 (Operand.tmp 148) (Operand.const (Value.int IntKind.i64 1)) 3, type := 3, pos := "law.go:77", after := #[{ on := 30, ground := Ground.data }, { on := 18, ground := Ground.guard }], guard := some (18, false) } : Oper)) (v := ?_) rfl (by kernel_rfl) (by kernel_rfl) (by kernel_rfl) (fun _ _ _ h => h) (Or.inl ⟨by rfl, ?_⟩) (by assumption) ?_
                rotate_left
                · intro wS hSw
                  first
                    | (go_simp; done)
                    | (go_simp; with_reducible rfl)
                try simp only [Act.put, List.setIfInBounds_toArray, List.set_cons_zero, List.set_cons_succ]
                refine wpAnyH_take (i := 32) (oi := ({ dst := some 150, op := Op.move (Operand.tmp 13), type := 3, pos := "law.go:77", after := #[{ on := 18, ground := Ground.guard }], guard := some (18, false) } : Oper)) (v := ?_) rfl (by kernel_rfl) (by kernel_rfl) (by kernel_rfl) (fun _ _ _ h => h) (Or.inl ⟨by rfl, ?_⟩) (by assumption) ?_
                rotate_left
                · intro wS hSw
                  first
                    | (go_simp; done)
                    | (go_simp; with_reducible rfl)
                try simp only [Act.put, List.setIfInBounds_toArray, List.set_cons_zero, List.set_cons_succ]
                refine wpAnyH_take (i := 33) (oi := ({ dst := some 151, op := Op.binOp BinOp.mul 3 (Operand.tmp 149) (Operand.tmp 150) 3, type := 3, pos := "law.go:77", after := #[{ on := 31, ground := Ground.data }, { on := 32, ground := Ground.data }, { on := 18, ground := Ground.guard }], guard := some (18, false) } : Oper)) (v := ?_) rfl (by kernel_rfl) (by kernel_rfl) (by kernel_rfl) (fun _ _ _ h => h) (Or.inl ⟨by rfl, ?_⟩) (by assumption) ?_
                rotate_left
                · intro wS hSw
                  first
                    | (go_simp; done)
                    | (go_simp; with_reducible rfl)
                try simp only [Act.put, List.setIfInBounds_toArray, List.set_cons_zero, List.set_cons_succ]
                refine wpAnyH_take (i := 34) (oi := ({ dst := some 152, op := Op.move (Operand.tmp 15), type := 3, pos := "law.go:77", after := #[{ on := 18, ground := Ground.guard }], guard := some (18, false) } : Oper)) (v := ?_) rfl (by kernel_rfl) (by kernel_rfl) (by kernel_rfl) (fun _ _ _ h => h) (Or.inl ⟨by rfl, ?_⟩) (by assumption) ?_
                rotate_left
                · intro wS hSw
                  first
                    | (go_simp; done)
                    | (go_simp; with_reducible rfl)
                try simp only [Act.put, List.setIfInBounds_toArray, List.set_cons_zero, List.set_cons_succ]
                refine wpAnyH_take (i := 35) (oi := ({ dst := some 153, op := Op.binOp BinOp.add 3 (Operand.tmp 151) (Operand.tmp 152) 3, type := 3, pos := "law.go:77", after := #[{ on := 33, ground := Ground.data }, { on := 34, ground := Ground.data }, { on := 18, ground := Ground.guard }], guard := some (18, false) } : Oper)) (v := ?_) rfl (by kernel_rfl) (by kernel_rfl) (by kernel_rfl) (fun _ _ _ h => h) (Or.inl ⟨by rfl, ?_⟩) (by assumption) ?_
                rotate_left
                · intro wS hSw
                  first
                    | (go_simp; done)
                    | (go_simp; with_reducible rfl)
                try simp only [Act.put, List.setIfInBounds_toArray, List.set_cons_zero, List.set_cons_succ]
                refine wpAnyH_take (i := 36) (oi := ({ dst := some 154, op := Op.indexAddr 28 (Operand.tmp 147) (Operand.tmp 153), type := 0, pos := "law.go:77", after := #[{ on := 29, ground := Ground.data }, { on := 35, ground := Ground.data }, { on := 18, ground := Ground.guard }], guard := some (18, false) } : Oper)) (v := ?_) rfl (by kernel_rfl) (by kernel_rfl) (by kernel_rfl) (fun _ _ _ h => h) (Or.inl ⟨by rfl, ?_⟩) (by assumption) ?_
                rotate_left
                · intro wS hSw
                  first
                    | (go_simp; done)
                    | (go_simp; with_reducible rfl)
                try simp only [Act.put, List.setIfInBounds_toArray, List.set_cons_zero, List.set_cons_succ]
                refine wpAnyH_take (i := 37) (oi := ({ dst := some 155, op := Op.load 21 (Operand.tmp 154), type := 21, pos := "law.go:77", after := #[{ on := 36, ground := Ground.data }, { on := 18, ground := Ground.guard }], guard := some (18, false) } : Oper)) (v := ?_) rfl (by kernel_rfl) (by kernel_rfl) (by kernel_rfl) (fun _ _ _ h => h) (Or.inl ⟨by rfl, ?_⟩) (by assumption) ?_
                rotate_left
                · intro wS hSw
                  obtain ⟨v1, v2, v3, v4⟩ := hSw
                  first
                    | (go_simp; done)
                    | (go_simp; with_reducible rfl)
                try simp only [Act.put, List.setIfInBounds_toArray, List.set_cons_zero, List.set_cons_succ]
                refine wpAnyH_take (i := 38) (oi := ({ dst := some 156, op := Op.binOp BinOp.neq 21 (Operand.tmp 145) (Operand.tmp 155) 21, type := 4, pos := "law.go:77", after := #[{ on := 27, ground := Ground.data }, { on := 37, ground := Ground.data }, { on := 18, ground := Ground.guard }], guard := some (18, false) } : Oper)) (v := ?_) rfl (by kernel_rfl) (by kernel_rfl) (by kernel_rfl) (fun _ _ _ h => h) (Or.inl ⟨by rfl, ?_⟩) (by assumption) ?_
                rotate_left
                · intro wS hSw
                  first
                    | (go_simp; done)
                    | (go_simp; with_reducible rfl)
                try simp only [Act.put, List.setIfInBounds_toArray, List.set_cons_zero, List.set_cons_succ]
                refine wpAnyH_take (i := 39) (oi := ({ dst := some 157, op := Op.pick (Operand.tmp 136) (Operand.const (Value.bool true)) (Operand.tmp 156), type := 4, pos := "law.go:77", after := #[{ on := 18, ground := Ground.data }, { on := 38, ground := Ground.data }], guard := none } : Oper)) (v := ?_) rfl (by kernel_rfl) (by kernel_rfl) (by kernel_rfl) (fun _ _ _ h => h) (Or.inl ⟨by rfl, ?_⟩) (by assumption) ?_
                rotate_left
                · intro wS hSw
                  first
                    | (go_simp; done)
                    | (go_simp; with_reducible rfl)
                try simp only [Act.put, List.setIfInBounds_toArray, List.set_cons_zero, List.set_cons_succ]
                refine wpAnyH_done (by kernel_rfl) ?_ _
                clear hHeld
                go_wp2_with fail
                go_roundw
                case rel => exact ⟨i + 1, by omega, by go_num, Lib.hid hB1.out.drew⟩
                case measure => simp [intOf]; omega
              · have hP2 : ¬ P ≤ hs := hP
                go_wp2_with fail
                go_roundw
                case rel => exact ⟨h + 1, by omega, by go_num, hB1⟩
                case measure => simp [intOf]; omega
            · obtain rfl : i = L := by omega
              go_wp2_with fail
              go_roundw
              case rel => exact ⟨h + 1, by omega, by go_num, hB1⟩
              case measure => simp [intOf]; omega
        · obtain rfl : h = a1 := by omega
          go_wp2_with (go_at_call 6; (refine (known10 _).mono ?_); rintro e w7 ⟨rfl, hb⟩; (have HB := Lib.hid ((HBW.out.trans (hB0.out.mono HBW.out.size)).trans (hb.mono (Nat.le_trans HBW.out.size hB0.out.size)))); clear hb)
          go_ret
          exact ⟨rfl, HB.out⟩
    exact AllReadyH.nil
  refine AllReadyH.cons (o := ({ dst := some 10, op := Op.alloc 26, type := 0, pos := "law.go:69", after := #[], guard := none } : Oper)) rfl (fun Kq hK => ?_) ?_
  · have hbs : Below z0 Wa (Wa.alloc (.cells #[.int .i64 0, .int .i64 0, .int .i64 0, .slice none 0 0] 26)) := (Below.refl _ _).alloc (by have := HBZ.out.size; have := HZ0.out; omega) _
    have hS1 : ShapeAt (w3.heap.size + 1) H W C _ ∧ BoxAt w.heap.size H W C (some ⟨bz, oz, none⟩) n c _ ∧ NodeAt (w.heap.size + 1) x0 x1 x2 x8 x11 x12 x13 x14 x15 x16 x17 x18 K S P O Z WA BA nW cW nB cB _ := ⟨hHeld.1.below (B' := z0) yg hbs, hHeld.2.1.below (B' := z0) yTB hbs, hHeld.2.2.below (B' := z0) yTN hbs⟩
    go_simp
    refine hK.out _ _ ?_ (fun hHeld => ?_)
    · exact hS1
    clear hK Kq
    try simp only [Act.put, List.setIfInBounds_toArray, List.set_cons_zero, List.set_cons_succ]
    clear hS1
    have FU : Hid (FreshT Wa.heap.size (Wa.alloc (.cells #[.int .i64 0, .int .i64 0, .int .i64 0, .slice none 0 0] 26))) := Lib.hid (freshNew 26 Wa)
    have yU : Wa.heap.size < (Wa.alloc (.cells #[.int .i64 0, .int .i64 0, .int .i64 0, .slice none 0 0] 26)).heap.size := by simp
    have yzu : z0 ≤ Wa.heap.size := (by have := HBZ.out.size; have := HZ0.out; omega)
    replace HBZ := Lib.hid (HBZ.out.trans hbs)
    clear hbs
    generalize Wa.alloc (.cells #[.int .i64 0, .int .i64 0, .int .i64 0, .slice none 0 0] 26) = Wy0 at FU yU HBZ hHeld   ⊢
    generalize Wa.heap.size = gu at FU yU yzu   ⊢
    refine wpAnyH_ready (rs := [10]) (by kernel_rfl) (by simp) ?_
    refine AllReadyH.cons (o := ({ dst := some 61, op := Op.buildSlice 24 0 #[], type := 24, pos := "law.go:69", after := #[], guard := none } : Oper)) rfl (fun Kq hK => ?_) (AllReadyH.nil)
    have hbs : Below z0 Wy0 (Wy0.alloc (.cells #[] 27)) := (Below.refl _ _).alloc (by have := HBZ.out.size; have := HZ0.out; omega) _
    have hS1 : ShapeAt (w3.heap.size + 1) H W C _ ∧ BoxAt w.heap.size H W C (some ⟨bz, oz, none⟩) n c _ ∧ NodeAt (w.heap.size + 1) x0 x1 x2 x8 x11 x12 x13 x14 x15 x16 x17 x18 K S P O Z WA BA nW cW nB cB _ := ⟨hHeld.1.below (B' := z0) yg hbs, hHeld.2.1.below (B' := z0) yTB hbs, hHeld.2.2.below (B' := z0) yTN hbs⟩
    go_simp
    refine hK.out _ _ ?_ (fun hHeld => ?_)
    · exact hS1
    clear hK Kq
    try simp only [Act.put, List.setIfInBounds_toArray, List.set_cons_zero, List.set_cons_succ]
    clear hS1
    have HO : Hid ((Wy0.alloc (.cells #[] 27)).ownsRow z0 27 1 (.slice (some ⟨Wy0.heap.size, 0, none⟩) 0 0) 0 []) := Lib.hid (World.ownsRow_made (e := 27) Wy0 #[] 0 (by have := HBZ.out.size; have := HZ0.out; omega) (by unfold maxLen; omega) (by simp))
    have hgB : gu ≠ Wy0.heap.size := by omega
    replace FU := Lib.hid (FU.out.below yU ((Below.refl Wy0.heap.size Wy0).alloc (Nat.le_refl _) (.cells #[] 27)))
    replace yU : gu < (Wy0.alloc (.cells #[] 27)).heap.size := by simp; omega
    replace HBZ := Lib.hid (HBZ.out.trans hbs)
    have ysB : Wy0.heap.size < (Wy0.alloc (.cells #[] 27)).heap.size := by simp
    clear hbs
    generalize Wy0.alloc (.cells #[] 27) = Wy1 at HO HBZ hHeld ysB FU yU ⊢
    generalize Wy0.heap.size = gB at HO ysB hgB ⊢
    refine wpAnyH_ready (rs := [22]) (by kernel_rfl) (by simp) ?_
    refine AllReadyH.cons (o := ({ dst := some 73, op := Op.call { callee := Callee.builtin Builtin.append, args := #[Operand.tmp 61, Operand.tmp 72], argTypes := #[24, 24] }, type := 24, pos := "law.go:69", after := #[{ on := 10, ground := Ground.data }, { on := 21, ground := Ground.data }], guard := none } : Oper)) rfl (fun Kq hK => ?_) (AllReadyH.nil)
    refine Kit.step_append_rd _ rfl (.tmp 61) (.tmp 72) _ rfl z0 27 i8 (.int .i8 0) 1 1 Try.underlying24 hi0 hi1 hi2 hi3 rfl (by decide) _ 0 [] rfl HO.out z0 (some ⟨bz, oz + sn, none⟩) (n - sn) (c - sn) (I8s (zs.drop sn)) rfl (by have := HLN.out; simp [I8s]; omega) (HDR.out.below HBZ.out) (Kit.ints_one .i8 _) (by unfold maxLen; omega) (by omega) (by have := HBZ.out.size; have := HZ0.out; omega) ?_
    intro v4 w4 hown4 hg4 hor4
    rw [Nat.zero_add, List.nil_append] at hown4
    have hbs : Below z0 Wy1 w4 := (Below.refl _ _).grown hg4 (by have := HBZ.out.size; have := HZ0.out; omega) (Kit.own_block_ge HO.out)
    have hS1 : ShapeAt (w3.heap.size + 1) H W C _ ∧ BoxAt w.heap.size H W C (some ⟨bz, oz, none⟩) n c _ ∧ NodeAt (w.heap.size + 1) x0 x1 x2 x8 x11 x12 x13 x14 x15 x16 x17 x18 K S P O Z WA BA nW cW nB cB _ := ⟨hHeld.1.below (B' := z0) yg hbs, hHeld.2.1.below (B' := z0) yTB hbs, hHeld.2.2.below (B' := z0) yTN hbs⟩
    have HO4 := Lib.hid hown4
    replace FU := Lib.hid (FU.out.grown yU (fun e => hgB (by injection e)) hg4)
    have hgP : v4.ownBlock ≠ some gu := fun e2 => by rcases (show v4.ownBlock = some gB ∨ v4.ownBlock = some Wy1.heap.size from hor4) with e | e <;> (rw [e] at e2; injection e2 with e3; omega)
    replace yU := Nat.lt_of_lt_of_le yU hbs.size
    replace HBZ := Lib.hid (HBZ.out.trans hbs)
    clear hown4 hg4 hor4 hbs HO ysB
    obtain ⟨A4, c4, rfl, hc4, -, -⟩ := Kit.own_rd HO4.out
    dsimp only
    refine hK.out _ _ ?_ (fun hHeld => ?_)
    · exact hS1
    clear hK Kq
    try simp only [Act.put, List.setIfInBounds_toArray, List.set_cons_zero, List.set_cons_succ]
    clear hS1
    refine wpAnyH_take (i := 23) (oi := ({ dst := some 74, op := Op.build 26 #[(0, Operand.tmp 60), (1, Operand.tmp 73)], type := 26, pos := "law.go:69", after := #[{ on := 9, ground := Ground.data }, { on := 22, ground := Ground.data }], guard := none } : Oper)) (v := ?_) rfl (by kernel_rfl) (by kernel_rfl) (by kernel_rfl) (fun _ _ _ h => h) (Or.inl ⟨by rfl, ?_⟩) (by assumption) ?_
    rotate_left
    · intro wS hSw
      first
        | (go_simp; done)
        | (go_simp; with_reducible rfl)
    try simp only [Act.put, List.setIfInBounds_toArray, List.set_cons_zero, List.set_cons_succ]
    have hbs : Below z0 w4 ((((w4.setCell ⟨gu, 0, none⟩ (.int .i64 (H - S))).setCell ⟨gu, 1, none⟩ (.int .i64 W)).setCell ⟨gu, 2, none⟩ (.int .i64 C)).setCell ⟨gu, 3, none⟩ (.slice A4 (n - sn) c4)) := ((((Below.refl _ _).setCell (p := ⟨gu, 0, none⟩) yzu _).setCell (p := ⟨gu, 1, none⟩) yzu _).setCell (p := ⟨gu, 2, none⟩) yzu _).setCell (p := ⟨gu, 3, none⟩) yzu _
    have hS1 : ShapeAt (w3.heap.size + 1) H W C _ ∧ BoxAt w.heap.size H W C (some ⟨bz, oz, none⟩) n c _ ∧ NodeAt (w.heap.size + 1) x0 x1 x2 x8 x11 x12 x13 x14 x15 x16 x17 x18 K S P O Z WA BA nW cW nB cB _ := ⟨hHeld.1.below (B' := z0) yg hbs, hHeld.2.1.below (B' := z0) yTB hbs, hHeld.2.2.below (B' := z0) yTN hbs⟩
    have TU : Hid (BoxAt gu (H - S) W C A4 (n - sn) c4 ((((w4.setCell ⟨gu, 0, none⟩ (.int .i64 (H - S))).setCell ⟨gu, 1, none⟩ (.int .i64 W)).setCell ⟨gu, 2, none⟩ (.int .i64 C)).setCell ⟨gu, 3, none⟩ (.slice A4 (n - sn) c4))) := Lib.hid (FU.out.boxed _ _ _ _ _ _)
    have RU := Lib.hid (own_rd' (own_ne4 (x := .int .i64 (H - S)) (y := .int .i64 W) (z := .int .i64 C) (u := .slice A4 (n - sn) c4) HO4.out hgP))
    have zU : gu < ((((w4.setCell ⟨gu, 0, none⟩ (.int .i64 (H - S))).setCell ⟨gu, 1, none⟩ (.int .i64 W)).setCell ⟨gu, 2, none⟩ (.int .i64 C)).setCell ⟨gu, 3, none⟩ (.slice A4 (n - sn) c4)).heap.size := by simpa using yU
    obtain ⟨⟨fz0, fz1, fz2, fz3⟩, fz4, fz5, fz6, fz7⟩ := FU.out
    replace HBZ := Lib.hid (HBZ.out.trans hbs)
    clear hbs FU HO4 hgP yU
    refine wpAnyH_ready (rs := [25]) (by kernel_rfl) (by simp) ?_
    refine AllReadyH.cons (o := ({ dst := none, op := Op.store 26 (Operand.tmp 10) (Operand.tmp 74), type := 0, pos := "law.go:69", after := #[{ on := 24, ground := Ground.data }, { on := 23, ground := Ground.data }, { on := 22, ground := Ground.chain }, { on := 0, ground := Ground.phase }, { on := 1, ground := Ground.phase }, { on := 2, ground := Ground.phase }, { on := 3, ground := Ground.phase }, { on := 4, ground := Ground.phase }, { on := 5, ground := Ground.phase }, { on := 6, ground := Ground.phase }, { on := 7, ground := Ground.phase }, { on := 8, ground := Ground.phase }, { on := 9, ground := Ground.phase }, { on := 10, ground := Ground.phase }, { on := 11, ground := Ground.phase }, { on := 12, ground := Ground.phase }, { on := 13, ground := Ground.phase }, { on := 14, ground := Ground.phase }, { on := 15, ground := Ground.phase }, { on := 16, ground := Ground.phase }, { on := 17, ground := Ground.phase }, { on := 18, ground := Ground.phase }, { on := 19, ground := Ground.phase }, { on := 20, ground := Ground.phase }, { on := 21, ground := Ground.phase }, { on := 22, ground := Ground.phase }, { on := 23, ground := Ground.phase }, { on := 24, ground := Ground.phase }], guard := none } : Oper)) rfl (fun Kq hK => ?_) (AllReadyH.nil)
    go_simp
    refine hK.out _ _ ?_ (fun hHeld => ?_)
    · exact hS1
    clear hK Kq
    try simp only [Act.put, List.setIfInBounds_toArray, List.set_cons_zero, List.set_cons_succ]
    clear hS1 hHeld fz0 fz1 fz2 fz3 fz4 fz5 fz6 fz7
    refine wpAnyH_done (by kernel_rfl) ?_ _
    generalize ((((w4.setCell ⟨gu, 0, none⟩ (.int .i64 (H - S))).setCell ⟨gu, 1, none⟩ (.int .i64 W)).setCell ⟨gu, 2, none⟩ (.int .i64 C)).setCell ⟨gu, 3, none⟩ (.slice A4 (n - sn) c4)) = Wq at TU RU HBZ zU ⊢
    have hzq : z0 ≤ Wq.heap.size := by have := HBZ.out.size; have := HZ0.out; omega
    replace TB := Lib.hid (TB.out.below yTB HBZ.out)
    replace TN := Lib.hid (TN.out.below yTN HBZ.out)
    replace TA2 := Lib.hid (TA2.out.below yTA2 HBZ.out)
    replace HRW := Lib.hid ((HRW.out.below HBZ.out).more hzq)
    replace HRB := Lib.hid ((HRB.out.below HBZ.out).more hzq)
    replace RA2 := Lib.hid ((RA2.out.below HBZ.out).more hzq)
    replace HBW := Lib.hid (HBW.out.trans (HBZ.out.mono (by have := HBW.out.size; have := HZ0.out; omega)))
    replace yTB := Nat.lt_of_lt_of_le yTB hzq
    replace yTN := Nat.lt_of_lt_of_le yTN hzq
    replace yTA2 := Nat.lt_of_lt_of_le yTA2 hzq
    have yTU := zU
    clear HBZ hzq HDR zU yg
    obtain ⟨tbp0, tbp1, tbp2, tbp3⟩ := TB.out
    obtain ⟨ta2p0, ta2p1, ta2p2, ta2p3⟩ := TA2.out
    obtain ⟨tup0, tup1, tup2, tup3⟩ := TU.out
    go_wp2_with (first
      | (go_at_call 7
         have hal : Below Wq.heap.size Wq Wq := Below.refl _ _
         refine (HOL.out _ A4 c4 ((RU.out.below hal).more hal.size) ((HRW.out.below hal).more hal.size) ((HRB.out.below hal).more hal.size)).mono ?_
         rintro e w5 ⟨v5, rfl, ho5, hb⟩
         have hh : Below Wq.heap.size Wq w5 := hal.trans (hb.mono hal.size)
         replace TB := Lib.hid (TB.out.below yTB hh)
         replace yTB := Nat.lt_of_lt_of_le yTB hh.size
         replace TN := Lib.hid (TN.out.below yTN hh)
         replace yTN := Nat.lt_of_lt_of_le yTN hh.size
         replace TA2 := Lib.hid (TA2.out.below yTA2 hh)
         replace yTA2 := Nat.lt_of_lt_of_le yTA2 hh.size
         replace TU := Lib.hid (TU.out.below yTU hh)
         replace yTU := Nat.lt_of_lt_of_le yTU hh.size
         replace HRW := Lib.hid ((HRW.out.below hh).more hh.size)
         replace HRB := Lib.hid ((HRB.out.below hh).more hh.size)
         replace RA2 := Lib.hid ((RA2.out.below hh).more hh.size)
         replace RU := Lib.hid ((RU.out.below hh).more hh.size)
         replace HBW := Lib.hid (HBW.out.trans (hh.mono HBW.out.size))
         clear tbp0 tbp1 tbp2 tbp3 ta2p0 ta2p1 ta2p2 ta2p3 tup0 tup1 tup2 tup3
         obtain ⟨A5, c5, rfl, -, -, hrd5⟩ := Kit.own_rd ho5
         have RA5 := Lib.hid hrd5
         clear ho5 hrd5
         obtain ⟨tbp0, tbp1, tbp2, tbp3⟩ := TB.out
         have n4 := TN.out.at 4 _ rfl
         have n5 := TN.out.at 5 _ rfl
         obtain ⟨ta2p0, ta2p1, ta2p2, ta2p3⟩ := TA2.out
         obtain ⟨tup0, tup1, tup2, tup3⟩ := TU.out
         clear hb hh hal)
      | (refine wpList_load_mid rfl 32 (.tmp 3) rfl (w.heap.size + 1) 0 rfl [x0, x1, x2, .int .i64 K, .int .i64 S, .int .i64 P, .int .i64 O, .int .i8 Z, x8, .slice WA nW cW, .slice BA nB cB, x11, x12, x13, x14, x15, x16, x17, x18] _ (TN.out) Try.underlying32 rfl (by kernel_rfl) ?_)
      | (refine wpList_load_mid rfl 32 (.tmp 3) rfl (w.heap.size + 1) 0 rfl [x0, x1, x2, .int .i64 K, .int .i64 S, .int .i64 P, .int .i64 O, .int .i8 Z, x8, .slice WA nW cW, .slice BA nB cB, x11, x12, x13, x14, x15, x16, x17, x18] _ (TN.out.below yTN ((Below.refl _ _).alloc (Nat.le_refl _) _)) Try.underlying32 rfl (by kernel_rfl) ?_))
    have hal : Below w5.heap.size w5 (w5.alloc (.cells #[.int .i64 (a1 : Int), .int .i64 Y1, .int .i64 U1, .slice A5 m1 c5] 36)) := (Below.refl _ _).alloc (Nat.le_refl _) _
    replace TN := Lib.hid (TN.out.below yTN hal)
    replace TA2 := Lib.hid (TA2.out.below yTA2 hal)
    have TA5 := Lib.hid (boxNew (a1 : Int) Y1 U1 A5 m1 c5 36 w5)
    replace RA2 := Lib.hid ((RA2.out.below hal).more hal.size)
    replace RA5 := Lib.hid ((RA5.out.below hal).more hal.size)
    replace HBW := Lib.hid (HBW.out.trans (hal.mono HBW.out.size))
    replace yTN := Nat.lt_of_lt_of_le yTN hal.size
    replace yTA2 := Nat.lt_of_lt_of_le yTA2 hal.size
    have yTA5 : w5.heap.size < (w5.alloc (.cells #[.int .i64 (a1 : Int), .int .i64 Y1, .int .i64 U1, .slice A5 m1 c5] 36)).heap.size := by simp
    clear hal n4 n5 tbp0 tbp1 tbp2 tbp3 ta2p0 ta2p1 ta2p2 ta2p3 tup0 tup1 tup2 tup3 TB TU HRW HRB RU
    generalize (w5.alloc (.cells #[.int .i64 (a1 : Int), .int .i64 Y1, .int .i64 U1, .slice A5 m1 c5] 36)) = Wm at TN TA2 TA5 RA2 RA5 HBW yTN yTA2 yTA5 ⊢
    generalize w5.heap.size = g5 at TA5 yTA5 ⊢
    go_loopw [14] (fun u wr => ∃ h : Nat, h ≤ a1 ∧ u = .int .i64 h ∧ Hid (Below Wm.heap.size Wm wr)) (fun u _ => a1 - (intOf u).toNat)
    case atStart => exact ⟨0, Nat.zero_le _, rfl, Lib.hid (Below.refl _ _)⟩
    case round =>
      obtain ⟨h, hh, rfl, hB0⟩ := hrel
      obtain ⟨tb0, tb1, tb2, tb3⟩ := TA5.out.below yTA5 hB0.out
      by_cases hlt : h < a1
      · have hI : (h : Int) < (a1 : Int) := by omega
        have h0 : (0 : Int) ≤ (h : Int) := by omega
        obtain ⟨hs, hhs⟩ : ∃ hs, (h : Int) * S = hs := ⟨_, rfl⟩
        have hb1 : 0 ≤ hs ∧ hs ≤ 64 := by
          rw [← hhs]
          exact ⟨Int.mul_nonneg (by omega) (by omega), Int.le_trans (Int.mul_le_mul (show (h : Int) ≤ 16 by omega) st2 (by omega) (by omega)) (by omega)⟩
        obtain ⟨hb2, hb3⟩ := hb1
        have e1 : IntKind.i64.wrap hs = hs := IntWalk.i64_in _ (by omega)
        go_wp2_with fail
        go_loopw [15] (fun u wr => ∃ i : Nat, i ≤ L ∧ u = .int .i64 i ∧ Hid (Below Wm.heap.size Wm wr)) (fun u _ => L - (intOf u).toNat)
        case atStart => exact ⟨0, Nat.zero_le _, rfl, hB0⟩
        case round =>
          obtain ⟨i, hi, rfl, hB1⟩ := hrel
          clear hB0 tb0 tb1 tb2 tb3
          obtain ⟨tb0, tb1, tb2, tb3⟩ := TA5.out.below yTA5 hB1.out
          obtain ⟨ta0, ta1, ta2, ta3⟩ := TA2.out.below yTA2 hB1.out
          have n4 := (TN.out.below yTN hB1.out).at 4 _ rfl
          have n5 := (TN.out.below yTN hB1.out).at 5 _ rfl
          by_cases hlti : i < L
          · have hiI : (i : Int) < (L : Int) := by omega
            by_cases hP : P ≤ hs
            · have hx := HRO.out h i hlt (by rw [HLL.out]; exact hlti) (by rw [hhs]; exact hP)
              rw [HLL.out] at hx
              obtain ⟨q0, hq0⟩ : ∃ q0, h * L = q0 := ⟨_, rfl⟩
              obtain ⟨h1, hh1⟩ : ∃ h1, h + 1 = h1 := ⟨_, rfl⟩
              obtain ⟨h2, hh2⟩ : ∃ h2, h + 2 = h2 := ⟨_, rfl⟩
              obtain ⟨q1, hq1⟩ : ∃ q1, h1 * L = q1 := ⟨_, rfl⟩
              obtain ⟨q2, hq2⟩ : ∃ q2, h2 * L = q2 := ⟨_, rfl⟩
              rw [hh1, hq0, hq1] at hx
              have hqm : q1 ≤ m1 := by
                have := Nat.mul_le_mul_right L (show h1 ≤ a1 by omega)
                have h3 := HM1.out
                rw [HLL.out] at h3
                omega
              have hqn : q2 ≤ N := by
                have := Nat.mul_le_mul_right L (show h2 ≤ a1 + 1 by omega)
                have h3 := HNL.out
                omega
              have hq01 : q0 + L = q1 := by rw [← hq0, ← hq1, ← hh1, Nat.add_mul, Nat.one_mul]
              have hq12 : q1 + L = q2 := by rw [← hq1, ← hq2, ← hh2, ← hh1, Nat.add_mul, Nat.add_mul]; omega
              have i0 : (h : Int) * (L : Int) = (q0 : Int) := by rw [← hq0]; simp
              have i1 : (h1 : Int) * (L : Int) = (q1 : Int) := by rw [← hq1]; simp
              have i2 : (h2 : Int) * (L : Int) = (q2 : Int) := by rw [← hq2]; simp
              have f1 : IntKind.i64.wrap ((h : Int) + 1) = (h1 : Int) := by rw [IntWalk.i64_in _ (by omega)]; omega
              have f2 : IntKind.i64.wrap ((h : Int) + 2) = (h2 : Int) := by rw [IntWalk.i64_in _ (by omega)]; omega
              have r0 : IntKind.i64.wrap (q0 : Int) = (q0 : Int) := IntWalk.i64_in _ (by omega)
              have r1 : IntKind.i64.wrap (q1 : Int) = (q1 : Int) := IntWalk.i64_in _ (by omega)
              have r2 : IntKind.i64.wrap (q2 : Int) = (q2 : Int) := IntWalk.i64_in _ (by omega)
              obtain ⟨p0, hp0⟩ : ∃ p0, q0 + i = p0 := ⟨_, rfl⟩
              obtain ⟨p1, hp1⟩ : ∃ p1, q1 + i = p1 := ⟨_, rfl⟩
              have f3 : IntKind.i64.wrap ((q0 : Int) + (i : Int)) = (p0 : Int) := by rw [IntWalk.i64_in _ (by omega)]; omega
              have f4 : IntKind.i64.wrap ((q1 : Int) + (i : Int)) = (p1 : Int) := by rw [IntWalk.i64_in _ (by omega)]; omega
              have x0 : (0 : Int) ≤ (p0 : Int) := by omega
              have xI : (p0 : Int) < (m1 : Int) := by omega
              have z0' : (0 : Int) ≤ (p1 : Int) := by omega
              have zI : (p1 : Int) < (N : Int) := by omega
              have d1 : ¬ (m1 : Int) < (q1 : Int) := by omega
              have d2 : ¬ (N : Int) < (q2 : Int) := by omega
              have d3 : ¬ m1 < q1 := by omega
              have d4 : ¬ N < q2 := by omega
              have d5 : decide ((m1 : Int) < (q1 : Int)) = false := decide_eq_false d1
              have d6 : decide ((N : Int) < (q2 : Int)) = false := decide_eq_false d2
              have d7 : decide (m1 < q1) = false := decide_eq_false d3
              have d8 : decide (N < q2) = false := decide_eq_false d4
              rw [hp0, hp1] at hx
              obtain ⟨b5, o5, rfl, -, hc5⟩ := ints_getD (RA5.out.below hB1.out) (j := p0) (by have := HYL.out; omega)
              obtain ⟨b2, o2, rfl, -, hc2⟩ := ints_getD (RA2.out.below hB1.out) (j := p1) (by rw [rowL_len]; omega)
              have k5 := hc5 p0 (by have := HYL.out; omega)
              have k2 := hc2 p1 (by rw [rowL_len]; omega)
              rw [hx] at k5
              generalize (rowL F1 N).getD p1 0 = xv at k5 k2
              clear hc5 hc2 hq0 hq1 hq2 hh1 hh2 hqm hqn hq01 hq12 hp0 hp1 hx
              go_wp2_with fail
              refine wp_region_held_drew (S := fun w' => w'.cell? ⟨w2.heap.size, 3, none⟩ = some (.slice (some ⟨b2, o2, none⟩) N c2) ∧ w'.cell? ⟨g5, 3, none⟩ = some (.slice (some ⟨b5, o5, none⟩) m1 c5) ∧ w'.cell? ⟨b2, o2 + p1, none⟩ = some (.int .i32 xv) ∧ w'.cell? ⟨b5, o5 + p0, none⟩ = some (.int .i32 xv)) (by kernel_rfl) ⟨ta3, tb3, k2, k5⟩ (fun hHeld => ?_)
              refine wpAnyH_take (i := 0) (oi := ({ dst := some 118, op := Op.fieldAddr 36 (Operand.tmp 11) 1, type := 0, pos := "law.go:77", after := #[], guard := none } : Oper)) (v := ?_) rfl (by kernel_rfl) (by kernel_rfl) (by kernel_rfl) (fun _ _ _ h => h) (Or.inl ⟨by rfl, ?_⟩) (by assumption) ?_
              rotate_left
              · intro wS hSw
                first
                  | (go_simp; done)
                  | (go_simp; with_reducible rfl)
              try simp only [Act.put, List.setIfInBounds_toArray, List.set_cons_zero, List.set_cons_succ]
              refine wpAnyH_take (i := 1) (oi := ({ dst := some 119, op := Op.load 28 (Operand.tmp 118), type := 28, pos := "law.go:77", after := #[{ on := 0, ground := Ground.data }], guard := none } : Oper)) (v := ?_) rfl (by kernel_rfl) (by kernel_rfl) (by kernel_rfl) (fun _ _ _ h => h) (Or.inl ⟨by rfl, ?_⟩) (by assumption) ?_
              rotate_left
              · intro wS hSw
                obtain ⟨v1, v2, v3, v4⟩ := hSw
                first
                  | (go_simp; done)
                  | (go_simp; with_reducible rfl)
              try simp only [Act.put, List.setIfInBounds_toArray, List.set_cons_zero, List.set_cons_succ]
              refine wpAnyH_take (i := 2) (oi := ({ dst := some 120, op := Op.call { callee := Callee.builtin Builtin.len, args := #[Operand.tmp 119], argTypes := #[28] }, type := 3, pos := "law.go:77", after := #[{ on := 1, ground := Ground.data }], guard := none } : Oper)) (v := ?_) rfl (by kernel_rfl) (by kernel_rfl) (by kernel_rfl) (fun _ _ _ h => h) (Or.inl ⟨by rfl, ?_⟩) (by assumption) ?_
              rotate_left
              · intro wS hSw
                first
                  | (go_simp; done)
                  | (go_simp; with_reducible rfl)
              try simp only [Act.put, List.setIfInBounds_toArray, List.set_cons_zero, List.set_cons_succ]
              refine wpAnyH_take (i := 3) (oi := ({ dst := some 121, op := Op.move (Operand.tmp 14), type := 3, pos := "law.go:77", after := #[], guard := none } : Oper)) (v := ?_) rfl (by kernel_rfl) (by kernel_rfl) (by kernel_rfl) (fun _ _ _ h => h) (Or.inl ⟨by rfl, ?_⟩) (by assumption) ?_
              rotate_left
              · intro wS hSw
                first
                  | (go_simp; done)
                  | (go_simp; with_reducible rfl)
              try simp only [Act.put, List.setIfInBounds_toArray, List.set_cons_zero, List.set_cons_succ]
              refine wpAnyH_take (i := 4) (oi := ({ dst := some 122, op := Op.binOp BinOp.add 3 (Operand.tmp 121) (Operand.const (Value.int IntKind.i64 1)) 3, type := 3, pos := "law.go:77", after := #[{ on := 3, ground := Ground.data }], guard := none } : Oper)) (v := ?_) rfl (by kernel_rfl) (by kernel_rfl) (by kernel_rfl) (fun _ _ _ h => h) (Or.inl ⟨by rfl, ?_⟩) (by assumption) ?_
              rotate_left
              · intro wS hSw
                first
                  | (go_simp; done)
                  | (go_simp; with_reducible rfl)
              try simp only [Act.put, List.setIfInBounds_toArray, List.set_cons_zero, List.set_cons_succ]
              refine wpAnyH_take (i := 5) (oi := ({ dst := some 123, op := Op.move (Operand.tmp 13), type := 3, pos := "law.go:77", after := #[], guard := none } : Oper)) (v := ?_) rfl (by kernel_rfl) (by kernel_rfl) (by kernel_rfl) (fun _ _ _ h => h) (Or.inl ⟨by rfl, ?_⟩) (by assumption) ?_
              rotate_left
              · intro wS hSw
                first
                  | (go_simp; done)
                  | (go_simp; with_reducible rfl)
              try simp only [Act.put, List.setIfInBounds_toArray, List.set_cons_zero, List.set_cons_succ]
              refine wpAnyH_take (i := 6) (oi := ({ dst := some 124, op := Op.binOp BinOp.mul 3 (Operand.tmp 122) (Operand.tmp 123) 3, type := 3, pos := "law.go:77", after := #[{ on := 4, ground := Ground.data }, { on := 5, ground := Ground.data }], guard := none } : Oper)) (v := ?_) rfl (by kernel_rfl) (by kernel_rfl) (by kernel_rfl) (fun _ _ _ h => h) (Or.inl ⟨by rfl, ?_⟩) (by assumption) ?_
              rotate_left
              · intro wS hSw
                first
                  | (go_simp; done)
                  | (go_simp; with_reducible rfl)
              try simp only [Act.put, List.setIfInBounds_toArray, List.set_cons_zero, List.set_cons_succ]
              refine wpAnyH_take (i := 7) (oi := ({ dst := some 125, op := Op.binOp BinOp.lss 3 (Operand.tmp 120) (Operand.tmp 124) 3, type := 4, pos := "law.go:77", after := #[{ on := 2, ground := Ground.data }, { on := 6, ground := Ground.data }], guard := none } : Oper)) (v := ?_) rfl (by kernel_rfl) (by kernel_rfl) (by kernel_rfl) (fun _ _ _ h => h) (Or.inl ⟨by rfl, ?_⟩) (by assumption) ?_
              rotate_left
              · intro wS hSw
                first
                  | (go_simp; done)
                  | (go_simp; with_reducible rfl)
              try simp only [Act.put, List.setIfInBounds_toArray, List.set_cons_zero, List.set_cons_succ]
              refine wpAnyH_take (i := 8) (oi := ({ dst := some 126, op := Op.move (Operand.tmp 125), type := 4, pos := "law.go:77", after := #[{ on := 7, ground := Ground.data }], guard := none } : Oper)) (v := ?_) rfl (by kernel_rfl) (by kernel_rfl) (by kernel_rfl) (fun _ _ _ h => h) (Or.inl ⟨by rfl, ?_⟩) (by assumption) ?_
              rotate_left
              · intro wS hSw
                first
                  | (go_simp; done)
                  | (go_simp; with_reducible rfl)
              try simp only [Act.put, List.setIfInBounds_toArray, List.set_cons_zero, List.set_cons_succ]
              refine wpAnyH_take (i := 9) (oi := ({ dst := some 127, op := Op.fieldAddr 36 (Operand.tmp 5) 1, type := 0, pos := "law.go:77", after := #[{ on := 8, ground := Ground.guard }], guard := some (8, false) } : Oper)) (v := ?_) rfl (by kernel_rfl) (by kernel_rfl) (by kernel_rfl) (fun _ _ _ h => h) (Or.inl ⟨by rfl, ?_⟩) (by assumption) ?_
              rotate_left
              · intro wS hSw
                first
                  | (go_simp; done)
                  | (go_simp; with_reducible rfl)
              try simp only [Act.put, List.setIfInBounds_toArray, List.set_cons_zero, List.set_cons_succ]
              refine wpAnyH_take (i := 10) (oi := ({ dst := some 128, op := Op.load 28 (Operand.tmp 127), type := 28, pos := "law.go:77", after := #[{ on := 9, ground := Ground.data }, { on := 8, ground := Ground.guard }], guard := some (8, false) } : Oper)) (v := ?_) rfl (by kernel_rfl) (by kernel_rfl) (by kernel_rfl) (fun _ _ _ h => h) (Or.inl ⟨by rfl, ?_⟩) (by assumption) ?_
              rotate_left
              · intro wS hSw
                obtain ⟨v1, v2, v3, v4⟩ := hSw
                first
                  | (go_simp; done)
                  | (go_simp; with_reducible rfl)
              try simp only [Act.put, List.setIfInBounds_toArray, List.set_cons_zero, List.set_cons_succ]
              refine wpAnyH_take (i := 11) (oi := ({ dst := some 129, op := Op.call { callee := Callee.builtin Builtin.len, args := #[Operand.tmp 128], argTypes := #[28] }, type := 3, pos := "law.go:77", after := #[{ on := 10, ground := Ground.data }, { on := 8, ground := Ground.guard }], guard := some (8, false) } : Oper)) (v := ?_) rfl (by kernel_rfl) (by kernel_rfl) (by kernel_rfl) (fun _ _ _ h => h) (Or.inl ⟨by rfl, ?_⟩) (by assumption) ?_
              rotate_left
              · intro wS hSw
                first
                  | (go_simp; done)
                  | (go_simp; with_reducible rfl)
              try simp only [Act.put, List.setIfInBounds_toArray, List.set_cons_zero, List.set_cons_succ]
              refine wpAnyH_take (i := 12) (oi := ({ dst := some 130, op := Op.move (Operand.tmp 14), type := 3, pos := "law.go:77", after := #[{ on := 8, ground := Ground.guard }], guard := some (8, false) } : Oper)) (v := ?_) rfl (by kernel_rfl) (by kernel_rfl) (by kernel_rfl) (fun _ _ _ h => h) (Or.inl ⟨by rfl, ?_⟩) (by assumption) ?_
              rotate_left
              · intro wS hSw
                first
                  | (go_simp; done)
                  | (go_simp; with_reducible rfl)
              try simp only [Act.put, List.setIfInBounds_toArray, List.set_cons_zero, List.set_cons_succ]
              refine wpAnyH_take (i := 13) (oi := ({ dst := some 131, op := Op.binOp BinOp.add 3 (Operand.tmp 130) (Operand.const (Value.int IntKind.i64 2)) 3, type := 3, pos := "law.go:77", after := #[{ on := 12, ground := Ground.data }, { on := 8, ground := Ground.guard }], guard := some (8, false) } : Oper)) (v := ?_) rfl (by kernel_rfl) (by kernel_rfl) (by kernel_rfl) (fun _ _ _ h => h) (Or.inl ⟨by rfl, ?_⟩) (by assumption) ?_
              rotate_left
              · intro wS hSw
                first
                  | (go_simp; done)
                  | (go_simp; with_reducible rfl)
              try simp only [Act.put, List.setIfInBounds_toArray, List.set_cons_zero, List.set_cons_succ]
              refine wpAnyH_take (i := 14) (oi := ({ dst := some 132, op := Op.move (Operand.tmp 13), type := 3, pos := "law.go:77", after := #[{ on := 8, ground := Ground.guard }], guard := some (8, false) } : Oper)) (v := ?_) rfl (by kernel_rfl) (by kernel_rfl) (by kernel_rfl) (fun _ _ _ h => h) (Or.inl ⟨by rfl, ?_⟩) (by assumption) ?_
              rotate_left
              · intro wS hSw
                first
                  | (go_simp; done)
                  | (go_simp; with_reducible rfl)
              try simp only [Act.put, List.setIfInBounds_toArray, List.set_cons_zero, List.set_cons_succ]
              refine wpAnyH_take (i := 15) (oi := ({ dst := some 133, op := Op.binOp BinOp.mul 3 (Operand.tmp 131) (Operand.tmp 132) 3, type := 3, pos := "law.go:77", after := #[{ on := 13, ground := Ground.data }, { on := 14, ground := Ground.data }, { on := 8, ground := Ground.guard }], guard := some (8, false) } : Oper)) (v := ?_) rfl (by kernel_rfl) (by kernel_rfl) (by kernel_rfl) (fun _ _ _ h => h) (Or.inl ⟨by rfl, ?_⟩) (by assumption) ?_
              rotate_left
              · intro wS hSw
                first
                  | (go_simp; done)
                  | (go_simp; with_reducible rfl)
              try simp only [Act.put, List.setIfInBounds_toArray, List.set_cons_zero, List.set_cons_succ]
              refine wpAnyH_take (i := 16) (oi := ({ dst := some 134, op := Op.binOp BinOp.lss 3 (Operand.tmp 129) (Operand.tmp 133) 3, type := 4, pos := "law.go:77", after := #[{ on := 11, ground := Ground.data }, { on := 15, ground := Ground.data }, { on := 8, ground := Ground.guard }], guard := some (8, false) } : Oper)) (v := ?_) rfl (by kernel_rfl) (by kernel_rfl) (by kernel_rfl) (fun _ _ _ h => h) (Or.inl ⟨by rfl, ?_⟩) (by assumption) ?_
              rotate_left
              · intro wS hSw
                first
                  | (go_simp; done)
                  | (go_simp; with_reducible rfl)
              try simp only [Act.put, List.setIfInBounds_toArray, List.set_cons_zero, List.set_cons_succ]
              refine wpAnyH_take (i := 17) (oi := ({ dst := some 135, op := Op.pick (Operand.tmp 126) (Operand.const (Value.bool true)) (Operand.tmp 134), type := 4, pos := "law.go:77", after := #[{ on := 8, ground := Ground.data }, { on := 16, ground := Ground.data }], guard := none } : Oper)) (v := ?_) rfl (by kernel_rfl) (by kernel_rfl) (by kernel_rfl) (fun _ _ _ h => h) (Or.inl ⟨by rfl, ?_⟩) (by assumption) ?_
              rotate_left
              · intro wS hSw
                first
                  | (go_simp; done)
                  | (go_simp; with_reducible rfl)
              try simp only [Act.put, List.setIfInBounds_toArray, List.set_cons_zero, List.set_cons_succ]
              refine wpAnyH_take (i := 18) (oi := ({ dst := some 136, op := Op.move (Operand.tmp 135), type := 4, pos := "law.go:77", after := #[{ on := 17, ground := Ground.data }, { on := 8, ground := Ground.chain }], guard := none } : Oper)) (v := ?_) rfl (by kernel_rfl) (by kernel_rfl) (by kernel_rfl) (fun _ _ _ h => h) (Or.inl ⟨by rfl, ?_⟩) (by assumption) ?_
              rotate_left
              · intro wS hSw
                first
                  | (go_simp; done)
                  | (go_simp; with_reducible rfl)
              try simp only [Act.put, List.setIfInBounds_toArray, List.set_cons_zero, List.set_cons_succ]
              refine wpAnyH_take (i := 19) (oi := ({ dst := some 137, op := Op.fieldAddr 36 (Operand.tmp 11) 1, type := 0, pos := "law.go:77", after := #[{ on := 18, ground := Ground.guard }], guard := some (18, false) } : Oper)) (v := ?_) rfl (by kernel_rfl) (by kernel_rfl) (by kernel_rfl) (fun _ _ _ h => h) (Or.inl ⟨by rfl, ?_⟩) (by assumption) ?_
              rotate_left
              · intro wS hSw
                first
                  | (go_simp; done)
                  | (go_simp; with_reducible rfl)
              try simp only [Act.put, List.setIfInBounds_toArray, List.set_cons_zero, List.set_cons_succ]
              refine wpAnyH_take (i := 20) (oi := ({ dst := some 138, op := Op.load 28 (Operand.tmp 137), type := 28, pos := "law.go:77", after := #[{ on := 19, ground := Ground.data }, { on := 18, ground := Ground.guard }], guard := some (18, false) } : Oper)) (v := ?_) rfl (by kernel_rfl) (by kernel_rfl) (by kernel_rfl) (fun _ _ _ h => h) (Or.inl ⟨by rfl, ?_⟩) (by assumption) ?_
              rotate_left
              · intro wS hSw
                obtain ⟨v1, v2, v3, v4⟩ := hSw
                first
                  | (go_simp; done)
                  | (go_simp; with_reducible rfl)
              try simp only [Act.put, List.setIfInBounds_toArray, List.set_cons_zero, List.set_cons_succ]
              refine wpAnyH_take (i := 21) (oi := ({ dst := some 139, op := Op.move (Operand.tmp 14), type := 3, pos := "law.go:77", after := #[{ on := 18, ground := Ground.guard }], guard := some (18, false) } : Oper)) (v := ?_) rfl (by kernel_rfl) (by kernel_rfl) (by kernel_rfl) (fun _ _ _ h => h) (Or.inl ⟨by rfl, ?_⟩) (by assumption) ?_
              rotate_left
              · intro wS hSw
                first
                  | (go_simp; done)
                  | (go_simp; with_reducible rfl)
              try simp only [Act.put, List.setIfInBounds_toArray, List.set_cons_zero, List.set_cons_succ]
              refine wpAnyH_take (i := 22) (oi := ({ dst := some 140, op := Op.move (Operand.tmp 13), type := 3, pos := "law.go:77", after := #[{ on := 18, ground := Ground.guard }], guard := some (18, false) } : Oper)) (v := ?_) rfl (by kernel_rfl) (by kernel_rfl) (by kernel_rfl) (fun _ _ _ h => h) (Or.inl ⟨by rfl, ?_⟩) (by assumption) ?_
              rotate_left
              · intro wS hSw
                first
                  | (go_simp; done)
                  | (go_simp; with_reducible rfl)
              try simp only [Act.put, List.setIfInBounds_toArray, List.set_cons_zero, List.set_cons_succ]
              refine wpAnyH_take (i := 23) (oi := ({ dst := some 141, op := Op.binOp BinOp.mul 3 (Operand.tmp 139) (Operand.tmp 140) 3, type := 3, pos := "law.go:77", after := #[{ on := 21, ground := Ground.data }, { on := 22, ground := Ground.data }, { on := 18, ground := Ground.guard }], guard := some (18, false) } : Oper)) (v := ?_) rfl (by kernel_rfl) (by kernel_rfl) (by kernel_rfl) (fun _ _ _ h => h) (Or.inl ⟨by rfl, ?_⟩) (by assumption) ?_
              rotate_left
              · intro wS hSw
                first
                  | (go_simp; done)
                  | (go_simp; with_reducible rfl)
              try simp only [Act.put, List.setIfInBounds_toArray, List.set_cons_zero, List.set_cons_succ]
              refine wpAnyH_take (i := 24) (oi := ({ dst := some 142, op := Op.move (Operand.tmp 15), type := 3, pos := "law.go:77", after := #[{ on := 18, ground := Ground.guard }], guard := some (18, false) } : Oper)) (v := ?_) rfl (by kernel_rfl) (by kernel_rfl) (by kernel_rfl) (fun _ _ _ h => h) (Or.inl ⟨by rfl, ?_⟩) (by assumption) ?_
              rotate_left
              · intro wS hSw
                first
                  | (go_simp; done)
                  | (go_simp; with_reducible rfl)
              try simp only [Act.put, List.setIfInBounds_toArray, List.set_cons_zero, List.set_cons_succ]
              refine wpAnyH_take (i := 25) (oi := ({ dst := some 143, op := Op.binOp BinOp.add 3 (Operand.tmp 141) (Operand.tmp 142) 3, type := 3, pos := "law.go:77", after := #[{ on := 23, ground := Ground.data }, { on := 24, ground := Ground.data }, { on := 18, ground := Ground.guard }], guard := some (18, false) } : Oper)) (v := ?_) rfl (by kernel_rfl) (by kernel_rfl) (by kernel_rfl) (fun _ _ _ h => h) (Or.inl ⟨by rfl, ?_⟩) (by assumption) ?_
              rotate_left
              · intro wS hSw
                first
                  | (go_simp; done)
                  | (go_simp; with_reducible rfl)
              try simp only [Act.put, List.setIfInBounds_toArray, List.set_cons_zero, List.set_cons_succ]
              refine wpAnyH_take (i := 26) (oi := ({ dst := some 144, op := Op.indexAddr 28 (Operand.tmp 138) (Operand.tmp 143), type := 0, pos := "law.go:77", after := #[{ on := 20, ground := Ground.data }, { on := 25, ground := Ground.data }, { on := 18, ground := Ground.guard }], guard := some (18, false) } : Oper)) (v := ?_) rfl (by kernel_rfl) (by kernel_rfl) (by kernel_rfl) (fun _ _ _ h => h) (Or.inl ⟨by rfl, ?_⟩) (by assumption) ?_
              rotate_left
              · intro wS hSw
                first
                  | (go_simp; done)
                  | (go_simp; with_reducible rfl)
              try simp only [Act.put, List.setIfInBounds_toArray, List.set_cons_zero, List.set_cons_succ]
              refine wpAnyH_take (i := 27) (oi := ({ dst := some 145, op := Op.load 21 (Operand.tmp 144), type := 21, pos := "law.go:77", after := #[{ on := 26, ground := Ground.data }, { on := 18, ground := Ground.guard }], guard := some (18, false) } : Oper)) (v := ?_) rfl (by kernel_rfl) (by kernel_rfl) (by kernel_rfl) (fun _ _ _ h => h) (Or.inl ⟨by rfl, ?_⟩) (by assumption) ?_
              rotate_left
              · intro wS hSw
                obtain ⟨v1, v2, v3, v4⟩ := hSw
                first
                  | (go_simp; done)
                  | (go_simp; with_reducible rfl)
              try simp only [Act.put, List.setIfInBounds_toArray, List.set_cons_zero, List.set_cons_succ]
              refine wpAnyH_take (i := 28) (oi := ({ dst := some 146, op := Op.fieldAddr 36 (Operand.tmp 5) 1, type := 0, pos := "law.go:77", after := #[{ on := 18, ground := Ground.guard }], guard := some (18, false) } : Oper)) (v := ?_) rfl (by kernel_rfl) (by kernel_rfl) (by kernel_rfl) (fun _ _ _ h => h) (Or.inl ⟨by rfl, ?_⟩) (by assumption) ?_
              rotate_left
              · intro wS hSw
                first
                  | (go_simp; done)
                  | (go_simp; with_reducible rfl)
              try simp only [Act.put, List.setIfInBounds_toArray, List.set_cons_zero, List.set_cons_succ]
              refine wpAnyH_take (i := 29) (oi := ({ dst := some 147, op := Op.load 28 (Operand.tmp 146), type := 28, pos := "law.go:77", after := #[{ on := 28, ground := Ground.data }, { on := 18, ground := Ground.guard }], guard := some (18, false) } : Oper)) (v := ?_) rfl (by kernel_rfl) (by kernel_rfl) (by kernel_rfl) (fun _ _ _ h => h) (Or.inl ⟨by rfl, ?_⟩) (by assumption) ?_
              rotate_left
              · intro wS hSw
                obtain ⟨v1, v2, v3, v4⟩ := hSw
                first
                  | (go_simp; done)
                  | (go_simp; with_reducible rfl)
              try simp only [Act.put, List.setIfInBounds_toArray, List.set_cons_zero, List.set_cons_succ]
              refine wpAnyH_take (i := 30) (oi := ({ dst := some 148, op := Op.move (Operand.tmp 14), type := 3, pos := "law.go:77", after := #[{ on := 18, ground := Ground.guard }], guard := some (18, false) } : Oper)) (v := ?_) rfl (by kernel_rfl) (by kernel_rfl) (by kernel_rfl) (fun _ _ _ h => h) (Or.inl ⟨by rfl, ?_⟩) (by assumption) ?_
              rotate_left
              · intro wS hSw
                first
                  | (go_simp; done)
                  | (go_simp; with_reducible rfl)
              try simp only [Act.put, List.setIfInBounds_toArray, List.set_cons_zero, List.set_cons_succ]
              refine wpAnyH_take (i := 31) (oi := ({ dst := some 149, op := Op.binOp BinOp.add 3 (Operand.tmp 148) (Operand.const (Value.int IntKind.i64 1)) 3, type := 3, pos := "law.go:77", after := #[{ on := 30, ground := Ground.data }, { on := 18, ground := Ground.guard }], guard := some (18, false) } : Oper)) (v := ?_) rfl (by kernel_rfl) (by kernel_rfl) (by kernel_rfl) (fun _ _ _ h => h) (Or.inl ⟨by rfl, ?_⟩) (by assumption) ?_
              rotate_left
              · intro wS hSw
                first
                  | (go_simp; done)
                  | (go_simp; with_reducible rfl)
              try simp only [Act.put, List.setIfInBounds_toArray, List.set_cons_zero, List.set_cons_succ]
              refine wpAnyH_take (i := 32) (oi := ({ dst := some 150, op := Op.move (Operand.tmp 13), type := 3, pos := "law.go:77", after := #[{ on := 18, ground := Ground.guard }], guard := some (18, false) } : Oper)) (v := ?_) rfl (by kernel_rfl) (by kernel_rfl) (by kernel_rfl) (fun _ _ _ h => h) (Or.inl ⟨by rfl, ?_⟩) (by assumption) ?_
              rotate_left
              · intro wS hSw
                first
                  | (go_simp; done)
                  | (go_simp; with_reducible rfl)
              try simp only [Act.put, List.setIfInBounds_toArray, List.set_cons_zero, List.set_cons_succ]
              refine wpAnyH_take (i := 33) (oi := ({ dst := some 151, op := Op.binOp BinOp.mul 3 (Operand.tmp 149) (Operand.tmp 150) 3, type := 3, pos := "law.go:77", after := #[{ on := 31, ground := Ground.data }, { on := 32, ground := Ground.data }, { on := 18, ground := Ground.guard }], guard := some (18, false) } : Oper)) (v := ?_) rfl (by kernel_rfl) (by kernel_rfl) (by kernel_rfl) (fun _ _ _ h => h) (Or.inl ⟨by rfl, ?_⟩) (by assumption) ?_
              rotate_left
              · intro wS hSw
                first
                  | (go_simp; done)
                  | (go_simp; with_reducible rfl)
              try simp only [Act.put, List.setIfInBounds_toArray, List.set_cons_zero, List.set_cons_succ]
              refine wpAnyH_take (i := 34) (oi := ({ dst := some 152, op := Op.move (Operand.tmp 15), type := 3, pos := "law.go:77", after := #[{ on := 18, ground := Ground.guard }], guard := some (18, false) } : Oper)) (v := ?_) rfl (by kernel_rfl) (by kernel_rfl) (by kernel_rfl) (fun _ _ _ h => h) (Or.inl ⟨by rfl, ?_⟩) (by assumption) ?_
              rotate_left
              · intro wS hSw
                first
                  | (go_simp; done)
                  | (go_simp; with_reducible rfl)
              try simp only [Act.put, List.setIfInBounds_toArray, List.set_cons_zero, List.set_cons_succ]
              refine wpAnyH_take (i := 35) (oi := ({ dst := some 153, op := Op.binOp BinOp.add 3 (Operand.tmp 151) (Operand.tmp 152) 3, type := 3, pos := "law.go:77", after := #[{ on := 33, ground := Ground.data }, { on := 34, ground := Ground.data }, { on := 18, ground := Ground.guard }], guard := some (18, false) } : Oper)) (v := ?_) rfl (by kernel_rfl) (by kernel_rfl) (by kernel_rfl) (fun _ _ _ h => h) (Or.inl ⟨by rfl, ?_⟩) (by assumption) ?_
              rotate_left
              · intro wS hSw
                first
                  | (go_simp; done)
                  | (go_simp; with_reducible rfl)
              try simp only [Act.put, List.setIfInBounds_toArray, List.set_cons_zero, List.set_cons_succ]
              refine wpAnyH_take (i := 36) (oi := ({ dst := some 154, op := Op.indexAddr 28 (Operand.tmp 147) (Operand.tmp 153), type := 0, pos := "law.go:77", after := #[{ on := 29, ground := Ground.data }, { on := 35, ground := Ground.data }, { on := 18, ground := Ground.guard }], guard := some (18, false) } : Oper)) (v := ?_) rfl (by kernel_rfl) (by kernel_rfl) (by kernel_rfl) (fun _ _ _ h => h) (Or.inl ⟨by rfl, ?_⟩) (by assumption) ?_
              rotate_left
              · intro wS hSw
                first
                  | (go_simp; done)
                  | (go_simp; with_reducible rfl)
              try simp only [Act.put, List.setIfInBounds_toArray, List.set_cons_zero, List.set_cons_succ]
              refine wpAnyH_take (i := 37) (oi := ({ dst := some 155, op := Op.load 21 (Operand.tmp 154), type := 21, pos := "law.go:77", after := #[{ on := 36, ground := Ground.data }, { on := 18, ground := Ground.guard }], guard := some (18, false) } : Oper)) (v := ?_) rfl (by kernel_rfl) (by kernel_rfl) (by kernel_rfl) (fun _ _ _ h => h) (Or.inl ⟨by rfl, ?_⟩) (by assumption) ?_
              rotate_left
              · intro wS hSw
                obtain ⟨v1, v2, v3, v4⟩ := hSw
                first
                  | (go_simp; done)
                  | (go_simp; with_reducible rfl)
              try simp only [Act.put, List.setIfInBounds_toArray, List.set_cons_zero, List.set_cons_succ]
              refine wpAnyH_take (i := 38) (oi := ({ dst := some 156, op := Op.binOp BinOp.neq 21 (Operand.tmp 145) (Operand.tmp 155) 21, type := 4, pos := "law.go:77", after := #[{ on := 27, ground := Ground.data }, { on := 37, ground := Ground.data }, { on := 18, ground := Ground.guard }], guard := some (18, false) } : Oper)) (v := ?_) rfl (by kernel_rfl) (by kernel_rfl) (by kernel_rfl) (fun _ _ _ h => h) (Or.inl ⟨by rfl, ?_⟩) (by assumption) ?_
              rotate_left
              · intro wS hSw
                first
                  | (go_simp; done)
                  | (go_simp; with_reducible rfl)
              try simp only [Act.put, List.setIfInBounds_toArray, List.set_cons_zero, List.set_cons_succ]
              refine wpAnyH_take (i := 39) (oi := ({ dst := some 157, op := Op.pick (Operand.tmp 136) (Operand.const (Value.bool true)) (Operand.tmp 156), type := 4, pos := "law.go:77", after := #[{ on := 18, ground := Ground.data }, { on := 38, ground := Ground.data }], guard := none } : Oper)) (v := ?_) rfl (by kernel_rfl) (by kernel_rfl) (by kernel_rfl) (fun _ _ _ h => h) (Or.inl ⟨by rfl, ?_⟩) (by assumption) ?_
              rotate_left
              · intro wS hSw
                first
                  | (go_simp; done)
                  | (go_simp; with_reducible rfl)
              try simp only [Act.put, List.setIfInBounds_toArray, List.set_cons_zero, List.set_cons_succ]
              refine wpAnyH_done (by kernel_rfl) ?_ _
              clear hHeld
              go_wp2_with fail
              go_roundw
              case rel => exact ⟨i + 1, by omega, by go_num, Lib.hid hB1.out.drew⟩
              case measure => simp [intOf]; omega
            · have hP2 : ¬ P ≤ hs := hP
              go_wp2_with fail
              go_roundw
              case rel => exact ⟨h + 1, by omega, by go_num, hB1⟩
              case measure => simp [intOf]; omega
          · obtain rfl : i = L := by omega
            go_wp2_with fail
            go_roundw
            case rel => exact ⟨h + 1, by omega, by go_num, hB1⟩
            case measure => simp [intOf]; omega
      · obtain rfl : h = a1 := by omega
        go_wp2_with (go_at_call 6; (refine (known10 _).mono ?_); rintro e w7 ⟨rfl, hb⟩; (have HB := Lib.hid ((HBW.out.trans (hB0.out.mono HBW.out.size)).trans (hb.mono (Nat.le_trans HBW.out.size hB0.out.size)))); clear hb)
        go_ret
        exact ⟨rfl, HB.out⟩
  exact AllReadyH.nil
end Go.Proofs.Ytmgaanojkkdabaa.lawConvMoves
