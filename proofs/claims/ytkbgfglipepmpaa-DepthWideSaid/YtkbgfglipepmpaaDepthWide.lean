/- DepthWide: the same node with weights for all channels makes the same sums, and is there just if it may be; the call returns true and leaves its arguments as they were. No condition. -/
import Derived.Test.YtkbgfglipepmpaaDepthPair
namespace Go.Proofs.Ytkbgfglipepmpaa.lawDepthWide
open Go Go.ChangeShapes Go.WideShapes Go.ChangeAt Go.RowKit
open Plain CSat CShape CTensor CConv CDepth
set_option linter.unusedVariables false

theorem pair_all (H W C : Int) (A : Option Addr) (zs : List Int) (n c : Nat) (hn : zs.length = n) (ht : tensB H W C n = true) (hz : I8b zs) (x0 x1 x2 x8 x11 x12 x13 x14 x15 x16 x17 x18 : Value) (K S P O Z : Int) (WA BA : Option Addr) (nW cW nB cB : Nat) (ws : List Int) (hws : ws.length = nW) (hwc : nW ≤ cW) (hwb : I8b ws) (bs : List Int) (hbs : bs.length = nB)
    (d kk N : Nat) (hC : C = (d : Int)) (hk : K = (kk : Int)) (k1 : 1 ≤ kk) (k2 : kk ≤ 5) (hnW : d * (kk * kk) = nW) (hnB : nB = d) (hN : nW * d = N) (hN2 : N ≤ 16384) (z1 : -128 ≤ Z) (z2 : Z ≤ 127) :
    ∃ (X Y U : Int) (m : Nat) (xs : List Int) (er : Int), xs.length = m ∧ m ≤ 1000000 ∧
      (∀ (w : World), Kit.Rd w w.heap.size A (I8s zs) → Kit.Rd w w.heap.size WA (I8s ws) → Kit.Rd w w.heap.size BA (I32v bs) → Calls Try.prog 7 #[.agg #[.int .i64 H, .int .i64 W, .int .i64 C, .slice A n c], .agg #[x0, x1, x2, .int .i64 K, .int .i64 S, .int .i64 P, .int .i64 O, .int .i8 Z, x8, .slice WA nW cW, .slice BA nB cB, x11, x12, x13, x14, x15, x16, x17, x18]] w (MadeA w X Y U m xs (.int .i64 er))) ∧
      (∀ (AV AB : Option Addr) (kv kb : Nat), N ≤ kv → ∀ (w : World), Kit.Rd w w.heap.size A (I8s zs) → Kit.Rd w w.heap.size AV (I8s (rowL (wideF ws (kk * kk) d) N)) → Kit.Rd w w.heap.size AB (I32v bs) → Calls Try.prog 14 #[.agg #[.int .i64 H, .int .i64 W, .int .i64 C, .slice A n c], .agg #[.int .i64 1, x1, x2, .int .i64 K, .int .i64 S, .int .i64 P, .int .i64 (d : Int), .int .i8 Z, x8, .slice AV N kv, .slice AB nB kb, x11, x12, x13, x14, x15, x16, x17, x18]] w (MadeA w X Y U m xs (.int .i64 er))) := by
  have hd := hC
  have hs : shapeB H W C = true := by simp only [tensB, Bool.and_eq_true] at ht; exact ht.1
  obtain ⟨-, -, -, -, g5, g6, -⟩ := shapeB_yes hs
  have hd0 : 0 < d := by omega
  have hWN : nW ≤ N := by rw [← hN]; exact Nat.le_mul_of_pos_right _ hd0
  have hkkI : K * K = ((kk * kk : Nat) : Int) := by rw [hk]; simp
  have hnWI : (nW : Int) = C * K * K := by rw [Int.mul_assoc, hkkI, hd, ← Int.natCast_mul, hnW]
  have hNI : (N : Int) = (d : Int) * K * K * C := by rw [← hd, ← hnWI, hd, ← hN]; simp
  have hnB2 : (nB : Int) = (d : Int) := by rw [hnB]
  have hE : depthE H W C K S P nW nB = slideE H W C K S P C := by
    unfold depthE
    by_cases h : slideE H W C K S P C ≠ 0
    · rw [if_pos h]
    · rw [if_neg h, if_pos ⟨hnWI, by omega, by omega⟩]; omega
  have hF : convE H W C K S P (d : Int) N nB = slideE H W C K S P C := by
    have hd9 : (d : Int) = C := hd.symm
    unfold convE
    rw [show slideE H W C K S P (d : Int) = slideE H W C K S P C by rw [hd9]]
    by_cases h : slideE H W C K S P C ≠ 0
    · rw [if_pos h]
    · rw [if_neg h, if_pos ⟨hNI, hN2, hnB2⟩]; omega
  by_cases he : depthE H W C K S P nW nB = 0
  · obtain ⟨a, b, d', kk', ha, hb, hd', hk', hM⟩ := dep_letters he
    obtain rfl : d' = d := by omega
    obtain rfl : kk' = kk := by omega
    have hcE : convE H W C K S P (d' : Int) N nB = 0 := by rw [hF, ← hE]; exact he
    refine ⟨a, b, (d' : Int), a * b * d', rowL (gridF b d' (sumD zs ws bs H W C S P kk' Z)) (a * b * d'), 0, rowL_len _ _, by omega, fun w hr hrw hrb => ?_, fun AV AB kv kb h5 w hr hrw hrb => ?_⟩
    · rw [← hd]
      exact dof_yes H W C A zs n c hn ht hz x0 x1 x2 x8 x11 x12 x13 x14 x15 x16 x17 x18 K S P O Z WA BA nW cW nB cB ws hws hwc hwb bs hbs he a b d' kk' ha hb hd hk _ rfl z1 z2 w hr hrw hrb
    · have h := of_yes H W C A zs n c hn ht hz (.int .i64 1) x1 x2 x8 x11 x12 x13 x14 x15 x16 x17 x18 K S P (d' : Int) Z AV AB N kv nB kb (rowL (wideF ws (kk' * kk') d') N) (rowL_len _ _) h5 (wide_I8b hwb _ _ _) bs hbs hcE a b d' d' kk' ha hb rfl hd hk _ rfl z1 z2 w hr hrw hrb
      rw [← hN, wide_grid zs ws bs H W C S P d' kk' nW b _ Z hd hd0 (by rw [Nat.mul_assoc]; exact hnW), hN] at h
      exact h
  · refine ⟨0, 0, 0, 0, [], _, rfl, by omega, fun w _ _ _ => dof_err H W C A n c x0 x1 x2 x8 x11 x12 x13 x14 x15 x16 x17 x18 K S P O Z WA BA nW cW nB cB ht _ rfl he w, fun AV AB kv kb h5 w _ _ _ => ?_⟩
    have h := of_err H W C A n c (.int .i64 1) x1 x2 x8 x11 x12 x13 x14 x15 x16 x17 x18 K S P (d : Int) Z AV AB N kv nB kb ht _ rfl (by rw [hF, ← hE]; exact he) w
    rw [hF, ← hE] at h
    exact h
set_option maxRecDepth 100000 in
set_option maxHeartbeats 4000000 in
theorem walk_no {w : World} (H W C : Int) (A : Option Addr) (n c : Nat) (x0 x1 x2 x8 x11 x12 x13 x14 x15 x16 x17 x18 : Value) (K S P O Z : Int) (WA BA : Option Addr) (nW cW nB cB : Nat) (ch : Int) (hfew : ¬ (n ≤ 1024 ∧ nW ≤ 2000 ∧ nB ≤ 200)) :
    Calls Try.prog 4 #[.agg #[.int .i64 H, .int .i64 W, .int .i64 C, .slice A n c], .agg #[x0, x1, x2, .int .i64 K, .int .i64 S, .int .i64 P, .int .i64 O, .int .i8 Z, x8, .slice WA nW cW, .slice BA nB cB, x11, x12, x13, x14, x15, x16, x17, x18], .int .i64 ch] w fun e w' => e = .returned (.bool true) ∧ Below w.heap.size w w' := by
  go_enter Try.func4, Try.ntmps4
  go_upto_region 1 with fail
  have TB := Lib.hid ((boxNew H W C A n c 26 w).below (B' := w.heap.size + 1) (by omega) ((Below.refl _ _).alloc (by simp) (.cells #[x0, x1, x2, .int .i64 K, .int .i64 S, .int .i64 P, .int .i64 O, .int .i8 Z, x8, .slice WA nW cW, .slice BA nB cB, x11, x12, x13, x14, x15, x16, x17, x18] 32)))
  have qTN := NodeAt.new x0 x1 x2 x8 x11 x12 x13 x14 x15 x16 x17 x18 K S P O Z WA BA nW cW nB cB 32 (w.alloc (.cells #[.int .i64 H, .int .i64 W, .int .i64 C, .slice A n c] 26))
  rw [World.size_alloc] at qTN
  have TN := Lib.hid qTN
  have HBW := Lib.hid (((Below.refl w.heap.size w).alloc (Nat.le_refl _) (.cells #[.int .i64 H, .int .i64 W, .int .i64 C, .slice A n c] 26)).alloc (by simp) (.cells #[x0, x1, x2, .int .i64 K, .int .i64 S, .int .i64 P, .int .i64 O, .int .i8 Z, x8, .slice WA nW cW, .slice BA nB cB, x11, x12, x13, x14, x15, x16, x17, x18] 32))
  have zz : w.heap.size + 2 ≤ ((w.alloc (.cells #[.int .i64 H, .int .i64 W, .int .i64 C, .slice A n c] 26)).alloc (.cells #[x0, x1, x2, .int .i64 K, .int .i64 S, .int .i64 P, .int .i64 O, .int .i8 Z, x8, .slice WA nW cW, .slice BA nB cB, x11, x12, x13, x14, x15, x16, x17, x18] 32)).heap.size := by simp
  clear qTN
  generalize (w.alloc (.cells #[.int .i64 H, .int .i64 W, .int .i64 C, .slice A n c] 26)).alloc (.cells #[x0, x1, x2, .int .i64 K, .int .i64 S, .int .i64 P, .int .i64 O, .int .i8 Z, x8, .slice WA nW cW, .slice BA nB cB, x11, x12, x13, x14, x15, x16, x17, x18] 32) = Wm at TB TN HBW zz ⊢
  have yTB : w.heap.size < Wm.heap.size := by omega
  have yTN : w.heap.size + 1 < Wm.heap.size := by omega
  obtain ⟨tbp0, tbp1, tbp2, tbp3⟩ := TB.out
  go_wp2_with (first
    | (refine wpList_load_mid rfl 32 (.tmp 4) rfl (w.heap.size + 1) 0 rfl [x0, x1, x2, .int .i64 K, .int .i64 S, .int .i64 P, .int .i64 O, .int .i8 Z, x8, .slice WA nW cW, .slice BA nB cB, x11, x12, x13, x14, x15, x16, x17, x18] _ (TN.out) Try.underlying32 rfl (by kernel_rfl) ?_)
    | (go_at_call 5; refine (few_no H W C A n c x0 x1 x2 x8 x11 x12 x13 x14 x15 x16 x17 x18 K S P O Z WA BA nW cW nB cB hfew _).mono ?_; rintro e w1 ⟨rfl, hb⟩; replace HBW := Lib.hid (HBW.out.trans (hb.mono HBW.out.size)); clear hb)
    | (go_at_call 6; refine (known17 _).mono ?_; rintro e w2 ⟨rfl, hb⟩; replace HBW := Lib.hid (HBW.out.trans (hb.mono HBW.out.size)); clear hb))
  go_ret
  exact ⟨rfl, HBW.out⟩
set_option maxRecDepth 100000 in
set_option maxHeartbeats 8000000 in
theorem walk_bad {w : World} (H W C : Int) (A : Option Addr) (n c : Nat) (x0 x1 x2 x8 x11 x12 x13 x14 x15 x16 x17 x18 : Value) (K S P O Z : Int) (WA BA : Option Addr) (nW cW nB cB : Nat) (ch : Int) (hf1 : n ≤ 1024) (hf2 : nW ≤ 2000) (hf3 : nB ≤ 200) (h : ¬ Fits K nW nB ch) :
    Calls Try.prog 4 #[.agg #[.int .i64 H, .int .i64 W, .int .i64 C, .slice A n c], .agg #[x0, x1, x2, .int .i64 K, .int .i64 S, .int .i64 P, .int .i64 O, .int .i8 Z, x8, .slice WA nW cW, .slice BA nB cB, x11, x12, x13, x14, x15, x16, x17, x18], .int .i64 ch] w fun e w' => e = .returned (.bool true) ∧ Below w.heap.size w w' := by
  have HF := Lib.hid h
  clear h
  go_enter Try.func4, Try.ntmps4
  go_upto_region 1 with fail
  have TB := Lib.hid ((boxNew H W C A n c 26 w).below (B' := w.heap.size + 1) (by omega) ((Below.refl _ _).alloc (by simp) (.cells #[x0, x1, x2, .int .i64 K, .int .i64 S, .int .i64 P, .int .i64 O, .int .i8 Z, x8, .slice WA nW cW, .slice BA nB cB, x11, x12, x13, x14, x15, x16, x17, x18] 32)))
  have qTN := NodeAt.new x0 x1 x2 x8 x11 x12 x13 x14 x15 x16 x17 x18 K S P O Z WA BA nW cW nB cB 32 (w.alloc (.cells #[.int .i64 H, .int .i64 W, .int .i64 C, .slice A n c] 26))
  rw [World.size_alloc] at qTN
  have TN := Lib.hid qTN
  have HBW := Lib.hid (((Below.refl w.heap.size w).alloc (Nat.le_refl _) (.cells #[.int .i64 H, .int .i64 W, .int .i64 C, .slice A n c] 26)).alloc (by simp) (.cells #[x0, x1, x2, .int .i64 K, .int .i64 S, .int .i64 P, .int .i64 O, .int .i8 Z, x8, .slice WA nW cW, .slice BA nB cB, x11, x12, x13, x14, x15, x16, x17, x18] 32))
  have zz : w.heap.size + 2 ≤ ((w.alloc (.cells #[.int .i64 H, .int .i64 W, .int .i64 C, .slice A n c] 26)).alloc (.cells #[x0, x1, x2, .int .i64 K, .int .i64 S, .int .i64 P, .int .i64 O, .int .i8 Z, x8, .slice WA nW cW, .slice BA nB cB, x11, x12, x13, x14, x15, x16, x17, x18] 32)).heap.size := by simp
  clear qTN
  generalize (w.alloc (.cells #[.int .i64 H, .int .i64 W, .int .i64 C, .slice A n c] 26)).alloc (.cells #[x0, x1, x2, .int .i64 K, .int .i64 S, .int .i64 P, .int .i64 O, .int .i8 Z, x8, .slice WA nW cW, .slice BA nB cB, x11, x12, x13, x14, x15, x16, x17, x18] 32) = Wm at TB TN HBW zz ⊢
  have yTB : w.heap.size < Wm.heap.size := by omega
  have yTN : w.heap.size + 1 < Wm.heap.size := by omega
  obtain ⟨tbp0, tbp1, tbp2, tbp3⟩ := TB.out
  go_upto_region 3 with (first
    | (refine wpList_load_mid rfl 32 (.tmp 4) rfl (w.heap.size + 1) 0 rfl [x0, x1, x2, .int .i64 K, .int .i64 S, .int .i64 P, .int .i64 O, .int .i8 Z, x8, .slice WA nW cW, .slice BA nB cB, x11, x12, x13, x14, x15, x16, x17, x18] _ (TN.out) Try.underlying32 rfl (by kernel_rfl) ?_)
    | (go_at_call 5; refine (few_yes H W C A n c x0 x1 x2 x8 x11 x12 x13 x14 x15 x16 x17 x18 K S P O Z WA BA nW cW nB cB hf1 hf2 hf3 _).mono ?_; rintro e w1 ⟨rfl, hb⟩; (replace TB := Lib.hid (TB.out.below yTB hb)); (replace yTB := Nat.lt_of_lt_of_le yTB hb.size); (replace TN := Lib.hid (TN.out.below yTN hb)); (replace yTN := Nat.lt_of_lt_of_le yTN hb.size); (replace HBW := Lib.hid (HBW.out.trans (hb.mono HBW.out.size))); clear hb tbp0 tbp1 tbp2 tbp3; obtain ⟨tbp0, tbp1, tbp2, tbp3⟩ := TB.out))
  go_upto_region 4 with (first
    | (refine wpList_load_mid rfl 32 (.tmp 4) rfl (w.heap.size + 1) 0 rfl [x0, x1, x2, .int .i64 K, .int .i64 S, .int .i64 P, .int .i64 O, .int .i8 Z, x8, .slice WA nW cW, .slice BA nB cB, x11, x12, x13, x14, x15, x16, x17, x18] _ (TN.out) Try.underlying32 rfl (by kernel_rfl) ?_)
    | (go_at_call 12; refine (wide_bad x0 x1 x2 x8 x11 x12 x13 x14 x15 x16 x17 x18 K S P O Z WA BA nW cW nB cB ch HF.out _).mono ?_; rintro e w2 ⟨rfl, hb⟩; (replace TB := Lib.hid (TB.out.below yTB hb)); (replace yTB := Nat.lt_of_lt_of_le yTB hb.size); (replace TN := Lib.hid (TN.out.below yTN hb)); (replace yTN := Nat.lt_of_lt_of_le yTN hb.size); (replace HBW := Lib.hid (HBW.out.trans (hb.mono HBW.out.size))); have HTH := Lib.hid (Kit.there_new w2 (cs := #[.int .i64 0, .int .i64 0, .int .i64 0, .int .i64 0, .int .i64 0, .int .i64 0, .int .i64 0, .int .i8 0, .int .i8 0, .slice none 0 0, .slice none 0 0, .int .i32 0, .int .i64 0, .int .i8 0, .int .i32 0, .int .i64 0, .int .i8 0, .int .i8 0, .int .i8 0]) 32 (n := 19) rfl); clear hb tbp0 tbp1 tbp2 tbp3)
    | (refine wpList_store_mid rfl 32 (.tmp 7) (.tmp 23) rfl w2.heap.size 0 #[.int .i64 0, .int .i64 0, .int .i64 0, .int .i64 0, .int .i64 0, .int .i64 0, .int .i64 0, .int .i8 0, .int .i8 0, .slice none 0 0, .slice none 0 0, .int .i32 0, .int .i64 0, .int .i8 0, .int .i32 0, .int .i64 0, .int .i8 0, .int .i8 0, .int .i8 0] rfl rfl HTH.out (by kernel_rfl) (all_oneCell_toArray (cs := [.int .i64 0, .int .i64 0, .int .i64 0, .int .i64 0, .int .i64 0, .int .i64 0, .int .i64 0, .int .i8 0, .int .i8 0, .slice none 0 0, .slice none 0 0, .int .i32 0, .int .i64 0, .int .i8 0, .int .i32 0, .int .i64 0, .int .i8 0, .int .i8 0, .int .i8 0]) (by simp [Value.oneCell'])) ?_; have TM := Lib.hid (NodeAt.stored HTH.out (.int .i64 0) (.int .i64 0) (.int .i64 0) (.int .i8 0) (.int .i32 0) (.int .i64 0) (.int .i8 0) (.int .i32 0) (.int .i64 0) (.int .i8 0) (.int .i8 0) (.int .i8 0) 0 0 0 0 0 none none 0 0 0 0); have hb3 : Below w2.heap.size w2 ((w2.alloc (.cells #[.int .i64 0, .int .i64 0, .int .i64 0, .int .i64 0, .int .i64 0, .int .i64 0, .int .i64 0, .int .i8 0, .int .i8 0, .slice none 0 0, .slice none 0 0, .int .i32 0, .int .i64 0, .int .i8 0, .int .i32 0, .int .i64 0, .int .i8 0, .int .i8 0, .int .i8 0] 32)).setCells w2.heap.size 0 [.int .i64 0, .int .i64 0, .int .i64 0, .int .i64 0, .int .i64 0, .int .i64 0, .int .i64 0, .int .i8 0, .int .i8 0, .slice none 0 0, .slice none 0 0, .int .i32 0, .int .i64 0, .int .i8 0, .int .i32 0, .int .i64 0, .int .i8 0, .int .i8 0, .int .i8 0]) := Kit.below_cells (Nat.le_refl _) _ _ _ ((Below.refl _ _).alloc (Nat.le_refl _) _); have yTM : w2.heap.size < ((w2.alloc (.cells #[.int .i64 0, .int .i64 0, .int .i64 0, .int .i64 0, .int .i64 0, .int .i64 0, .int .i64 0, .int .i8 0, .int .i8 0, .slice none 0 0, .slice none 0 0, .int .i32 0, .int .i64 0, .int .i8 0, .int .i32 0, .int .i64 0, .int .i8 0, .int .i8 0, .int .i8 0] 32)).setCells w2.heap.size 0 [.int .i64 0, .int .i64 0, .int .i64 0, .int .i64 0, .int .i64 0, .int .i64 0, .int .i64 0, .int .i8 0, .int .i8 0, .slice none 0 0, .slice none 0 0, .int .i32 0, .int .i64 0, .int .i8 0, .int .i32 0, .int .i64 0, .int .i8 0, .int .i8 0, .int .i8 0]).heap.size := (by rw [Kit.size_cells]; simp); (replace TB := Lib.hid (TB.out.below yTB hb3)); (replace yTB := Nat.lt_of_lt_of_le yTB hb3.size); (replace TN := Lib.hid (TN.out.below yTN hb3)); (replace yTN := Nat.lt_of_lt_of_le yTN hb3.size); (replace HBW := Lib.hid (HBW.out.trans (hb3.mono HBW.out.size))); clear hb3 HTH; generalize (w2.alloc (.cells #[.int .i64 0, .int .i64 0, .int .i64 0, .int .i64 0, .int .i64 0, .int .i64 0, .int .i64 0, .int .i8 0, .int .i8 0, .slice none 0 0, .slice none 0 0, .int .i32 0, .int .i64 0, .int .i8 0, .int .i32 0, .int .i64 0, .int .i8 0, .int .i8 0, .int .i8 0] 32)).setCells w2.heap.size 0 [.int .i64 0, .int .i64 0, .int .i64 0, .int .i64 0, .int .i64 0, .int .i64 0, .int .i64 0, .int .i8 0, .int .i8 0, .slice none 0 0, .slice none 0 0, .int .i32 0, .int .i64 0, .int .i8 0, .int .i32 0, .int .i64 0, .int .i8 0, .int .i8 0, .int .i8 0] = w3 at TB TN TM yTB yTN yTM HBW ⊢))
  generalize w2.heap.size = gM at TM yTM ⊢
  obtain ⟨tbp0, tbp1, tbp2, tbp3⟩ := TB.out
  have n3 := TN.out.at 3 _ rfl
  have n9 := TN.out.at 9 _ rfl
  have n10 := TN.out.at 10 _ rfl
  have m0 := TM.out.at 0 _ rfl
  have m3 := TM.out.at 3 _ rfl
  have m6 := TM.out.at 6 _ rfl
  have m9 := TM.out.at 9 _ rfl
  have h := HF.out
  clear HF
  rcases (show ch < 1 ∨ (1 ≤ ch ∧ 64 < ch) ∨ (1 ≤ ch ∧ ch ≤ 64 ∧ K < 1) ∨ (1 ≤ ch ∧ ch ≤ 64 ∧ 1 ≤ K ∧ 5 < K) ∨ (1 ≤ ch ∧ ch ≤ 64 ∧ 1 ≤ K ∧ K ≤ 5) by omega) with a1 | ⟨a1, a2⟩ | ⟨a1, a2, a3⟩ | ⟨a1, a2, a3, a4⟩ | ⟨a1, a2, a3, a4⟩
  case inr.inr.inr.inr =>
    obtain ⟨k1, k2⟩ := k2_bd a3 a4
    obtain ⟨c1, c2⟩ := ck_bd a1 a2 k1 k2
    obtain ⟨c3, c4⟩ := ck_bd a1 a2 a3 (by omega)
    unfold Fits at h
    have e0 : ch * (K * K) = ch * K * K := (Int.mul_assoc _ _ _).symm
    rw [e0] at h c1 c2
    obtain ⟨q0, hq0⟩ : ∃ q0, ch * K = q0 := ⟨_, rfl⟩
    rw [hq0] at h c1 c2 c3 c4
    obtain ⟨q, hq⟩ : ∃ q, q0 * K = q := ⟨_, rfl⟩
    rw [hq] at h c1 c2
    have e1 : IntKind.i64.wrap (ch * K) = q0 := by rw [hq0]; exact IntWalk.i64_in _ (by omega)
    have e2 : IntKind.i64.wrap (q0 * K) = q := by rw [hq]; exact IntWalk.i64_in _ (by omega)
    by_cases h5 : (nW : Int) = q
    · obtain ⟨r0, r1⟩ := cn_bd a1 a2 (n := (nW : Int)) (by omega) (by omega)
      obtain ⟨r, hr⟩ : ∃ r, (nW : Int) * ch = r := ⟨_, rfl⟩
      rw [hr] at h r0 r1
      have e3 : IntKind.i64.wrap ((nW : Int) * ch) = r := by rw [hr]; exact IntWalk.i64_in _ (by omega)
      have h5b : ((nW : Int) == q) = true := by simpa using h5
      have HQ5 := Lib.hid h5
      by_cases h7 : (nB : Int) = ch
      · have h7b : ((nB : Int) == ch) = true := by simpa using h7
        have h6b : ¬ r ≤ 16384 := fun h8 => h ⟨a1, a2, a3, a4, h5, h7, h8⟩
        clear h hq0 hq hr h5 h7 e0
        go_wp2_with (go_at_call 6; refine (known17 _).mono ?_; rintro e w9 ⟨rfl, hb⟩; replace HBW := Lib.hid (HBW.out.trans (hb.mono HBW.out.size)); clear hb)
        go_ret
        exact ⟨rfl, HBW.out⟩
      · have h7b : ((nB : Int) == ch) = false := by simpa using h7
        clear h hq0 hq hr h5 e0
        go_wp2_with (go_at_call 6; refine (known17 _).mono ?_; rintro e w9 ⟨rfl, hb⟩; replace HBW := Lib.hid (HBW.out.trans (hb.mono HBW.out.size)); clear hb)
        go_ret
        exact ⟨rfl, HBW.out⟩
    · have h5b : ((nW : Int) == q) = false := by simpa using h5
      clear h hq0 hq e0
      go_wp2_with (go_at_call 6; refine (known17 _).mono ?_; rintro e w9 ⟨rfl, hb⟩; replace HBW := Lib.hid (HBW.out.trans (hb.mono HBW.out.size)); clear hb)
      go_ret
      exact ⟨rfl, HBW.out⟩
  all_goals
    clear h
    go_wp2_with (go_at_call 6; refine (known17 _).mono ?_; rintro e w9 ⟨rfl, hb⟩; replace HBW := Lib.hid (HBW.out.trans (hb.mono HBW.out.size)); clear hb)
    go_ret
    exact ⟨rfl, HBW.out⟩

set_option maxRecDepth 100000 in
set_option maxHeartbeats 8000000 in
theorem walk_offt {w : World} (H W C : Int) (A : Option Addr) (zs : List Int) (n c : Nat) (hn : zs.length = n) (x0 x1 x2 x8 x11 x12 x13 x14 x15 x16 x17 x18 : Value) (K S P O Z : Int) (WA BA : Option Addr) (nW cW nB cB : Nat) (hone : ∀ v ∈ [x0, x1, x2, .int .i64 K, .int .i64 S, .int .i64 P, .int .i64 O, .int .i8 Z, x8, .slice WA nW cW, .slice BA nB cB, x11, x12, x13, x14, x15, x16, x17, x18], v.oneCell' = true) (ws : List Int) (hws : ws.length = nW) (hwc : nW ≤ cW) (hwb : I8b ws) (bs : List Int) (hbs : bs.length = nB) (d kk N : Nat) (hk : K = (kk : Int)) (d1 : 1 ≤ d) (d2 : d ≤ 64) (k1 : 1 ≤ kk) (k2 : kk ≤ 5) (hnW : d * (kk * kk) = nW) (hnB : nB = d) (hN : nW * d = N) (hN2 : N ≤ 16384) (ht : tensB H W C n = false)
    (hf1 : n ≤ 1024) (hf2 : nW ≤ 2000) (hf3 : nB ≤ 200) (hr : Kit.Rd w w.heap.size A (I8s zs)) (hrw : Kit.Rd w w.heap.size WA (I8s ws)) (hrb : Kit.Rd w w.heap.size BA (I32v bs)) :
    Calls Try.prog 4 #[.agg #[.int .i64 H, .int .i64 W, .int .i64 C, .slice A n c], .agg #[x0, x1, x2, .int .i64 K, .int .i64 S, .int .i64 P, .int .i64 O, .int .i8 Z, x8, .slice WA nW cW, .slice BA nB cB, x11, x12, x13, x14, x15, x16, x17, x18], .int .i64 (d : Int)] w fun e w' => e = .returned (.bool true) ∧ Below w.heap.size w w' := by
  have HW := Lib.hid (fun (w' : World) (r1 : Kit.Rd w' w'.heap.size WA (I8s ws)) (r2 : Kit.Rd w' w'.heap.size BA (I32v bs)) => wide_ok x0 x1 x2 x8 x11 x12 x13 x14 x15 x16 x17 x18 K S P O Z WA BA nW cW nB cB hone ws hws bs hbs d kk N hk d1 d2 k1 k2 hnW hnB hN hN2 w' r1 r2)
  have HONE := Lib.hid hone
  have HR := Lib.hid hr
  have HRW := Lib.hid hrw
  have HRB := Lib.hid hrb
  have g1 : d * kk ≤ 320 := Nat.le_trans (Nat.mul_le_mul d2 k2) (by omega)
  obtain ⟨q0, hq0⟩ : ∃ q0, d * kk = q0 := ⟨_, rfl⟩
  have hq1 : q0 * kk = nW := by rw [← hq0, Nat.mul_assoc]; exact hnW
  have e1 : IntKind.i64.wrap ((d : Int) * (kk : Int)) = (q0 : Int) := by rw [← Int.natCast_mul, hq0]; exact IntWalk.i64_in _ (by omega)
  have e2 : IntKind.i64.wrap ((q0 : Int) * (kk : Int)) = (nW : Int) := by rw [← Int.natCast_mul, hq1]; exact IntWalk.i64_in _ (by omega)
  have e3 : IntKind.i64.wrap ((nW : Int) * (d : Int)) = (N : Int) := by rw [← Int.natCast_mul, hN]; exact IntWalk.i64_in _ (by omega)
  have j1 : 1 ≤ (d : Int) := by omega
  have j2 : (d : Int) ≤ 64 := by omega
  have j3 : 1 ≤ (kk : Int) := by omega
  have j4 : (kk : Int) ≤ 5 := by omega
  have j5 : (N : Int) ≤ 16384 := by omega
  have j6 : (nB : Int) = (d : Int) := by omega
  have j7 : ((nB : Int) == (d : Int)) = true := by simpa using j6
  have HFZ := Lib.hid hnB
  have HT := Lib.hid ht
  subst hk
  clear hn hone hr hrw hrb hws hwc hwb hbs hnW hnB hN hN2 hq0 hq1 g1 d1 d2 k1 k2 j6 ht
  go_enter Try.func4, Try.ntmps4
  go_upto_region 1 with fail
  have TB := Lib.hid ((boxNew H W C A n c 26 w).below (B' := w.heap.size + 1) (by omega) ((Below.refl _ _).alloc (by simp) (.cells #[x0, x1, x2, .int .i64 (kk : Int), .int .i64 S, .int .i64 P, .int .i64 O, .int .i8 Z, x8, .slice WA nW cW, .slice BA nB cB, x11, x12, x13, x14, x15, x16, x17, x18] 32)))
  have qTN := NodeAt.new x0 x1 x2 x8 x11 x12 x13 x14 x15 x16 x17 x18 (kk : Int) S P O Z WA BA nW cW nB cB 32 (w.alloc (.cells #[.int .i64 H, .int .i64 W, .int .i64 C, .slice A n c] 26))
  rw [World.size_alloc] at qTN
  have TN := Lib.hid qTN
  have HBW := Lib.hid (((Below.refl w.heap.size w).alloc (Nat.le_refl _) (.cells #[.int .i64 H, .int .i64 W, .int .i64 C, .slice A n c] 26)).alloc (by simp) (.cells #[x0, x1, x2, .int .i64 (kk : Int), .int .i64 S, .int .i64 P, .int .i64 O, .int .i8 Z, x8, .slice WA nW cW, .slice BA nB cB, x11, x12, x13, x14, x15, x16, x17, x18] 32))
  have zz : w.heap.size + 2 ≤ ((w.alloc (.cells #[.int .i64 H, .int .i64 W, .int .i64 C, .slice A n c] 26)).alloc (.cells #[x0, x1, x2, .int .i64 (kk : Int), .int .i64 S, .int .i64 P, .int .i64 O, .int .i8 Z, x8, .slice WA nW cW, .slice BA nB cB, x11, x12, x13, x14, x15, x16, x17, x18] 32)).heap.size := by simp
  clear qTN
  generalize (w.alloc (.cells #[.int .i64 H, .int .i64 W, .int .i64 C, .slice A n c] 26)).alloc (.cells #[x0, x1, x2, .int .i64 (kk : Int), .int .i64 S, .int .i64 P, .int .i64 O, .int .i8 Z, x8, .slice WA nW cW, .slice BA nB cB, x11, x12, x13, x14, x15, x16, x17, x18] 32) = Wm at TB TN HBW zz ⊢
  have yTB : w.heap.size < Wm.heap.size := by omega
  have yTN : w.heap.size + 1 < Wm.heap.size := by omega
  obtain ⟨tbp0, tbp1, tbp2, tbp3⟩ := TB.out
  replace HR := Lib.hid ((HR.out.below HBW.out).more HBW.out.size)
  replace HRW := Lib.hid ((HRW.out.below HBW.out).more HBW.out.size)
  replace HRB := Lib.hid ((HRB.out.below HBW.out).more HBW.out.size)
  go_upto_region 3 with (first
    | (refine wpList_load_mid rfl 32 (.tmp 4) rfl (w.heap.size + 1) 0 rfl [x0, x1, x2, .int .i64 (kk : Int), .int .i64 S, .int .i64 P, .int .i64 O, .int .i8 Z, x8, .slice WA nW cW, .slice BA nB cB, x11, x12, x13, x14, x15, x16, x17, x18] _ (TN.out) Try.underlying32 rfl (by kernel_rfl) ?_)
    | (go_at_call 5; refine (few_yes H W C A n c x0 x1 x2 x8 x11 x12 x13 x14 x15 x16 x17 x18 (kk : Int) S P O Z WA BA nW cW nB cB hf1 hf2 hf3 _).mono ?_; rintro e w1 ⟨rfl, hb⟩; (replace TB := Lib.hid (TB.out.below yTB hb)); (replace yTB := Nat.lt_of_lt_of_le yTB hb.size); (replace TN := Lib.hid (TN.out.below yTN hb)); (replace yTN := Nat.lt_of_lt_of_le yTN hb.size); (replace HR := Lib.hid ((HR.out.below hb).more hb.size)); (replace HRW := Lib.hid ((HRW.out.below hb).more hb.size)); (replace HRB := Lib.hid ((HRB.out.below hb).more hb.size)); (replace HBW := Lib.hid (HBW.out.trans (hb.mono HBW.out.size))); clear hb tbp0 tbp1 tbp2 tbp3; obtain ⟨tbp0, tbp1, tbp2, tbp3⟩ := TB.out))
  go_upto_region 4 with (first
    | (refine wpList_load_mid rfl 32 (.tmp 4) rfl (w.heap.size + 1) 0 rfl [x0, x1, x2, .int .i64 (kk : Int), .int .i64 S, .int .i64 P, .int .i64 O, .int .i8 Z, x8, .slice WA nW cW, .slice BA nB cB, x11, x12, x13, x14, x15, x16, x17, x18] _ (TN.out) Try.underlying32 rfl (by kernel_rfl) ?_)
    | (go_at_call 12; refine (HW.out _ HRW.out HRB.out).mono ?_; rintro e w2 ⟨vW, vB, rfl, hoW, hoB, hb⟩; obtain ⟨AV, kv, rfl, hkv, -, hrV⟩ := Kit.own_rd hoW; obtain ⟨AB, kb, rfl, -, -, hrB9⟩ := Kit.own_rd hoB; have RV := Lib.hid hrV; have RB9 := Lib.hid hrB9; clear hoW hoB hrV hrB9; (replace TB := Lib.hid (TB.out.below yTB hb)); (replace yTB := Nat.lt_of_lt_of_le yTB hb.size); (replace TN := Lib.hid (TN.out.below yTN hb)); (replace yTN := Nat.lt_of_lt_of_le yTN hb.size); (replace HR := Lib.hid ((HR.out.below hb).more hb.size)); (replace HRW := Lib.hid ((HRW.out.below hb).more hb.size)); (replace HRB := Lib.hid ((HRB.out.below hb).more hb.size)); (replace HBW := Lib.hid (HBW.out.trans (hb.mono HBW.out.size))); have HTH := Lib.hid (Kit.there_new w2 (cs := #[.int .i64 0, .int .i64 0, .int .i64 0, .int .i64 0, .int .i64 0, .int .i64 0, .int .i64 0, .int .i8 0, .int .i8 0, .slice none 0 0, .slice none 0 0, .int .i32 0, .int .i64 0, .int .i8 0, .int .i32 0, .int .i64 0, .int .i8 0, .int .i8 0, .int .i8 0]) 32 (n := 19) rfl); clear hb tbp0 tbp1 tbp2 tbp3)
    | (refine wpList_store_mid rfl 32 (.tmp 7) (.tmp 23) rfl w2.heap.size 0 #[.int .i64 1, x1, x2, .int .i64 (kk : Int), .int .i64 S, .int .i64 P, .int .i64 (d : Int), .int .i8 Z, x8, .slice AV N kv, .slice AB nB kb, x11, x12, x13, x14, x15, x16, x17, x18] rfl rfl HTH.out (by kernel_rfl) (all_oneCell_toArray (cs := [.int .i64 1, x1, x2, .int .i64 (kk : Int), .int .i64 S, .int .i64 P, .int .i64 (d : Int), .int .i8 Z, x8, .slice AV N kv, .slice AB nB kb, x11, x12, x13, x14, x15, x16, x17, x18]) (fun v hv => by
      simp only [List.mem_cons, List.not_mem_nil, or_false] at hv
      rcases hv with rfl | rfl | rfl | rfl | rfl | rfl | rfl | rfl | rfl | rfl | rfl | rfl | rfl | rfl | rfl | rfl | rfl | rfl | rfl <;> first | rfl | exact HONE.out _ (by simp))) ?_; have TM := Lib.hid (NodeAt.stored HTH.out (.int .i64 1) x1 x2 x8 x11 x12 x13 x14 x15 x16 x17 x18 (kk : Int) S P (d : Int) Z AV AB N kv nB kb); have hb3 : Below w2.heap.size w2 ((w2.alloc (.cells #[.int .i64 0, .int .i64 0, .int .i64 0, .int .i64 0, .int .i64 0, .int .i64 0, .int .i64 0, .int .i8 0, .int .i8 0, .slice none 0 0, .slice none 0 0, .int .i32 0, .int .i64 0, .int .i8 0, .int .i32 0, .int .i64 0, .int .i8 0, .int .i8 0, .int .i8 0] 32)).setCells w2.heap.size 0 [.int .i64 1, x1, x2, .int .i64 (kk : Int), .int .i64 S, .int .i64 P, .int .i64 (d : Int), .int .i8 Z, x8, .slice AV N kv, .slice AB nB kb, x11, x12, x13, x14, x15, x16, x17, x18]) := Kit.below_cells (Nat.le_refl _) _ _ _ ((Below.refl _ _).alloc (Nat.le_refl _) _); have yTM : w2.heap.size < ((w2.alloc (.cells #[.int .i64 0, .int .i64 0, .int .i64 0, .int .i64 0, .int .i64 0, .int .i64 0, .int .i64 0, .int .i8 0, .int .i8 0, .slice none 0 0, .slice none 0 0, .int .i32 0, .int .i64 0, .int .i8 0, .int .i32 0, .int .i64 0, .int .i8 0, .int .i8 0, .int .i8 0] 32)).setCells w2.heap.size 0 [.int .i64 1, x1, x2, .int .i64 (kk : Int), .int .i64 S, .int .i64 P, .int .i64 (d : Int), .int .i8 Z, x8, .slice AV N kv, .slice AB nB kb, x11, x12, x13, x14, x15, x16, x17, x18]).heap.size := (by rw [Kit.size_cells]; simp); (replace TB := Lib.hid (TB.out.below yTB hb3)); (replace yTB := Nat.lt_of_lt_of_le yTB hb3.size); (replace TN := Lib.hid (TN.out.below yTN hb3)); (replace yTN := Nat.lt_of_lt_of_le yTN hb3.size); (replace HR := Lib.hid ((HR.out.below hb3).more hb3.size)); (replace HRW := Lib.hid ((HRW.out.below hb3).more hb3.size)); (replace HRB := Lib.hid ((HRB.out.below hb3).more hb3.size)); (replace RV := Lib.hid ((RV.out.below hb3).more hb3.size)); (replace RB9 := Lib.hid ((RB9.out.below hb3).more hb3.size)); (replace HBW := Lib.hid (HBW.out.trans (hb3.mono HBW.out.size))); clear hb3 HTH; generalize (w2.alloc (.cells #[.int .i64 0, .int .i64 0, .int .i64 0, .int .i64 0, .int .i64 0, .int .i64 0, .int .i64 0, .int .i8 0, .int .i8 0, .slice none 0 0, .slice none 0 0, .int .i32 0, .int .i64 0, .int .i8 0, .int .i32 0, .int .i64 0, .int .i8 0, .int .i8 0, .int .i8 0] 32)).setCells w2.heap.size 0 [.int .i64 1, x1, x2, .int .i64 (kk : Int), .int .i64 S, .int .i64 P, .int .i64 (d : Int), .int .i8 Z, x8, .slice AV N kv, .slice AB nB kb, x11, x12, x13, x14, x15, x16, x17, x18] = w3 at TB TN TM yTB yTN yTM HBW RV RB9 HR HRW HRB ⊢))
  generalize w2.heap.size = gM at TM yTM ⊢
  obtain ⟨tbp0, tbp1, tbp2, tbp3⟩ := TB.out
  have n3 := TN.out.at 3 _ rfl
  have n9 := TN.out.at 9 _ rfl
  have n10 := TN.out.at 10 _ rfl
  have m0 := TM.out.at 0 _ rfl
  have m3 := TM.out.at 3 _ rfl
  have m6 := TM.out.at 6 _ rfl
  have m9 := TM.out.at 9 _ rfl
  have j8 : (nB : Int) = (d : Int) := by have := HFZ.out; omega
  go_wp2_with (first
    | (go_at_call 13
       have hal : Below w3.heap.size w3 w3 := Below.refl _ _
       refine (refRight_to H W C A n c false HT.out _).mono ?_
       rintro e w4 ⟨rfl, hb⟩
       have hh : Below w3.heap.size w3 w4 := hal.trans (hb.mono hal.size)
       replace TB := Lib.hid (TB.out.below yTB hh)
       replace yTB := Nat.lt_of_lt_of_le yTB hh.size
       replace TN := Lib.hid (TN.out.below yTN hh)
       replace yTN := Nat.lt_of_lt_of_le yTN hh.size
       replace TM := Lib.hid (TM.out.below yTM hh)
       replace yTM := Nat.lt_of_lt_of_le yTM hh.size
       replace HR := Lib.hid ((HR.out.below hh).more hh.size)
       replace HRW := Lib.hid ((HRW.out.below hh).more hh.size)
       replace HRB := Lib.hid ((HRB.out.below hh).more hh.size)
       replace RV := Lib.hid ((RV.out.below hh).more hh.size)
       replace RB9 := Lib.hid ((RB9.out.below hh).more hh.size)
       replace HBW := Lib.hid (HBW.out.trans (hh.mono HBW.out.size))
       obtain ⟨tbp0, tbp1, tbp2, tbp3⟩ := TB.out
       clear hb hh hal)
    | (go_at_call 6
       have hal : Below w4.heap.size w4 w4 := Below.refl _ _
       refine (known17 _).mono ?_
       rintro e w8 ⟨rfl, hb⟩
       have hh : Below w4.heap.size w4 w8 := hal.trans (hb.mono hal.size)
       replace TB := Lib.hid (TB.out.below yTB hh)
       replace yTB := Nat.lt_of_lt_of_le yTB hh.size
       replace TN := Lib.hid (TN.out.below yTN hh)
       replace yTN := Nat.lt_of_lt_of_le yTN hh.size
       replace TM := Lib.hid (TM.out.below yTM hh)
       replace yTM := Nat.lt_of_lt_of_le yTM hh.size
       replace HR := Lib.hid ((HR.out.below hh).more hh.size)
       replace HRW := Lib.hid ((HRW.out.below hh).more hh.size)
       replace HRB := Lib.hid ((HRB.out.below hh).more hh.size)
       replace RV := Lib.hid ((RV.out.below hh).more hh.size)
       replace RB9 := Lib.hid ((RB9.out.below hh).more hh.size)
       replace HBW := Lib.hid (HBW.out.trans (hh.mono HBW.out.size))
       clear tbp0 tbp1 tbp2 tbp3
       obtain ⟨tbp0, tbp1, tbp2, tbp3⟩ := TB.out
       clear hb hh hal))
  go_ret
  exact ⟨rfl, HBW.out⟩
set_option maxRecDepth 100000 in
set_option maxHeartbeats 8000000 in
theorem walk_offc {w : World} (H W C : Int) (A : Option Addr) (zs : List Int) (n c : Nat) (hn : zs.length = n) (x0 x1 x2 x8 x11 x12 x13 x14 x15 x16 x17 x18 : Value) (K S P O Z : Int) (WA BA : Option Addr) (nW cW nB cB : Nat) (hone : ∀ v ∈ [x0, x1, x2, .int .i64 K, .int .i64 S, .int .i64 P, .int .i64 O, .int .i8 Z, x8, .slice WA nW cW, .slice BA nB cB, x11, x12, x13, x14, x15, x16, x17, x18], v.oneCell' = true) (ws : List Int) (hws : ws.length = nW) (hwc : nW ≤ cW) (hwb : I8b ws) (bs : List Int) (hbs : bs.length = nB) (d kk N : Nat) (hk : K = (kk : Int)) (d1 : 1 ≤ d) (d2 : d ≤ 64) (k1 : 1 ≤ kk) (k2 : kk ≤ 5) (hnW : d * (kk * kk) = nW) (hnB : nB = d) (hN : nW * d = N) (hN2 : N ≤ 16384) (ht : tensB H W C n = true) (hC : ¬ C = (d : Int))
    (hf1 : n ≤ 1024) (hf2 : nW ≤ 2000) (hf3 : nB ≤ 200) (hr : Kit.Rd w w.heap.size A (I8s zs)) (hrw : Kit.Rd w w.heap.size WA (I8s ws)) (hrb : Kit.Rd w w.heap.size BA (I32v bs)) :
    Calls Try.prog 4 #[.agg #[.int .i64 H, .int .i64 W, .int .i64 C, .slice A n c], .agg #[x0, x1, x2, .int .i64 K, .int .i64 S, .int .i64 P, .int .i64 O, .int .i8 Z, x8, .slice WA nW cW, .slice BA nB cB, x11, x12, x13, x14, x15, x16, x17, x18], .int .i64 (d : Int)] w fun e w' => e = .returned (.bool true) ∧ Below w.heap.size w w' := by
  have HW := Lib.hid (fun (w' : World) (r1 : Kit.Rd w' w'.heap.size WA (I8s ws)) (r2 : Kit.Rd w' w'.heap.size BA (I32v bs)) => wide_ok x0 x1 x2 x8 x11 x12 x13 x14 x15 x16 x17 x18 K S P O Z WA BA nW cW nB cB hone ws hws bs hbs d kk N hk d1 d2 k1 k2 hnW hnB hN hN2 w' r1 r2)
  have HONE := Lib.hid hone
  have HR := Lib.hid hr
  have HRW := Lib.hid hrw
  have HRB := Lib.hid hrb
  have g1 : d * kk ≤ 320 := Nat.le_trans (Nat.mul_le_mul d2 k2) (by omega)
  obtain ⟨q0, hq0⟩ : ∃ q0, d * kk = q0 := ⟨_, rfl⟩
  have hq1 : q0 * kk = nW := by rw [← hq0, Nat.mul_assoc]; exact hnW
  have e1 : IntKind.i64.wrap ((d : Int) * (kk : Int)) = (q0 : Int) := by rw [← Int.natCast_mul, hq0]; exact IntWalk.i64_in _ (by omega)
  have e2 : IntKind.i64.wrap ((q0 : Int) * (kk : Int)) = (nW : Int) := by rw [← Int.natCast_mul, hq1]; exact IntWalk.i64_in _ (by omega)
  have e3 : IntKind.i64.wrap ((nW : Int) * (d : Int)) = (N : Int) := by rw [← Int.natCast_mul, hN]; exact IntWalk.i64_in _ (by omega)
  have j1 : 1 ≤ (d : Int) := by omega
  have j2 : (d : Int) ≤ 64 := by omega
  have j3 : 1 ≤ (kk : Int) := by omega
  have j4 : (kk : Int) ≤ 5 := by omega
  have j5 : (N : Int) ≤ 16384 := by omega
  have j6 : (nB : Int) = (d : Int) := by omega
  have j7 : ((nB : Int) == (d : Int)) = true := by simpa using j6
  have HFZ := Lib.hid hnB
  have hC2 : (C != (d : Int)) = true := by simpa using hC
  have hC3 : (C == (d : Int)) = false := by simpa using hC
  have HT := Lib.hid ht
  subst hk
  clear hn hone hr hrw hrb hws hwc hwb hbs hnW hnB hN hN2 hq0 hq1 g1 d1 d2 k1 k2 j6 ht
  go_enter Try.func4, Try.ntmps4
  go_upto_region 1 with fail
  have TB := Lib.hid ((boxNew H W C A n c 26 w).below (B' := w.heap.size + 1) (by omega) ((Below.refl _ _).alloc (by simp) (.cells #[x0, x1, x2, .int .i64 (kk : Int), .int .i64 S, .int .i64 P, .int .i64 O, .int .i8 Z, x8, .slice WA nW cW, .slice BA nB cB, x11, x12, x13, x14, x15, x16, x17, x18] 32)))
  have qTN := NodeAt.new x0 x1 x2 x8 x11 x12 x13 x14 x15 x16 x17 x18 (kk : Int) S P O Z WA BA nW cW nB cB 32 (w.alloc (.cells #[.int .i64 H, .int .i64 W, .int .i64 C, .slice A n c] 26))
  rw [World.size_alloc] at qTN
  have TN := Lib.hid qTN
  have HBW := Lib.hid (((Below.refl w.heap.size w).alloc (Nat.le_refl _) (.cells #[.int .i64 H, .int .i64 W, .int .i64 C, .slice A n c] 26)).alloc (by simp) (.cells #[x0, x1, x2, .int .i64 (kk : Int), .int .i64 S, .int .i64 P, .int .i64 O, .int .i8 Z, x8, .slice WA nW cW, .slice BA nB cB, x11, x12, x13, x14, x15, x16, x17, x18] 32))
  have zz : w.heap.size + 2 ≤ ((w.alloc (.cells #[.int .i64 H, .int .i64 W, .int .i64 C, .slice A n c] 26)).alloc (.cells #[x0, x1, x2, .int .i64 (kk : Int), .int .i64 S, .int .i64 P, .int .i64 O, .int .i8 Z, x8, .slice WA nW cW, .slice BA nB cB, x11, x12, x13, x14, x15, x16, x17, x18] 32)).heap.size := by simp
  clear qTN
  generalize (w.alloc (.cells #[.int .i64 H, .int .i64 W, .int .i64 C, .slice A n c] 26)).alloc (.cells #[x0, x1, x2, .int .i64 (kk : Int), .int .i64 S, .int .i64 P, .int .i64 O, .int .i8 Z, x8, .slice WA nW cW, .slice BA nB cB, x11, x12, x13, x14, x15, x16, x17, x18] 32) = Wm at TB TN HBW zz ⊢
  have yTB : w.heap.size < Wm.heap.size := by omega
  have yTN : w.heap.size + 1 < Wm.heap.size := by omega
  obtain ⟨tbp0, tbp1, tbp2, tbp3⟩ := TB.out
  replace HR := Lib.hid ((HR.out.below HBW.out).more HBW.out.size)
  replace HRW := Lib.hid ((HRW.out.below HBW.out).more HBW.out.size)
  replace HRB := Lib.hid ((HRB.out.below HBW.out).more HBW.out.size)
  go_upto_region 3 with (first
    | (refine wpList_load_mid rfl 32 (.tmp 4) rfl (w.heap.size + 1) 0 rfl [x0, x1, x2, .int .i64 (kk : Int), .int .i64 S, .int .i64 P, .int .i64 O, .int .i8 Z, x8, .slice WA nW cW, .slice BA nB cB, x11, x12, x13, x14, x15, x16, x17, x18] _ (TN.out) Try.underlying32 rfl (by kernel_rfl) ?_)
    | (go_at_call 5; refine (few_yes H W C A n c x0 x1 x2 x8 x11 x12 x13 x14 x15 x16 x17 x18 (kk : Int) S P O Z WA BA nW cW nB cB hf1 hf2 hf3 _).mono ?_; rintro e w1 ⟨rfl, hb⟩; (replace TB := Lib.hid (TB.out.below yTB hb)); (replace yTB := Nat.lt_of_lt_of_le yTB hb.size); (replace TN := Lib.hid (TN.out.below yTN hb)); (replace yTN := Nat.lt_of_lt_of_le yTN hb.size); (replace HR := Lib.hid ((HR.out.below hb).more hb.size)); (replace HRW := Lib.hid ((HRW.out.below hb).more hb.size)); (replace HRB := Lib.hid ((HRB.out.below hb).more hb.size)); (replace HBW := Lib.hid (HBW.out.trans (hb.mono HBW.out.size))); clear hb tbp0 tbp1 tbp2 tbp3; obtain ⟨tbp0, tbp1, tbp2, tbp3⟩ := TB.out))
  go_upto_region 4 with (first
    | (refine wpList_load_mid rfl 32 (.tmp 4) rfl (w.heap.size + 1) 0 rfl [x0, x1, x2, .int .i64 (kk : Int), .int .i64 S, .int .i64 P, .int .i64 O, .int .i8 Z, x8, .slice WA nW cW, .slice BA nB cB, x11, x12, x13, x14, x15, x16, x17, x18] _ (TN.out) Try.underlying32 rfl (by kernel_rfl) ?_)
    | (go_at_call 12; refine (HW.out _ HRW.out HRB.out).mono ?_; rintro e w2 ⟨vW, vB, rfl, hoW, hoB, hb⟩; obtain ⟨AV, kv, rfl, hkv, -, hrV⟩ := Kit.own_rd hoW; obtain ⟨AB, kb, rfl, -, -, hrB9⟩ := Kit.own_rd hoB; have RV := Lib.hid hrV; have RB9 := Lib.hid hrB9; clear hoW hoB hrV hrB9; (replace TB := Lib.hid (TB.out.below yTB hb)); (replace yTB := Nat.lt_of_lt_of_le yTB hb.size); (replace TN := Lib.hid (TN.out.below yTN hb)); (replace yTN := Nat.lt_of_lt_of_le yTN hb.size); (replace HR := Lib.hid ((HR.out.below hb).more hb.size)); (replace HRW := Lib.hid ((HRW.out.below hb).more hb.size)); (replace HRB := Lib.hid ((HRB.out.below hb).more hb.size)); (replace HBW := Lib.hid (HBW.out.trans (hb.mono HBW.out.size))); have HTH := Lib.hid (Kit.there_new w2 (cs := #[.int .i64 0, .int .i64 0, .int .i64 0, .int .i64 0, .int .i64 0, .int .i64 0, .int .i64 0, .int .i8 0, .int .i8 0, .slice none 0 0, .slice none 0 0, .int .i32 0, .int .i64 0, .int .i8 0, .int .i32 0, .int .i64 0, .int .i8 0, .int .i8 0, .int .i8 0]) 32 (n := 19) rfl); clear hb tbp0 tbp1 tbp2 tbp3)
    | (refine wpList_store_mid rfl 32 (.tmp 7) (.tmp 23) rfl w2.heap.size 0 #[.int .i64 1, x1, x2, .int .i64 (kk : Int), .int .i64 S, .int .i64 P, .int .i64 (d : Int), .int .i8 Z, x8, .slice AV N kv, .slice AB nB kb, x11, x12, x13, x14, x15, x16, x17, x18] rfl rfl HTH.out (by kernel_rfl) (all_oneCell_toArray (cs := [.int .i64 1, x1, x2, .int .i64 (kk : Int), .int .i64 S, .int .i64 P, .int .i64 (d : Int), .int .i8 Z, x8, .slice AV N kv, .slice AB nB kb, x11, x12, x13, x14, x15, x16, x17, x18]) (fun v hv => by
      simp only [List.mem_cons, List.not_mem_nil, or_false] at hv
      rcases hv with rfl | rfl | rfl | rfl | rfl | rfl | rfl | rfl | rfl | rfl | rfl | rfl | rfl | rfl | rfl | rfl | rfl | rfl | rfl <;> first | rfl | exact HONE.out _ (by simp))) ?_; have TM := Lib.hid (NodeAt.stored HTH.out (.int .i64 1) x1 x2 x8 x11 x12 x13 x14 x15 x16 x17 x18 (kk : Int) S P (d : Int) Z AV AB N kv nB kb); have hb3 : Below w2.heap.size w2 ((w2.alloc (.cells #[.int .i64 0, .int .i64 0, .int .i64 0, .int .i64 0, .int .i64 0, .int .i64 0, .int .i64 0, .int .i8 0, .int .i8 0, .slice none 0 0, .slice none 0 0, .int .i32 0, .int .i64 0, .int .i8 0, .int .i32 0, .int .i64 0, .int .i8 0, .int .i8 0, .int .i8 0] 32)).setCells w2.heap.size 0 [.int .i64 1, x1, x2, .int .i64 (kk : Int), .int .i64 S, .int .i64 P, .int .i64 (d : Int), .int .i8 Z, x8, .slice AV N kv, .slice AB nB kb, x11, x12, x13, x14, x15, x16, x17, x18]) := Kit.below_cells (Nat.le_refl _) _ _ _ ((Below.refl _ _).alloc (Nat.le_refl _) _); have yTM : w2.heap.size < ((w2.alloc (.cells #[.int .i64 0, .int .i64 0, .int .i64 0, .int .i64 0, .int .i64 0, .int .i64 0, .int .i64 0, .int .i8 0, .int .i8 0, .slice none 0 0, .slice none 0 0, .int .i32 0, .int .i64 0, .int .i8 0, .int .i32 0, .int .i64 0, .int .i8 0, .int .i8 0, .int .i8 0] 32)).setCells w2.heap.size 0 [.int .i64 1, x1, x2, .int .i64 (kk : Int), .int .i64 S, .int .i64 P, .int .i64 (d : Int), .int .i8 Z, x8, .slice AV N kv, .slice AB nB kb, x11, x12, x13, x14, x15, x16, x17, x18]).heap.size := (by rw [Kit.size_cells]; simp); (replace TB := Lib.hid (TB.out.below yTB hb3)); (replace yTB := Nat.lt_of_lt_of_le yTB hb3.size); (replace TN := Lib.hid (TN.out.below yTN hb3)); (replace yTN := Nat.lt_of_lt_of_le yTN hb3.size); (replace HR := Lib.hid ((HR.out.below hb3).more hb3.size)); (replace HRW := Lib.hid ((HRW.out.below hb3).more hb3.size)); (replace HRB := Lib.hid ((HRB.out.below hb3).more hb3.size)); (replace RV := Lib.hid ((RV.out.below hb3).more hb3.size)); (replace RB9 := Lib.hid ((RB9.out.below hb3).more hb3.size)); (replace HBW := Lib.hid (HBW.out.trans (hb3.mono HBW.out.size))); clear hb3 HTH; generalize (w2.alloc (.cells #[.int .i64 0, .int .i64 0, .int .i64 0, .int .i64 0, .int .i64 0, .int .i64 0, .int .i64 0, .int .i8 0, .int .i8 0, .slice none 0 0, .slice none 0 0, .int .i32 0, .int .i64 0, .int .i8 0, .int .i32 0, .int .i64 0, .int .i8 0, .int .i8 0, .int .i8 0] 32)).setCells w2.heap.size 0 [.int .i64 1, x1, x2, .int .i64 (kk : Int), .int .i64 S, .int .i64 P, .int .i64 (d : Int), .int .i8 Z, x8, .slice AV N kv, .slice AB nB kb, x11, x12, x13, x14, x15, x16, x17, x18] = w3 at TB TN TM yTB yTN yTM HBW RV RB9 HR HRW HRB ⊢))
  generalize w2.heap.size = gM at TM yTM ⊢
  obtain ⟨tbp0, tbp1, tbp2, tbp3⟩ := TB.out
  have n3 := TN.out.at 3 _ rfl
  have n9 := TN.out.at 9 _ rfl
  have n10 := TN.out.at 10 _ rfl
  have m0 := TM.out.at 0 _ rfl
  have m3 := TM.out.at 3 _ rfl
  have m6 := TM.out.at 6 _ rfl
  have m9 := TM.out.at 9 _ rfl
  have j8 : (nB : Int) = (d : Int) := by have := HFZ.out; omega
  go_wp2_with (first
    | (go_at_call 13
       have hal : Below w3.heap.size w3 w3 := Below.refl _ _
       refine (refRight_to H W C A n c true HT.out _).mono ?_
       rintro e w4 ⟨rfl, hb⟩
       have hh : Below w3.heap.size w3 w4 := hal.trans (hb.mono hal.size)
       replace TB := Lib.hid (TB.out.below yTB hh)
       replace yTB := Nat.lt_of_lt_of_le yTB hh.size
       replace TN := Lib.hid (TN.out.below yTN hh)
       replace yTN := Nat.lt_of_lt_of_le yTN hh.size
       replace TM := Lib.hid (TM.out.below yTM hh)
       replace yTM := Nat.lt_of_lt_of_le yTM hh.size
       replace HR := Lib.hid ((HR.out.below hh).more hh.size)
       replace HRW := Lib.hid ((HRW.out.below hh).more hh.size)
       replace HRB := Lib.hid ((HRB.out.below hh).more hh.size)
       replace RV := Lib.hid ((RV.out.below hh).more hh.size)
       replace RB9 := Lib.hid ((RB9.out.below hh).more hh.size)
       replace HBW := Lib.hid (HBW.out.trans (hh.mono HBW.out.size))
       obtain ⟨tbp0, tbp1, tbp2, tbp3⟩ := TB.out
       clear hb hh hal)
    | (go_at_call 6
       have hal : Below w4.heap.size w4 w4 := Below.refl _ _
       refine (known17 _).mono ?_
       rintro e w8 ⟨rfl, hb⟩
       have hh : Below w4.heap.size w4 w8 := hal.trans (hb.mono hal.size)
       replace TB := Lib.hid (TB.out.below yTB hh)
       replace yTB := Nat.lt_of_lt_of_le yTB hh.size
       replace TN := Lib.hid (TN.out.below yTN hh)
       replace yTN := Nat.lt_of_lt_of_le yTN hh.size
       replace TM := Lib.hid (TM.out.below yTM hh)
       replace yTM := Nat.lt_of_lt_of_le yTM hh.size
       replace HR := Lib.hid ((HR.out.below hh).more hh.size)
       replace HRW := Lib.hid ((HRW.out.below hh).more hh.size)
       replace HRB := Lib.hid ((HRB.out.below hh).more hh.size)
       replace RV := Lib.hid ((RV.out.below hh).more hh.size)
       replace RB9 := Lib.hid ((RB9.out.below hh).more hh.size)
       replace HBW := Lib.hid (HBW.out.trans (hh.mono HBW.out.size))
       clear tbp0 tbp1 tbp2 tbp3
       obtain ⟨tbp0, tbp1, tbp2, tbp3⟩ := TB.out
       clear hb hh hal))
  go_ret
  exact ⟨rfl, HBW.out⟩
set_option maxRecDepth 100000 in
set_option maxHeartbeats 8000000 in
theorem walk_yes {w : World} (H W C : Int) (A : Option Addr) (zs : List Int) (n c : Nat) (hn : zs.length = n) (x0 x1 x2 x8 x11 x12 x13 x14 x15 x16 x17 x18 : Value) (K S P O Z : Int) (WA BA : Option Addr) (nW cW nB cB : Nat) (hone : ∀ v ∈ [x0, x1, x2, .int .i64 K, .int .i64 S, .int .i64 P, .int .i64 O, .int .i8 Z, x8, .slice WA nW cW, .slice BA nB cB, x11, x12, x13, x14, x15, x16, x17, x18], v.oneCell' = true) (ws : List Int) (hws : ws.length = nW) (hwc : nW ≤ cW) (hwb : I8b ws) (bs : List Int) (hbs : bs.length = nB) (d kk N : Nat) (hk : K = (kk : Int)) (d1 : 1 ≤ d) (d2 : d ≤ 64) (k1 : 1 ≤ kk) (k2 : kk ≤ 5) (hnW : d * (kk * kk) = nW) (hnB : nB = d) (hN : nW * d = N) (hN2 : N ≤ 16384) (ht : tensB H W C n = true) (hz : I8b zs) (hC : C = (d : Int)) (z1 : -128 ≤ Z) (z2 : Z ≤ 127)
    (hf1 : n ≤ 1024) (hf2 : nW ≤ 2000) (hf3 : nB ≤ 200) (hr : Kit.Rd w w.heap.size A (I8s zs)) (hrw : Kit.Rd w w.heap.size WA (I8s ws)) (hrb : Kit.Rd w w.heap.size BA (I32v bs)) :
    Calls Try.prog 4 #[.agg #[.int .i64 H, .int .i64 W, .int .i64 C, .slice A n c], .agg #[x0, x1, x2, .int .i64 K, .int .i64 S, .int .i64 P, .int .i64 O, .int .i8 Z, x8, .slice WA nW cW, .slice BA nB cB, x11, x12, x13, x14, x15, x16, x17, x18], .int .i64 (d : Int)] w fun e w' => e = .returned (.bool true) ∧ Below w.heap.size w w' := by
  have HW := Lib.hid (fun (w' : World) (r1 : Kit.Rd w' w'.heap.size WA (I8s ws)) (r2 : Kit.Rd w' w'.heap.size BA (I32v bs)) => wide_ok x0 x1 x2 x8 x11 x12 x13 x14 x15 x16 x17 x18 K S P O Z WA BA nW cW nB cB hone ws hws bs hbs d kk N hk d1 d2 k1 k2 hnW hnB hN hN2 w' r1 r2)
  have HONE := Lib.hid hone
  have HR := Lib.hid hr
  have HRW := Lib.hid hrw
  have HRB := Lib.hid hrb
  have g1 : d * kk ≤ 320 := Nat.le_trans (Nat.mul_le_mul d2 k2) (by omega)
  obtain ⟨q0, hq0⟩ : ∃ q0, d * kk = q0 := ⟨_, rfl⟩
  have hq1 : q0 * kk = nW := by rw [← hq0, Nat.mul_assoc]; exact hnW
  have e1 : IntKind.i64.wrap ((d : Int) * (kk : Int)) = (q0 : Int) := by rw [← Int.natCast_mul, hq0]; exact IntWalk.i64_in _ (by omega)
  have e2 : IntKind.i64.wrap ((q0 : Int) * (kk : Int)) = (nW : Int) := by rw [← Int.natCast_mul, hq1]; exact IntWalk.i64_in _ (by omega)
  have e3 : IntKind.i64.wrap ((nW : Int) * (d : Int)) = (N : Int) := by rw [← Int.natCast_mul, hN]; exact IntWalk.i64_in _ (by omega)
  have j1 : 1 ≤ (d : Int) := by omega
  have j2 : (d : Int) ≤ 64 := by omega
  have j3 : 1 ≤ (kk : Int) := by omega
  have j4 : (kk : Int) ≤ 5 := by omega
  have j5 : (N : Int) ≤ 16384 := by omega
  have j6 : (nB : Int) = (d : Int) := by omega
  have j7 : ((nB : Int) == (d : Int)) = true := by simpa using j6
  have HFZ := Lib.hid hnB
  obtain ⟨X, Y, U, m, xs, er, hx, hm6, hp1, hp2⟩ := pair_all H W C A zs n c hn ht hz x0 x1 x2 x8 x11 x12 x13 x14 x15 x16 x17 x18 K S P O Z WA BA nW cW nB cB ws hws hwc hwb bs hbs d kk N hC hk k1 k2 hnW hnB hN hN2 z1 z2
  have HP1 := Lib.hid hp1
  have HP2 := Lib.hid hp2
  have HX := Lib.hid hx
  have HT := Lib.hid ht
  have hC2 : (C != (d : Int)) = false := by simpa using hC
  subst hk
  clear hC
  clear hn hone hr hrw hrb hws hwc hwb hbs hnW hnB hN hN2 hq0 hq1 g1 d1 d2 k1 k2 j6 ht hp1 hp2 hx hz
  go_enter Try.func4, Try.ntmps4
  go_upto_region 1 with fail
  have TB := Lib.hid ((boxNew H W C A n c 26 w).below (B' := w.heap.size + 1) (by omega) ((Below.refl _ _).alloc (by simp) (.cells #[x0, x1, x2, .int .i64 (kk : Int), .int .i64 S, .int .i64 P, .int .i64 O, .int .i8 Z, x8, .slice WA nW cW, .slice BA nB cB, x11, x12, x13, x14, x15, x16, x17, x18] 32)))
  have qTN := NodeAt.new x0 x1 x2 x8 x11 x12 x13 x14 x15 x16 x17 x18 (kk : Int) S P O Z WA BA nW cW nB cB 32 (w.alloc (.cells #[.int .i64 H, .int .i64 W, .int .i64 C, .slice A n c] 26))
  rw [World.size_alloc] at qTN
  have TN := Lib.hid qTN
  have HBW := Lib.hid (((Below.refl w.heap.size w).alloc (Nat.le_refl _) (.cells #[.int .i64 H, .int .i64 W, .int .i64 C, .slice A n c] 26)).alloc (by simp) (.cells #[x0, x1, x2, .int .i64 (kk : Int), .int .i64 S, .int .i64 P, .int .i64 O, .int .i8 Z, x8, .slice WA nW cW, .slice BA nB cB, x11, x12, x13, x14, x15, x16, x17, x18] 32))
  have zz : w.heap.size + 2 ≤ ((w.alloc (.cells #[.int .i64 H, .int .i64 W, .int .i64 C, .slice A n c] 26)).alloc (.cells #[x0, x1, x2, .int .i64 (kk : Int), .int .i64 S, .int .i64 P, .int .i64 O, .int .i8 Z, x8, .slice WA nW cW, .slice BA nB cB, x11, x12, x13, x14, x15, x16, x17, x18] 32)).heap.size := by simp
  clear qTN
  generalize (w.alloc (.cells #[.int .i64 H, .int .i64 W, .int .i64 C, .slice A n c] 26)).alloc (.cells #[x0, x1, x2, .int .i64 (kk : Int), .int .i64 S, .int .i64 P, .int .i64 O, .int .i8 Z, x8, .slice WA nW cW, .slice BA nB cB, x11, x12, x13, x14, x15, x16, x17, x18] 32) = Wm at TB TN HBW zz ⊢
  have yTB : w.heap.size < Wm.heap.size := by omega
  have yTN : w.heap.size + 1 < Wm.heap.size := by omega
  obtain ⟨tbp0, tbp1, tbp2, tbp3⟩ := TB.out
  replace HR := Lib.hid ((HR.out.below HBW.out).more HBW.out.size)
  replace HRW := Lib.hid ((HRW.out.below HBW.out).more HBW.out.size)
  replace HRB := Lib.hid ((HRB.out.below HBW.out).more HBW.out.size)
  go_upto_region 3 with (first
    | (refine wpList_load_mid rfl 32 (.tmp 4) rfl (w.heap.size + 1) 0 rfl [x0, x1, x2, .int .i64 (kk : Int), .int .i64 S, .int .i64 P, .int .i64 O, .int .i8 Z, x8, .slice WA nW cW, .slice BA nB cB, x11, x12, x13, x14, x15, x16, x17, x18] _ (TN.out) Try.underlying32 rfl (by kernel_rfl) ?_)
    | (go_at_call 5; refine (few_yes H W C A n c x0 x1 x2 x8 x11 x12 x13 x14 x15 x16 x17 x18 (kk : Int) S P O Z WA BA nW cW nB cB hf1 hf2 hf3 _).mono ?_; rintro e w1 ⟨rfl, hb⟩; (replace TB := Lib.hid (TB.out.below yTB hb)); (replace yTB := Nat.lt_of_lt_of_le yTB hb.size); (replace TN := Lib.hid (TN.out.below yTN hb)); (replace yTN := Nat.lt_of_lt_of_le yTN hb.size); (replace HR := Lib.hid ((HR.out.below hb).more hb.size)); (replace HRW := Lib.hid ((HRW.out.below hb).more hb.size)); (replace HRB := Lib.hid ((HRB.out.below hb).more hb.size)); (replace HBW := Lib.hid (HBW.out.trans (hb.mono HBW.out.size))); clear hb tbp0 tbp1 tbp2 tbp3; obtain ⟨tbp0, tbp1, tbp2, tbp3⟩ := TB.out))
  go_upto_region 4 with (first
    | (refine wpList_load_mid rfl 32 (.tmp 4) rfl (w.heap.size + 1) 0 rfl [x0, x1, x2, .int .i64 (kk : Int), .int .i64 S, .int .i64 P, .int .i64 O, .int .i8 Z, x8, .slice WA nW cW, .slice BA nB cB, x11, x12, x13, x14, x15, x16, x17, x18] _ (TN.out) Try.underlying32 rfl (by kernel_rfl) ?_)
    | (go_at_call 12; refine (HW.out _ HRW.out HRB.out).mono ?_; rintro e w2 ⟨vW, vB, rfl, hoW, hoB, hb⟩; obtain ⟨AV, kv, rfl, hkv, -, hrV⟩ := Kit.own_rd hoW; obtain ⟨AB, kb, rfl, -, -, hrB9⟩ := Kit.own_rd hoB; have RV := Lib.hid hrV; have HKV := Lib.hid hkv; have RB9 := Lib.hid hrB9; clear hoW hoB hrV hrB9 hkv; (replace TB := Lib.hid (TB.out.below yTB hb)); (replace yTB := Nat.lt_of_lt_of_le yTB hb.size); (replace TN := Lib.hid (TN.out.below yTN hb)); (replace yTN := Nat.lt_of_lt_of_le yTN hb.size); (replace HR := Lib.hid ((HR.out.below hb).more hb.size)); (replace HRW := Lib.hid ((HRW.out.below hb).more hb.size)); (replace HRB := Lib.hid ((HRB.out.below hb).more hb.size)); (replace HBW := Lib.hid (HBW.out.trans (hb.mono HBW.out.size))); have HTH := Lib.hid (Kit.there_new w2 (cs := #[.int .i64 0, .int .i64 0, .int .i64 0, .int .i64 0, .int .i64 0, .int .i64 0, .int .i64 0, .int .i8 0, .int .i8 0, .slice none 0 0, .slice none 0 0, .int .i32 0, .int .i64 0, .int .i8 0, .int .i32 0, .int .i64 0, .int .i8 0, .int .i8 0, .int .i8 0]) 32 (n := 19) rfl); clear hb tbp0 tbp1 tbp2 tbp3)
    | (refine wpList_store_mid rfl 32 (.tmp 7) (.tmp 23) rfl w2.heap.size 0 #[.int .i64 1, x1, x2, .int .i64 (kk : Int), .int .i64 S, .int .i64 P, .int .i64 (d : Int), .int .i8 Z, x8, .slice AV N kv, .slice AB nB kb, x11, x12, x13, x14, x15, x16, x17, x18] rfl rfl HTH.out (by kernel_rfl) (all_oneCell_toArray (cs := [.int .i64 1, x1, x2, .int .i64 (kk : Int), .int .i64 S, .int .i64 P, .int .i64 (d : Int), .int .i8 Z, x8, .slice AV N kv, .slice AB nB kb, x11, x12, x13, x14, x15, x16, x17, x18]) (fun v hv => by
      simp only [List.mem_cons, List.not_mem_nil, or_false] at hv
      rcases hv with rfl | rfl | rfl | rfl | rfl | rfl | rfl | rfl | rfl | rfl | rfl | rfl | rfl | rfl | rfl | rfl | rfl | rfl | rfl <;> first | rfl | exact HONE.out _ (by simp))) ?_; have TM := Lib.hid (NodeAt.stored HTH.out (.int .i64 1) x1 x2 x8 x11 x12 x13 x14 x15 x16 x17 x18 (kk : Int) S P (d : Int) Z AV AB N kv nB kb); have hb3 : Below w2.heap.size w2 ((w2.alloc (.cells #[.int .i64 0, .int .i64 0, .int .i64 0, .int .i64 0, .int .i64 0, .int .i64 0, .int .i64 0, .int .i8 0, .int .i8 0, .slice none 0 0, .slice none 0 0, .int .i32 0, .int .i64 0, .int .i8 0, .int .i32 0, .int .i64 0, .int .i8 0, .int .i8 0, .int .i8 0] 32)).setCells w2.heap.size 0 [.int .i64 1, x1, x2, .int .i64 (kk : Int), .int .i64 S, .int .i64 P, .int .i64 (d : Int), .int .i8 Z, x8, .slice AV N kv, .slice AB nB kb, x11, x12, x13, x14, x15, x16, x17, x18]) := Kit.below_cells (Nat.le_refl _) _ _ _ ((Below.refl _ _).alloc (Nat.le_refl _) _); have yTM : w2.heap.size < ((w2.alloc (.cells #[.int .i64 0, .int .i64 0, .int .i64 0, .int .i64 0, .int .i64 0, .int .i64 0, .int .i64 0, .int .i8 0, .int .i8 0, .slice none 0 0, .slice none 0 0, .int .i32 0, .int .i64 0, .int .i8 0, .int .i32 0, .int .i64 0, .int .i8 0, .int .i8 0, .int .i8 0] 32)).setCells w2.heap.size 0 [.int .i64 1, x1, x2, .int .i64 (kk : Int), .int .i64 S, .int .i64 P, .int .i64 (d : Int), .int .i8 Z, x8, .slice AV N kv, .slice AB nB kb, x11, x12, x13, x14, x15, x16, x17, x18]).heap.size := (by rw [Kit.size_cells]; simp); (replace TB := Lib.hid (TB.out.below yTB hb3)); (replace yTB := Nat.lt_of_lt_of_le yTB hb3.size); (replace TN := Lib.hid (TN.out.below yTN hb3)); (replace yTN := Nat.lt_of_lt_of_le yTN hb3.size); (replace HR := Lib.hid ((HR.out.below hb3).more hb3.size)); (replace HRW := Lib.hid ((HRW.out.below hb3).more hb3.size)); (replace HRB := Lib.hid ((HRB.out.below hb3).more hb3.size)); (replace RV := Lib.hid ((RV.out.below hb3).more hb3.size)); (replace RB9 := Lib.hid ((RB9.out.below hb3).more hb3.size)); (replace HBW := Lib.hid (HBW.out.trans (hb3.mono HBW.out.size))); clear hb3 HTH; generalize (w2.alloc (.cells #[.int .i64 0, .int .i64 0, .int .i64 0, .int .i64 0, .int .i64 0, .int .i64 0, .int .i64 0, .int .i8 0, .int .i8 0, .slice none 0 0, .slice none 0 0, .int .i32 0, .int .i64 0, .int .i8 0, .int .i32 0, .int .i64 0, .int .i8 0, .int .i8 0, .int .i8 0] 32)).setCells w2.heap.size 0 [.int .i64 1, x1, x2, .int .i64 (kk : Int), .int .i64 S, .int .i64 P, .int .i64 (d : Int), .int .i8 Z, x8, .slice AV N kv, .slice AB nB kb, x11, x12, x13, x14, x15, x16, x17, x18] = w3 at TB TN TM yTB yTN yTM HBW RV RB9 HR HRW HRB ⊢))
  generalize w2.heap.size = gM at TM yTM ⊢
  obtain ⟨tbp0, tbp1, tbp2, tbp3⟩ := TB.out
  have n3 := TN.out.at 3 _ rfl
  have n9 := TN.out.at 9 _ rfl
  have n10 := TN.out.at 10 _ rfl
  have m0 := TM.out.at 0 _ rfl
  have m3 := TM.out.at 3 _ rfl
  have m6 := TM.out.at 6 _ rfl
  have m9 := TM.out.at 9 _ rfl
  have j8 : (nB : Int) = (d : Int) := by have := HFZ.out; omega
  go_wp2_with (first
    | (go_at_call 13
       have hal : Below w3.heap.size w3 w3 := Below.refl _ _
       refine (refRight_to H W C A n c true HT.out _).mono ?_
       rintro e w4 ⟨rfl, hb⟩
       have hh : Below w3.heap.size w3 w4 := hal.trans (hb.mono hal.size)
       replace TB := Lib.hid (TB.out.below yTB hh)
       replace yTB := Nat.lt_of_lt_of_le yTB hh.size
       replace TN := Lib.hid (TN.out.below yTN hh)
       replace yTN := Nat.lt_of_lt_of_le yTN hh.size
       replace TM := Lib.hid (TM.out.below yTM hh)
       replace yTM := Nat.lt_of_lt_of_le yTM hh.size
       replace HR := Lib.hid ((HR.out.below hh).more hh.size)
       replace HRW := Lib.hid ((HRW.out.below hh).more hh.size)
       replace HRB := Lib.hid ((HRB.out.below hh).more hh.size)
       replace RV := Lib.hid ((RV.out.below hh).more hh.size)
       replace RB9 := Lib.hid ((RB9.out.below hh).more hh.size)
       replace HBW := Lib.hid (HBW.out.trans (hh.mono HBW.out.size))
       obtain ⟨tbp0, tbp1, tbp2, tbp3⟩ := TB.out
       clear hb hh hal)
    | (go_at_call 7
       have hal : Below w4.heap.size w4 w4 := Below.refl _ _
       refine (HP1.out _ ((HR.out.below hal).more hal.size) ((HRW.out.below hal).more hal.size) ((HRB.out.below hal).more hal.size)).mono ?_
       rintro e w5 ⟨v2, rfl, ho2, hb⟩
       have hh : Below w4.heap.size w4 w5 := hal.trans (hb.mono hal.size)
       replace TB := Lib.hid (TB.out.below yTB hh)
       replace yTB := Nat.lt_of_lt_of_le yTB hh.size
       replace TN := Lib.hid (TN.out.below yTN hh)
       replace yTN := Nat.lt_of_lt_of_le yTN hh.size
       replace TM := Lib.hid (TM.out.below yTM hh)
       replace yTM := Nat.lt_of_lt_of_le yTM hh.size
       replace HR := Lib.hid ((HR.out.below hh).more hh.size)
       replace HRW := Lib.hid ((HRW.out.below hh).more hh.size)
       replace HRB := Lib.hid ((HRB.out.below hh).more hh.size)
       replace RV := Lib.hid ((RV.out.below hh).more hh.size)
       replace RB9 := Lib.hid ((RB9.out.below hh).more hh.size)
       replace HBW := Lib.hid (HBW.out.trans (hh.mono HBW.out.size))
       clear tbp0 tbp1 tbp2 tbp3
       obtain ⟨A2, c2, rfl, -, -, hrd2⟩ := Kit.own_rd ho2
       have RA2 := Lib.hid hrd2
       clear ho2 hrd2
       obtain ⟨tbp0, tbp1, tbp2, tbp3⟩ := TB.out
       clear hb hh hal)
    | (go_at_call 14
       have hal : Below w5.heap.size w5 (w5.alloc (.cells #[.int .i64 X, .int .i64 Y, .int .i64 U, .slice A2 m c2] 36)) := (Below.refl _ _).alloc (by first | exact Nat.le_refl _ | (simp; done) | (simp; omega)) _
       refine ((HP2.out AV AB kv kb HKV.out _ ((HR.out.below hal).more hal.size) ((RV.out.below hal).more hal.size) ((RB9.out.below hal).more hal.size))).mono ?_
       rintro e w6 ⟨v3, rfl, ho3, hb⟩
       have hh : Below w5.heap.size w5 w6 := hal.trans (hb.mono hal.size)
       have qTA2 := (boxNew X Y U A2 m c2 36) w5
       try simp only [World.size_alloc] at qTA2
       have TA2 := Lib.hid (qTA2.below (by first | (simp; done) | (simp; omega)) hb)
       have yTA2 : w5.heap.size < w6.heap.size := by have := hb.size; simp at this; omega
       clear qTA2
       replace TB := Lib.hid (TB.out.below yTB hh)
       replace yTB := Nat.lt_of_lt_of_le yTB hh.size
       replace TN := Lib.hid (TN.out.below yTN hh)
       replace yTN := Nat.lt_of_lt_of_le yTN hh.size
       replace TM := Lib.hid (TM.out.below yTM hh)
       replace yTM := Nat.lt_of_lt_of_le yTM hh.size
       replace HR := Lib.hid ((HR.out.below hh).more hh.size)
       replace HRW := Lib.hid ((HRW.out.below hh).more hh.size)
       replace HRB := Lib.hid ((HRB.out.below hh).more hh.size)
       replace RV := Lib.hid ((RV.out.below hh).more hh.size)
       replace RB9 := Lib.hid ((RB9.out.below hh).more hh.size)
       replace RA2 := Lib.hid ((RA2.out.below hh).more hh.size)
       replace HBW := Lib.hid (HBW.out.trans (hh.mono HBW.out.size))
       clear tbp0 tbp1 tbp2 tbp3
       obtain ⟨A3, c3, rfl, -, -, hrd3⟩ := Kit.own_rd ho3
       have RA3 := Lib.hid hrd3
       clear ho3 hrd3
       obtain ⟨tbp0, tbp1, tbp2, tbp3⟩ := TB.out
       obtain ⟨ta2p0, ta2p1, ta2p2, ta2p3⟩ := TA2.out
       clear hb hh hal)
    | (go_at_call 11
       have hal : Below w6.heap.size w6 (w6.alloc (.cells #[.int .i64 X, .int .i64 Y, .int .i64 U, .slice A3 m c3] 36)) := (Below.refl _ _).alloc (by first | exact Nat.le_refl _ | (simp; done) | (simp; omega)) _
       refine (sameA_to X Y U A2 A3 xs m c2 c3 HX.out hm6 _ hal.size hal.size (RA2.out.below hal) (RA3.out.below hal)).mono ?_
       rintro e w7 ⟨rfl, hb⟩
       have hh : Below w6.heap.size w6 w7 := hal.trans (hb.mono hal.size)
       have qTA3 := (boxNew X Y U A3 m c3 36) w6
       try simp only [World.size_alloc] at qTA3
       have TA3 := Lib.hid (qTA3.below (by first | (simp; done) | (simp; omega)) hb)
       have yTA3 : w6.heap.size < w7.heap.size := by have := hb.size; simp at this; omega
       clear qTA3
       replace TB := Lib.hid (TB.out.below yTB hh)
       replace yTB := Nat.lt_of_lt_of_le yTB hh.size
       replace TN := Lib.hid (TN.out.below yTN hh)
       replace yTN := Nat.lt_of_lt_of_le yTN hh.size
       replace TM := Lib.hid (TM.out.below yTM hh)
       replace yTM := Nat.lt_of_lt_of_le yTM hh.size
       replace TA2 := Lib.hid (TA2.out.below yTA2 hh)
       replace yTA2 := Nat.lt_of_lt_of_le yTA2 hh.size
       replace HR := Lib.hid ((HR.out.below hh).more hh.size)
       replace HRW := Lib.hid ((HRW.out.below hh).more hh.size)
       replace HRB := Lib.hid ((HRB.out.below hh).more hh.size)
       replace RV := Lib.hid ((RV.out.below hh).more hh.size)
       replace RB9 := Lib.hid ((RB9.out.below hh).more hh.size)
       replace RA2 := Lib.hid ((RA2.out.below hh).more hh.size)
       replace RA3 := Lib.hid ((RA3.out.below hh).more hh.size)
       replace HBW := Lib.hid (HBW.out.trans (hh.mono HBW.out.size))
       clear tbp0 tbp1 tbp2 tbp3 ta2p0 ta2p1 ta2p2 ta2p3
       obtain ⟨tbp0, tbp1, tbp2, tbp3⟩ := TB.out
       obtain ⟨ta2p0, ta2p1, ta2p2, ta2p3⟩ := TA2.out
       obtain ⟨ta3p0, ta3p1, ta3p2, ta3p3⟩ := TA3.out
       clear hb hh hal)
    | (go_at_call 6
       have hal : Below w7.heap.size w7 w7 := Below.refl _ _
       refine (known17 _).mono ?_
       rintro e w8 ⟨rfl, hb⟩
       have hh : Below w7.heap.size w7 w8 := hal.trans (hb.mono hal.size)
       replace TB := Lib.hid (TB.out.below yTB hh)
       replace yTB := Nat.lt_of_lt_of_le yTB hh.size
       replace TN := Lib.hid (TN.out.below yTN hh)
       replace yTN := Nat.lt_of_lt_of_le yTN hh.size
       replace TM := Lib.hid (TM.out.below yTM hh)
       replace yTM := Nat.lt_of_lt_of_le yTM hh.size
       replace TA2 := Lib.hid (TA2.out.below yTA2 hh)
       replace yTA2 := Nat.lt_of_lt_of_le yTA2 hh.size
       replace TA3 := Lib.hid (TA3.out.below yTA3 hh)
       replace yTA3 := Nat.lt_of_lt_of_le yTA3 hh.size
       replace HR := Lib.hid ((HR.out.below hh).more hh.size)
       replace HRW := Lib.hid ((HRW.out.below hh).more hh.size)
       replace HRB := Lib.hid ((HRB.out.below hh).more hh.size)
       replace RV := Lib.hid ((RV.out.below hh).more hh.size)
       replace RB9 := Lib.hid ((RB9.out.below hh).more hh.size)
       replace RA2 := Lib.hid ((RA2.out.below hh).more hh.size)
       replace RA3 := Lib.hid ((RA3.out.below hh).more hh.size)
       replace HBW := Lib.hid (HBW.out.trans (hh.mono HBW.out.size))
       clear tbp0 tbp1 tbp2 tbp3 ta2p0 ta2p1 ta2p2 ta2p3 ta3p0 ta3p1 ta3p2 ta3p3
       obtain ⟨tbp0, tbp1, tbp2, tbp3⟩ := TB.out
       obtain ⟨ta2p0, ta2p1, ta2p2, ta2p3⟩ := TA2.out
       obtain ⟨ta3p0, ta3p1, ta3p2, ta3p3⟩ := TA3.out
       clear hb hh hal)
    | (refine wpList_load_mid rfl 32 (.tmp 4) rfl (w.heap.size + 1) 0 rfl [x0, x1, x2, .int .i64 (kk : Int), .int .i64 S, .int .i64 P, .int .i64 O, .int .i8 Z, x8, .slice WA nW cW, .slice BA nB cB, x11, x12, x13, x14, x15, x16, x17, x18] _ (TN.out) Try.underlying32 rfl (by kernel_rfl) ?_)
    | (refine wpList_load_mid rfl 32 (.tmp 4) rfl (w.heap.size + 1) 0 rfl [x0, x1, x2, .int .i64 (kk : Int), .int .i64 S, .int .i64 P, .int .i64 O, .int .i8 Z, x8, .slice WA nW cW, .slice BA nB cB, x11, x12, x13, x14, x15, x16, x17, x18] _ (TN.out.below yTN ((Below.refl _ _).alloc (Nat.le_refl _) _)) Try.underlying32 rfl (by kernel_rfl) ?_)
    | (refine wpList_load_mid rfl 32 (.tmp 7) rfl (gM) 0 rfl [.int .i64 1, x1, x2, .int .i64 (kk : Int), .int .i64 S, .int .i64 P, .int .i64 (d : Int), .int .i8 Z, x8, .slice AV N kv, .slice AB nB kb, x11, x12, x13, x14, x15, x16, x17, x18] _ (TM.out) Try.underlying32 rfl (by kernel_rfl) ?_)
    | (refine wpList_load_mid rfl 32 (.tmp 7) rfl (gM) 0 rfl [.int .i64 1, x1, x2, .int .i64 (kk : Int), .int .i64 S, .int .i64 P, .int .i64 (d : Int), .int .i8 Z, x8, .slice AV N kv, .slice AB nB kb, x11, x12, x13, x14, x15, x16, x17, x18] _ (TM.out.below yTM ((Below.refl _ _).alloc (Nat.le_refl _) _)) Try.underlying32 rfl (by kernel_rfl) ?_))
  go_ret
  exact ⟨rfl, HBW.out⟩
theorem walk {w : World} (H : Int) (wH : (Lit.int .i64 H).wf = true) (W : Int) (wW : (Lit.int .i64 W).wf = true) (C : Int) (wC : (Lit.int .i64 C).wf = true) (A : Option Addr) (zs : List Int) (c : Nat) (hc : zs.length ≤ c) (hm : c ≤ maxLen) (hw : ∀ n ∈ zs, (Lit.int .i8 n).wf = true) (hr : Kit.Rd w w.heap.size A (zs.map (.int .i8)))
    (x0 x1 x2 x8 x11 x12 x13 x14 x15 x16 x17 x18 : Value) (K S P O Z : Int) (WA : Option Addr) (ws : List Int) (cW : Nat) (BA : Option Addr) (bs : List Int) (cB : Nat) (wz : (Lit.int .i8 Z).wf = true) (hcw : ws.length ≤ cW) (hmw : cW ≤ maxLen) (hww : ∀ n ∈ ws, (Lit.int .i8 n).wf = true) (hrw : Kit.Rd w w.heap.size WA (ws.map (.int .i8)))
    (hcb : bs.length ≤ cB) (hmb : cB ≤ maxLen) (hwb : ∀ n ∈ bs, (Lit.int .i32 n).wf = true) (hrb : Kit.Rd w w.heap.size BA (bs.map (.int .i32))) (hone : ∀ v ∈ [x0, x1, x2, .int .i64 K, .int .i64 S, .int .i64 P, .int .i64 O, .int .i8 Z, x8, .slice WA ws.length cW, .slice BA bs.length cB, x11, x12, x13, x14, x15, x16, x17, x18], v.oneCell' = true) (ch : Int) (wch : (Lit.int .i64 ch).wf = true) :
    Calls Try.prog 4 #[.agg #[.int .i64 H, .int .i64 W, .int .i64 C, .slice A zs.length c], .agg #[x0, x1, x2, .int .i64 K, .int .i64 S, .int .i64 P, .int .i64 O, .int .i8 Z, x8, .slice WA ws.length cW, .slice BA bs.length cB, x11, x12, x13, x14, x15, x16, x17, x18], .int .i64 ch] w fun e w' => e = .returned (.bool true) ∧ Below w.heap.size w w' := by
  have ⟨z1, z2⟩ : -128 ≤ Z ∧ Z ≤ 127 := by simpa [Lit.wf, IntKind.min, IntKind.max, IntKind.signed, IntKind.bits] using wz
  by_cases hf : zs.length ≤ 1024 ∧ ws.length ≤ 2000 ∧ bs.length ≤ 200
  · obtain ⟨f1, f2, f3⟩ := hf
    by_cases h : Fits K ws.length bs.length ch
    · obtain ⟨a1, a2, a3, a4, a5, a6, a7⟩ := h
      obtain ⟨d, rfl⟩ : ∃ d : Nat, ch = (d : Int) := ⟨ch.toNat, by omega⟩
      obtain ⟨kk, hk⟩ : ∃ kk : Nat, K = (kk : Int) := ⟨K.toNat, by omega⟩
      have hnW : d * (kk * kk) = ws.length := by
        have e : ((d * (kk * kk) : Nat) : Int) = (ws.length : Int) := by rw [a5, hk]; simp
        omega
      have hN2 : ws.length * d ≤ 16384 := by
        have e : ((ws.length * d : Nat) : Int) ≤ 16384 := by rw [Int.natCast_mul]; exact a7
        omega
      cases ht : tensB H W C zs.length
      · exact walk_offt H W C A zs _ c rfl x0 x1 x2 x8 x11 x12 x13 x14 x15 x16 x17 x18 K S P O Z WA BA ws.length cW bs.length cB hone ws rfl hcw (I8b_of hww) bs rfl d kk _ hk (by omega) (by omega) (by omega) (by omega) hnW (by omega) rfl hN2 ht f1 f2 f3 hr hrw hrb
      · by_cases hC : C = (d : Int)
        · exact walk_yes H W C A zs _ c rfl x0 x1 x2 x8 x11 x12 x13 x14 x15 x16 x17 x18 K S P O Z WA BA ws.length cW bs.length cB hone ws rfl hcw (I8b_of hww) bs rfl d kk _ hk (by omega) (by omega) (by omega) (by omega) hnW (by omega) rfl hN2 ht (I8b_of hw) hC z1 z2 f1 f2 f3 hr hrw hrb
        · exact walk_offc H W C A zs _ c rfl x0 x1 x2 x8 x11 x12 x13 x14 x15 x16 x17 x18 K S P O Z WA BA ws.length cW bs.length cB hone ws rfl hcw (I8b_of hww) bs rfl d kk _ hk (by omega) (by omega) (by omega) (by omega) hnW (by omega) rfl hN2 ht hC f1 f2 f3 hr hrw hrb
    · exact walk_bad H W C A _ c x0 x1 x2 x8 x11 x12 x13 x14 x15 x16 x17 x18 K S P O Z WA BA ws.length cW bs.length cB ch f1 f2 f3 h
  · exact walk_no H W C A _ c x0 x1 x2 x8 x11 x12 x13 x14 x15 x16 x17 x18 K S P O Z WA BA ws.length cW bs.length cB ch hf
/-! ### the frame: written by program -/
theorem own : ownKnob Try.prog.godebug = none := by kernel_rfl
theorem laid : laidOutB Try.prog = true := by kernel_rfl
theorem contract {H : Type} {enc : TypeId × Value → H} {W : World} {base : Nat} {args : Array Value} {ds gs : List (DataW H)} {before : List MemPlace}
    (hval0 : ∀ (j : Nat) t v, Try.f4.params[j]? = some t → args[j]? = some v → Value.okWide Try.prog W .any base t v)
    (hW : DataW.Whole enc Try.prog Try.f4.params.toList Rows.depthWideSpec.vars false W args.toList ds gs before) :
    Calls Try.prog 4 args W fun e W' => e = .returned (.bool true) ∧ Below W.heap.size W W' := by
  have hval : ∀ (j : Nat) t v, Try.f4.params[j]? = some t → args[j]? = some v → Value.okWide Try.prog W .any base t v := hval0
  obtain ⟨p, q, hA0, hV, rfl, hfz, hnd⟩ := hW
  have hA : DataW.TrodAll enc Try.prog W 0 (fun _ => true) true Try.f4.params.toList args.toList ds p := hA0
  rw [Try.params4] at hA hval
  obtain ⟨v0, vs0, d0, ds0, p0, q0, hargs, rfl, rfl, h0, r0⟩ := trodAll_cons hA
  obtain ⟨v1, vs1, d1, ds1, p1, q1, rfl, rfl, rfl, h1, r1⟩ := trodAll_cons r0
  obtain ⟨v2, vs2, d2, ds2, p2, q2, rfl, rfl, rfl, h2, r2⟩ := trodAll_cons r1
  obtain ⟨rfl, rfl, rfl⟩ := trodAll_nil r2
  obtain rfl : args = #[v0, v1, v2] := by cases args; simp_all
  clear hA0 hval0
  obtain ⟨x0, y0, t0, A0, z0, c0, rfl, wx0, wy0, wt0, hc0, hm0, hw0, hr0⟩ := Kit.open_tensor (s := 23) (d := 24) (e := 27) (i := 3) Try.underlying26 Try.underlying23 Try.underlying24 Try.underlying27 Try.underlying3 (by kernel_rfl) (by kernel_rfl) (by kernel_rfl) (by kernel_rfl) (by kernel_rfl) ⟨rfl, rfl, rfl, rfl⟩ ⟨rfl, rfl, rfl, rfl, rfl, rfl⟩ (hval 0 26 v0 rfl rfl) h0
  obtain ⟨n1_0, n1_1, n1_2, n1_8, n1_11, n1_12, n1_13, n1_14, n1_15, n1_16, n1_17, n1_18, K1, S1, Q1, O1, Z1, WA1, ws1, cW1, BA1, bs1, cB1, rfl, wz1, hcw1, hmw1, hww1, hrw1, hcb1, hmb1, hwb1, hrb1⟩ := Kit.open_node (i := 3) (b8 := 27) (d := 24) (e := 27) (d2 := 28) (e2 := 21) Try.underlying32 (by kernel_rfl) Try.underlying3 (by kernel_rfl) Try.underlying27 (by kernel_rfl) Try.underlying24 Try.underlying27 (by kernel_rfl) (by kernel_rfl) Try.underlying28 Try.underlying21 (by kernel_rfl) (by kernel_rfl) rfl rfl rfl rfl rfl rfl rfl ⟨rfl, rfl⟩ ⟨rfl, rfl⟩ ⟨rfl, rfl⟩ ⟨rfl, rfl⟩ ⟨rfl, rfl⟩ ⟨rfl, rfl⟩ ⟨rfl, rfl⟩ (hval 1 32 v1 rfl rfl) h1
  obtain ⟨a2, rfl, rfl, rfl, w2⟩ := open_int Try.underlying3 (hval 2 3 v2 rfl rfl) h2
  exact walk (w := W) x0 wx0 y0 wy0 t0 wt0 A0 z0 c0 hc0 hm0 hw0 hr0 n1_0 n1_1 n1_2 n1_8 n1_11 n1_12 n1_13 n1_14 n1_15 n1_16 n1_17 n1_18 K1 S1 Q1 O1 Z1 WA1 ws1 cW1 BA1 bs1 cB1 wz1 hcw1 hmw1 hww1 hrw1 hcb1 hmb1 hwb1 hrb1 (Kit.struct_ones Try.underlying32 (hval 1 32 _ rfl rfl)) a2 w2
theorem fnIs {H : Type} : ∀ ds : List (DataW H), ds.length = Try.f4.params.toList.length → Rows.depthWideSpec.fn H ds = { results := [.lit (.bool true)], args := ds } := by
  intro ds h
  rw [Try.params4] at h
  match ds, h with
  | [d1, d2, d3], _ => rfl
set_option maxRecDepth 100000 in
theorem lifted (os : Os) (started : os.Started) (H : Type) (enc : TypeId × Value → H) :
    ReturnsInHanded {} Try.checked os 4 .any (Rows.depthWideSpec.pre6 enc Try.prog Try.f4 Rows.depthWideRow.domain false) (Rows.depthWideSpec.post enc Try.prog Try.f4 false true false false) := by
  refine returnsInHanded_of_change (C := Try.checked) own started (by kernel_rfl) Try.func4
    (ChangeSpec.witness6 (enc := enc) (C := Try.checked) false ⟨#[], #[.agg #[.int .i64 0, .int .i64 0, .int .i64 0, .slice none 0 0], .agg #[.int .i64 0, .int .i64 0, .int .i64 0, .int .i64 0, .int .i64 0, .int .i64 0, .int .i64 0, .int .i8 0, .int .i8 0, .slice none 0 0, .slice none 0 0, .int .i32 0, .int .i64 0, .int .i8 0, .int .i32 0, .int .i64 0, .int .i8 0, .int .i8 0, .int .i8 0], .int .i64 0], []⟩ 8 (by kernel_rfl) (by kernel_rfl) (by kernel_rfl) (by kernel_rfl)) ?_
  intro W base args ds gs before hval hW _ _
  refine (contract hval hW).mono fun e W' ⟨he, hg⟩ => ?_
  subst he
  exact ⟨_, rfl, Kit.law_post (tb := 4) laid (by kernel_rfl) rfl (by kernel_rfl) Try.underlying4 fnIs hW hg⟩
theorem over : Rows.depthWideRow.holds Try.pinned (OpenSpec.ofChange Rows.depthWideSpec) :=
  OpenClaim.holds_of_wide 4 Try.f4 rfl rfl rfl rfl rfl rfl rfl ⟨rfl, rfl, rfl, rfl, rfl⟩ rfl rfl rfl rfl rfl (by kernel_rfl) Try.func4 (by kernel_rfl)
    (of_decide_eq_true (by kernel_rfl)) (by unfold Func.isWrapper; first | (rw [if_pos (by decide +kernel)]; kernel_rfl) | (rw [if_neg (by decide +kernel)]; exact ⟨rfl, rfl⟩))
    (fun os started H enc _ => lifted os started H enc)
/-- the statement. -/
theorem proved : Rows.DepthWideSaid :=
  over
end Go.Proofs.Ytkbgfglipepmpaa.lawDepthWide
