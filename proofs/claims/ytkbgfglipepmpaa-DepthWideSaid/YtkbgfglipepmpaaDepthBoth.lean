/- Layer 17 (depth): code and document beside one another; the fixed call. -/
import Derived.Test.YtkbgfglipepmpaaDepthRef
import Derived.Test.YtkbgfglipepmpaaNodeCopy
import Derived.Deep.CutRange
import Derived.Deep.MidRow
namespace Go.Proofs.Ytkbgfglipepmpaa.CDepth
open Go Go.ChangeShapes Go.WideShapes Go.ChangeAt Go.RowKit
open Plain CSat CShape CTensor CConv
set_option linter.unusedVariables false

theorem depS_three (H W C K S P : Int) (nW nB : Nat) : ∃ s1 s2 s3 : Int, depthS H W C K S P nW nB = #[.int .i64 s1, .int .i64 s2, .int .i64 s3] := by
  unfold depthS
  split
  · exact ⟨_, _, _, rfl⟩
  · exact ⟨_, _, _, rfl⟩
/-- the letters of a node that fits. -/
theorem dep_letters {H W C K S P : Int} {nW nB : Nat} (he : depthE H W C K S P nW nB = 0) :
    ∃ a b d kk : Nat, stepsM H K S P = (a : Int) ∧ stepsM W K S P = (b : Int) ∧ C = (d : Int) ∧ K = (kk : Int) ∧ a * b * d ≤ 1024 := by
  obtain ⟨hsl, hnW, hn16, hnB⟩ := depthE_ok he
  obtain ⟨hs0, har1, har2, -, -, hsr⟩ := slide_ok hsl
  obtain ⟨q1, q2, q3, q4, q5, q6, q7⟩ := shapeB_yes hsr
  obtain ⟨-, -, k1, k2, -⟩ := argsB_yes har1
  obtain ⟨a, ha⟩ : ∃ a : Nat, stepsM H K S P = (a : Int) := ⟨(stepsM H K S P).toNat, by omega⟩
  obtain ⟨b, hb⟩ : ∃ b : Nat, stepsM W K S P = (b : Int) := ⟨(stepsM W K S P).toNat, by omega⟩
  obtain ⟨d, hd⟩ : ∃ d : Nat, C = (d : Int) := ⟨C.toNat, by omega⟩
  obtain ⟨kk, hk⟩ : ∃ kk : Nat, K = (kk : Int) := ⟨K.toNat, by omega⟩
  have hN : ((a * b * d : Nat) : Int) ≤ 1024 := by
    have : ((a * b * d : Nat) : Int) = stepsM H K S P * stepsM W K S P * C := by rw [ha, hb, hd]; simp
    omega
  exact ⟨a, b, d, kk, ha, hb, hd, hk, by omega⟩
theorem depOf_both (H W C : Int) (A : Option Addr) (zs : List Int) (n c : Nat) (hn : zs.length = n) (hz : I8b zs) (x0 x1 x2 x8 x11 x12 x13 x14 x15 x16 x17 x18 : Value) (K S P O Z : Int) (WA BA : Option Addr) (nW cW nB cB : Nat) (ws : List Int) (hws : ws.length = nW) (hwc : nW ≤ cW) (hwb : I8b ws) (bs : List Int) (hbs : bs.length = nB) (hb32 : ∀ q, -2147483648 ≤ bs.getD q 0 ∧ bs.getD q 0 ≤ 2147483647) (z1 : -128 ≤ Z) (z2 : Z ≤ 127) :
    ∃ (X Y U : Int) (m : Nat) (xs : List Int) (er : Int), xs.length = m ∧ m ≤ 1000000 ∧
      (∀ (w : World), Kit.Rd w w.heap.size A (I8s zs) → Kit.Rd w w.heap.size WA (I8s ws) → Kit.Rd w w.heap.size BA (I32v bs) → Calls Try.prog 7 #[.agg #[.int .i64 H, .int .i64 W, .int .i64 C, .slice A n c], .agg #[x0, x1, x2, .int .i64 K, .int .i64 S, .int .i64 P, .int .i64 O, .int .i8 Z, x8, .slice WA nW cW, .slice BA nB cB, x11, x12, x13, x14, x15, x16, x17, x18]] w (MadeA w X Y U m xs (.int .i64 er))) ∧
      (∀ (w : World), Kit.Rd w w.heap.size A (I8s zs) → Kit.Rd w w.heap.size WA (I8s ws) → Kit.Rd w w.heap.size BA (I32v bs) → Calls Try.prog 8 #[.agg #[.int .i64 H, .int .i64 W, .int .i64 C, .slice A n c], .agg #[x0, x1, x2, .int .i64 K, .int .i64 S, .int .i64 P, .int .i64 O, .int .i8 Z, x8, .slice WA nW cW, .slice BA nB cB, x11, x12, x13, x14, x15, x16, x17, x18]] w (MadeA w X Y U m xs (.int .i64 er))) := by
  cases ht : tensB H W C n
  · exact ⟨0, 0, 0, 0, [], 5, rfl, by omega, fun w _ _ _ => dof_bad H W C A n c x0 x1 x2 x8 x11 x12 x13 x14 x15 x16 x17 x18 K S P O Z WA BA nW cW nB cB ht w, fun w _ _ _ => drefOf_bad H W C A n c x0 x1 x2 x8 x11 x12 x13 x14 x15 x16 x17 x18 K S P O Z WA BA nW cW nB cB ht w⟩
  · by_cases he : depthE H W C K S P nW nB = 0
    · obtain ⟨a, b, d, kk, ha, hb, hd, hk, hN⟩ := dep_letters he
      refine ⟨a, b, C, a * b * d, rowL (gridF b d (sumD zs ws bs H W C S P kk Z)) (a * b * d), 0, rowL_len _ _, by omega, fun w hr hrw hrb => ?_, fun w hr hrw hrb => ?_⟩
      · exact dof_yes H W C A zs n c hn ht hz x0 x1 x2 x8 x11 x12 x13 x14 x15 x16 x17 x18 K S P O Z WA BA nW cW nB cB ws hws hwc hwb bs hbs he a b d kk ha hb hd hk _ rfl z1 z2 w hr hrw hrb
      · exact drefOf_yes H W C A zs n c hn ht hz x0 x1 x2 x8 x11 x12 x13 x14 x15 x16 x17 x18 K S P O Z WA BA nW cW nB cB ws hws hwc hwb bs hbs hb32 he a b d kk ha hb hd hk _ rfl z1 z2 w hr hrw hrb
    · exact ⟨0, 0, 0, 0, [], _, rfl, by omega, fun w _ _ _ => dof_err H W C A n c x0 x1 x2 x8 x11 x12 x13 x14 x15 x16 x17 x18 K S P O Z WA BA nW cW nB cB ht _ rfl he w, fun w _ _ _ => drefOf_err H W C A n c x0 x1 x2 x8 x11 x12 x13 x14 x15 x16 x17 x18 K S P O Z WA BA nW cW nB cB ht _ rfl he w⟩
theorem dof_known (g0 g1 g2 : Nat) (w : World) (r1 : Kit.Rd w w.heap.size (some ⟨g0, 0, none⟩) (I8s [2, 3])) (r2 : Kit.Rd w w.heap.size (some ⟨g1, 0, none⟩) (I8s [10, 100])) (r3 : Kit.Rd w w.heap.size (some ⟨g2, 0, none⟩) (I32v [1, 1])) :
    Calls Try.prog 7 #[.agg #[.int .i64 1, .int .i64 1, .int .i64 2, .slice (some ⟨g0, 0, none⟩) 2 2], .agg #[.int .i64 0, .int .i64 0, .int .i64 0, .int .i64 1, .int .i64 1, .int .i64 0, .int .i64 0, .int .i8 0, .int .i8 0, .slice (some ⟨g1, 0, none⟩) 2 2, .slice (some ⟨g2, 0, none⟩) 2 2, .int .i32 0, .int .i64 0, .int .i8 0, .int .i32 0, .int .i64 0, .int .i8 0, .int .i8 0, .int .i8 0]] w (MadeA w 1 1 2 2 [21, 301] (.int .i64 0)) := by
  have hz : I8b [2, 3] := fun q => by rcases q with _ | _ | q <;> simp
  have hw : I8b [10, 100] := fun q => by rcases q with _ | _ | q <;> simp
  have h11 : rowL (gridF 1 2 (sumD [2, 3] [10, 100] [1, 1] 1 1 2 1 0 1 0)) 2 = [21, 301] := by
    simp [rowL, List.range_succ, gridF, sumD, winD, rowD, placeD, psum, IntKind.wrap_i32]
  have h := dof_yes 1 1 2 (some ⟨g0, 0, none⟩) [2, 3] 2 2 rfl (by decide) hz (.int .i64 0) (.int .i64 0) (.int .i64 0) (.int .i8 0) (.int .i32 0) (.int .i64 0) (.int .i8 0) (.int .i32 0) (.int .i64 0) (.int .i8 0) (.int .i8 0) (.int .i8 0) 1 1 0 0 0 (some ⟨g1, 0, none⟩) (some ⟨g2, 0, none⟩) 2 2 2 2 [10, 100] rfl (Nat.le_refl _) hw [1, 1] rfl (by decide) 1 1 2 1 (by decide) (by decide) rfl rfl 2 rfl (by omega) (by omega) w r1 r2 r3
  rw [h11] at h
  exact h
set_option maxRecDepth 100000 in
set_option maxHeartbeats 4000000 in
theorem known17 (w : World) : Calls Try.prog 6 #[] w fun e w' => e = .returned (.bool true) ∧ Below w.heap.size w w' := by
  go_enter Try.func6, Try.ntmps6
  go_upto_region 1 with fail
  have hth := Kit.there_new ((w.alloc (.cells #[.int .i8 10, .int .i8 100] 27)).alloc (.cells #[.int .i32 1, .int .i32 1] 21)) (cs := #[.int .i64 0, .int .i64 0, .int .i64 0, .int .i64 0, .int .i64 0, .int .i64 0, .int .i64 0, .int .i8 0, .int .i8 0, .slice none 0 0, .slice none 0 0, .int .i32 0, .int .i64 0, .int .i8 0, .int .i32 0, .int .i64 0, .int .i8 0, .int .i8 0, .int .i8 0]) 32 (n := 19) rfl
  have e9 : ((w.alloc (.cells #[.int .i8 10, .int .i8 100] 27)).alloc (.cells #[.int .i32 1, .int .i32 1] 21)).heap.size = w.heap.size + 1 + 1 := by simp
  rw [e9] at hth
  have HTH := Lib.hid hth
  clear hth
  go_upto_region 2 with (refine wpList_store_mid rfl 32 (.tmp 1) (.tmp 6) rfl (w.heap.size + 1 + 1) 0 #[.int .i64 0, .int .i64 0, .int .i64 0, .int .i64 1, .int .i64 1, .int .i64 0, .int .i64 0, .int .i8 0, .int .i8 0, .slice (some ⟨w.heap.size, 0, none⟩) 2 2, .slice (some ⟨w.heap.size + 1, 0, none⟩) 2 2, .int .i32 0, .int .i64 0, .int .i8 0, .int .i32 0, .int .i64 0, .int .i8 0, .int .i8 0, .int .i8 0] rfl rfl HTH.out (by kernel_rfl) (all_oneCell_toArray (cs := [.int .i64 0, .int .i64 0, .int .i64 0, .int .i64 1, .int .i64 1, .int .i64 0, .int .i64 0, .int .i8 0, .int .i8 0, .slice (some ⟨w.heap.size, 0, none⟩) 2 2, .slice (some ⟨w.heap.size + 1, 0, none⟩) 2 2, .int .i32 0, .int .i64 0, .int .i8 0, .int .i32 0, .int .i64 0, .int .i8 0, .int .i8 0, .int .i8 0]) (by simp [Value.oneCell'])) ?_)
  have r2 : Kit.Rd ((w.alloc (.cells #[.int .i8 10, .int .i8 100] 27)).alloc (.cells #[.int .i32 1, .int .i32 1] 21)) (w.heap.size + 2) (some ⟨w.heap.size, 0, none⟩) (I8s [10, 100]) := ((Kit.Rd.new w [.int .i8 10, .int .i8 100] 27 (Nat.lt_succ_self _)).alloc (by simp) _).more (by omega)
  have r3 : Kit.Rd ((w.alloc (.cells #[.int .i8 10, .int .i8 100] 27)).alloc (.cells #[.int .i32 1, .int .i32 1] 21)) (w.heap.size + 2) (some ⟨w.heap.size + 1, 0, none⟩) (I32v [1, 1]) := by
    have h := Kit.Rd.new (w.alloc (.cells #[.int .i8 10, .int .i8 100] 27)) [.int .i32 1, .int .i32 1] 21 (B := w.heap.size + 2) (by simp)
    rw [World.size_alloc] at h
    exact h
  have hB2 : Below w.heap.size w ((w.alloc (.cells #[.int .i8 10, .int .i8 100] 27)).alloc (.cells #[.int .i32 1, .int .i32 1] 21)) := ((Below.refl _ _).alloc (Nat.le_refl _) _).alloc (by simp) _
  have TN := Lib.hid (NodeAt.stored HTH.out (.int .i64 0) (.int .i64 0) (.int .i64 0) (.int .i8 0) (.int .i32 0) (.int .i64 0) (.int .i8 0) (.int .i32 0) (.int .i64 0) (.int .i8 0) (.int .i8 0) (.int .i8 0) 1 1 0 0 0 (some ⟨w.heap.size, 0, none⟩) (some ⟨w.heap.size + 1, 0, none⟩) 2 2 2 2)
  obtain ⟨W2, hW2⟩ : ∃ W2, ((w.alloc (.cells #[.int .i8 10, .int .i8 100] 27)).alloc (.cells #[.int .i32 1, .int .i32 1] 21)) = W2 := ⟨_, rfl⟩
  rw [hW2] at r2 r3 hB2 TN e9 ⊢
  have hB3 : Below (w.heap.size + 1 + 1) W2 ((W2.alloc (.cells #[.int .i64 0, .int .i64 0, .int .i64 0, .int .i64 0, .int .i64 0, .int .i64 0, .int .i64 0, .int .i8 0, .int .i8 0, .slice none 0 0, .slice none 0 0, .int .i32 0, .int .i64 0, .int .i8 0, .int .i32 0, .int .i64 0, .int .i8 0, .int .i8 0, .int .i8 0] 32)).setCells (w.heap.size + 1 + 1) 0 [.int .i64 0, .int .i64 0, .int .i64 0, .int .i64 1, .int .i64 1, .int .i64 0, .int .i64 0, .int .i8 0, .int .i8 0, .slice (some ⟨w.heap.size, 0, none⟩) 2 2, .slice (some ⟨w.heap.size + 1, 0, none⟩) 2 2, .int .i32 0, .int .i64 0, .int .i8 0, .int .i32 0, .int .i64 0, .int .i8 0, .int .i8 0, .int .i8 0]) := Kit.below_cells (Nat.le_refl _) _ _ _ ((Below.refl _ _).alloc (by rw [e9]; exact Nat.le_refl _) _)
  have yTN : w.heap.size + 1 + 1 < ((W2.alloc (.cells #[.int .i64 0, .int .i64 0, .int .i64 0, .int .i64 0, .int .i64 0, .int .i64 0, .int .i64 0, .int .i8 0, .int .i8 0, .slice none 0 0, .slice none 0 0, .int .i32 0, .int .i64 0, .int .i8 0, .int .i32 0, .int .i64 0, .int .i8 0, .int .i8 0, .int .i8 0] 32)).setCells (w.heap.size + 1 + 1) 0 [.int .i64 0, .int .i64 0, .int .i64 0, .int .i64 1, .int .i64 1, .int .i64 0, .int .i64 0, .int .i8 0, .int .i8 0, .slice (some ⟨w.heap.size, 0, none⟩) 2 2, .slice (some ⟨w.heap.size + 1, 0, none⟩) 2 2, .int .i32 0, .int .i64 0, .int .i8 0, .int .i32 0, .int .i64 0, .int .i8 0, .int .i8 0, .int .i8 0]).heap.size := by rw [Kit.size_cells]; simp; omega
  replace r2 := r2.below hB3
  replace r3 := r3.below hB3
  have HB4 := Lib.hid (hB2.trans (hB3.mono (by omega)))
  have R2 := Lib.hid r2
  have R3 := Lib.hid r3
  clear hB3 hB2 r2 r3 HTH
  generalize ((W2.alloc (.cells #[.int .i64 0, .int .i64 0, .int .i64 0, .int .i64 0, .int .i64 0, .int .i64 0, .int .i64 0, .int .i8 0, .int .i8 0, .slice none 0 0, .slice none 0 0, .int .i32 0, .int .i64 0, .int .i8 0, .int .i32 0, .int .i64 0, .int .i8 0, .int .i8 0, .int .i8 0] 32)).setCells (w.heap.size + 1 + 1) 0 [.int .i64 0, .int .i64 0, .int .i64 0, .int .i64 1, .int .i64 1, .int .i64 0, .int .i64 0, .int .i8 0, .int .i8 0, .slice (some ⟨w.heap.size, 0, none⟩) 2 2, .slice (some ⟨w.heap.size + 1, 0, none⟩) 2 2, .int .i32 0, .int .i64 0, .int .i8 0, .int .i32 0, .int .i64 0, .int .i8 0, .int .i8 0, .int .i8 0]) = w3 at TN yTN R2 R3 HB4 ⊢
  clear hW2 e9
  generalize hgN : w.heap.size + 1 + 1 = gN at TN yTN ⊢
  have hsz : w.heap.size + 2 ≤ gN := by omega
  clear hgN
  have hal : Below w3.heap.size w3 (w3.alloc (.cells #[.int .i8 2, .int .i8 3] 27)) := (Below.refl w3.heap.size w3).alloc (Nat.le_refl _) _
  have q1 : Kit.Rd (w3.alloc (.cells #[.int .i8 2, .int .i8 3] 27)) (w3.alloc (.cells #[.int .i8 2, .int .i8 3] 27)).heap.size (some ⟨w3.heap.size, 0, none⟩) (I8s [2, 3]) := (Kit.Rd.new w3 [.int .i8 2, .int .i8 3] 27 (Nat.lt_succ_self _)).more (by simp)
  have q2 := (R2.out.below (hal.mono (by omega))).more (B' := (w3.alloc (.cells #[.int .i8 2, .int .i8 3] 27)).heap.size) (by simp; omega)
  have q3 := (R3.out.below (hal.mono (by omega))).more (B' := (w3.alloc (.cells #[.int .i8 2, .int .i8 3] 27)).heap.size) (by simp; omega)
  have HLOF := Lib.hid (dof_known w3.heap.size w.heap.size (w.heap.size + 1) _ q1 q2 q3)
  have HAL := Lib.hid hal
  clear q1 q2 q3 hal R2 R3
  go_upto_region 3 with (first
    | (refine wpList_load_mid rfl 32 (.tmp 1) rfl gN 0 rfl [.int .i64 0, .int .i64 0, .int .i64 0, .int .i64 1, .int .i64 1, .int .i64 0, .int .i64 0, .int .i8 0, .int .i8 0, .slice (some ⟨w.heap.size, 0, none⟩) 2 2, .slice (some ⟨w.heap.size + 1, 0, none⟩) 2 2, .int .i32 0, .int .i64 0, .int .i8 0, .int .i32 0, .int .i64 0, .int .i8 0, .int .i8 0, .int .i8 0] _ (TN.out.below yTN ((Below.refl _ _).alloc (Nat.le_refl _) _)) Try.underlying32 rfl (by kernel_rfl) ?_)
    | (go_at_call 7; have hal := HAL.out; refine HLOF.out.mono ?_; rintro e w4 ⟨v1, rfl, ho1, hb1⟩; obtain ⟨g1, c1, rfl, hgb, hc1, hcm, -⟩ := Kit.own_form ho1 (by omega); have k0 : w4.cell? ⟨g1, 0, none⟩ = some (.int .i32 21) := (by rw [ho1.cellAt 0 (by omega)]; rfl); have k1 : w4.cell? ⟨g1, 1, none⟩ = some (.int .i32 301) := (by rw [ho1.cellAt 1 (by omega)]; rfl); have hgs := Kit.block_lt_of_own ho1; replace HB4 := Lib.hid ((HB4.out.trans (hal.mono HB4.out.size)).trans (hb1.mono (by have := HB4.out.size; simp; omega))); clear ho1 hb1 hal))
  go_wp2_with fail
  go_ret
  exact ⟨rfl, HB4.out.alloc HB4.out.size _⟩
end Go.Proofs.Ytkbgfglipepmpaa.CDepth
