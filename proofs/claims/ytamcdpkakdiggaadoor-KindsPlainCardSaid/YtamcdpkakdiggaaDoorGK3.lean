/- Texts of this seat, one behind the other: KindMoreA, KindMoreB, KindMoreC, KindRef, Fix, FixRef, KindName, KindBox, KindNames, KindOwnD. -/
import Derived.Deep.CutRange
import Derived.Laws.ShiftsVar
import Derived.Laws.ShiftsVarLaws
import Derived.Deep.MidRow
import Derived.Test.YtamcdpkakdiggaaDoorGK1
import Derived.Test.YtamcdpkakdiggaaDoorGK2
section
namespace Go.Proofs.YtamcdpkakdiggaaDoor.CKind
open Go Go.ChangeShapes Go.WideShapes Go.ChangeAt Go.RowKit Go.Deep
open Plain CSat CShape CTensor CConv
set_option linter.unusedVariables false
set_option linter.unusedSimpArgs false
set_option maxRecDepth 100000 in
set_option maxHeartbeats 8000000 in
theorem more_1 (x : Nd) (hk : x.kd = 1) : MoreIs x := fun w => by
  have TN := Lib.hid (NdAt.new x 28 w)
  have HB := Lib.hid ((Below.refl w.heap.size w).alloc (Nat.le_refl _) (.cells x.val 28))
  have HK := Lib.hid hk
  clear hk
  unfold Nd.val at *
  go_enter Tryd.func17, Tryd.ntmps17
  go_upto_region 1 with fail
  generalize w.alloc (.cells #[.int .i64 x.kd, .int .i64 x.na, .int .i64 x.nb, .int .i64 x.K, .int .i64 x.S, .int .i64 x.P, .int .i64 x.O, .int .i8 x.Z, .int .i8 x.Y, .slice x.WA x.nW x.cW, .slice x.BA x.nB x.cB, .int .i32 x.m1, .int .i64 x.s1, .int .i8 x.z1, .int .i32 x.m2, .int .i64 x.s2, .int .i8 x.z2, .int .i8 x.lo, .int .i8 x.hi] 28) = W0 at TN HB ⊢
  have n0 := TN.out.at 0 _ rfl
  have n2 := TN.out.at 2 _ rfl
  have n8 := TN.out.at 8 _ rfl
  have n14 := TN.out.at 14 _ rfl
  have n15 := TN.out.at 15 _ rfl
  have n16 := TN.out.at 16 _ rfl
  have hk := HK.out
  rw [hk] at n0
  have hsc : scaledB 1 = true := by decide
  go_upto_region 6 with (go_at_call 23; (refine (refScaled_to _ _).mono ?_); rintro e w1 ⟨rfl, rfl⟩)
  go_upto_region 8 with (go_at_call 23; (refine (refScaled_to _ _).mono ?_); rintro e w1 ⟨rfl, rfl⟩)
  by_cases c10 : x.nb = 0 ∧ x.Y = 0 ∧ x.m2 = 0 ∧ x.s2 = 0 ∧ x.z2 = 0
  rotate_left
  · rcases (show (¬ x.nb = 0) ∨ (x.nb = 0 ∧ ¬ x.Y = 0) ∨ (x.nb = 0 ∧ x.Y = 0 ∧ ¬ x.m2 = 0) ∨ (x.nb = 0 ∧ x.Y = 0 ∧ x.m2 = 0 ∧ ¬ x.s2 = 0) ∨ (x.nb = 0 ∧ x.Y = 0 ∧ x.m2 = 0 ∧ x.s2 = 0 ∧ ¬ x.z2 = 0) by omega) with c10_0 | ⟨c10_0, c10_1⟩ | ⟨c10_0, c10_1, c10_2⟩ | ⟨c10_0, c10_1, c10_2, c10_3⟩ | ⟨c10_0, c10_1, c10_2, c10_3, c10_4⟩
    all_goals (go_wp2_with (go_at_call 23; (refine (refScaled_to _ _).mono ?_); rintro e w1 ⟨rfl, rfl⟩); go_ret; exact ⟨by first | (simp [Nd.moreB, sumsB, slidesB, scaledB, *]; done) | (simp [Nd.moreB, sumsB, slidesB, scaledB, *]; omega), HB.out⟩)
  obtain ⟨d2, d8, d14, d15, d16⟩ := c10
  go_upto_region 10 with (go_at_call 23; (refine (refScaled_to _ _).mono ?_); rintro e w1 ⟨rfl, rfl⟩)
  go_upto_region 12 with (go_at_call 23; (refine (refScaled_to _ _).mono ?_); rintro e w1 ⟨rfl, rfl⟩)
  go_wp2_with (go_at_call 23; (refine (refScaled_to _ _).mono ?_); rintro e w1 ⟨rfl, rfl⟩)
  go_ret
  exact ⟨by first | (simp [Nd.moreB, sumsB, slidesB, scaledB, *]; done) | (simp [Nd.moreB, sumsB, slidesB, scaledB, *]; omega), HB.out⟩
set_option maxRecDepth 100000 in
set_option maxHeartbeats 8000000 in
theorem more_2 (x : Nd) (hk : x.kd = 2) : MoreIs x := fun w => by
  have TN := Lib.hid (NdAt.new x 28 w)
  have HB := Lib.hid ((Below.refl w.heap.size w).alloc (Nat.le_refl _) (.cells x.val 28))
  have HK := Lib.hid hk
  clear hk
  unfold Nd.val at *
  go_enter Tryd.func17, Tryd.ntmps17
  go_upto_region 1 with fail
  generalize w.alloc (.cells #[.int .i64 x.kd, .int .i64 x.na, .int .i64 x.nb, .int .i64 x.K, .int .i64 x.S, .int .i64 x.P, .int .i64 x.O, .int .i8 x.Z, .int .i8 x.Y, .slice x.WA x.nW x.cW, .slice x.BA x.nB x.cB, .int .i32 x.m1, .int .i64 x.s1, .int .i8 x.z1, .int .i32 x.m2, .int .i64 x.s2, .int .i8 x.z2, .int .i8 x.lo, .int .i8 x.hi] 28) = W0 at TN HB ⊢
  have n0 := TN.out.at 0 _ rfl
  have n2 := TN.out.at 2 _ rfl
  have n6 := TN.out.at 6 _ rfl
  have n8 := TN.out.at 8 _ rfl
  have n14 := TN.out.at 14 _ rfl
  have n15 := TN.out.at 15 _ rfl
  have n16 := TN.out.at 16 _ rfl
  have hk := HK.out
  rw [hk] at n0
  have hsc : scaledB 2 = true := by decide
  by_cases c6 : x.O = 0
  rotate_left
  · rcases (show (¬ x.O = 0) by omega) with c6_0
    all_goals (go_wp2_with (go_at_call 23; (refine (refScaled_to _ _).mono ?_); rintro e w1 ⟨rfl, rfl⟩); go_ret; exact ⟨by first | (simp [Nd.moreB, sumsB, slidesB, scaledB, *]; done) | (simp [Nd.moreB, sumsB, slidesB, scaledB, *]; omega), HB.out⟩)
  have d6 := c6
  go_upto_region 6 with (go_at_call 23; (refine (refScaled_to _ _).mono ?_); rintro e w1 ⟨rfl, rfl⟩)
  go_upto_region 8 with (go_at_call 23; (refine (refScaled_to _ _).mono ?_); rintro e w1 ⟨rfl, rfl⟩)
  by_cases c10 : x.nb = 0 ∧ x.Y = 0 ∧ x.m2 = 0 ∧ x.s2 = 0 ∧ x.z2 = 0
  rotate_left
  · rcases (show (¬ x.nb = 0) ∨ (x.nb = 0 ∧ ¬ x.Y = 0) ∨ (x.nb = 0 ∧ x.Y = 0 ∧ ¬ x.m2 = 0) ∨ (x.nb = 0 ∧ x.Y = 0 ∧ x.m2 = 0 ∧ ¬ x.s2 = 0) ∨ (x.nb = 0 ∧ x.Y = 0 ∧ x.m2 = 0 ∧ x.s2 = 0 ∧ ¬ x.z2 = 0) by omega) with c10_0 | ⟨c10_0, c10_1⟩ | ⟨c10_0, c10_1, c10_2⟩ | ⟨c10_0, c10_1, c10_2, c10_3⟩ | ⟨c10_0, c10_1, c10_2, c10_3, c10_4⟩
    all_goals (go_wp2_with (go_at_call 23; (refine (refScaled_to _ _).mono ?_); rintro e w1 ⟨rfl, rfl⟩); go_ret; exact ⟨by first | (simp [Nd.moreB, sumsB, slidesB, scaledB, *]; done) | (simp [Nd.moreB, sumsB, slidesB, scaledB, *]; omega), HB.out⟩)
  obtain ⟨d2, d8, d14, d15, d16⟩ := c10
  go_upto_region 10 with (go_at_call 23; (refine (refScaled_to _ _).mono ?_); rintro e w1 ⟨rfl, rfl⟩)
  go_upto_region 12 with (go_at_call 23; (refine (refScaled_to _ _).mono ?_); rintro e w1 ⟨rfl, rfl⟩)
  go_wp2_with (go_at_call 23; (refine (refScaled_to _ _).mono ?_); rintro e w1 ⟨rfl, rfl⟩)
  go_ret
  exact ⟨by first | (simp [Nd.moreB, sumsB, slidesB, scaledB, *]; done) | (simp [Nd.moreB, sumsB, slidesB, scaledB, *]; omega), HB.out⟩
set_option maxRecDepth 100000 in
set_option maxHeartbeats 8000000 in
theorem more_3 (x : Nd) (hk : x.kd = 3) : MoreIs x := fun w => by
  have TN := Lib.hid (NdAt.new x 28 w)
  have HB := Lib.hid ((Below.refl w.heap.size w).alloc (Nat.le_refl _) (.cells x.val 28))
  have HK := Lib.hid hk
  clear hk
  unfold Nd.val at *
  go_enter Tryd.func17, Tryd.ntmps17
  go_upto_region 1 with fail
  generalize w.alloc (.cells #[.int .i64 x.kd, .int .i64 x.na, .int .i64 x.nb, .int .i64 x.K, .int .i64 x.S, .int .i64 x.P, .int .i64 x.O, .int .i8 x.Z, .int .i8 x.Y, .slice x.WA x.nW x.cW, .slice x.BA x.nB x.cB, .int .i32 x.m1, .int .i64 x.s1, .int .i8 x.z1, .int .i32 x.m2, .int .i64 x.s2, .int .i8 x.z2, .int .i8 x.lo, .int .i8 x.hi] 28) = W0 at TN HB ⊢
  have n0 := TN.out.at 0 _ rfl
  have n2 := TN.out.at 2 _ rfl
  have n3 := TN.out.at 3 _ rfl
  have n4 := TN.out.at 4 _ rfl
  have n5 := TN.out.at 5 _ rfl
  have n8 := TN.out.at 8 _ rfl
  have n14 := TN.out.at 14 _ rfl
  have n15 := TN.out.at 15 _ rfl
  have n16 := TN.out.at 16 _ rfl
  have hk := HK.out
  rw [hk] at n0
  have hsc : scaledB 3 = true := by decide
  go_upto_region 6 with (go_at_call 23; (refine (refScaled_to _ _).mono ?_); rintro e w1 ⟨rfl, rfl⟩)
  by_cases c8 : x.K = 0 ∧ x.S = 0 ∧ x.P = 0
  rotate_left
  · rcases (show (¬ x.K = 0) ∨ (x.K = 0 ∧ ¬ x.S = 0) ∨ (x.K = 0 ∧ x.S = 0 ∧ ¬ x.P = 0) by omega) with c8_0 | ⟨c8_0, c8_1⟩ | ⟨c8_0, c8_1, c8_2⟩
    all_goals (go_wp2_with (go_at_call 23; (refine (refScaled_to _ _).mono ?_); rintro e w1 ⟨rfl, rfl⟩); go_ret; exact ⟨by first | (simp [Nd.moreB, sumsB, slidesB, scaledB, *]; done) | (simp [Nd.moreB, sumsB, slidesB, scaledB, *]; omega), HB.out⟩)
  obtain ⟨d3, d4, d5⟩ := c8
  go_upto_region 8 with (go_at_call 23; (refine (refScaled_to _ _).mono ?_); rintro e w1 ⟨rfl, rfl⟩)
  by_cases c10 : x.nb = 0 ∧ x.Y = 0 ∧ x.m2 = 0 ∧ x.s2 = 0 ∧ x.z2 = 0
  rotate_left
  · rcases (show (¬ x.nb = 0) ∨ (x.nb = 0 ∧ ¬ x.Y = 0) ∨ (x.nb = 0 ∧ x.Y = 0 ∧ ¬ x.m2 = 0) ∨ (x.nb = 0 ∧ x.Y = 0 ∧ x.m2 = 0 ∧ ¬ x.s2 = 0) ∨ (x.nb = 0 ∧ x.Y = 0 ∧ x.m2 = 0 ∧ x.s2 = 0 ∧ ¬ x.z2 = 0) by omega) with c10_0 | ⟨c10_0, c10_1⟩ | ⟨c10_0, c10_1, c10_2⟩ | ⟨c10_0, c10_1, c10_2, c10_3⟩ | ⟨c10_0, c10_1, c10_2, c10_3, c10_4⟩
    all_goals (go_wp2_with (go_at_call 23; (refine (refScaled_to _ _).mono ?_); rintro e w1 ⟨rfl, rfl⟩); go_ret; exact ⟨by first | (simp [Nd.moreB, sumsB, slidesB, scaledB, *]; done) | (simp [Nd.moreB, sumsB, slidesB, scaledB, *]; omega), HB.out⟩)
  obtain ⟨d2, d8, d14, d15, d16⟩ := c10
  go_upto_region 10 with (go_at_call 23; (refine (refScaled_to _ _).mono ?_); rintro e w1 ⟨rfl, rfl⟩)
  go_upto_region 12 with (go_at_call 23; (refine (refScaled_to _ _).mono ?_); rintro e w1 ⟨rfl, rfl⟩)
  go_wp2_with (go_at_call 23; (refine (refScaled_to _ _).mono ?_); rintro e w1 ⟨rfl, rfl⟩)
  go_ret
  exact ⟨by first | (simp [Nd.moreB, sumsB, slidesB, scaledB, *]; done) | (simp [Nd.moreB, sumsB, slidesB, scaledB, *]; omega), HB.out⟩
set_option maxRecDepth 100000 in
set_option maxHeartbeats 8000000 in
theorem more_4 (x : Nd) (hk : x.kd = 4) : MoreIs x := fun w => by
  have TN := Lib.hid (NdAt.new x 28 w)
  have HB := Lib.hid ((Below.refl w.heap.size w).alloc (Nat.le_refl _) (.cells x.val 28))
  have HK := Lib.hid hk
  clear hk
  unfold Nd.val at *
  go_enter Tryd.func17, Tryd.ntmps17
  go_upto_region 1 with fail
  generalize w.alloc (.cells #[.int .i64 x.kd, .int .i64 x.na, .int .i64 x.nb, .int .i64 x.K, .int .i64 x.S, .int .i64 x.P, .int .i64 x.O, .int .i8 x.Z, .int .i8 x.Y, .slice x.WA x.nW x.cW, .slice x.BA x.nB x.cB, .int .i32 x.m1, .int .i64 x.s1, .int .i8 x.z1, .int .i32 x.m2, .int .i64 x.s2, .int .i8 x.z2, .int .i8 x.lo, .int .i8 x.hi] 28) = W0 at TN HB ⊢
  have n0 := TN.out.at 0 _ rfl
  have n2 := TN.out.at 2 _ rfl
  have n6 := TN.out.at 6 _ rfl
  have n7 := TN.out.at 7 _ rfl
  have n8 := TN.out.at 8 _ rfl
  have n9 := TN.out.at 9 _ rfl
  have n10 := TN.out.at 10 _ rfl
  have n11 := TN.out.at 11 _ rfl
  have n12 := TN.out.at 12 _ rfl
  have n13 := TN.out.at 13 _ rfl
  have n14 := TN.out.at 14 _ rfl
  have n15 := TN.out.at 15 _ rfl
  have n16 := TN.out.at 16 _ rfl
  have n17 := TN.out.at 17 _ rfl
  have n18 := TN.out.at 18 _ rfl
  have hk := HK.out
  rw [hk] at n0
  have hsc : scaledB 4 = false := by decide
  by_cases c6 : x.nW = 0 ∧ x.nB = 0 ∧ x.O = 0
  rotate_left
  · rcases (show (¬ x.nW = 0) ∨ (x.nW = 0 ∧ ¬ x.nB = 0) ∨ (x.nW = 0 ∧ x.nB = 0 ∧ ¬ x.O = 0) by omega) with c6_0 | ⟨c6_0, c6_1⟩ | ⟨c6_0, c6_1, c6_2⟩
    all_goals (go_wp2_with (go_at_call 23; (refine (refScaled_to _ _).mono ?_); rintro e w1 ⟨rfl, rfl⟩); go_ret; exact ⟨by first | (simp [Nd.moreB, sumsB, slidesB, scaledB, *]; done) | (simp [Nd.moreB, sumsB, slidesB, scaledB, *]; omega), HB.out⟩)
  obtain ⟨d9, d10, d6⟩ := c6
  go_upto_region 6 with (go_at_call 23; (refine (refScaled_to _ _).mono ?_); rintro e w1 ⟨rfl, rfl⟩)
  go_upto_region 8 with (go_at_call 23; (refine (refScaled_to _ _).mono ?_); rintro e w1 ⟨rfl, rfl⟩)
  by_cases c10 : x.nb = 0 ∧ x.Y = 0 ∧ x.m2 = 0 ∧ x.s2 = 0 ∧ x.z2 = 0
  rotate_left
  · rcases (show (¬ x.nb = 0) ∨ (x.nb = 0 ∧ ¬ x.Y = 0) ∨ (x.nb = 0 ∧ x.Y = 0 ∧ ¬ x.m2 = 0) ∨ (x.nb = 0 ∧ x.Y = 0 ∧ x.m2 = 0 ∧ ¬ x.s2 = 0) ∨ (x.nb = 0 ∧ x.Y = 0 ∧ x.m2 = 0 ∧ x.s2 = 0 ∧ ¬ x.z2 = 0) by omega) with c10_0 | ⟨c10_0, c10_1⟩ | ⟨c10_0, c10_1, c10_2⟩ | ⟨c10_0, c10_1, c10_2, c10_3⟩ | ⟨c10_0, c10_1, c10_2, c10_3, c10_4⟩
    all_goals (go_wp2_with (go_at_call 23; (refine (refScaled_to _ _).mono ?_); rintro e w1 ⟨rfl, rfl⟩); go_ret; exact ⟨by first | (simp [Nd.moreB, sumsB, slidesB, scaledB, *]; done) | (simp [Nd.moreB, sumsB, slidesB, scaledB, *]; omega), HB.out⟩)
  obtain ⟨d2, d8, d14, d15, d16⟩ := c10
  go_upto_region 10 with (go_at_call 23; (refine (refScaled_to _ _).mono ?_); rintro e w1 ⟨rfl, rfl⟩)
  by_cases c12 : x.m1 = 0 ∧ x.s1 = 0 ∧ x.z1 = 0 ∧ x.lo = 0 ∧ x.hi = 0
  rotate_left
  · rcases (show (¬ x.m1 = 0) ∨ (x.m1 = 0 ∧ ¬ x.s1 = 0) ∨ (x.m1 = 0 ∧ x.s1 = 0 ∧ ¬ x.z1 = 0) ∨ (x.m1 = 0 ∧ x.s1 = 0 ∧ x.z1 = 0 ∧ ¬ x.lo = 0) ∨ (x.m1 = 0 ∧ x.s1 = 0 ∧ x.z1 = 0 ∧ x.lo = 0 ∧ ¬ x.hi = 0) by omega) with c12_0 | ⟨c12_0, c12_1⟩ | ⟨c12_0, c12_1, c12_2⟩ | ⟨c12_0, c12_1, c12_2, c12_3⟩ | ⟨c12_0, c12_1, c12_2, c12_3, c12_4⟩
    all_goals (go_wp2_with (go_at_call 23; (refine (refScaled_to _ _).mono ?_); rintro e w1 ⟨rfl, rfl⟩); go_ret; exact ⟨by first | (simp [Nd.moreB, sumsB, slidesB, scaledB, *]; done) | (simp [Nd.moreB, sumsB, slidesB, scaledB, *]; omega), HB.out⟩)
  obtain ⟨d11, d12, d13, d17, d18⟩ := c12
  go_upto_region 12 with (go_at_call 23; (refine (refScaled_to _ _).mono ?_); rintro e w1 ⟨rfl, rfl⟩)
  by_cases c99 : x.Z = 0
  rotate_left
  · rcases (show (¬ x.Z = 0) by omega) with c99_0
    all_goals (go_wp2_with (go_at_call 23; (refine (refScaled_to _ _).mono ?_); rintro e w1 ⟨rfl, rfl⟩); go_ret; exact ⟨by first | (simp [Nd.moreB, sumsB, slidesB, scaledB, *]; done) | (simp [Nd.moreB, sumsB, slidesB, scaledB, *]; omega), HB.out⟩)
  have d7 := c99
  go_wp2_with (go_at_call 23; (refine (refScaled_to _ _).mono ?_); rintro e w1 ⟨rfl, rfl⟩)
  go_ret
  exact ⟨by first | (simp [Nd.moreB, sumsB, slidesB, scaledB, *]; done) | (simp [Nd.moreB, sumsB, slidesB, scaledB, *]; omega), HB.out⟩
set_option maxRecDepth 100000 in
set_option maxHeartbeats 8000000 in
theorem more_5 (x : Nd) (hk : x.kd = 5) : MoreIs x := fun w => by
  have TN := Lib.hid (NdAt.new x 28 w)
  have HB := Lib.hid ((Below.refl w.heap.size w).alloc (Nat.le_refl _) (.cells x.val 28))
  have HK := Lib.hid hk
  clear hk
  unfold Nd.val at *
  go_enter Tryd.func17, Tryd.ntmps17
  go_upto_region 1 with fail
  generalize w.alloc (.cells #[.int .i64 x.kd, .int .i64 x.na, .int .i64 x.nb, .int .i64 x.K, .int .i64 x.S, .int .i64 x.P, .int .i64 x.O, .int .i8 x.Z, .int .i8 x.Y, .slice x.WA x.nW x.cW, .slice x.BA x.nB x.cB, .int .i32 x.m1, .int .i64 x.s1, .int .i8 x.z1, .int .i32 x.m2, .int .i64 x.s2, .int .i8 x.z2, .int .i8 x.lo, .int .i8 x.hi] 28) = W0 at TN HB ⊢
  have n0 := TN.out.at 0 _ rfl
  have n2 := TN.out.at 2 _ rfl
  have n6 := TN.out.at 6 _ rfl
  have n7 := TN.out.at 7 _ rfl
  have n8 := TN.out.at 8 _ rfl
  have n9 := TN.out.at 9 _ rfl
  have n10 := TN.out.at 10 _ rfl
  have n11 := TN.out.at 11 _ rfl
  have n12 := TN.out.at 12 _ rfl
  have n13 := TN.out.at 13 _ rfl
  have n14 := TN.out.at 14 _ rfl
  have n15 := TN.out.at 15 _ rfl
  have n16 := TN.out.at 16 _ rfl
  have n17 := TN.out.at 17 _ rfl
  have n18 := TN.out.at 18 _ rfl
  have hk := HK.out
  rw [hk] at n0
  have hsc : scaledB 5 = false := by decide
  by_cases c6 : x.nW = 0 ∧ x.nB = 0 ∧ x.O = 0
  rotate_left
  · rcases (show (¬ x.nW = 0) ∨ (x.nW = 0 ∧ ¬ x.nB = 0) ∨ (x.nW = 0 ∧ x.nB = 0 ∧ ¬ x.O = 0) by omega) with c6_0 | ⟨c6_0, c6_1⟩ | ⟨c6_0, c6_1, c6_2⟩
    all_goals (go_wp2_with (go_at_call 23; (refine (refScaled_to _ _).mono ?_); rintro e w1 ⟨rfl, rfl⟩); go_ret; exact ⟨by first | (simp [Nd.moreB, sumsB, slidesB, scaledB, *]; done) | (simp [Nd.moreB, sumsB, slidesB, scaledB, *]; omega), HB.out⟩)
  obtain ⟨d9, d10, d6⟩ := c6
  go_upto_region 6 with (go_at_call 23; (refine (refScaled_to _ _).mono ?_); rintro e w1 ⟨rfl, rfl⟩)
  go_upto_region 8 with (go_at_call 23; (refine (refScaled_to _ _).mono ?_); rintro e w1 ⟨rfl, rfl⟩)
  by_cases c10 : x.nb = 0 ∧ x.Y = 0 ∧ x.m2 = 0 ∧ x.s2 = 0 ∧ x.z2 = 0
  rotate_left
  · rcases (show (¬ x.nb = 0) ∨ (x.nb = 0 ∧ ¬ x.Y = 0) ∨ (x.nb = 0 ∧ x.Y = 0 ∧ ¬ x.m2 = 0) ∨ (x.nb = 0 ∧ x.Y = 0 ∧ x.m2 = 0 ∧ ¬ x.s2 = 0) ∨ (x.nb = 0 ∧ x.Y = 0 ∧ x.m2 = 0 ∧ x.s2 = 0 ∧ ¬ x.z2 = 0) by omega) with c10_0 | ⟨c10_0, c10_1⟩ | ⟨c10_0, c10_1, c10_2⟩ | ⟨c10_0, c10_1, c10_2, c10_3⟩ | ⟨c10_0, c10_1, c10_2, c10_3, c10_4⟩
    all_goals (go_wp2_with (go_at_call 23; (refine (refScaled_to _ _).mono ?_); rintro e w1 ⟨rfl, rfl⟩); go_ret; exact ⟨by first | (simp [Nd.moreB, sumsB, slidesB, scaledB, *]; done) | (simp [Nd.moreB, sumsB, slidesB, scaledB, *]; omega), HB.out⟩)
  obtain ⟨d2, d8, d14, d15, d16⟩ := c10
  go_upto_region 10 with (go_at_call 23; (refine (refScaled_to _ _).mono ?_); rintro e w1 ⟨rfl, rfl⟩)
  by_cases c12 : x.m1 = 0 ∧ x.s1 = 0 ∧ x.z1 = 0 ∧ x.lo = 0 ∧ x.hi = 0
  rotate_left
  · rcases (show (¬ x.m1 = 0) ∨ (x.m1 = 0 ∧ ¬ x.s1 = 0) ∨ (x.m1 = 0 ∧ x.s1 = 0 ∧ ¬ x.z1 = 0) ∨ (x.m1 = 0 ∧ x.s1 = 0 ∧ x.z1 = 0 ∧ ¬ x.lo = 0) ∨ (x.m1 = 0 ∧ x.s1 = 0 ∧ x.z1 = 0 ∧ x.lo = 0 ∧ ¬ x.hi = 0) by omega) with c12_0 | ⟨c12_0, c12_1⟩ | ⟨c12_0, c12_1, c12_2⟩ | ⟨c12_0, c12_1, c12_2, c12_3⟩ | ⟨c12_0, c12_1, c12_2, c12_3, c12_4⟩
    all_goals (go_wp2_with (go_at_call 23; (refine (refScaled_to _ _).mono ?_); rintro e w1 ⟨rfl, rfl⟩); go_ret; exact ⟨by first | (simp [Nd.moreB, sumsB, slidesB, scaledB, *]; done) | (simp [Nd.moreB, sumsB, slidesB, scaledB, *]; omega), HB.out⟩)
  obtain ⟨d11, d12, d13, d17, d18⟩ := c12
  go_upto_region 12 with (go_at_call 23; (refine (refScaled_to _ _).mono ?_); rintro e w1 ⟨rfl, rfl⟩)
  by_cases c99 : x.Z = 0
  rotate_left
  · rcases (show (¬ x.Z = 0) by omega) with c99_0
    all_goals (go_wp2_with (go_at_call 23; (refine (refScaled_to _ _).mono ?_); rintro e w1 ⟨rfl, rfl⟩); go_ret; exact ⟨by first | (simp [Nd.moreB, sumsB, slidesB, scaledB, *]; done) | (simp [Nd.moreB, sumsB, slidesB, scaledB, *]; omega), HB.out⟩)
  have d7 := c99
  go_wp2_with (go_at_call 23; (refine (refScaled_to _ _).mono ?_); rintro e w1 ⟨rfl, rfl⟩)
  go_ret
  exact ⟨by first | (simp [Nd.moreB, sumsB, slidesB, scaledB, *]; done) | (simp [Nd.moreB, sumsB, slidesB, scaledB, *]; omega), HB.out⟩
end Go.Proofs.YtamcdpkakdiggaaDoor.CKind
end
section
namespace Go.Proofs.YtamcdpkakdiggaaDoor.CKind
open Go Go.ChangeShapes Go.WideShapes Go.ChangeAt Go.RowKit Go.Deep
open Plain CSat CShape CTensor CConv
set_option linter.unusedVariables false
set_option linter.unusedSimpArgs false
set_option maxRecDepth 100000 in
set_option maxHeartbeats 8000000 in
theorem more_6 (x : Nd) (hk : x.kd = 6) : MoreIs x := fun w => by
  have TN := Lib.hid (NdAt.new x 28 w)
  have HB := Lib.hid ((Below.refl w.heap.size w).alloc (Nat.le_refl _) (.cells x.val 28))
  have HK := Lib.hid hk
  clear hk
  unfold Nd.val at *
  go_enter Tryd.func17, Tryd.ntmps17
  go_upto_region 1 with fail
  generalize w.alloc (.cells #[.int .i64 x.kd, .int .i64 x.na, .int .i64 x.nb, .int .i64 x.K, .int .i64 x.S, .int .i64 x.P, .int .i64 x.O, .int .i8 x.Z, .int .i8 x.Y, .slice x.WA x.nW x.cW, .slice x.BA x.nB x.cB, .int .i32 x.m1, .int .i64 x.s1, .int .i8 x.z1, .int .i32 x.m2, .int .i64 x.s2, .int .i8 x.z2, .int .i8 x.lo, .int .i8 x.hi] 28) = W0 at TN HB ⊢
  have n0 := TN.out.at 0 _ rfl
  have n3 := TN.out.at 3 _ rfl
  have n4 := TN.out.at 4 _ rfl
  have n5 := TN.out.at 5 _ rfl
  have n6 := TN.out.at 6 _ rfl
  have n9 := TN.out.at 9 _ rfl
  have n10 := TN.out.at 10 _ rfl
  have n16 := TN.out.at 16 _ rfl
  have hk := HK.out
  rw [hk] at n0
  have hsc : scaledB 6 = true := by decide
  by_cases c6 : x.nW = 0 ∧ x.nB = 0 ∧ x.O = 0
  rotate_left
  · rcases (show (¬ x.nW = 0) ∨ (x.nW = 0 ∧ ¬ x.nB = 0) ∨ (x.nW = 0 ∧ x.nB = 0 ∧ ¬ x.O = 0) by omega) with c6_0 | ⟨c6_0, c6_1⟩ | ⟨c6_0, c6_1, c6_2⟩
    all_goals (go_wp2_with (go_at_call 23; (refine (refScaled_to _ _).mono ?_); rintro e w1 ⟨rfl, rfl⟩); go_ret; exact ⟨by first | (simp [Nd.moreB, sumsB, slidesB, scaledB, *]; done) | (simp [Nd.moreB, sumsB, slidesB, scaledB, *]; omega), HB.out⟩)
  obtain ⟨d9, d10, d6⟩ := c6
  go_upto_region 6 with (go_at_call 23; (refine (refScaled_to _ _).mono ?_); rintro e w1 ⟨rfl, rfl⟩)
  by_cases c8 : x.K = 0 ∧ x.S = 0 ∧ x.P = 0
  rotate_left
  · rcases (show (¬ x.K = 0) ∨ (x.K = 0 ∧ ¬ x.S = 0) ∨ (x.K = 0 ∧ x.S = 0 ∧ ¬ x.P = 0) by omega) with c8_0 | ⟨c8_0, c8_1⟩ | ⟨c8_0, c8_1, c8_2⟩
    all_goals (go_wp2_with (go_at_call 23; (refine (refScaled_to _ _).mono ?_); rintro e w1 ⟨rfl, rfl⟩); go_ret; exact ⟨by first | (simp [Nd.moreB, sumsB, slidesB, scaledB, *]; done) | (simp [Nd.moreB, sumsB, slidesB, scaledB, *]; omega), HB.out⟩)
  obtain ⟨d3, d4, d5⟩ := c8
  go_upto_region 8 with (go_at_call 23; (refine (refScaled_to _ _).mono ?_); rintro e w1 ⟨rfl, rfl⟩)
  by_cases c10 : x.z2 = 0
  rotate_left
  · rcases (show (¬ x.z2 = 0) by omega) with c10_0
    all_goals (go_wp2_with (go_at_call 23; (refine (refScaled_to _ _).mono ?_); rintro e w1 ⟨rfl, rfl⟩); go_ret; exact ⟨by first | (simp [Nd.moreB, sumsB, slidesB, scaledB, *]; done) | (simp [Nd.moreB, sumsB, slidesB, scaledB, *]; omega), HB.out⟩)
  have d16 := c10
  go_upto_region 10 with (go_at_call 23; (refine (refScaled_to _ _).mono ?_); rintro e w1 ⟨rfl, rfl⟩)
  go_upto_region 12 with (go_at_call 23; (refine (refScaled_to _ _).mono ?_); rintro e w1 ⟨rfl, rfl⟩)
  go_wp2_with (go_at_call 23; (refine (refScaled_to _ _).mono ?_); rintro e w1 ⟨rfl, rfl⟩)
  go_ret
  exact ⟨by first | (simp [Nd.moreB, sumsB, slidesB, scaledB, *]; done) | (simp [Nd.moreB, sumsB, slidesB, scaledB, *]; omega), HB.out⟩
set_option maxRecDepth 100000 in
set_option maxHeartbeats 8000000 in
theorem more_7 (x : Nd) (hk : x.kd = 7) : MoreIs x := fun w => by
  have TN := Lib.hid (NdAt.new x 28 w)
  have HB := Lib.hid ((Below.refl w.heap.size w).alloc (Nat.le_refl _) (.cells x.val 28))
  have HK := Lib.hid hk
  clear hk
  unfold Nd.val at *
  go_enter Tryd.func17, Tryd.ntmps17
  go_upto_region 1 with fail
  generalize w.alloc (.cells #[.int .i64 x.kd, .int .i64 x.na, .int .i64 x.nb, .int .i64 x.K, .int .i64 x.S, .int .i64 x.P, .int .i64 x.O, .int .i8 x.Z, .int .i8 x.Y, .slice x.WA x.nW x.cW, .slice x.BA x.nB x.cB, .int .i32 x.m1, .int .i64 x.s1, .int .i8 x.z1, .int .i32 x.m2, .int .i64 x.s2, .int .i8 x.z2, .int .i8 x.lo, .int .i8 x.hi] 28) = W0 at TN HB ⊢
  have n0 := TN.out.at 0 _ rfl
  have n2 := TN.out.at 2 _ rfl
  have n3 := TN.out.at 3 _ rfl
  have n4 := TN.out.at 4 _ rfl
  have n5 := TN.out.at 5 _ rfl
  have n6 := TN.out.at 6 _ rfl
  have n8 := TN.out.at 8 _ rfl
  have n9 := TN.out.at 9 _ rfl
  have n10 := TN.out.at 10 _ rfl
  have n14 := TN.out.at 14 _ rfl
  have n15 := TN.out.at 15 _ rfl
  have n16 := TN.out.at 16 _ rfl
  have hk := HK.out
  rw [hk] at n0
  have hsc : scaledB 7 = true := by decide
  by_cases c6 : x.nW = 0 ∧ x.nB = 0 ∧ x.O = 0
  rotate_left
  · rcases (show (¬ x.nW = 0) ∨ (x.nW = 0 ∧ ¬ x.nB = 0) ∨ (x.nW = 0 ∧ x.nB = 0 ∧ ¬ x.O = 0) by omega) with c6_0 | ⟨c6_0, c6_1⟩ | ⟨c6_0, c6_1, c6_2⟩
    all_goals (go_wp2_with (go_at_call 23; (refine (refScaled_to _ _).mono ?_); rintro e w1 ⟨rfl, rfl⟩); go_ret; exact ⟨by first | (simp [Nd.moreB, sumsB, slidesB, scaledB, *]; done) | (simp [Nd.moreB, sumsB, slidesB, scaledB, *]; omega), HB.out⟩)
  obtain ⟨d9, d10, d6⟩ := c6
  go_upto_region 6 with (go_at_call 23; (refine (refScaled_to _ _).mono ?_); rintro e w1 ⟨rfl, rfl⟩)
  by_cases c8 : x.K = 0 ∧ x.S = 0 ∧ x.P = 0
  rotate_left
  · rcases (show (¬ x.K = 0) ∨ (x.K = 0 ∧ ¬ x.S = 0) ∨ (x.K = 0 ∧ x.S = 0 ∧ ¬ x.P = 0) by omega) with c8_0 | ⟨c8_0, c8_1⟩ | ⟨c8_0, c8_1, c8_2⟩
    all_goals (go_wp2_with (go_at_call 23; (refine (refScaled_to _ _).mono ?_); rintro e w1 ⟨rfl, rfl⟩); go_ret; exact ⟨by first | (simp [Nd.moreB, sumsB, slidesB, scaledB, *]; done) | (simp [Nd.moreB, sumsB, slidesB, scaledB, *]; omega), HB.out⟩)
  obtain ⟨d3, d4, d5⟩ := c8
  go_upto_region 8 with (go_at_call 23; (refine (refScaled_to _ _).mono ?_); rintro e w1 ⟨rfl, rfl⟩)
  by_cases c10 : x.nb = 0 ∧ x.Y = 0 ∧ x.m2 = 0 ∧ x.s2 = 0 ∧ x.z2 = 0
  rotate_left
  · rcases (show (¬ x.nb = 0) ∨ (x.nb = 0 ∧ ¬ x.Y = 0) ∨ (x.nb = 0 ∧ x.Y = 0 ∧ ¬ x.m2 = 0) ∨ (x.nb = 0 ∧ x.Y = 0 ∧ x.m2 = 0 ∧ ¬ x.s2 = 0) ∨ (x.nb = 0 ∧ x.Y = 0 ∧ x.m2 = 0 ∧ x.s2 = 0 ∧ ¬ x.z2 = 0) by omega) with c10_0 | ⟨c10_0, c10_1⟩ | ⟨c10_0, c10_1, c10_2⟩ | ⟨c10_0, c10_1, c10_2, c10_3⟩ | ⟨c10_0, c10_1, c10_2, c10_3, c10_4⟩
    all_goals (go_wp2_with (go_at_call 23; (refine (refScaled_to _ _).mono ?_); rintro e w1 ⟨rfl, rfl⟩); go_ret; exact ⟨by first | (simp [Nd.moreB, sumsB, slidesB, scaledB, *]; done) | (simp [Nd.moreB, sumsB, slidesB, scaledB, *]; omega), HB.out⟩)
  obtain ⟨d2, d8, d14, d15, d16⟩ := c10
  go_upto_region 10 with (go_at_call 23; (refine (refScaled_to _ _).mono ?_); rintro e w1 ⟨rfl, rfl⟩)
  go_upto_region 12 with (go_at_call 23; (refine (refScaled_to _ _).mono ?_); rintro e w1 ⟨rfl, rfl⟩)
  go_wp2_with (go_at_call 23; (refine (refScaled_to _ _).mono ?_); rintro e w1 ⟨rfl, rfl⟩)
  go_ret
  exact ⟨by first | (simp [Nd.moreB, sumsB, slidesB, scaledB, *]; done) | (simp [Nd.moreB, sumsB, slidesB, scaledB, *]; omega), HB.out⟩
set_option maxRecDepth 100000 in
set_option maxHeartbeats 8000000 in
theorem more_8 (x : Nd) (hk : x.kd = 8) : MoreIs x := fun w => by
  have TN := Lib.hid (NdAt.new x 28 w)
  have HB := Lib.hid ((Below.refl w.heap.size w).alloc (Nat.le_refl _) (.cells x.val 28))
  have HK := Lib.hid hk
  clear hk
  unfold Nd.val at *
  go_enter Tryd.func17, Tryd.ntmps17
  go_upto_region 1 with fail
  generalize w.alloc (.cells #[.int .i64 x.kd, .int .i64 x.na, .int .i64 x.nb, .int .i64 x.K, .int .i64 x.S, .int .i64 x.P, .int .i64 x.O, .int .i8 x.Z, .int .i8 x.Y, .slice x.WA x.nW x.cW, .slice x.BA x.nB x.cB, .int .i32 x.m1, .int .i64 x.s1, .int .i8 x.z1, .int .i32 x.m2, .int .i64 x.s2, .int .i8 x.z2, .int .i8 x.lo, .int .i8 x.hi] 28) = W0 at TN HB ⊢
  have n0 := TN.out.at 0 _ rfl
  have n2 := TN.out.at 2 _ rfl
  have n3 := TN.out.at 3 _ rfl
  have n4 := TN.out.at 4 _ rfl
  have n6 := TN.out.at 6 _ rfl
  have n8 := TN.out.at 8 _ rfl
  have n9 := TN.out.at 9 _ rfl
  have n10 := TN.out.at 10 _ rfl
  have n11 := TN.out.at 11 _ rfl
  have n12 := TN.out.at 12 _ rfl
  have n13 := TN.out.at 13 _ rfl
  have n14 := TN.out.at 14 _ rfl
  have n15 := TN.out.at 15 _ rfl
  have n16 := TN.out.at 16 _ rfl
  have n17 := TN.out.at 17 _ rfl
  have n18 := TN.out.at 18 _ rfl
  have hk := HK.out
  rw [hk] at n0
  have hsc : scaledB 8 = false := by decide
  by_cases c6 : x.nW = 0 ∧ x.nB = 0 ∧ x.O = 0
  rotate_left
  · rcases (show (¬ x.nW = 0) ∨ (x.nW = 0 ∧ ¬ x.nB = 0) ∨ (x.nW = 0 ∧ x.nB = 0 ∧ ¬ x.O = 0) by omega) with c6_0 | ⟨c6_0, c6_1⟩ | ⟨c6_0, c6_1, c6_2⟩
    all_goals (go_wp2_with (go_at_call 23; (refine (refScaled_to _ _).mono ?_); rintro e w1 ⟨rfl, rfl⟩); go_ret; exact ⟨by first | (simp [Nd.moreB, sumsB, slidesB, scaledB, *]; done) | (simp [Nd.moreB, sumsB, slidesB, scaledB, *]; omega), HB.out⟩)
  obtain ⟨d9, d10, d6⟩ := c6
  go_upto_region 6 with (go_at_call 23; (refine (refScaled_to _ _).mono ?_); rintro e w1 ⟨rfl, rfl⟩)
  by_cases c8 : x.K = 0 ∧ x.S = 0
  rotate_left
  · rcases (show (¬ x.K = 0) ∨ (x.K = 0 ∧ ¬ x.S = 0) by omega) with c8_0 | ⟨c8_0, c8_1⟩
    all_goals (go_wp2_with (go_at_call 23; (refine (refScaled_to _ _).mono ?_); rintro e w1 ⟨rfl, rfl⟩); go_ret; exact ⟨by first | (simp [Nd.moreB, sumsB, slidesB, scaledB, *]; done) | (simp [Nd.moreB, sumsB, slidesB, scaledB, *]; omega), HB.out⟩)
  obtain ⟨d3, d4⟩ := c8
  go_upto_region 8 with (go_at_call 23; (refine (refScaled_to _ _).mono ?_); rintro e w1 ⟨rfl, rfl⟩)
  by_cases c10 : x.nb = 0 ∧ x.Y = 0 ∧ x.m2 = 0 ∧ x.s2 = 0 ∧ x.z2 = 0
  rotate_left
  · rcases (show (¬ x.nb = 0) ∨ (x.nb = 0 ∧ ¬ x.Y = 0) ∨ (x.nb = 0 ∧ x.Y = 0 ∧ ¬ x.m2 = 0) ∨ (x.nb = 0 ∧ x.Y = 0 ∧ x.m2 = 0 ∧ ¬ x.s2 = 0) ∨ (x.nb = 0 ∧ x.Y = 0 ∧ x.m2 = 0 ∧ x.s2 = 0 ∧ ¬ x.z2 = 0) by omega) with c10_0 | ⟨c10_0, c10_1⟩ | ⟨c10_0, c10_1, c10_2⟩ | ⟨c10_0, c10_1, c10_2, c10_3⟩ | ⟨c10_0, c10_1, c10_2, c10_3, c10_4⟩
    all_goals (go_wp2_with (go_at_call 23; (refine (refScaled_to _ _).mono ?_); rintro e w1 ⟨rfl, rfl⟩); go_ret; exact ⟨by first | (simp [Nd.moreB, sumsB, slidesB, scaledB, *]; done) | (simp [Nd.moreB, sumsB, slidesB, scaledB, *]; omega), HB.out⟩)
  obtain ⟨d2, d8, d14, d15, d16⟩ := c10
  go_upto_region 10 with (go_at_call 23; (refine (refScaled_to _ _).mono ?_); rintro e w1 ⟨rfl, rfl⟩)
  by_cases c12 : x.m1 = 0 ∧ x.s1 = 0 ∧ x.z1 = 0 ∧ x.lo = 0 ∧ x.hi = 0
  rotate_left
  · rcases (show (¬ x.m1 = 0) ∨ (x.m1 = 0 ∧ ¬ x.s1 = 0) ∨ (x.m1 = 0 ∧ x.s1 = 0 ∧ ¬ x.z1 = 0) ∨ (x.m1 = 0 ∧ x.s1 = 0 ∧ x.z1 = 0 ∧ ¬ x.lo = 0) ∨ (x.m1 = 0 ∧ x.s1 = 0 ∧ x.z1 = 0 ∧ x.lo = 0 ∧ ¬ x.hi = 0) by omega) with c12_0 | ⟨c12_0, c12_1⟩ | ⟨c12_0, c12_1, c12_2⟩ | ⟨c12_0, c12_1, c12_2, c12_3⟩ | ⟨c12_0, c12_1, c12_2, c12_3, c12_4⟩
    all_goals (go_wp2_with (go_at_call 23; (refine (refScaled_to _ _).mono ?_); rintro e w1 ⟨rfl, rfl⟩); go_ret; exact ⟨by first | (simp [Nd.moreB, sumsB, slidesB, scaledB, *]; done) | (simp [Nd.moreB, sumsB, slidesB, scaledB, *]; omega), HB.out⟩)
  obtain ⟨d11, d12, d13, d17, d18⟩ := c12
  go_upto_region 12 with (go_at_call 23; (refine (refScaled_to _ _).mono ?_); rintro e w1 ⟨rfl, rfl⟩)
  go_wp2_with (go_at_call 23; (refine (refScaled_to _ _).mono ?_); rintro e w1 ⟨rfl, rfl⟩)
  go_ret
  exact ⟨by first | (simp [Nd.moreB, sumsB, slidesB, scaledB, *]; done) | (simp [Nd.moreB, sumsB, slidesB, scaledB, *]; omega), HB.out⟩
end Go.Proofs.YtamcdpkakdiggaaDoor.CKind
end
section
namespace Go.Proofs.YtamcdpkakdiggaaDoor.CKind
open Go Go.ChangeShapes Go.WideShapes Go.ChangeAt Go.RowKit Go.Deep
open Plain CSat CShape CTensor CConv
set_option linter.unusedVariables false
set_option linter.unusedSimpArgs false
set_option maxRecDepth 100000 in
set_option maxHeartbeats 8000000 in
theorem more_9 (x : Nd) (hk : x.kd = 9) : MoreIs x := fun w => by
  have TN := Lib.hid (NdAt.new x 28 w)
  have HB := Lib.hid ((Below.refl w.heap.size w).alloc (Nat.le_refl _) (.cells x.val 28))
  have HK := Lib.hid hk
  clear hk
  unfold Nd.val at *
  go_enter Tryd.func17, Tryd.ntmps17
  go_upto_region 1 with fail
  generalize w.alloc (.cells #[.int .i64 x.kd, .int .i64 x.na, .int .i64 x.nb, .int .i64 x.K, .int .i64 x.S, .int .i64 x.P, .int .i64 x.O, .int .i8 x.Z, .int .i8 x.Y, .slice x.WA x.nW x.cW, .slice x.BA x.nB x.cB, .int .i32 x.m1, .int .i64 x.s1, .int .i8 x.z1, .int .i32 x.m2, .int .i64 x.s2, .int .i8 x.z2, .int .i8 x.lo, .int .i8 x.hi] 28) = W0 at TN HB ⊢
  have n0 := TN.out.at 0 _ rfl
  have n2 := TN.out.at 2 _ rfl
  have n3 := TN.out.at 3 _ rfl
  have n4 := TN.out.at 4 _ rfl
  have n5 := TN.out.at 5 _ rfl
  have n6 := TN.out.at 6 _ rfl
  have n7 := TN.out.at 7 _ rfl
  have n8 := TN.out.at 8 _ rfl
  have n9 := TN.out.at 9 _ rfl
  have n10 := TN.out.at 10 _ rfl
  have n11 := TN.out.at 11 _ rfl
  have n12 := TN.out.at 12 _ rfl
  have n13 := TN.out.at 13 _ rfl
  have n14 := TN.out.at 14 _ rfl
  have n15 := TN.out.at 15 _ rfl
  have n16 := TN.out.at 16 _ rfl
  have n17 := TN.out.at 17 _ rfl
  have n18 := TN.out.at 18 _ rfl
  have hk := HK.out
  rw [hk] at n0
  have hsc : scaledB 9 = false := by decide
  by_cases c6 : x.nW = 0 ∧ x.nB = 0 ∧ x.O = 0
  rotate_left
  · rcases (show (¬ x.nW = 0) ∨ (x.nW = 0 ∧ ¬ x.nB = 0) ∨ (x.nW = 0 ∧ x.nB = 0 ∧ ¬ x.O = 0) by omega) with c6_0 | ⟨c6_0, c6_1⟩ | ⟨c6_0, c6_1, c6_2⟩
    all_goals (go_wp2_with (go_at_call 23; (refine (refScaled_to _ _).mono ?_); rintro e w1 ⟨rfl, rfl⟩); go_ret; exact ⟨by first | (simp [Nd.moreB, sumsB, slidesB, scaledB, *]; done) | (simp [Nd.moreB, sumsB, slidesB, scaledB, *]; omega), HB.out⟩)
  obtain ⟨d9, d10, d6⟩ := c6
  go_upto_region 6 with (go_at_call 23; (refine (refScaled_to _ _).mono ?_); rintro e w1 ⟨rfl, rfl⟩)
  by_cases c8 : x.K = 0 ∧ x.S = 0 ∧ x.P = 0
  rotate_left
  · rcases (show (¬ x.K = 0) ∨ (x.K = 0 ∧ ¬ x.S = 0) ∨ (x.K = 0 ∧ x.S = 0 ∧ ¬ x.P = 0) by omega) with c8_0 | ⟨c8_0, c8_1⟩ | ⟨c8_0, c8_1, c8_2⟩
    all_goals (go_wp2_with (go_at_call 23; (refine (refScaled_to _ _).mono ?_); rintro e w1 ⟨rfl, rfl⟩); go_ret; exact ⟨by first | (simp [Nd.moreB, sumsB, slidesB, scaledB, *]; done) | (simp [Nd.moreB, sumsB, slidesB, scaledB, *]; omega), HB.out⟩)
  obtain ⟨d3, d4, d5⟩ := c8
  go_upto_region 8 with (go_at_call 23; (refine (refScaled_to _ _).mono ?_); rintro e w1 ⟨rfl, rfl⟩)
  by_cases c10 : x.nb = 0 ∧ x.Y = 0 ∧ x.m2 = 0 ∧ x.s2 = 0 ∧ x.z2 = 0
  rotate_left
  · rcases (show (¬ x.nb = 0) ∨ (x.nb = 0 ∧ ¬ x.Y = 0) ∨ (x.nb = 0 ∧ x.Y = 0 ∧ ¬ x.m2 = 0) ∨ (x.nb = 0 ∧ x.Y = 0 ∧ x.m2 = 0 ∧ ¬ x.s2 = 0) ∨ (x.nb = 0 ∧ x.Y = 0 ∧ x.m2 = 0 ∧ x.s2 = 0 ∧ ¬ x.z2 = 0) by omega) with c10_0 | ⟨c10_0, c10_1⟩ | ⟨c10_0, c10_1, c10_2⟩ | ⟨c10_0, c10_1, c10_2, c10_3⟩ | ⟨c10_0, c10_1, c10_2, c10_3, c10_4⟩
    all_goals (go_wp2_with (go_at_call 23; (refine (refScaled_to _ _).mono ?_); rintro e w1 ⟨rfl, rfl⟩); go_ret; exact ⟨by first | (simp [Nd.moreB, sumsB, slidesB, scaledB, *]; done) | (simp [Nd.moreB, sumsB, slidesB, scaledB, *]; omega), HB.out⟩)
  obtain ⟨d2, d8, d14, d15, d16⟩ := c10
  go_upto_region 10 with (go_at_call 23; (refine (refScaled_to _ _).mono ?_); rintro e w1 ⟨rfl, rfl⟩)
  by_cases c12 : x.m1 = 0 ∧ x.s1 = 0 ∧ x.z1 = 0 ∧ x.lo = 0 ∧ x.hi = 0
  rotate_left
  · rcases (show (¬ x.m1 = 0) ∨ (x.m1 = 0 ∧ ¬ x.s1 = 0) ∨ (x.m1 = 0 ∧ x.s1 = 0 ∧ ¬ x.z1 = 0) ∨ (x.m1 = 0 ∧ x.s1 = 0 ∧ x.z1 = 0 ∧ ¬ x.lo = 0) ∨ (x.m1 = 0 ∧ x.s1 = 0 ∧ x.z1 = 0 ∧ x.lo = 0 ∧ ¬ x.hi = 0) by omega) with c12_0 | ⟨c12_0, c12_1⟩ | ⟨c12_0, c12_1, c12_2⟩ | ⟨c12_0, c12_1, c12_2, c12_3⟩ | ⟨c12_0, c12_1, c12_2, c12_3, c12_4⟩
    all_goals (go_wp2_with (go_at_call 23; (refine (refScaled_to _ _).mono ?_); rintro e w1 ⟨rfl, rfl⟩); go_ret; exact ⟨by first | (simp [Nd.moreB, sumsB, slidesB, scaledB, *]; done) | (simp [Nd.moreB, sumsB, slidesB, scaledB, *]; omega), HB.out⟩)
  obtain ⟨d11, d12, d13, d17, d18⟩ := c12
  go_upto_region 12 with (go_at_call 23; (refine (refScaled_to _ _).mono ?_); rintro e w1 ⟨rfl, rfl⟩)
  by_cases c99 : x.Z = 0
  rotate_left
  · rcases (show (¬ x.Z = 0) by omega) with c99_0
    all_goals (go_wp2_with (go_at_call 23; (refine (refScaled_to _ _).mono ?_); rintro e w1 ⟨rfl, rfl⟩); go_ret; exact ⟨by first | (simp [Nd.moreB, sumsB, slidesB, scaledB, *]; done) | (simp [Nd.moreB, sumsB, slidesB, scaledB, *]; omega), HB.out⟩)
  have d7 := c99
  go_wp2_with (go_at_call 23; (refine (refScaled_to _ _).mono ?_); rintro e w1 ⟨rfl, rfl⟩)
  go_ret
  exact ⟨by first | (simp [Nd.moreB, sumsB, slidesB, scaledB, *]; done) | (simp [Nd.moreB, sumsB, slidesB, scaledB, *]; omega), HB.out⟩
set_option maxRecDepth 100000 in
set_option maxHeartbeats 8000000 in
theorem more_o (x : Nd) (hk : x.kd < 1 ∨ 9 < x.kd) : MoreIs x := fun w => by
  have TN := Lib.hid (NdAt.new x 28 w)
  have HB := Lib.hid ((Below.refl w.heap.size w).alloc (Nat.le_refl _) (.cells x.val 28))
  have HK := Lib.hid hk
  clear hk
  unfold Nd.val at *
  go_enter Tryd.func17, Tryd.ntmps17
  go_upto_region 1 with fail
  generalize w.alloc (.cells #[.int .i64 x.kd, .int .i64 x.na, .int .i64 x.nb, .int .i64 x.K, .int .i64 x.S, .int .i64 x.P, .int .i64 x.O, .int .i8 x.Z, .int .i8 x.Y, .slice x.WA x.nW x.cW, .slice x.BA x.nB x.cB, .int .i32 x.m1, .int .i64 x.s1, .int .i8 x.z1, .int .i32 x.m2, .int .i64 x.s2, .int .i8 x.z2, .int .i8 x.lo, .int .i8 x.hi] 28) = W0 at TN HB ⊢
  have n0 := TN.out.at 0 _ rfl
  have n2 := TN.out.at 2 _ rfl
  have n3 := TN.out.at 3 _ rfl
  have n4 := TN.out.at 4 _ rfl
  have n5 := TN.out.at 5 _ rfl
  have n6 := TN.out.at 6 _ rfl
  have n7 := TN.out.at 7 _ rfl
  have n8 := TN.out.at 8 _ rfl
  have n9 := TN.out.at 9 _ rfl
  have n10 := TN.out.at 10 _ rfl
  have n11 := TN.out.at 11 _ rfl
  have n12 := TN.out.at 12 _ rfl
  have n13 := TN.out.at 13 _ rfl
  have n14 := TN.out.at 14 _ rfl
  have n15 := TN.out.at 15 _ rfl
  have n16 := TN.out.at 16 _ rfl
  have n17 := TN.out.at 17 _ rfl
  have n18 := TN.out.at 18 _ rfl
  have hk := HK.out
  have ks : ∀ j : Int, 1 ≤ j → j ≤ 9 → (x.kd == j) = false ∧ (x.kd != j) = true ∧ ¬ x.kd = j := fun j h1 h2 => by
    have : x.kd ≠ j := by omega
    simp [this]
  obtain ⟨e1, f1, g1⟩ := ks 1 (by omega) (by omega)
  obtain ⟨e2, f2, g2⟩ := ks 2 (by omega) (by omega)
  obtain ⟨e3, f3, g3⟩ := ks 3 (by omega) (by omega)
  obtain ⟨e4, f4, g4⟩ := ks 4 (by omega) (by omega)
  obtain ⟨e5, f5, g5⟩ := ks 5 (by omega) (by omega)
  obtain ⟨e6, f6, g6⟩ := ks 6 (by omega) (by omega)
  obtain ⟨e7, f7, g7⟩ := ks 7 (by omega) (by omega)
  obtain ⟨e8, f8, g8⟩ := ks 8 (by omega) (by omega)
  obtain ⟨e9, f9, g9⟩ := ks 9 (by omega) (by omega)
  clear ks
  have hsc : scaledB x.kd = false := by simp [scaledB, e1, e2, e3, e6, e7]
  by_cases c6 : x.nW = 0 ∧ x.nB = 0 ∧ x.O = 0
  rotate_left
  · rcases (show (¬ x.nW = 0) ∨ (x.nW = 0 ∧ ¬ x.nB = 0) ∨ (x.nW = 0 ∧ x.nB = 0 ∧ ¬ x.O = 0) by omega) with c6_0 | ⟨c6_0, c6_1⟩ | ⟨c6_0, c6_1, c6_2⟩
    all_goals (go_wp2_with (go_at_call 23; (refine (refScaled_to _ _).mono ?_); rintro e w1 ⟨rfl, rfl⟩); go_ret; exact ⟨by first | (simp [Nd.moreB, sumsB, slidesB, scaledB, *]; done) | (simp [Nd.moreB, sumsB, slidesB, scaledB, *]; omega), HB.out⟩)
  obtain ⟨d9, d10, d6⟩ := c6
  go_upto_region 6 with (go_at_call 23; (refine (refScaled_to _ _).mono ?_); rintro e w1 ⟨rfl, rfl⟩)
  by_cases c8 : x.K = 0 ∧ x.S = 0 ∧ x.P = 0
  rotate_left
  · rcases (show (¬ x.K = 0) ∨ (x.K = 0 ∧ ¬ x.S = 0) ∨ (x.K = 0 ∧ x.S = 0 ∧ ¬ x.P = 0) by omega) with c8_0 | ⟨c8_0, c8_1⟩ | ⟨c8_0, c8_1, c8_2⟩
    all_goals (go_wp2_with (go_at_call 23; (refine (refScaled_to _ _).mono ?_); rintro e w1 ⟨rfl, rfl⟩); go_ret; exact ⟨by first | (simp [Nd.moreB, sumsB, slidesB, scaledB, *]; done) | (simp [Nd.moreB, sumsB, slidesB, scaledB, *]; omega), HB.out⟩)
  obtain ⟨d3, d4, d5⟩ := c8
  go_upto_region 8 with (go_at_call 23; (refine (refScaled_to _ _).mono ?_); rintro e w1 ⟨rfl, rfl⟩)
  by_cases c10 : x.nb = 0 ∧ x.Y = 0 ∧ x.m2 = 0 ∧ x.s2 = 0 ∧ x.z2 = 0
  rotate_left
  · rcases (show (¬ x.nb = 0) ∨ (x.nb = 0 ∧ ¬ x.Y = 0) ∨ (x.nb = 0 ∧ x.Y = 0 ∧ ¬ x.m2 = 0) ∨ (x.nb = 0 ∧ x.Y = 0 ∧ x.m2 = 0 ∧ ¬ x.s2 = 0) ∨ (x.nb = 0 ∧ x.Y = 0 ∧ x.m2 = 0 ∧ x.s2 = 0 ∧ ¬ x.z2 = 0) by omega) with c10_0 | ⟨c10_0, c10_1⟩ | ⟨c10_0, c10_1, c10_2⟩ | ⟨c10_0, c10_1, c10_2, c10_3⟩ | ⟨c10_0, c10_1, c10_2, c10_3, c10_4⟩
    all_goals (go_wp2_with (go_at_call 23; (refine (refScaled_to _ _).mono ?_); rintro e w1 ⟨rfl, rfl⟩); go_ret; exact ⟨by first | (simp [Nd.moreB, sumsB, slidesB, scaledB, *]; done) | (simp [Nd.moreB, sumsB, slidesB, scaledB, *]; omega), HB.out⟩)
  obtain ⟨d2, d8, d14, d15, d16⟩ := c10
  go_upto_region 10 with (go_at_call 23; (refine (refScaled_to _ _).mono ?_); rintro e w1 ⟨rfl, rfl⟩)
  by_cases c12 : x.m1 = 0 ∧ x.s1 = 0 ∧ x.z1 = 0 ∧ x.lo = 0 ∧ x.hi = 0
  rotate_left
  · rcases (show (¬ x.m1 = 0) ∨ (x.m1 = 0 ∧ ¬ x.s1 = 0) ∨ (x.m1 = 0 ∧ x.s1 = 0 ∧ ¬ x.z1 = 0) ∨ (x.m1 = 0 ∧ x.s1 = 0 ∧ x.z1 = 0 ∧ ¬ x.lo = 0) ∨ (x.m1 = 0 ∧ x.s1 = 0 ∧ x.z1 = 0 ∧ x.lo = 0 ∧ ¬ x.hi = 0) by omega) with c12_0 | ⟨c12_0, c12_1⟩ | ⟨c12_0, c12_1, c12_2⟩ | ⟨c12_0, c12_1, c12_2, c12_3⟩ | ⟨c12_0, c12_1, c12_2, c12_3, c12_4⟩
    all_goals (go_wp2_with (go_at_call 23; (refine (refScaled_to _ _).mono ?_); rintro e w1 ⟨rfl, rfl⟩); go_ret; exact ⟨by first | (simp [Nd.moreB, sumsB, slidesB, scaledB, *]; done) | (simp [Nd.moreB, sumsB, slidesB, scaledB, *]; omega), HB.out⟩)
  obtain ⟨d11, d12, d13, d17, d18⟩ := c12
  go_upto_region 12 with (go_at_call 23; (refine (refScaled_to _ _).mono ?_); rintro e w1 ⟨rfl, rfl⟩)
  by_cases c99 : x.Z = 0
  rotate_left
  · rcases (show (¬ x.Z = 0) by omega) with c99_0
    all_goals (go_wp2_with (go_at_call 23; (refine (refScaled_to _ _).mono ?_); rintro e w1 ⟨rfl, rfl⟩); go_ret; exact ⟨by first | (simp [Nd.moreB, sumsB, slidesB, scaledB, *]; done) | (simp [Nd.moreB, sumsB, slidesB, scaledB, *]; omega), HB.out⟩)
  have d7 := c99
  go_wp2_with (go_at_call 23; (refine (refScaled_to _ _).mono ?_); rintro e w1 ⟨rfl, rfl⟩)
  go_ret
  exact ⟨by first | (simp [Nd.moreB, sumsB, slidesB, scaledB, *]; done) | (simp [Nd.moreB, sumsB, slidesB, scaledB, *]; omega), HB.out⟩
end Go.Proofs.YtamcdpkakdiggaaDoor.CKind
end
section
namespace Go.Proofs.YtamcdpkakdiggaaDoor.CKind
open Go Go.ChangeShapes Go.WideShapes Go.ChangeAt Go.RowKit Go.Deep
open Plain CSat CShape CTensor CConv
set_option linter.unusedVariables false
set_option linter.unusedSimpArgs false
theorem refMore_to (x : Nd) : MoreIs x := by
  by_cases h0 : x.kd < 1 ∨ 9 < x.kd
  · exact more_o x h0
  · have : x.kd = 1 ∨ x.kd = 2 ∨ x.kd = 3 ∨ x.kd = 4 ∨ x.kd = 5 ∨ x.kd = 6 ∨ x.kd = 7 ∨ x.kd = 8 ∨ x.kd = 9 := by omega
    rcases this with h | h | h | h | h | h | h | h | h
    · exact more_1 x h
    · exact more_2 x h
    · exact more_3 x h
    · exact more_4 x h
    · exact more_5 x h
    · exact more_6 x h
    · exact more_7 x h
    · exact more_8 x h
    · exact more_9 x h
end Go.Proofs.YtamcdpkakdiggaaDoor.CKind
end
section
namespace Go.Proofs.YtamcdpkakdiggaaDoor.CFix
open Go Go.ChangeShapes Go.WideShapes Go.ChangeAt Go.RowKit
open Plain CSat
set_option linter.unusedVariables false
theorem right_yes (s : Int) (h1 : 0 ≤ s) (h2 : s ≤ 62) (w : World) :
    Calls Tryd.prog 42 #[.int .i64 s] w fun e w' => e = .returned (.bool true) ∧ w = w' := by
  go_enter Tryd.func42, Tryd.ntmps42
  go_wp2
  go_ret
  exact ⟨rfl, rfl⟩
theorem right_no (s : Int) (h : s < 0 ∨ 62 < s) (w : World) :
    Calls Tryd.prog 42 #[.int .i64 s] w fun e w' => e = .returned (.bool false) ∧ w = w' := by
  rcases h with h | h
  · go_enter Tryd.func42, Tryd.ntmps42
    go_wp2
    go_ret
    exact ⟨rfl, rfl⟩
  · by_cases h0 : 0 ≤ s
    · have hd : decide (s ≤ 62) = false := by simp; omega
      go_enter Tryd.func42, Tryd.ntmps42
      go_wp2
      go_ret
      exact ⟨rfl, rfl⟩
    · go_enter Tryd.func42, Tryd.ntmps42
      go_wp2
      go_ret
      exact ⟨rfl, rfl⟩
/-- is a scale right? -/
def rightB (m s : Int) : Bool := decide (0 < m ∧ 0 ≤ s ∧ s ≤ 62)
theorem isRight_yes (m s z : Int) (h : rightB m s = true) (w : World) :
    Calls Tryd.prog 22 #[.agg #[.int .i32 m, .int .i64 s, .int .i8 z]] w fun e w' => e = .returned (.bool true) ∧ Below w.heap.size w w' := by
  obtain ⟨h1, h2, h3⟩ : 0 < m ∧ 0 ≤ s ∧ s ≤ 62 := by simpa [rightB] using h
  clear h
  go_enter Tryd.func22, Tryd.ntmps22
  go_wp2_with (go_at_call 42; refine (right_yes _ (by omega) (by omega) _).mono ?_; rintro e w' ⟨rfl, rfl⟩)
  go_ret
  exact ⟨rfl, (Below.refl _ _).alloc (Nat.le_refl _) _⟩
theorem isRight_no (m s z : Int) (h : rightB m s = false) (w : World) :
    Calls Tryd.prog 22 #[.agg #[.int .i32 m, .int .i64 s, .int .i8 z]] w fun e w' => e = .returned (.bool false) ∧ Below w.heap.size w w' := by
  have h0 : ¬ (0 < m ∧ 0 ≤ s ∧ s ≤ 62) := by simpa [rightB] using h
  clear h
  by_cases h1 : 0 < m
  · have h2 : s < 0 ∨ 62 < s := by omega
    clear h0
    go_enter Tryd.func22, Tryd.ntmps22
    go_wp2_with (go_at_call 42; refine (right_no _ h2 _).mono ?_; rintro e w' ⟨rfl, rfl⟩)
    go_ret
    exact ⟨rfl, (Below.refl _ _).alloc (Nat.le_refl _) _⟩
  · have hd : decide (0 < m) = false := by simpa using h1
    clear h0
    go_enter Tryd.func22, Tryd.ntmps22
    go_wp2_with fail
    go_ret
    exact ⟨rfl, (Below.refl _ _).alloc (Nat.le_refl _) _⟩
end Go.Proofs.YtamcdpkakdiggaaDoor.CFix
end
section
namespace Go.Proofs.YtamcdpkakdiggaaDoor.CFix
open Go Go.ChangeShapes Go.WideShapes Go.ChangeAt Go.RowKit
open Plain CSat
set_option linter.unusedVariables false
theorem refRight_yes (m s z : Int) (h : rightB m s = true) (w : World) :
    Calls Tryd.prog 24 #[.agg #[.int .i32 m, .int .i64 s, .int .i8 z]] w fun e w' => e = .returned (.bool true) ∧ Below w.heap.size w w' := by
  obtain ⟨h1, h2, h3⟩ : 0 < m ∧ 0 ≤ s ∧ s ≤ 62 := by simpa [rightB] using h
  clear h
  go_enter Tryd.func24, Tryd.ntmps24
  go_wp2
  go_ret
  exact ⟨rfl, (Below.refl _ _).alloc (Nat.le_refl _) _⟩
theorem refRight_no (m s z : Int) (h : rightB m s = false) (w : World) :
    Calls Tryd.prog 24 #[.agg #[.int .i32 m, .int .i64 s, .int .i8 z]] w fun e w' => e = .returned (.bool false) ∧ Below w.heap.size w w' := by
  have h0 : ¬ (0 < m ∧ 0 ≤ s ∧ s ≤ 62) := by simpa [rightB] using h
  clear h
  have h1 : (decide (0 < m) = false) ∨ (0 < m ∧ decide (0 ≤ s) = false) ∨ (0 < m ∧ 0 ≤ s ∧ decide (s ≤ 62) = false) := by simp; omega
  clear h0
  rcases h1 with h1 | ⟨h1, h2⟩ | ⟨h1, h2, h3⟩
  all_goals
    go_enter Tryd.func24, Tryd.ntmps24
    go_wp2
    go_ret
    exact ⟨rfl, (Below.refl _ _).alloc (Nat.le_refl _) _⟩
end Go.Proofs.YtamcdpkakdiggaaDoor.CFix
end
section
namespace Go.Proofs.YtamcdpkakdiggaaDoor.CKind
open Go Go.ChangeShapes Go.WideShapes Go.ChangeAt Go.RowKit Go.Deep
open Plain CSat CFix CShape CTensor CConv
set_option linter.unusedVariables false
set_option linter.unusedSimpArgs false
/-- what a kind is called. -/
def kname (k : Int) : ByteArray :=
  if k = 1 then ⟨#[99, 111, 110, 118]⟩ else if k = 2 then ⟨#[100, 101, 112, 116, 104]⟩ else if k = 3 then ⟨#[100, 101, 110, 115, 101]⟩ else if k = 4 then ⟨#[109, 97, 120, 112, 111, 111, 108]⟩ else if k = 5 then ⟨#[97, 118, 103, 112, 111, 111, 108]⟩ else if k = 6 then ⟨#[106, 111, 105, 110]⟩ else if k = 7 then ⟨#[97, 99, 116]⟩ else if k = 8 then ⟨#[112, 97, 100]⟩ else if k = 9 then ⟨#[102, 108, 97, 116]⟩ else ⟨#[]⟩
theorem kname_no {k : Int} (h : k < 1 ∨ 9 < k) : kname k = ⟨#[]⟩ := by
  unfold kname
  simp only [show ¬ k = 1 by omega, show ¬ k = 2 by omega, show ¬ k = 3 by omega, show ¬ k = 4 by omega, show ¬ k = 5 by omega, show ¬ k = 6 by omega, show ¬ k = 7 by omega, show ¬ k = 8 by omega, show ¬ k = 9 by omega, if_false]
set_option maxRecDepth 100000 in
set_option maxHeartbeats 4000000 in
theorem refName_to (k : Int) (w : World) : Calls Tryd.prog 11 #[.int .i64 k] w fun e w' => e = .returned (.string (kname k)) ∧ Below w.heap.size w w' := by
  by_cases h : k < 0 ∨ 9 < k
  · have HK := Lib.hid (kname_no (k := k) (by omega))
    rcases h with h | h
    all_goals
      go_enter Tryd.func11, Tryd.ntmps11
      go_wp2_with fail
      go_ret
      exact ⟨by rw [HK.out]; rfl, (Below.refl _ _).alloc (Nat.le_refl _) _⟩
  · have : k = 0 ∨ k = 1 ∨ k = 2 ∨ k = 3 ∨ k = 4 ∨ k = 5 ∨ k = 6 ∨ k = 7 ∨ k = 8 ∨ k = 9 := by omega
    clear h
    rcases this with rfl | rfl | rfl | rfl | rfl | rfl | rfl | rfl | rfl | rfl
    all_goals
      go_enter Tryd.func11, Tryd.ntmps11
      go_wp2_with fail
      go_ret
      exact ⟨rfl, (Below.refl _ _).alloc (Nat.le_refl _) _⟩
end Go.Proofs.YtamcdpkakdiggaaDoor.CKind
end
section
namespace Go.Proofs.YtamcdpkakdiggaaDoor.CKind
open Go Go.ChangeShapes Go.WideShapes Go.ChangeAt Go.RowKit Go.Deep
open Plain CSat CShape CTensor CConv
set_option linter.unusedVariables false
set_option linter.unusedSimpArgs false
/-- a node's box that may be written. -/
def NdBox (b : Nat) (x : Nd) (w : World) : Prop := NdAt b x w ∧ w.there b 0 19
theorem NdBox.new (x : Nd) (T : TypeId) (w : World) : NdBox w.heap.size x (w.alloc (.cells x.val T)) := by
  refine ⟨NdAt.new x T w, fun j hj => ?_⟩
  rw [Nat.zero_add]
  constructor
  · rw [Kit.new_cell]
    have : j < x.val.size := hj
    simp [this]
  · unfold World.frozen?; rw [heap_alloc_new]; rfl
theorem NdBox.below {b B : Nat} {x : Nd} {w w' : World} (h : NdBox b x w) (hB : b < B) (hb : Below B w w') : NdBox b x w' :=
  ⟨h.1.below hB hb, fun j hj => ⟨by rw [hb.cell (p := ⟨b, 0 + j, none⟩) hB]; exact (h.2 j hj).1, by rw [hb.frozen (p := ⟨b, 0 + j, none⟩) hB]; exact (h.2 j hj).2⟩⟩
theorem NdBox.set {b : Nat} {x y : Nd} {w : World} (h : NdBox b x w) (i : Nat) (v : Value) (hi : i < 19) (hy : x.val.toList.set i v = y.val.toList) : NdBox b y (w.setCell ⟨b, i, none⟩ v) := by
  have hc := (h.2 i hi).1
  rw [Nat.zero_add] at hc
  refine ⟨fun j u hj => ?_, fun j hj => ⟨?_, ?_⟩⟩
  · rw [Nat.zero_add]
    rw [← hy, List.getElem?_set] at hj
    by_cases e : i = j
    · subst e
      rw [if_pos rfl, if_pos (show i < x.val.toList.length from hi)] at hj
      cases hj
      exact World.cell?_setCell_same' _ _ _ hc
    · rw [if_neg e] at hj
      rw [World.cell?_setCell_other _ _ _ _ (fun hh => e (by injection hh))]
      have := h.1 j u hj
      rwa [Nat.zero_add] at this
  · rw [Nat.zero_add]
    by_cases e : i = j
    · subst e
      rw [World.cell?_setCell_same' _ _ _ hc]; rfl
    · rw [World.cell?_setCell_other _ _ _ _ (fun hh => e (by injection hh))]
      have := (h.2 j hj).1
      rwa [Nat.zero_add] at this
  · rw [World.frozen?_setCell]; exact (h.2 j hj).2
theorem NdBox.fr {b : Nat} {x : Nd} {w : World} (h : NdBox b x w) (i : Nat) (hi : i < 19) : w.frozen? ⟨b, i, none⟩ = false := by
  have := (h.2 i hi).2
  rwa [Nat.zero_add] at this
theorem NdBox.lt {b : Nat} {x : Nd} {w : World} (h : NdBox b x w) : b < w.heap.size := by
  have h0 := h.1.at 0 _ rfl
  unfold World.cell? at h0
  rcases Nat.lt_or_ge b w.heap.size with hlt | hge
  · exact hlt
  · rw [show w.heap[(⟨b, 0, none⟩ : Addr).block]? = none from Array.getElem?_eq_none hge] at h0
    cases h0
theorem info_node : (Tryd.prog.info? 28).map (·.size) = some 19 := by kernel_rfl
theorem nd_one (x : Nd) : x.val.all (·.oneCell') = true := by simp [Nd.val, Value.oneCell']
/-- a node is stored whole. -/
theorem nd_store {ops : Array Oper} {rest : List Oper} {op : Oper} {a : Act} {w : World} {Q : Exit → Act → World → Prop} (hgd : op.guard = none) (x y : Operand) (ho : op.op = .store 28 x y)
    (b : Nat) (u v : Nd) (hx : a.eval x = .pointer (some ⟨b, 0, none⟩)) (hy : a.eval y = .agg v.val) (hb : NdBox b u w)
    (h : ∀ w', NdBox b v w' → Below b w w' → w'.heap.size = w.heap.size → wpList Tryd.prog ops Q rest (a.put op.dst undef) w') : wpList Tryd.prog ops Q (op :: rest) a w := by
  refine wpList_store_mid hgd 28 x y ho b 0 v.val hx hy hb.2 info_node (nd_one v) ?_
  have go : ∀ (vs : List Value) (o : Nat) (w : World), Below b w (w.setCells b o vs) ∧ (w.setCells b o vs).heap.size = w.heap.size := by
    intro vs
    induction vs with
    | nil => intro o w; exact ⟨Below.refl _ _, rfl⟩
    | cons v vs ih => intro o w; exact ⟨((Below.refl b w).setCell (p := ⟨b, o, none⟩) (Nat.le_refl _) v).trans (ih (o + 1) _).1, (ih (o + 1) (w.setCell ⟨b, o, none⟩ v)).2.trans (by simp [World.setCell])⟩
  exact h _ ⟨World.rangeAt_setCells_same _ _ _ _ hb.2, World.there_setCells hb.2 _ _ _⟩ (go _ _ _).1 (go _ _ _).2
/-- a node is loaded whole. -/
theorem nd_load {ops : Array Oper} {rest : List Oper} {op : Oper} {a : Act} {w : World} {Q : Exit → Act → World → Prop} (hgd : op.guard = none) (x : Operand) (ho : op.op = .load 28 x)
    (b : Nat) (u : Nd) (hx : a.eval x = .pointer (some ⟨b, 0, none⟩)) (hb : NdAt b u w)
    (h : wpList Tryd.prog ops Q rest (a.put op.dst (.agg u.val)) w) : wpList Tryd.prog ops Q (op :: rest) a w :=
  wpList_load_mid hgd 28 x ho b 0 hx u.val.toList _ hb Tryd.underlying28 rfl (by kernel_rfl) h
/-- a node handed back by value. -/
theorem nd_result {fn : Func} {p : Tmp} (h : fn.results = #[.cell p 28]) (tmps : Array Value) (w : World) (b : Nat) (x : Nd) (hp : tmps.getD p undef = .pointer (some ⟨b, 0, none⟩)) (hb : NdAt b x w) :
    (results fn tmps).run Tryd.prog w = .ok (.agg x.val) w :=
  Kit.results_c h tmps w b 0 x.val.toList _ hp hb Tryd.underlying28 rfl (by kernel_rfl)
end Go.Proofs.YtamcdpkakdiggaaDoor.CKind
end
section
namespace Go.Proofs.YtamcdpkakdiggaaDoor.CKind
open Go Go.ChangeShapes Go.WideShapes Go.ChangeAt Go.RowKit Go.Deep
open Plain CSat CFix CShape CTensor CConv
set_option linter.unusedVariables false
set_option linter.unusedSimpArgs false
/-- the kinds' names, as the program's text lays them. -/
def NamesIn (w : World) : Prop := ∀ n : Nat, n < 10 → w.cell? ⟨0, n, none⟩ = some (.string (kname n))
theorem NamesIn.size {w : World} (h : NamesIn w) : 0 < w.heap.size := by
  have h0 := h 0 (by decide)
  unfold World.cell? at h0
  rcases Nat.lt_or_ge 0 w.heap.size with hlt | hge
  · exact hlt
  · rw [show w.heap[(⟨0, 0, none⟩ : Addr).block]? = none from Array.getElem?_eq_none hge] at h0
    cases h0
theorem NamesIn.below {w w' : World} {n : Nat} (h : NamesIn w) (hb : Below n w w') (hn : 0 < n) : NamesIn w' := fun j hj => (hb.cell (p := ⟨0, j, none⟩) hn).trans (h j hj)
theorem NamesIn.grown {w w' : World} (h : NamesIn w) (hb : Below w.heap.size w w') : NamesIn w' := h.below hb h.size
set_option maxRecDepth 100000 in
set_option maxHeartbeats 4000000 in
theorem name_to (k : Int) (w : World) (hT : NamesIn w) : Calls Tryd.prog 10 #[.int .i64 k] w fun e w' => e = .returned (.string (kname k)) ∧ w = w' := by
  by_cases h : k < 0 ∨ 9 < k
  · have HK := Lib.hid (kname_no (k := k) (by omega))
    rcases h with h | h
    · go_enter Tryd.func10, Tryd.ntmps10
      go_wp2_with fail
      go_ret
      exact ⟨by rw [HK.out]; rfl, rfl⟩
    · have h2 : ¬ k < 0 := by omega
      have h3 : (10 : Int) ≤ k := by omega
      go_enter Tryd.func10, Tryd.ntmps10
      go_wp2_with fail
      go_ret
      exact ⟨by rw [HK.out]; rfl, rfl⟩
  · obtain ⟨n, rfl⟩ : ∃ n : Nat, k = (n : Int) := ⟨k.toNat, by omega⟩
    have h9 : n < 10 := by omega
    have hc := hT n h9
    obtain ⟨s, hs⟩ : ∃ s, kname (n : Int) = s := ⟨_, rfl⟩
    rw [hs] at hc ⊢
    have h0 : ¬ (n : Int) < 0 := by omega
    have h10 : ¬ (10 : Int) ≤ (n : Int) := by omega
    have h11 : (n : Int) < 10 := by omega
    clear hs hT h
    go_enter Tryd.func10, Tryd.ntmps10
    go_wp2_with fail
    go_ret
    exact ⟨rfl, rfl⟩
/-- is there such a kind? -/
def knownB (k : Int) : Bool := decide (1 ≤ k ∧ k ≤ 9)
theorem kname_ne (k : Int) : (kname k).toList.isEmpty = !knownB k := by
  rw [ByteArray.toList_eq]
  by_cases h : k < 1 ∨ 9 < k
  · rw [kname_no h, show knownB k = false from decide_eq_false (by omega)]; decide
  · have : k = 1 ∨ k = 2 ∨ k = 3 ∨ k = 4 ∨ k = 5 ∨ k = 6 ∨ k = 7 ∨ k = 8 ∨ k = 9 := by omega
    rcases this with rfl | rfl | rfl | rfl | rfl | rfl | rfl | rfl | rfl <;> decide
set_option maxRecDepth 100000 in
set_option maxHeartbeats 4000000 in
theorem known_to (k : Int) (w : World) (hT : NamesIn w) : Calls Tryd.prog 18 #[.int .i64 k] w fun e w' => e = .returned (.bool (knownB k)) ∧ w = w' := by
  have HN := Lib.hid (name_to k w hT)
  have hne := kname_ne k
  clear hT
  obtain ⟨s, hs⟩ : ∃ s, kname k = s := ⟨_, rfl⟩
  rw [hs] at HN hne
  clear hs
  cases hb : knownB k
  all_goals
    rw [hb] at hne
    simp only [Bool.not_false, Bool.not_true] at hne
    clear hb
    go_enter Tryd.func18, Tryd.ntmps18
    go_wp2_with (go_at_call 10; (with_reducible refine HN.out.mono ?_); rintro e w1 ⟨rfl, rfl⟩)
    go_ret
    exact ⟨rfl, rfl⟩
theorem sums_to (k : Int) (w : World) : Calls Tryd.prog 12 #[.int .i64 k] w fun e w' => e = .returned (.bool (sumsB k)) ∧ w = w' := by
  go_enter Tryd.func12, Tryd.ntmps12
  go_wp2_with fail
  all_goals go_ret
  all_goals exact ⟨by simp_all [sumsB], rfl⟩
theorem scaled_to (k : Int) (w : World) : Calls Tryd.prog 21 #[.int .i64 k] w fun e w' => e = .returned (.bool (scaledB k)) ∧ w = w' := by
  have HS := Lib.hid (sums_to k)
  obtain ⟨b, hb⟩ : ∃ b, sumsB k = b := ⟨_, rfl⟩
  have HZ : Hid (scaledB k = (b || k == 6 || k == 7)) := Lib.hid (by rw [← hb]; rfl)
  rw [hb] at HS
  clear hb
  cases b
  all_goals
    go_enter Tryd.func21, Tryd.ntmps21
    go_wp2_with (go_at_call 12; (with_reducible refine (HS.out _).mono ?_); rintro e w1 ⟨rfl, rfl⟩)
    all_goals go_ret
    all_goals exact ⟨by rw [HZ.out]; simp_all, rfl⟩
end Go.Proofs.YtamcdpkakdiggaaDoor.CKind
end
section
namespace Go.Proofs.YtamcdpkakdiggaaDoor.CKind
open Go Go.ChangeShapes Go.WideShapes Go.ChangeAt Go.RowKit Go.Deep
open Plain CSat CShape CTensor CConv
set_option linter.unusedVariables false
set_option linter.unusedSimpArgs false
/-- the node of no numbers. -/
def Nd.zero : Nd := ⟨0, 0, 0, 0, 0, 0, 0, 0, 0, none, 0, 0, none, 0, 0, 0, 0, 0, 0, 0, 0, 0, 0⟩
/-- a node with what kind k tells alone. -/
def Nd.ownK (x : Nd) (k : Int) : Nd :=
  ⟨k, x.na, if k == 6 then x.nb else 0, if slidesB k then x.K else 0, if slidesB k then x.S else 0, if slidesB k || k == 8 then x.P else 0, if k == 1 || k == 3 then x.O else 0, if scaledB k || k == 8 then x.Z else 0, if k == 6 then x.Y else 0,
   if sumsB k then x.WA else none, if sumsB k then x.nW else 0, if sumsB k then x.cW else 0, if sumsB k then x.BA else none, if sumsB k then x.nB else 0, if sumsB k then x.cB else 0,
   if scaledB k then x.m1 else 0, if scaledB k then x.s1 else 0, if scaledB k then x.z1 else 0, if k == 6 then x.m2 else 0, if k == 6 then x.s2 else 0, 0, if scaledB k then x.lo else 0, if scaledB k then x.hi else 0⟩
end Go.Proofs.YtamcdpkakdiggaaDoor.CKind
end
