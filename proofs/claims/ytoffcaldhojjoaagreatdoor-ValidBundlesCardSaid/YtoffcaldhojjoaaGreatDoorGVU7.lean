/- -/
import Derived.Test.YtoffcaldhojjoaaGreatDoorGVU6
open Go.Lib (hid)
open Nat (le_refl lt_of_succ_lt lt_succ_self)
set_option linter.unusedVariables false
set_option linter.unusedSimpArgs false
set_option maxRecDepth 100000
set_option maxHeartbeats 16000000
namespace Go.Proofs.YtoffcaldhojjoaaGreatDoor
namespace CConv
end CConv
namespace CSat
end CSat
namespace CTensor
end CTensor
open Go Go.ChangeShapes Go.WideShapes Go.ChangeAt Go.RowKit Go.Deep
section
namespace CKind
open Plain CSat CShape CTensor CConv
theorem more_6 (x:Nd) (hk:x.kd=6):MoreIs x:=fun w=>by
 have TN:=hid (NdAt.new x 61 w)
 have HB:=hid ((Below.refl w.heap.size w).alloc (le_refl _) (.cells x.val 61))
 have HK:=hid hk
 clear hk
 unfold Nd.val at *
 go_enter Tryz.func34,Tryz.ntmps34
 go_upto_region 1 with fail
 generalize w.alloc (.cells #[.int .i64 x.kd,.int .i64 x.na,.int .i64 x.nb,.int .i64 x.K,.int .i64 x.S,.int .i64 x.P,.int .i64 x.O,.int .i8 x.Z,.int .i8 x.Y,.slice x.WA x.nW x.cW,.slice x.BA x.nB x.cB,.int .i32 x.m1,.int .i64 x.s1,.int .i8 x.z1,.int .i32 x.m2,.int .i64 x.s2,.int .i8 x.z2,.int .i8 x.lo,.int .i8 x.hi] 61)=W0 at TN HB ⊢
 have n0:=TN.out.at 0 _ rfl
 have n3:=TN.out.at 3 _ rfl
 have n4:=TN.out.at 4 _ rfl
 have n5:=TN.out.at 5 _ rfl
 have n6:=TN.out.at 6 _ rfl
 have n9:=TN.out.at 9 _ rfl
 have n10:=TN.out.at 10 _ rfl
 have n16:=TN.out.at 16 _ rfl
 have hk:=HK.out
 rw [hk] at n0
 have hsc:zad 6=true:=by decide
 by_cases c6:x.nW=0∧x.nB=0∧x.O=0
 rotate_left
 ·rcases (show (¬ x.nW=0)∨(x.nW=0∧¬ x.nB=0)∨(x.nW=0∧x.nB=0∧¬ x.O=0) by omega) with c6_0 | ⟨c6_0,c6_1⟩ | ⟨c6_0,c6_1,c6_2⟩
  all_goals (go_wp2_with (go_at_call 35;(refine (zab _ _).mono ?_);rintro e w1 ⟨rfl,rfl⟩);go_ret;exact⟨by first | (simp [Nd.moreB,sumsB,zai,zad, *];done) | (simp [Nd.moreB,sumsB,zai,zad, *];omega),HB.out⟩)
 obtain⟨d9,d10,d6⟩:=c6
 go_upto_region 6 with (go_at_call 35;(refine (zab _ _).mono ?_);rintro e w1 ⟨rfl,rfl⟩)
 by_cases c8:x.K=0∧x.S=0∧x.P=0
 rotate_left
 ·rcases (show (¬ x.K=0)∨(x.K=0∧¬ x.S=0)∨(x.K=0∧x.S=0∧¬ x.P=0) by omega) with c8_0 | ⟨c8_0,c8_1⟩ | ⟨c8_0,c8_1,c8_2⟩
  all_goals (go_wp2_with (go_at_call 35;(refine (zab _ _).mono ?_);rintro e w1 ⟨rfl,rfl⟩);go_ret;exact⟨by first | (simp [Nd.moreB,sumsB,zai,zad, *];done) | (simp [Nd.moreB,sumsB,zai,zad, *];omega),HB.out⟩)
 obtain⟨d3,d4,d5⟩:=c8
 go_upto_region 8 with (go_at_call 35;(refine (zab _ _).mono ?_);rintro e w1 ⟨rfl,rfl⟩)
 by_cases c10:x.z2=0
 rotate_left
 ·rcases (show (¬ x.z2=0) by omega) with c10_0
  all_goals (go_wp2_with (go_at_call 35;(refine (zab _ _).mono ?_);rintro e w1 ⟨rfl,rfl⟩);go_ret;exact⟨by first | (simp [Nd.moreB,sumsB,zai,zad, *];done) | (simp [Nd.moreB,sumsB,zai,zad, *];omega),HB.out⟩)
 have d16:=c10
 go_upto_region 10 with (go_at_call 35;(refine (zab _ _).mono ?_);rintro e w1 ⟨rfl,rfl⟩)
 go_upto_region 12 with (go_at_call 35;(refine (zab _ _).mono ?_);rintro e w1 ⟨rfl,rfl⟩)
 go_wp2_with (go_at_call 35;(refine (zab _ _).mono ?_);rintro e w1 ⟨rfl,rfl⟩)
 go_ret
 exact⟨by first | (simp [Nd.moreB,sumsB,zai,zad, *];done) | (simp [Nd.moreB,sumsB,zai,zad, *];omega),HB.out⟩
theorem more_7 (x:Nd) (hk:x.kd=7):MoreIs x:=fun w=>by
 have TN:=hid (NdAt.new x 61 w)
 have HB:=hid ((Below.refl w.heap.size w).alloc (le_refl _) (.cells x.val 61))
 have HK:=hid hk
 clear hk
 unfold Nd.val at *
 go_enter Tryz.func34,Tryz.ntmps34
 go_upto_region 1 with fail
 generalize w.alloc (.cells #[.int .i64 x.kd,.int .i64 x.na,.int .i64 x.nb,.int .i64 x.K,.int .i64 x.S,.int .i64 x.P,.int .i64 x.O,.int .i8 x.Z,.int .i8 x.Y,.slice x.WA x.nW x.cW,.slice x.BA x.nB x.cB,.int .i32 x.m1,.int .i64 x.s1,.int .i8 x.z1,.int .i32 x.m2,.int .i64 x.s2,.int .i8 x.z2,.int .i8 x.lo,.int .i8 x.hi] 61)=W0 at TN HB ⊢
 have n0:=TN.out.at 0 _ rfl
 have n2:=TN.out.at 2 _ rfl
 have n3:=TN.out.at 3 _ rfl
 have n4:=TN.out.at 4 _ rfl
 have n5:=TN.out.at 5 _ rfl
 have n6:=TN.out.at 6 _ rfl
 have n8:=TN.out.at 8 _ rfl
 have n9:=TN.out.at 9 _ rfl
 have n10:=TN.out.at 10 _ rfl
 have n14:=TN.out.at 14 _ rfl
 have n15:=TN.out.at 15 _ rfl
 have n16:=TN.out.at 16 _ rfl
 have hk:=HK.out
 rw [hk] at n0
 have hsc:zad 7=true:=by decide
 by_cases c6:x.nW=0∧x.nB=0∧x.O=0
 rotate_left
 ·rcases (show (¬ x.nW=0)∨(x.nW=0∧¬ x.nB=0)∨(x.nW=0∧x.nB=0∧¬ x.O=0) by omega) with c6_0 | ⟨c6_0,c6_1⟩ | ⟨c6_0,c6_1,c6_2⟩
  all_goals (go_wp2_with (go_at_call 35;(refine (zab _ _).mono ?_);rintro e w1 ⟨rfl,rfl⟩);go_ret;exact⟨by first | (simp [Nd.moreB,sumsB,zai,zad, *];done) | (simp [Nd.moreB,sumsB,zai,zad, *];omega),HB.out⟩)
 obtain⟨d9,d10,d6⟩:=c6
 go_upto_region 6 with (go_at_call 35;(refine (zab _ _).mono ?_);rintro e w1 ⟨rfl,rfl⟩)
 by_cases c8:x.K=0∧x.S=0∧x.P=0
 rotate_left
 ·rcases (show (¬ x.K=0)∨(x.K=0∧¬ x.S=0)∨(x.K=0∧x.S=0∧¬ x.P=0) by omega) with c8_0 | ⟨c8_0,c8_1⟩ | ⟨c8_0,c8_1,c8_2⟩
  all_goals (go_wp2_with (go_at_call 35;(refine (zab _ _).mono ?_);rintro e w1 ⟨rfl,rfl⟩);go_ret;exact⟨by first | (simp [Nd.moreB,sumsB,zai,zad, *];done) | (simp [Nd.moreB,sumsB,zai,zad, *];omega),HB.out⟩)
 obtain⟨d3,d4,d5⟩:=c8
 go_upto_region 8 with (go_at_call 35;(refine (zab _ _).mono ?_);rintro e w1 ⟨rfl,rfl⟩)
 by_cases c10:x.nb=0∧x.Y=0∧x.m2=0∧x.s2=0∧x.z2=0
 rotate_left
 ·rcases (show (¬ x.nb=0)∨(x.nb=0∧¬ x.Y=0)∨(x.nb=0∧x.Y=0∧¬ x.m2=0)∨(x.nb=0∧x.Y=0∧x.m2=0∧¬ x.s2=0)∨(x.nb=0∧x.Y=0∧x.m2=0∧x.s2=0∧¬ x.z2=0) by omega) with c10_0 | ⟨c10_0,c10_1⟩ | ⟨c10_0,c10_1,c10_2⟩ | ⟨c10_0,c10_1,c10_2,c10_3⟩ | ⟨c10_0,c10_1,c10_2,c10_3,c10_4⟩
  all_goals (go_wp2_with (go_at_call 35;(refine (zab _ _).mono ?_);rintro e w1 ⟨rfl,rfl⟩);go_ret;exact⟨by first | (simp [Nd.moreB,sumsB,zai,zad, *];done) | (simp [Nd.moreB,sumsB,zai,zad, *];omega),HB.out⟩)
 obtain⟨d2,d8,d14,d15,d16⟩:=c10
 go_upto_region 10 with (go_at_call 35;(refine (zab _ _).mono ?_);rintro e w1 ⟨rfl,rfl⟩)
 go_upto_region 12 with (go_at_call 35;(refine (zab _ _).mono ?_);rintro e w1 ⟨rfl,rfl⟩)
 go_wp2_with (go_at_call 35;(refine (zab _ _).mono ?_);rintro e w1 ⟨rfl,rfl⟩)
 go_ret
 exact⟨by first | (simp [Nd.moreB,sumsB,zai,zad, *];done) | (simp [Nd.moreB,sumsB,zai,zad, *];omega),HB.out⟩
theorem more_8 (x:Nd) (hk:x.kd=8):MoreIs x:=fun w=>by
 have TN:=hid (NdAt.new x 61 w)
 have HB:=hid ((Below.refl w.heap.size w).alloc (le_refl _) (.cells x.val 61))
 have HK:=hid hk
 clear hk
 unfold Nd.val at *
 go_enter Tryz.func34,Tryz.ntmps34
 go_upto_region 1 with fail
 generalize w.alloc (.cells #[.int .i64 x.kd,.int .i64 x.na,.int .i64 x.nb,.int .i64 x.K,.int .i64 x.S,.int .i64 x.P,.int .i64 x.O,.int .i8 x.Z,.int .i8 x.Y,.slice x.WA x.nW x.cW,.slice x.BA x.nB x.cB,.int .i32 x.m1,.int .i64 x.s1,.int .i8 x.z1,.int .i32 x.m2,.int .i64 x.s2,.int .i8 x.z2,.int .i8 x.lo,.int .i8 x.hi] 61)=W0 at TN HB ⊢
 have n0:=TN.out.at 0 _ rfl
 have n2:=TN.out.at 2 _ rfl
 have n3:=TN.out.at 3 _ rfl
 have n4:=TN.out.at 4 _ rfl
 have n6:=TN.out.at 6 _ rfl
 have n8:=TN.out.at 8 _ rfl
 have n9:=TN.out.at 9 _ rfl
 have n10:=TN.out.at 10 _ rfl
 have n11:=TN.out.at 11 _ rfl
 have n12:=TN.out.at 12 _ rfl
 have n13:=TN.out.at 13 _ rfl
 have n14:=TN.out.at 14 _ rfl
 have n15:=TN.out.at 15 _ rfl
 have n16:=TN.out.at 16 _ rfl
 have n17:=TN.out.at 17 _ rfl
 have n18:=TN.out.at 18 _ rfl
 have hk:=HK.out
 rw [hk] at n0
 have hsc:zad 8=false:=by decide
 by_cases c6:x.nW=0∧x.nB=0∧x.O=0
 rotate_left
 ·rcases (show (¬ x.nW=0)∨(x.nW=0∧¬ x.nB=0)∨(x.nW=0∧x.nB=0∧¬ x.O=0) by omega) with c6_0 | ⟨c6_0,c6_1⟩ | ⟨c6_0,c6_1,c6_2⟩
  all_goals (go_wp2_with (go_at_call 35;(refine (zab _ _).mono ?_);rintro e w1 ⟨rfl,rfl⟩);go_ret;exact⟨by first | (simp [Nd.moreB,sumsB,zai,zad, *];done) | (simp [Nd.moreB,sumsB,zai,zad, *];omega),HB.out⟩)
 obtain⟨d9,d10,d6⟩:=c6
 go_upto_region 6 with (go_at_call 35;(refine (zab _ _).mono ?_);rintro e w1 ⟨rfl,rfl⟩)
 by_cases c8:x.K=0∧x.S=0
 rotate_left
 ·rcases (show (¬ x.K=0)∨(x.K=0∧¬ x.S=0) by omega) with c8_0 | ⟨c8_0,c8_1⟩
  all_goals (go_wp2_with (go_at_call 35;(refine (zab _ _).mono ?_);rintro e w1 ⟨rfl,rfl⟩);go_ret;exact⟨by first | (simp [Nd.moreB,sumsB,zai,zad, *];done) | (simp [Nd.moreB,sumsB,zai,zad, *];omega),HB.out⟩)
 obtain⟨d3,d4⟩:=c8
 go_upto_region 8 with (go_at_call 35;(refine (zab _ _).mono ?_);rintro e w1 ⟨rfl,rfl⟩)
 by_cases c10:x.nb=0∧x.Y=0∧x.m2=0∧x.s2=0∧x.z2=0
 rotate_left
 ·rcases (show (¬ x.nb=0)∨(x.nb=0∧¬ x.Y=0)∨(x.nb=0∧x.Y=0∧¬ x.m2=0)∨(x.nb=0∧x.Y=0∧x.m2=0∧¬ x.s2=0)∨(x.nb=0∧x.Y=0∧x.m2=0∧x.s2=0∧¬ x.z2=0) by omega) with c10_0 | ⟨c10_0,c10_1⟩ | ⟨c10_0,c10_1,c10_2⟩ | ⟨c10_0,c10_1,c10_2,c10_3⟩ | ⟨c10_0,c10_1,c10_2,c10_3,c10_4⟩
  all_goals (go_wp2_with (go_at_call 35;(refine (zab _ _).mono ?_);rintro e w1 ⟨rfl,rfl⟩);go_ret;exact⟨by first | (simp [Nd.moreB,sumsB,zai,zad, *];done) | (simp [Nd.moreB,sumsB,zai,zad, *];omega),HB.out⟩)
 obtain⟨d2,d8,d14,d15,d16⟩:=c10
 go_upto_region 10 with (go_at_call 35;(refine (zab _ _).mono ?_);rintro e w1 ⟨rfl,rfl⟩)
 by_cases c12:x.m1=0∧x.s1=0∧x.z1=0∧x.lo=0∧x.hi=0
 rotate_left
 ·rcases (show (¬ x.m1=0)∨(x.m1=0∧¬ x.s1=0)∨(x.m1=0∧x.s1=0∧¬ x.z1=0)∨(x.m1=0∧x.s1=0∧x.z1=0∧¬ x.lo=0)∨(x.m1=0∧x.s1=0∧x.z1=0∧x.lo=0∧¬ x.hi=0) by omega) with c12_0 | ⟨c12_0,c12_1⟩ | ⟨c12_0,c12_1,c12_2⟩ | ⟨c12_0,c12_1,c12_2,c12_3⟩ | ⟨c12_0,c12_1,c12_2,c12_3,c12_4⟩
  all_goals (go_wp2_with (go_at_call 35;(refine (zab _ _).mono ?_);rintro e w1 ⟨rfl,rfl⟩);go_ret;exact⟨by first | (simp [Nd.moreB,sumsB,zai,zad, *];done) | (simp [Nd.moreB,sumsB,zai,zad, *];omega),HB.out⟩)
 obtain⟨d11,d12,d13,d17,d18⟩:=c12
 go_upto_region 12 with (go_at_call 35;(refine (zab _ _).mono ?_);rintro e w1 ⟨rfl,rfl⟩)
 go_wp2_with (go_at_call 35;(refine (zab _ _).mono ?_);rintro e w1 ⟨rfl,rfl⟩)
 go_ret
 exact⟨by first | (simp [Nd.moreB,sumsB,zai,zad, *];done) | (simp [Nd.moreB,sumsB,zai,zad, *];omega),HB.out⟩
theorem more_9 (x:Nd) (hk:x.kd=9):MoreIs x:=fun w=>by
 have TN:=hid (NdAt.new x 61 w)
 have HB:=hid ((Below.refl w.heap.size w).alloc (le_refl _) (.cells x.val 61))
 have HK:=hid hk
 clear hk
 unfold Nd.val at *
 go_enter Tryz.func34,Tryz.ntmps34
 go_upto_region 1 with fail
 generalize w.alloc (.cells #[.int .i64 x.kd,.int .i64 x.na,.int .i64 x.nb,.int .i64 x.K,.int .i64 x.S,.int .i64 x.P,.int .i64 x.O,.int .i8 x.Z,.int .i8 x.Y,.slice x.WA x.nW x.cW,.slice x.BA x.nB x.cB,.int .i32 x.m1,.int .i64 x.s1,.int .i8 x.z1,.int .i32 x.m2,.int .i64 x.s2,.int .i8 x.z2,.int .i8 x.lo,.int .i8 x.hi] 61)=W0 at TN HB ⊢
 have n0:=TN.out.at 0 _ rfl
 have n2:=TN.out.at 2 _ rfl
 have n3:=TN.out.at 3 _ rfl
 have n4:=TN.out.at 4 _ rfl
 have n5:=TN.out.at 5 _ rfl
 have n6:=TN.out.at 6 _ rfl
 have n7:=TN.out.at 7 _ rfl
 have n8:=TN.out.at 8 _ rfl
 have n9:=TN.out.at 9 _ rfl
 have n10:=TN.out.at 10 _ rfl
 have n11:=TN.out.at 11 _ rfl
 have n12:=TN.out.at 12 _ rfl
 have n13:=TN.out.at 13 _ rfl
 have n14:=TN.out.at 14 _ rfl
 have n15:=TN.out.at 15 _ rfl
 have n16:=TN.out.at 16 _ rfl
 have n17:=TN.out.at 17 _ rfl
 have n18:=TN.out.at 18 _ rfl
 have hk:=HK.out
 rw [hk] at n0
 have hsc:zad 9=false:=by decide
 by_cases c6:x.nW=0∧x.nB=0∧x.O=0
 rotate_left
 ·rcases (show (¬ x.nW=0)∨(x.nW=0∧¬ x.nB=0)∨(x.nW=0∧x.nB=0∧¬ x.O=0) by omega) with c6_0 | ⟨c6_0,c6_1⟩ | ⟨c6_0,c6_1,c6_2⟩
  all_goals (go_wp2_with (go_at_call 35;(refine (zab _ _).mono ?_);rintro e w1 ⟨rfl,rfl⟩);go_ret;exact⟨by first | (simp [Nd.moreB,sumsB,zai,zad, *];done) | (simp [Nd.moreB,sumsB,zai,zad, *];omega),HB.out⟩)
 obtain⟨d9,d10,d6⟩:=c6
 go_upto_region 6 with (go_at_call 35;(refine (zab _ _).mono ?_);rintro e w1 ⟨rfl,rfl⟩)
 by_cases c8:x.K=0∧x.S=0∧x.P=0
 rotate_left
 ·rcases (show (¬ x.K=0)∨(x.K=0∧¬ x.S=0)∨(x.K=0∧x.S=0∧¬ x.P=0) by omega) with c8_0 | ⟨c8_0,c8_1⟩ | ⟨c8_0,c8_1,c8_2⟩
  all_goals (go_wp2_with (go_at_call 35;(refine (zab _ _).mono ?_);rintro e w1 ⟨rfl,rfl⟩);go_ret;exact⟨by first | (simp [Nd.moreB,sumsB,zai,zad, *];done) | (simp [Nd.moreB,sumsB,zai,zad, *];omega),HB.out⟩)
 obtain⟨d3,d4,d5⟩:=c8
 go_upto_region 8 with (go_at_call 35;(refine (zab _ _).mono ?_);rintro e w1 ⟨rfl,rfl⟩)
 by_cases c10:x.nb=0∧x.Y=0∧x.m2=0∧x.s2=0∧x.z2=0
 rotate_left
 ·rcases (show (¬ x.nb=0)∨(x.nb=0∧¬ x.Y=0)∨(x.nb=0∧x.Y=0∧¬ x.m2=0)∨(x.nb=0∧x.Y=0∧x.m2=0∧¬ x.s2=0)∨(x.nb=0∧x.Y=0∧x.m2=0∧x.s2=0∧¬ x.z2=0) by omega) with c10_0 | ⟨c10_0,c10_1⟩ | ⟨c10_0,c10_1,c10_2⟩ | ⟨c10_0,c10_1,c10_2,c10_3⟩ | ⟨c10_0,c10_1,c10_2,c10_3,c10_4⟩
  all_goals (go_wp2_with (go_at_call 35;(refine (zab _ _).mono ?_);rintro e w1 ⟨rfl,rfl⟩);go_ret;exact⟨by first | (simp [Nd.moreB,sumsB,zai,zad, *];done) | (simp [Nd.moreB,sumsB,zai,zad, *];omega),HB.out⟩)
 obtain⟨d2,d8,d14,d15,d16⟩:=c10
 go_upto_region 10 with (go_at_call 35;(refine (zab _ _).mono ?_);rintro e w1 ⟨rfl,rfl⟩)
 by_cases c12:x.m1=0∧x.s1=0∧x.z1=0∧x.lo=0∧x.hi=0
 rotate_left
 ·rcases (show (¬ x.m1=0)∨(x.m1=0∧¬ x.s1=0)∨(x.m1=0∧x.s1=0∧¬ x.z1=0)∨(x.m1=0∧x.s1=0∧x.z1=0∧¬ x.lo=0)∨(x.m1=0∧x.s1=0∧x.z1=0∧x.lo=0∧¬ x.hi=0) by omega) with c12_0 | ⟨c12_0,c12_1⟩ | ⟨c12_0,c12_1,c12_2⟩ | ⟨c12_0,c12_1,c12_2,c12_3⟩ | ⟨c12_0,c12_1,c12_2,c12_3,c12_4⟩
  all_goals (go_wp2_with (go_at_call 35;(refine (zab _ _).mono ?_);rintro e w1 ⟨rfl,rfl⟩);go_ret;exact⟨by first | (simp [Nd.moreB,sumsB,zai,zad, *];done) | (simp [Nd.moreB,sumsB,zai,zad, *];omega),HB.out⟩)
 obtain⟨d11,d12,d13,d17,d18⟩:=c12
 go_upto_region 12 with (go_at_call 35;(refine (zab _ _).mono ?_);rintro e w1 ⟨rfl,rfl⟩)
 by_cases c99:x.Z=0
 rotate_left
 ·rcases (show (¬ x.Z=0) by omega) with c99_0
  all_goals (go_wp2_with (go_at_call 35;(refine (zab _ _).mono ?_);rintro e w1 ⟨rfl,rfl⟩);go_ret;exact⟨by first | (simp [Nd.moreB,sumsB,zai,zad, *];done) | (simp [Nd.moreB,sumsB,zai,zad, *];omega),HB.out⟩)
 have d7:=c99
 go_wp2_with (go_at_call 35;(refine (zab _ _).mono ?_);rintro e w1 ⟨rfl,rfl⟩)
 go_ret
 exact⟨by first | (simp [Nd.moreB,sumsB,zai,zad, *];done) | (simp [Nd.moreB,sumsB,zai,zad, *];omega),HB.out⟩
theorem more_o (x:Nd) (hk:x.kd < 1∨9 < x.kd):MoreIs x:=fun w=>by
 have TN:=hid (NdAt.new x 61 w)
 have HB:=hid ((Below.refl w.heap.size w).alloc (le_refl _) (.cells x.val 61))
 have HK:=hid hk
 clear hk
 unfold Nd.val at *
 go_enter Tryz.func34,Tryz.ntmps34
 go_upto_region 1 with fail
 generalize w.alloc (.cells #[.int .i64 x.kd,.int .i64 x.na,.int .i64 x.nb,.int .i64 x.K,.int .i64 x.S,.int .i64 x.P,.int .i64 x.O,.int .i8 x.Z,.int .i8 x.Y,.slice x.WA x.nW x.cW,.slice x.BA x.nB x.cB,.int .i32 x.m1,.int .i64 x.s1,.int .i8 x.z1,.int .i32 x.m2,.int .i64 x.s2,.int .i8 x.z2,.int .i8 x.lo,.int .i8 x.hi] 61)=W0 at TN HB ⊢
 have n0:=TN.out.at 0 _ rfl
 have n2:=TN.out.at 2 _ rfl
 have n3:=TN.out.at 3 _ rfl
 have n4:=TN.out.at 4 _ rfl
 have n5:=TN.out.at 5 _ rfl
 have n6:=TN.out.at 6 _ rfl
 have n7:=TN.out.at 7 _ rfl
 have n8:=TN.out.at 8 _ rfl
 have n9:=TN.out.at 9 _ rfl
 have n10:=TN.out.at 10 _ rfl
 have n11:=TN.out.at 11 _ rfl
 have n12:=TN.out.at 12 _ rfl
 have n13:=TN.out.at 13 _ rfl
 have n14:=TN.out.at 14 _ rfl
 have n15:=TN.out.at 15 _ rfl
 have n16:=TN.out.at 16 _ rfl
 have n17:=TN.out.at 17 _ rfl
 have n18:=TN.out.at 18 _ rfl
 have hk:=HK.out
 have ks:∀ j:Int,1≤j→j≤9→(x.kd == j)=false∧(x.kd != j)=true∧¬ x.kd=j:=fun j h1 h2=>by
  have:x.kd≠j:=by omega
  simp [this]
 obtain⟨e1,f1,g1⟩:=ks 1 (by omega) (by omega)
 obtain⟨e2,f2,g2⟩:=ks 2 (by omega) (by omega)
 obtain⟨e3,f3,g3⟩:=ks 3 (by omega) (by omega)
 obtain⟨e4,f4,g4⟩:=ks 4 (by omega) (by omega)
 obtain⟨e5,f5,g5⟩:=ks 5 (by omega) (by omega)
 obtain⟨e6,f6,g6⟩:=ks 6 (by omega) (by omega)
 obtain⟨e7,f7,g7⟩:=ks 7 (by omega) (by omega)
 obtain⟨e8,f8,g8⟩:=ks 8 (by omega) (by omega)
 obtain⟨e9,f9,g9⟩:=ks 9 (by omega) (by omega)
 clear ks
 have hsc:zad x.kd=false:=by simp [zad,e1,e2,e3,e6,e7]
 by_cases c6:x.nW=0∧x.nB=0∧x.O=0
 rotate_left
 ·rcases (show (¬ x.nW=0)∨(x.nW=0∧¬ x.nB=0)∨(x.nW=0∧x.nB=0∧¬ x.O=0) by omega) with c6_0 | ⟨c6_0,c6_1⟩ | ⟨c6_0,c6_1,c6_2⟩
  all_goals (go_wp2_with (go_at_call 35;(refine (zab _ _).mono ?_);rintro e w1 ⟨rfl,rfl⟩);go_ret;exact⟨by first | (simp [Nd.moreB,sumsB,zai,zad, *];done) | (simp [Nd.moreB,sumsB,zai,zad, *];omega),HB.out⟩)
 obtain⟨d9,d10,d6⟩:=c6
 go_upto_region 6 with (go_at_call 35;(refine (zab _ _).mono ?_);rintro e w1 ⟨rfl,rfl⟩)
 by_cases c8:x.K=0∧x.S=0∧x.P=0
 rotate_left
 ·rcases (show (¬ x.K=0)∨(x.K=0∧¬ x.S=0)∨(x.K=0∧x.S=0∧¬ x.P=0) by omega) with c8_0 | ⟨c8_0,c8_1⟩ | ⟨c8_0,c8_1,c8_2⟩
  all_goals (go_wp2_with (go_at_call 35;(refine (zab _ _).mono ?_);rintro e w1 ⟨rfl,rfl⟩);go_ret;exact⟨by first | (simp [Nd.moreB,sumsB,zai,zad, *];done) | (simp [Nd.moreB,sumsB,zai,zad, *];omega),HB.out⟩)
 obtain⟨d3,d4,d5⟩:=c8
 go_upto_region 8 with (go_at_call 35;(refine (zab _ _).mono ?_);rintro e w1 ⟨rfl,rfl⟩)
 by_cases c10:x.nb=0∧x.Y=0∧x.m2=0∧x.s2=0∧x.z2=0
 rotate_left
 ·rcases (show (¬ x.nb=0)∨(x.nb=0∧¬ x.Y=0)∨(x.nb=0∧x.Y=0∧¬ x.m2=0)∨(x.nb=0∧x.Y=0∧x.m2=0∧¬ x.s2=0)∨(x.nb=0∧x.Y=0∧x.m2=0∧x.s2=0∧¬ x.z2=0) by omega) with c10_0 | ⟨c10_0,c10_1⟩ | ⟨c10_0,c10_1,c10_2⟩ | ⟨c10_0,c10_1,c10_2,c10_3⟩ | ⟨c10_0,c10_1,c10_2,c10_3,c10_4⟩
  all_goals (go_wp2_with (go_at_call 35;(refine (zab _ _).mono ?_);rintro e w1 ⟨rfl,rfl⟩);go_ret;exact⟨by first | (simp [Nd.moreB,sumsB,zai,zad, *];done) | (simp [Nd.moreB,sumsB,zai,zad, *];omega),HB.out⟩)
 obtain⟨d2,d8,d14,d15,d16⟩:=c10
 go_upto_region 10 with (go_at_call 35;(refine (zab _ _).mono ?_);rintro e w1 ⟨rfl,rfl⟩)
 by_cases c12:x.m1=0∧x.s1=0∧x.z1=0∧x.lo=0∧x.hi=0
 rotate_left
 ·rcases (show (¬ x.m1=0)∨(x.m1=0∧¬ x.s1=0)∨(x.m1=0∧x.s1=0∧¬ x.z1=0)∨(x.m1=0∧x.s1=0∧x.z1=0∧¬ x.lo=0)∨(x.m1=0∧x.s1=0∧x.z1=0∧x.lo=0∧¬ x.hi=0) by omega) with c12_0 | ⟨c12_0,c12_1⟩ | ⟨c12_0,c12_1,c12_2⟩ | ⟨c12_0,c12_1,c12_2,c12_3⟩ | ⟨c12_0,c12_1,c12_2,c12_3,c12_4⟩
  all_goals (go_wp2_with (go_at_call 35;(refine (zab _ _).mono ?_);rintro e w1 ⟨rfl,rfl⟩);go_ret;exact⟨by first | (simp [Nd.moreB,sumsB,zai,zad, *];done) | (simp [Nd.moreB,sumsB,zai,zad, *];omega),HB.out⟩)
 obtain⟨d11,d12,d13,d17,d18⟩:=c12
 go_upto_region 12 with (go_at_call 35;(refine (zab _ _).mono ?_);rintro e w1 ⟨rfl,rfl⟩)
 by_cases c99:x.Z=0
 rotate_left
 ·rcases (show (¬ x.Z=0) by omega) with c99_0
  all_goals (go_wp2_with (go_at_call 35;(refine (zab _ _).mono ?_);rintro e w1 ⟨rfl,rfl⟩);go_ret;exact⟨by first | (simp [Nd.moreB,sumsB,zai,zad, *];done) | (simp [Nd.moreB,sumsB,zai,zad, *];omega),HB.out⟩)
 have d7:=c99
 go_wp2_with (go_at_call 35;(refine (zab _ _).mono ?_);rintro e w1 ⟨rfl,rfl⟩)
 go_ret
 exact⟨by first | (simp [Nd.moreB,sumsB,zai,zad, *];done) | (simp [Nd.moreB,sumsB,zai,zad, *];omega),HB.out⟩
end CKind
end
end Go.Proofs.YtoffcaldhojjoaaGreatDoor
