/- -/
import Derived.Test.YtchpdhhpkljdhaaGreatDoorGD14
open Go.Value renaming int→Jj
open Go.IntKind renaming i64→Jq
open Go.Lib (hid)
open Nat (le_refl lt_of_succ_lt lt_succ_self)
set_option linter.unusedVariables false
set_option linter.unusedSimpArgs false
set_option maxRecDepth 100000
set_option maxHeartbeats 16000000
namespace Go.Proofs.YtchpdhhpkljdhaaGreatDoor
namespace CConv
end CConv
namespace CSat
end CSat
namespace CWheel
end CWheel
open Go Go.ChangeShapes Go.WideShapes Go.ChangeAt Go.RowKit Go.Deep
section
namespace CKind
open Plain CSat CShape CTensor CConv
theorem more_1 (x:Nd) (hk:x.kd=1):MoreIs x:=fun w=>by
 refine Z7d ?_;intro TN HB
 have HK:=hid hk
 clear hk
 unfold Nd.val at *
 go_enter Tryz.func62,Tryz.ntmps62
 go_upto_region 1 with fail
 generalize w.alloc (.cells #[Jj Jq x.kd,Jj Jq x.na,Jj Jq x.nb,Jj Jq x.K,Jj Jq x.S,Jj Jq x.P,Jj Jq x.O,.int .i8 x.Z,.int .i8 x.Y,.slice x.WA x.nW x.cW,.slice x.BA x.nB x.cB,.int .i32 x.m1,Jj Jq x.s1,.int .i8 x.z1,.int .i32 x.m2,Jj Jq x.s2,.int .i8 x.z2,.int .i8 x.lo,.int .i8 x.hi] 28)=W0 at TN HB ⊢
 refine Za2 ?_;intro n0 n2
 have n8:=TN.out.at 8 _ rfl
 refine Z6v ?_;intro n14 n15 n16
 have hk:=HK.out
 rw [hk] at n0
 have hsc:zaf 1=true:=by decide
 go_upto_region 6 with (go_at_call 63;(refine (zab _ _).mono ?_);rintro e w1 ⟨rfl,rfl⟩)
 go_upto_region 8 with (go_at_call 63;(refine (zab _ _).mono ?_);rintro e w1 ⟨rfl,rfl⟩)
 by_cases c10:x.nb=0∧x.Y=0∧x.m2=0∧x.s2=0∧x.z2=0
 rotate_left
 ·rcases (show (¬ x.nb=0)∨(x.nb=0∧¬ x.Y=0)∨(x.nb=0∧x.Y=0∧¬ x.m2=0)∨(x.nb=0∧x.Y=0∧x.m2=0∧¬ x.s2=0)∨(x.nb=0∧x.Y=0∧x.m2=0∧x.s2=0∧¬ x.z2=0) by omega) with c10_0 | ⟨c10_0,c10_1⟩ | ⟨c10_0,c10_1,c10_2⟩ | ⟨c10_0,c10_1,c10_2,c10_3⟩ | ⟨c10_0,c10_1,c10_2,c10_3,c10_4⟩
  all_goals (go_wp2_with (go_at_call 63;(refine (zab _ _).mono ?_);rintro e w1 ⟨rfl,rfl⟩);go_ret;exact⟨by first | (simp [Nd.moreB,sumsB,zai,zaf, *];done) | (simp [Nd.moreB,sumsB,zai,zaf, *];omega),HB.out⟩)
 obtain⟨d2,d8,d14,d15,d16⟩:=c10
 go_upto_region 10 with (go_at_call 63;(refine (zab _ _).mono ?_);rintro e w1 ⟨rfl,rfl⟩)
 go_upto_region 12 with (go_at_call 63;(refine (zab _ _).mono ?_);rintro e w1 ⟨rfl,rfl⟩)
 go_wp2_with (go_at_call 63;(refine (zab _ _).mono ?_);rintro e w1 ⟨rfl,rfl⟩)
 go_ret
 exact⟨by first | (simp [Nd.moreB,sumsB,zai,zaf, *];done) | (simp [Nd.moreB,sumsB,zai,zaf, *];omega),HB.out⟩
theorem more_2 (x:Nd) (hk:x.kd=2):MoreIs x:=fun w=>by
 refine Z7d ?_;intro TN HB
 have HK:=hid hk
 clear hk
 unfold Nd.val at *
 go_enter Tryz.func62,Tryz.ntmps62
 go_upto_region 1 with fail
 generalize w.alloc (.cells #[Jj Jq x.kd,Jj Jq x.na,Jj Jq x.nb,Jj Jq x.K,Jj Jq x.S,Jj Jq x.P,Jj Jq x.O,.int .i8 x.Z,.int .i8 x.Y,.slice x.WA x.nW x.cW,.slice x.BA x.nB x.cB,.int .i32 x.m1,Jj Jq x.s1,.int .i8 x.z1,.int .i32 x.m2,Jj Jq x.s2,.int .i8 x.z2,.int .i8 x.lo,.int .i8 x.hi] 28)=W0 at TN HB ⊢
 refine Za2 ?_;intro n0 n2
 have n6:=TN.out.at 6 _ rfl
 have n8:=TN.out.at 8 _ rfl
 refine Z6v ?_;intro n14 n15 n16
 have hk:=HK.out
 rw [hk] at n0
 have hsc:zaf 2=true:=by decide
 by_cases c6:x.O=0
 rotate_left
 ·rcases (show (¬ x.O=0) by omega) with c6_0
  all_goals (go_wp2_with (go_at_call 63;(refine (zab _ _).mono ?_);rintro e w1 ⟨rfl,rfl⟩);go_ret;exact⟨by first | (simp [Nd.moreB,sumsB,zai,zaf, *];done) | (simp [Nd.moreB,sumsB,zai,zaf, *];omega),HB.out⟩)
 have d6:=c6
 go_upto_region 6 with (go_at_call 63;(refine (zab _ _).mono ?_);rintro e w1 ⟨rfl,rfl⟩)
 go_upto_region 8 with (go_at_call 63;(refine (zab _ _).mono ?_);rintro e w1 ⟨rfl,rfl⟩)
 by_cases c10:x.nb=0∧x.Y=0∧x.m2=0∧x.s2=0∧x.z2=0
 rotate_left
 ·rcases (show (¬ x.nb=0)∨(x.nb=0∧¬ x.Y=0)∨(x.nb=0∧x.Y=0∧¬ x.m2=0)∨(x.nb=0∧x.Y=0∧x.m2=0∧¬ x.s2=0)∨(x.nb=0∧x.Y=0∧x.m2=0∧x.s2=0∧¬ x.z2=0) by omega) with c10_0 | ⟨c10_0,c10_1⟩ | ⟨c10_0,c10_1,c10_2⟩ | ⟨c10_0,c10_1,c10_2,c10_3⟩ | ⟨c10_0,c10_1,c10_2,c10_3,c10_4⟩
  all_goals (go_wp2_with (go_at_call 63;(refine (zab _ _).mono ?_);rintro e w1 ⟨rfl,rfl⟩);go_ret;exact⟨by first | (simp [Nd.moreB,sumsB,zai,zaf, *];done) | (simp [Nd.moreB,sumsB,zai,zaf, *];omega),HB.out⟩)
 obtain⟨d2,d8,d14,d15,d16⟩:=c10
 go_upto_region 10 with (go_at_call 63;(refine (zab _ _).mono ?_);rintro e w1 ⟨rfl,rfl⟩)
 go_upto_region 12 with (go_at_call 63;(refine (zab _ _).mono ?_);rintro e w1 ⟨rfl,rfl⟩)
 go_wp2_with (go_at_call 63;(refine (zab _ _).mono ?_);rintro e w1 ⟨rfl,rfl⟩)
 go_ret
 exact⟨by first | (simp [Nd.moreB,sumsB,zai,zaf, *];done) | (simp [Nd.moreB,sumsB,zai,zaf, *];omega),HB.out⟩
theorem more_3 (x:Nd) (hk:x.kd=3):MoreIs x:=fun w=>by
 refine Z7d ?_;intro TN HB
 have HK:=hid hk
 clear hk
 unfold Nd.val at *
 go_enter Tryz.func62,Tryz.ntmps62
 go_upto_region 1 with fail
 generalize w.alloc (.cells #[Jj Jq x.kd,Jj Jq x.na,Jj Jq x.nb,Jj Jq x.K,Jj Jq x.S,Jj Jq x.P,Jj Jq x.O,.int .i8 x.Z,.int .i8 x.Y,.slice x.WA x.nW x.cW,.slice x.BA x.nB x.cB,.int .i32 x.m1,Jj Jq x.s1,.int .i8 x.z1,.int .i32 x.m2,Jj Jq x.s2,.int .i8 x.z2,.int .i8 x.lo,.int .i8 x.hi] 28)=W0 at TN HB ⊢
 refine Za2 ?_;intro n0 n2
 refine Z7p ?_;intro n3 n4 n5
 have n8:=TN.out.at 8 _ rfl
 refine Z6v ?_;intro n14 n15 n16
 have hk:=HK.out
 rw [hk] at n0
 have hsc:zaf 3=true:=by decide
 go_upto_region 6 with (go_at_call 63;(refine (zab _ _).mono ?_);rintro e w1 ⟨rfl,rfl⟩)
 by_cases c8:x.K=0∧x.S=0∧x.P=0
 rotate_left
 ·rcases (show (¬ x.K=0)∨(x.K=0∧¬ x.S=0)∨(x.K=0∧x.S=0∧¬ x.P=0) by omega) with c8_0 | ⟨c8_0,c8_1⟩ | ⟨c8_0,c8_1,c8_2⟩
  all_goals (go_wp2_with (go_at_call 63;(refine (zab _ _).mono ?_);rintro e w1 ⟨rfl,rfl⟩);go_ret;exact⟨by first | (simp [Nd.moreB,sumsB,zai,zaf, *];done) | (simp [Nd.moreB,sumsB,zai,zaf, *];omega),HB.out⟩)
 obtain⟨d3,d4,d5⟩:=c8
 go_upto_region 8 with (go_at_call 63;(refine (zab _ _).mono ?_);rintro e w1 ⟨rfl,rfl⟩)
 by_cases c10:x.nb=0∧x.Y=0∧x.m2=0∧x.s2=0∧x.z2=0
 rotate_left
 ·rcases (show (¬ x.nb=0)∨(x.nb=0∧¬ x.Y=0)∨(x.nb=0∧x.Y=0∧¬ x.m2=0)∨(x.nb=0∧x.Y=0∧x.m2=0∧¬ x.s2=0)∨(x.nb=0∧x.Y=0∧x.m2=0∧x.s2=0∧¬ x.z2=0) by omega) with c10_0 | ⟨c10_0,c10_1⟩ | ⟨c10_0,c10_1,c10_2⟩ | ⟨c10_0,c10_1,c10_2,c10_3⟩ | ⟨c10_0,c10_1,c10_2,c10_3,c10_4⟩
  all_goals (go_wp2_with (go_at_call 63;(refine (zab _ _).mono ?_);rintro e w1 ⟨rfl,rfl⟩);go_ret;exact⟨by first | (simp [Nd.moreB,sumsB,zai,zaf, *];done) | (simp [Nd.moreB,sumsB,zai,zaf, *];omega),HB.out⟩)
 obtain⟨d2,d8,d14,d15,d16⟩:=c10
 go_upto_region 10 with (go_at_call 63;(refine (zab _ _).mono ?_);rintro e w1 ⟨rfl,rfl⟩)
 go_upto_region 12 with (go_at_call 63;(refine (zab _ _).mono ?_);rintro e w1 ⟨rfl,rfl⟩)
 go_wp2_with (go_at_call 63;(refine (zab _ _).mono ?_);rintro e w1 ⟨rfl,rfl⟩)
 go_ret
 exact⟨by first | (simp [Nd.moreB,sumsB,zai,zaf, *];done) | (simp [Nd.moreB,sumsB,zai,zaf, *];omega),HB.out⟩
theorem more_4 (x:Nd) (hk:x.kd=4):MoreIs x:=fun w=>by
 refine Z7d ?_;intro TN HB
 have HK:=hid hk
 clear hk
 unfold Nd.val at *
 go_enter Tryz.func62,Tryz.ntmps62
 go_upto_region 1 with fail
 generalize w.alloc (.cells #[Jj Jq x.kd,Jj Jq x.na,Jj Jq x.nb,Jj Jq x.K,Jj Jq x.S,Jj Jq x.P,Jj Jq x.O,.int .i8 x.Z,.int .i8 x.Y,.slice x.WA x.nW x.cW,.slice x.BA x.nB x.cB,.int .i32 x.m1,Jj Jq x.s1,.int .i8 x.z1,.int .i32 x.m2,Jj Jq x.s2,.int .i8 x.z2,.int .i8 x.lo,.int .i8 x.hi] 28)=W0 at TN HB ⊢
 refine Za2 ?_;intro n0 n2
 have n6:=TN.out.at 6 _ rfl
 refine Z99 ?_;intro n7 n8
 refine Z82 ?_;intro n9 n10
 refine Z6e ?_;intro n11 n12 n13 n14 n15 n16
 refine Z8y ?_;intro n17 n18
 have hk:=HK.out
 rw [hk] at n0
 have hsc:zaf 4=false:=by decide
 by_cases c6:x.nW=0∧x.nB=0∧x.O=0
 rotate_left
 ·rcases (show (¬ x.nW=0)∨(x.nW=0∧¬ x.nB=0)∨(x.nW=0∧x.nB=0∧¬ x.O=0) by omega) with c6_0 | ⟨c6_0,c6_1⟩ | ⟨c6_0,c6_1,c6_2⟩
  all_goals (go_wp2_with (go_at_call 63;(refine (zab _ _).mono ?_);rintro e w1 ⟨rfl,rfl⟩);go_ret;exact⟨by first | (simp [Nd.moreB,sumsB,zai,zaf, *];done) | (simp [Nd.moreB,sumsB,zai,zaf, *];omega),HB.out⟩)
 obtain⟨d9,d10,d6⟩:=c6
 go_upto_region 6 with (go_at_call 63;(refine (zab _ _).mono ?_);rintro e w1 ⟨rfl,rfl⟩)
 go_upto_region 8 with (go_at_call 63;(refine (zab _ _).mono ?_);rintro e w1 ⟨rfl,rfl⟩)
 by_cases c10:x.nb=0∧x.Y=0∧x.m2=0∧x.s2=0∧x.z2=0
 rotate_left
 ·rcases (show (¬ x.nb=0)∨(x.nb=0∧¬ x.Y=0)∨(x.nb=0∧x.Y=0∧¬ x.m2=0)∨(x.nb=0∧x.Y=0∧x.m2=0∧¬ x.s2=0)∨(x.nb=0∧x.Y=0∧x.m2=0∧x.s2=0∧¬ x.z2=0) by omega) with c10_0 | ⟨c10_0,c10_1⟩ | ⟨c10_0,c10_1,c10_2⟩ | ⟨c10_0,c10_1,c10_2,c10_3⟩ | ⟨c10_0,c10_1,c10_2,c10_3,c10_4⟩
  all_goals (go_wp2_with (go_at_call 63;(refine (zab _ _).mono ?_);rintro e w1 ⟨rfl,rfl⟩);go_ret;exact⟨by first | (simp [Nd.moreB,sumsB,zai,zaf, *];done) | (simp [Nd.moreB,sumsB,zai,zaf, *];omega),HB.out⟩)
 obtain⟨d2,d8,d14,d15,d16⟩:=c10
 go_upto_region 10 with (go_at_call 63;(refine (zab _ _).mono ?_);rintro e w1 ⟨rfl,rfl⟩)
 by_cases c12:x.m1=0∧x.s1=0∧x.z1=0∧x.lo=0∧x.hi=0
 rotate_left
 ·rcases (show (¬ x.m1=0)∨(x.m1=0∧¬ x.s1=0)∨(x.m1=0∧x.s1=0∧¬ x.z1=0)∨(x.m1=0∧x.s1=0∧x.z1=0∧¬ x.lo=0)∨(x.m1=0∧x.s1=0∧x.z1=0∧x.lo=0∧¬ x.hi=0) by omega) with c12_0 | ⟨c12_0,c12_1⟩ | ⟨c12_0,c12_1,c12_2⟩ | ⟨c12_0,c12_1,c12_2,c12_3⟩ | ⟨c12_0,c12_1,c12_2,c12_3,c12_4⟩
  all_goals (go_wp2_with (go_at_call 63;(refine (zab _ _).mono ?_);rintro e w1 ⟨rfl,rfl⟩);go_ret;exact⟨by first | (simp [Nd.moreB,sumsB,zai,zaf, *];done) | (simp [Nd.moreB,sumsB,zai,zaf, *];omega),HB.out⟩)
 obtain⟨d11,d12,d13,d17,d18⟩:=c12
 go_upto_region 12 with (go_at_call 63;(refine (zab _ _).mono ?_);rintro e w1 ⟨rfl,rfl⟩)
 by_cases c99:x.Z=0
 rotate_left
 ·rcases (show (¬ x.Z=0) by omega) with c99_0
  all_goals (go_wp2_with (go_at_call 63;(refine (zab _ _).mono ?_);rintro e w1 ⟨rfl,rfl⟩);go_ret;exact⟨by first | (simp [Nd.moreB,sumsB,zai,zaf, *];done) | (simp [Nd.moreB,sumsB,zai,zaf, *];omega),HB.out⟩)
 have d7:=c99
 go_wp2_with (go_at_call 63;(refine (zab _ _).mono ?_);rintro e w1 ⟨rfl,rfl⟩)
 go_ret
 exact⟨by first | (simp [Nd.moreB,sumsB,zai,zaf, *];done) | (simp [Nd.moreB,sumsB,zai,zaf, *];omega),HB.out⟩
theorem more_5 (x:Nd) (hk:x.kd=5):MoreIs x:=fun w=>by
 refine Z7d ?_;intro TN HB
 have HK:=hid hk
 clear hk
 unfold Nd.val at *
 go_enter Tryz.func62,Tryz.ntmps62
 go_upto_region 1 with fail
 generalize w.alloc (.cells #[Jj Jq x.kd,Jj Jq x.na,Jj Jq x.nb,Jj Jq x.K,Jj Jq x.S,Jj Jq x.P,Jj Jq x.O,.int .i8 x.Z,.int .i8 x.Y,.slice x.WA x.nW x.cW,.slice x.BA x.nB x.cB,.int .i32 x.m1,Jj Jq x.s1,.int .i8 x.z1,.int .i32 x.m2,Jj Jq x.s2,.int .i8 x.z2,.int .i8 x.lo,.int .i8 x.hi] 28)=W0 at TN HB ⊢
 refine Za2 ?_;intro n0 n2
 have n6:=TN.out.at 6 _ rfl
 refine Z99 ?_;intro n7 n8
 refine Z82 ?_;intro n9 n10
 refine Z6e ?_;intro n11 n12 n13 n14 n15 n16
 refine Z8y ?_;intro n17 n18
 have hk:=HK.out
 rw [hk] at n0
 have hsc:zaf 5=false:=by decide
 by_cases c6:x.nW=0∧x.nB=0∧x.O=0
 rotate_left
 ·rcases (show (¬ x.nW=0)∨(x.nW=0∧¬ x.nB=0)∨(x.nW=0∧x.nB=0∧¬ x.O=0) by omega) with c6_0 | ⟨c6_0,c6_1⟩ | ⟨c6_0,c6_1,c6_2⟩
  all_goals (go_wp2_with (go_at_call 63;(refine (zab _ _).mono ?_);rintro e w1 ⟨rfl,rfl⟩);go_ret;exact⟨by first | (simp [Nd.moreB,sumsB,zai,zaf, *];done) | (simp [Nd.moreB,sumsB,zai,zaf, *];omega),HB.out⟩)
 obtain⟨d9,d10,d6⟩:=c6
 go_upto_region 6 with (go_at_call 63;(refine (zab _ _).mono ?_);rintro e w1 ⟨rfl,rfl⟩)
 go_upto_region 8 with (go_at_call 63;(refine (zab _ _).mono ?_);rintro e w1 ⟨rfl,rfl⟩)
 by_cases c10:x.nb=0∧x.Y=0∧x.m2=0∧x.s2=0∧x.z2=0
 rotate_left
 ·rcases (show (¬ x.nb=0)∨(x.nb=0∧¬ x.Y=0)∨(x.nb=0∧x.Y=0∧¬ x.m2=0)∨(x.nb=0∧x.Y=0∧x.m2=0∧¬ x.s2=0)∨(x.nb=0∧x.Y=0∧x.m2=0∧x.s2=0∧¬ x.z2=0) by omega) with c10_0 | ⟨c10_0,c10_1⟩ | ⟨c10_0,c10_1,c10_2⟩ | ⟨c10_0,c10_1,c10_2,c10_3⟩ | ⟨c10_0,c10_1,c10_2,c10_3,c10_4⟩
  all_goals (go_wp2_with (go_at_call 63;(refine (zab _ _).mono ?_);rintro e w1 ⟨rfl,rfl⟩);go_ret;exact⟨by first | (simp [Nd.moreB,sumsB,zai,zaf, *];done) | (simp [Nd.moreB,sumsB,zai,zaf, *];omega),HB.out⟩)
 obtain⟨d2,d8,d14,d15,d16⟩:=c10
 go_upto_region 10 with (go_at_call 63;(refine (zab _ _).mono ?_);rintro e w1 ⟨rfl,rfl⟩)
 by_cases c12:x.m1=0∧x.s1=0∧x.z1=0∧x.lo=0∧x.hi=0
 rotate_left
 ·rcases (show (¬ x.m1=0)∨(x.m1=0∧¬ x.s1=0)∨(x.m1=0∧x.s1=0∧¬ x.z1=0)∨(x.m1=0∧x.s1=0∧x.z1=0∧¬ x.lo=0)∨(x.m1=0∧x.s1=0∧x.z1=0∧x.lo=0∧¬ x.hi=0) by omega) with c12_0 | ⟨c12_0,c12_1⟩ | ⟨c12_0,c12_1,c12_2⟩ | ⟨c12_0,c12_1,c12_2,c12_3⟩ | ⟨c12_0,c12_1,c12_2,c12_3,c12_4⟩
  all_goals (go_wp2_with (go_at_call 63;(refine (zab _ _).mono ?_);rintro e w1 ⟨rfl,rfl⟩);go_ret;exact⟨by first | (simp [Nd.moreB,sumsB,zai,zaf, *];done) | (simp [Nd.moreB,sumsB,zai,zaf, *];omega),HB.out⟩)
 obtain⟨d11,d12,d13,d17,d18⟩:=c12
 go_upto_region 12 with (go_at_call 63;(refine (zab _ _).mono ?_);rintro e w1 ⟨rfl,rfl⟩)
 by_cases c99:x.Z=0
 rotate_left
 ·rcases (show (¬ x.Z=0) by omega) with c99_0
  all_goals (go_wp2_with (go_at_call 63;(refine (zab _ _).mono ?_);rintro e w1 ⟨rfl,rfl⟩);go_ret;exact⟨by first | (simp [Nd.moreB,sumsB,zai,zaf, *];done) | (simp [Nd.moreB,sumsB,zai,zaf, *];omega),HB.out⟩)
 have d7:=c99
 go_wp2_with (go_at_call 63;(refine (zab _ _).mono ?_);rintro e w1 ⟨rfl,rfl⟩)
 go_ret
 exact⟨by first | (simp [Nd.moreB,sumsB,zai,zaf, *];done) | (simp [Nd.moreB,sumsB,zai,zaf, *];omega),HB.out⟩
end CKind
end
section
namespace CLane
open Go Go.ChangeShapes Go.WideShapes Go.ChangeAt Go.RowKit
open Plain CSat CShape CTensor CConv FloatNum CFour CWheel
def W3 (W:Nat→Nat→Int) (k:Nat) (F:List Value):Prop :=
 F.length=k * 3∧∀ j i,j < k→i < 3→F[j * 3+i]?=some (.int .i8 (W j i))
theorem W3.start (W:Nat→Nat→Int):W3 W 0 []:=⟨rfl,fun j i hj=>by omega⟩
theorem W3.step {W:Nat→Nat→Int} {k:Nat} {F:List Value} (h:W3 W k F) {a b c:Int} (ha:W k 0=a) (hb:W k 1=b) (hc:W k 2=c):W3 W (k+1) (F ++ [.int .i8 a,.int .i8 b,.int .i8 c]):=by
 obtain⟨h1,h3⟩:=h
 refine⟨by simp [h1];omega,fun j i hj hi=>?_⟩
 rcases Nat.lt_or_ge j k with hjk | hjk
 ·rw [List.getElem?_append_left (by rw [h1];omega)]
  exact h3 j i hjk hi
 ·obtain rfl:j=k:=by omega
  rw [List.getElem?_append_right (by rw [h1];omega),h1,show j * 3+i - j * 3=i by omega]
  obtain rfl | rfl | rfl:i=0∨i=1∨i=2:=by omega
  ·rw [ha];rfl
  ·rw [hb];rfl
  ·rw [hc];rfl
theorem wts_of {w:World} {base n:Nat} {e:TypeId} {v:Value} {W:Nat→Nat→Int} {F:List Value} (hF:W3 W n F) (ho:w.ownsRow base e 3 v n F):∃ A c,v=.slice A n c∧Wts w w.heap.size A n W:=by
 rcases Nat.eq_zero_or_pos n with h0 | h0
 ·obtain⟨A,c,e, -, -, -⟩:=Kit.zaj ho
  exact⟨A,c,e,fun k hk=>by omega⟩
 ·obtain⟨g,cap,rfl,_,_,_,hr⟩:=Kit.own_form ho h0
  refine⟨_,_,rfl,fun k hk=>⟨g,0,rfl,Kit.zbd ho,fun j v hj=>?_⟩⟩
  have hj3:j < 3:=by
   rcases Nat.lt_or_ge j 3 with h | h
   ·exact h
   ·rw [List.getElem?_eq_none (by simpa using h)] at hj;cases hj
  obtain⟨ad,e,_,hc⟩:=hr (k * 3+j) _ (hF.2 k j hk hj3)
  cases e
  rw [Go.WideShapes.add_plain] at hc
  rw [show 0+k * 3+j=0+(k * 3+j) by omega,hc]
  obtain rfl | rfl | rfl:j=0∨j=1∨j=2:=by omega
  ·simpa using hj
  ·simpa using hj
  ·simpa using hj
theorem one_w3 (a b c:Int):∀ u∈[Value.int .i8 a,.int .i8 b,.int .i8 c],u.oneCell'=true:=by intro v hv;simp at hv;rcases hv with rfl | rfl | rfl <;> rfl
theorem info_w3:(Tryz.prog.info? 153).map (fun i=>(i.zero,i.size,i.bytes))=some (some (.agg #[.int .i8 0,.int .i8 0,.int .i8 0]),3,3):=by kernel_rfl
theorem weights_to (A1:Option Addr) (n1 c1:Nat) (AP:Option Addr) (nP cP:Nat) (ps:List Int) (hpl:ps.length=nP) (hnP:nP≤100000) (x0 x1 x2 x8 x11 x12 x13 x14 x15 x16 x17 x18:Value) (K S P O Z:Int) (WA BA:Option Addr) (nW cW nB cB:Nat) (ws:List Int) (hws:ws.length=nW) (hwc:nW≤cW) (hcm:cW≤maxLen) (hwb:I8b ws)
  (d o oo:Nat) (hd1:1≤d) (hd2:d≤1024) (ho:o < oo) (hnW:oo * 3 * 3 * d=nW) (hn16:nW≤16384) (hps:∀ q,q < nP→0≤ps.getD q 0∧ps.getD q 0+2 * d < 9 * d)
  (w:World) (hrp:Kit.Rd w w.heap.size AP (I64v ps)) (hrw:Kit.Rd w w.heap.size WA (I8s ws)) :
  Calls Tryz.prog 77 #[.agg #[.slice A1 n1 c1,.slice AP nP cP],.agg #[x0,x1,x2,Jj Jq K,Jj Jq S,Jj Jq P,Jj Jq O,.int .i8 Z,x8,.slice WA nW cW,.slice BA nB cB,x11,x12,x13,x14,x15,x16,x17,x18],Jj Jq (d:Int),Jj Jq (o:Int)] w fun e w'=>∃ AW cV,e=.returned (.slice AW nP cV)∧Wts w' w'.heap.size AW nP (Wl ws (o * 3 * 3 * d) d ps)∧Below w.heap.size w w':=by
 have hle:=place_le (a:=oo) (b:=1) (c:=1) (d:=9 * d) ho (show 0 < 1 by omega) (show 0 < 1 by omega)
 have hb9:o * 3 * 3 * d+9 * d≤nW:=by
  have e1:((o * 1+0) * 1+0) * (9 * d)=o * 3 * 3 * d:=by simp only [Nat.mul_one,Nat.add_zero];rw [← Nat.mul_assoc,Nat.mul_assoc o 3 3]
  have e2:oo * 1 * 1 * (9 * d)=oo * 3 * 3 * d:=by simp only [Nat.mul_one];rw [← Nat.mul_assoc,Nat.mul_assoc oo 3 3]
  rw [e1,e2,hnW] at hle
  exact hle
 have hob:o≤16384:=by
  have h1:o * 1≤o * (3 * 3 * d):=Nat.mul_le_mul_left _ Zb3
  rw [← Nat.mul_assoc, ← Nat.mul_assoc] at h1
  omega
 obtain⟨bs,hbs⟩:∃ bs,o * 3 * 3 * d=bs:=⟨_,rfl⟩
 rw [hbs] at hb9 ⊢
 have m1:IntKind.i64.wrap ((o:Int) * 3)=((o * 3:Nat):Int):=by rw [IntWalk.i64_in _ Zb3];omega
 have m2:IntKind.i64.wrap (((o * 3:Nat):Int) * 3)=((o * 3 * 3:Nat):Int):=by rw [IntWalk.i64_in _ Zb3];omega
 have m3:IntKind.i64.wrap (((o * 3 * 3:Nat):Int) * (d:Int))=(bs:Int):=by rw [← Int.natCast_mul,hbs];exact IntWalk.i64_in _ Zb3
 generalize o * 3 * 3=o9 at m2 m3 hbs
 generalize o * 3=o3 at m1 m2
 obtain⟨bw,ow,rfl,hbw,hcw⟩:=zax hrw (j:=bs) Zb3
 have s1:(0:Int)≤(bs:Int):=by omega
 have s2:(bs:Int)≤(nW:Int):=by omega
 have s3:bs≤nW:=by omega
 have s4:¬ cW=bs:=by omega
 obtain⟨mW,hmW⟩:∃ mW,nW - bs=mW:=⟨_,rfl⟩
 have hm9:9 * d≤mW:=by omega
 obtain⟨i3,hc0,hc1,hc2,hc3⟩:=info_parts info_w3
 have HPL:=hid hpl
 have HPS:=hid hps
 have HCW:=hid hcw
 have HB9:=hid hb9
 have HRP:=hid hrp
 have HWS:=hid hws
 have HWB:=hid hwb
 clear hpl hps hcw hb9 hrp hrw hws hwb hle hnW hbs ho
 go_enter Tryz.func77,Tryz.ntmps77
 go_upto_region 2 with fail
 have hNd:zae (w.heap.size+1) x0 x1 x2 x8 x11 x12 x13 x14 x15 x16 x17 x18 K S P O Z (some ⟨bw,ow,none⟩) BA nW cW nB cB ((w.alloc (.cells #[.slice A1 n1 c1,.slice AP nP cP] 106)).alloc (.cells #[x0,x1,x2,Jj Jq K,Jj Jq S,Jj Jq P,Jj Jq O,.int .i8 Z,x8,.slice (some ⟨bw,ow,none⟩) nW cW,.slice BA nB cB,x11,x12,x13,x14,x15,x16,x17,x18] 28)):=by
  have h9:=zae.new x0 x1 x2 x8 x11 x12 x13 x14 x15 x16 x17 x18 K S P O Z (some ⟨bw,ow,none⟩) BA nW cW nB cB 28 (w.alloc (.cells #[.slice A1 n1 c1,.slice AP nP cP] 106))
  simpa using h9
 have hL1:((w.alloc (.cells #[.slice A1 n1 c1,.slice AP nP cP] 106)).alloc (.cells #[x0,x1,x2,Jj Jq K,Jj Jq S,Jj Jq P,Jj Jq O,.int .i8 Z,x8,.slice (some ⟨bw,ow,none⟩) nW cW,.slice BA nB cB,x11,x12,x13,x14,x15,x16,x17,x18] 28)).cell? ⟨w.heap.size,1,none⟩=some (.slice AP nP cP):=by go_cell
 have hB:Below w.heap.size w ((w.alloc (.cells #[.slice A1 n1 c1,.slice AP nP cP] 106)).alloc (.cells #[x0,x1,x2,Jj Jq K,Jj Jq S,Jj Jq P,Jj Jq O,.int .i8 Z,x8,.slice (some ⟨bw,ow,none⟩) nW cW,.slice BA nB cB,x11,x12,x13,x14,x15,x16,x17,x18] 28)):=((Below.refl _ _).alloc (le_refl _) _).alloc Zb7 _
 have n9:=hNd.at 9 _ rfl
 clear hNd
 generalize ((w.alloc (.cells #[.slice A1 n1 c1,.slice AP nP cP] 106)).alloc (.cells #[x0,x1,x2,Jj Jq K,Jj Jq S,Jj Jq P,Jj Jq O,.int .i8 Z,x8,.slice (some ⟨bw,ow,none⟩) nW cW,.slice BA nB cB,x11,x12,x13,x14,x15,x16,x17,x18] 28))=w0 at n9 hL1 hB ⊢
 have HB:=hid hB
 clear hB
 go_upto_region 3 with fail
 go_upto_region 4 with fail
 try rw [hmW]
 clear m1 m2 m3 n9 hL1 hmW
 have HF0:=hid (W3.start (Wl ws bs d ps))
 have HO0:=hid (own_nil w0 w.heap.size 153 3)
 go_loopw [9,24] (fun v u wr=>∃ (k:Nat) (F:List Value),k≤nP∧u=Jj Jq k∧Hid (W3 (Wl ws bs d ps) k F)∧Hid (wr.ownsRow w.heap.size 153 3 v k F)∧Hid (Below w.heap.size w wr)) (fun _ u _=>nP - (intOf u).toNat)
 case atStart=>exact⟨0,_,Nat.zero_le _,rfl,HF0,HO0,HB⟩
 case round =>
  clear HF0 HO0 HB
  obtain⟨k,F,hk,rfl,HF,HOW,HB⟩:=hrel
  obtain⟨Av,cv,rfl, -, -, -⟩:=Kit.zaj HOW.out
  by_cases hlt:k < nP
  ·have hki:(k:Int) < (nP:Int):=by omega
   refine Z93 ?_;intro hk0
   obtain⟨bp,op,rfl,hbp,hcp⟩:=zax (HRP.out.below HB.out) (j:=k) (by have:=HPL.out;omega)
   have hcx:=hcp k (by have:=HPL.out;omega)
   obtain⟨y1,y2⟩:=HPS.out k hlt
   have hW:=fun j=>show Wl ws bs d ps k j=ws.getD (bs+(ps.getD k 0).toNat+j * d) 0 from rfl
   generalize ps.getD k 0=p at hcx y1 y2 hW
   obtain⟨pn,rfl⟩:∃ pn:Nat,p=(pn:Int):=⟨p.toNat,by omega⟩
   rw [Int.toNat_natCast] at hW
   obtain⟨q1,hq1⟩:∃ q1,pn+d=q1:=⟨_,rfl⟩
   obtain⟨d2,hd2'⟩:∃ d2,2 * d=d2:=⟨_,rfl⟩
   obtain⟨q2,hq2⟩:∃ q2,pn+d2=q2:=⟨_,rfl⟩
   have e1:IntKind.i64.wrap ((pn:Int)+(d:Int))=(q1:Int):=by rw [IntWalk.i64_in _ Zb3];omega
   have e2:IntKind.i64.wrap (2 * (d:Int))=(d2:Int):=by rw [IntWalk.i64_in _ Zb3];omega
   have e3:IntKind.i64.wrap ((pn:Int)+(d2:Int))=(q2:Int):=by rw [IntWalk.i64_in _ Zb3];omega
   have g0:(0:Int)≤(pn:Int):=by omega
   have g1:(pn:Int) < (mW:Int):=by omega
   have g2:(0:Int)≤(q1:Int):=by omega
   have g3:(q1:Int) < (mW:Int):=by omega
   have g4:(0:Int)≤(q2:Int):=by omega
   have g5:(q2:Int) < (mW:Int):=by omega
   have hcell:∀ t,t < 9 * d→wr.cell? ⟨bw,ow+bs+t,none⟩=some (.int .i8 (ws.getD (bs+t) 0)):=fun t ht=>by
    rw [Nat.add_assoc]
    exact (HB.out.cell (p:=⟨bw,ow+(bs+t),none⟩) hbw).trans (HCW.out (bs+t) (by have:=HWS.out;have:=HB9.out;omega))
   have h0:=hcell pn Zb3
   have h1:=hcell q1 Zb3
   have h2:=hcell q2 Zb3
   have hF2:=HF.out.step (a:=ws.getD (bs+pn) 0) (b:=ws.getD (bs+q1) 0) (c:=ws.getD (bs+q2) 0) (by rw [hW];congr 1;omega) (by rw [hW];congr 1;omega) (by rw [hW];congr 1;omega)
   generalize ws.getD (bs+pn) 0=a0 at h0 hF2
   generalize ws.getD (bs+q1) 0=a1 at h1 hF2
   generalize ws.getD (bs+q2) 0=a2 at h2 hF2
   have HF2:=hid hF2
   have HBS:=hid hbw
   clear hW hcell hF2 hq1 hd2' hq2 hcp y1 y2
   go_upto_region 6 with fail
   refine wp_region_held_drew (S:=fun w'=>w'.cell? ⟨bw,ow+bs+pn,none⟩=some (.int .i8 a0)∧w'.cell? ⟨bw,ow+bs+q1,none⟩=some (.int .i8 a1)∧w'.cell? ⟨bw,ow+bs+q2,none⟩=some (.int .i8 a2)) Zb5 ⟨h0,h1,h2⟩ (fun hHeld=>?_)
   clear h0 h1 h2 s1 s2 s3
   replace HB:=hid HB.out.drew
   have HOW2:Hid (wr.drew.ownsRow w.heap.size 153 3 (.slice Av k cv) k F):=hid (Kit.own_below HOW.out (Below.refl _ _).drew)
   have hsz:w.heap.size≤wr.drew.heap.size:=HB.out.size
   have hbz:bw < wr.drew.heap.size:=by omega
   clear HOW
   generalize wr.drew=Wa at HB HOW2 hHeld hsz hbz ⊢
   refine Z8l ?_
   refine Z5y ?_
   refine Tk.x 1 rfl ?_
   refine Z5y ?_
   refine Z8w ?_
   refine Z5y ?_
   refine Z94 ?_
   refine Z5y ?_
   refine Tk.y 4 (v:=?_) rfl ?_ ?_
   rotate_left
   ·intro wS hSw
    obtain⟨hq1,hq2,hq3⟩:=hSw
    exact Z0
   refine Z5y ?_
   refine Za1 ?_
   refine Z5y ?_
   refine Z9e ?_
   refine Z5y ?_
   refine Z9w ?_
   refine Z5y ?_
   refine Z9f ?_
   refine Z5y ?_
   refine Zan ?_
   refine Z5y ?_
   refine Tk.y 10 (v:=?_) rfl ?_ ?_
   rotate_left
   ·intro wS hSw
    obtain⟨hq1,hq2,hq3⟩:=hSw
    exact Z0
   refine Z5y ?_
   refine Za5 ?_
   refine Z5y ?_
   refine Zag ?_
   refine Z5y ?_
   refine Za6 ?_
   refine Z5y ?_
   refine Tk.x 14 rfl ?_
   refine Z5y ?_
   refine Tk.x 15 rfl ?_
   refine Z5y ?_
   refine Zak ?_
   refine Z5y ?_
   refine Tk.y 17 (v:=?_) rfl ?_ ?_
   rotate_left
   ·intro wS hSw
    obtain⟨hq1,hq2,hq3⟩:=hSw
    exact Z0
   refine Z5y ?_
   refine Tk.x 18 rfl ?_
   refine Z5y ?_
   refine Tk.s 19 rfl (fun Kq hK=>?_)
   go_simp
   refine hK.out _ _ ?_ (fun hHeld=>?_)
   ·exact⟨(((Below.refl Wa.heap.size Wa).alloc (le_refl _) (.cells #[.int .i8 a0,.int .i8 a1,.int .i8 a2] 153)).cell (p:=⟨bw,ow+bs+pn,none⟩) Zbr).trans hHeld.1,(((Below.refl Wa.heap.size Wa).alloc (le_refl _) (.cells #[.int .i8 a0,.int .i8 a1,.int .i8 a2] 153)).cell (p:=⟨bw,ow+bs+q1,none⟩) Zbr).trans hHeld.2.1,(((Below.refl Wa.heap.size Wa).alloc (le_refl _) (.cells #[.int .i8 a0,.int .i8 a1,.int .i8 a2] 153)).cell (p:=⟨bw,ow+bs+q2,none⟩) Zbr).trans hHeld.2.2⟩
   clear hK Kq
   refine Z5y ?_
   replace HB:=hid (HB.out.alloc HB.out.size (.cells #[.int .i8 a0,.int .i8 a1,.int .i8 a2] 153))
   replace HOW2:=hid (HOW2.out.alloc (.cells #[.int .i8 a0,.int .i8 a1,.int .i8 a2] 153))
   have HXR:=hid (Kit.Rd.new Wa [.int .i8 a0,.int .i8 a1,.int .i8 a2] 153 (lt_succ_self _))
   replace hsz:w.heap.size≤(Wa.alloc (.cells #[.int .i8 a0,.int .i8 a1,.int .i8 a2] 153)).heap.size:=by simp;omega
   replace hbz:bw < (Wa.alloc (.cells #[.int .i8 a0,.int .i8 a1,.int .i8 a2] 153)).heap.size:=by simp;omega
   generalize Wa.alloc (.cells #[.int .i8 a0,.int .i8 a1,.int .i8 a2] 153)=Wc at HB HOW2 hHeld HXR hsz hbz ⊢
   refine Tk.s 20 rfl (fun Kq hK=>?_)
   refine Kit.zar _ rfl (.tmp 28) (.tmp 47) _ rfl w.heap.size 153 i3 (.agg #[.int .i8 0,.int .i8 0,.int .i8 0]) 3 3 Tryz.underlying110 hc0 hc1 hc2 hc3 rfl Zbc _ k F rfl HOW2.out _ _ 1 1 [.int .i8 a0,.int .i8 a1,.int .i8 a2] rfl rfl HXR.out (one_w3 a0 a1 a2) (by unfold maxLen;omega) Zb3 hsz ?_
   intro v5 w5 hown5 hg5 _
   obtain⟨A5,c5,rfl, -, -, -⟩:=Kit.zaj hown5
   have hb5:Below w.heap.size Wc w5:=(Below.refl _ _).grown hg5 hsz (Kit.zaq HOW2.out)
   have hS1:w5.cell? ⟨bw,ow+bs+pn,none⟩=some (.int .i8 a0)∧w5.cell? ⟨bw,ow+bs+q1,none⟩=some (.int .i8 a1)∧w5.cell? ⟨bw,ow+bs+q2,none⟩=some (.int .i8 a2):=⟨(hb5.cell (p:=⟨bw,ow+bs+pn,none⟩) hbw).trans hHeld.1,(hb5.cell (p:=⟨bw,ow+bs+q1,none⟩) hbw).trans hHeld.2.1,(hb5.cell (p:=⟨bw,ow+bs+q2,none⟩) hbw).trans hHeld.2.2⟩
   replace HB:=hid (HB.out.trans hb5)
   replace HOW2:=hid hown5
   clear hown5 hg5 hb5 hHeld HXR
   dsimp only
   refine hK.out _ _ ?_ (fun hHeld=>?_)
   ·exact hS1
   clear hK Kq
   refine Z5y ?_
   refine Tk.x 21 rfl ?_
   refine Z5y ?_
   refine Z6y ?_
   clear hHeld hsz hbz
   go_wp2_with fail
   go_roundw
   case rel=>exact⟨k+1,_,by omega,by go_num,HF2,HOW2,HB⟩
   case measure=>simp [intOf];omega
  ·obtain rfl:k=nP:=by omega
   have hki:¬ (k:Int) < (k:Int):=Int.lt_irrefl _
   obtain⟨AW,cV,e9,hwt⟩:=wts_of HF.out HOW.out
   have HWT:=hid hwt
   rw [e9]
   clear hwt HF HOW
   go_wp2_with fail
   go_ret
   exact⟨_,⟨_,rfl⟩,HWT.out,HB.out⟩
end CLane
end
end Go.Proofs.YtchpdhhpkljdhaaGreatDoor
