/- -/
import Derived.Test.YtchpdhhpkljdhaaGreatDoorGD13
open Go.Value renaming int→Jj
open Go.IntKind renaming i64→Jq
open Go.Lib (hid)
open Nat (le_refl lt_of_succ_lt lt_succ_self)
set_option linter.unusedVariables false
set_option linter.unusedSimpArgs false
set_option maxRecDepth 100000
set_option maxHeartbeats 16000000
namespace Go.Proofs.YtchpdhhpkljdhaaGreatDoor
namespace CConv
end CConv
namespace CSat
end CSat
namespace CWheel
end CWheel
open Go Go.ChangeShapes Go.WideShapes Go.ChangeAt Go.RowKit Go.Deep
section
namespace CKind
open Plain CSat CShape CTensor CConv
theorem more_9 (x:Nd) (hk:x.kd=9):MoreIs x:=fun w=>by
 refine Z7d ?_;intro TN HB
 have HK:=hid hk
 clear hk
 unfold Nd.val at *
 go_enter Tryz.func62,Tryz.ntmps62
 go_upto_region 1 with fail
 generalize w.alloc (.cells #[Jj Jq x.kd,Jj Jq x.na,Jj Jq x.nb,Jj Jq x.K,Jj Jq x.S,Jj Jq x.P,Jj Jq x.O,.int .i8 x.Z,.int .i8 x.Y,.slice x.WA x.nW x.cW,.slice x.BA x.nB x.cB,.int .i32 x.m1,Jj Jq x.s1,.int .i8 x.z1,.int .i32 x.m2,Jj Jq x.s2,.int .i8 x.z2,.int .i8 x.lo,.int .i8 x.hi] 28)=W0 at TN HB ⊢
 refine Za2 ?_;intro n0 n2
 refine Z7p ?_;intro n3 n4 n5
 have n6:=TN.out.at 6 _ rfl
 refine Z99 ?_;intro n7 n8
 refine Z82 ?_;intro n9 n10
 refine Z6e ?_;intro n11 n12 n13 n14 n15 n16
 refine Z8y ?_;intro n17 n18
 have hk:=HK.out
 rw [hk] at n0
 have hsc:zaf 9=false:=by decide
 by_cases c6:x.nW=0∧x.nB=0∧x.O=0
 rotate_left
 ·rcases (show (¬ x.nW=0)∨(x.nW=0∧¬ x.nB=0)∨(x.nW=0∧x.nB=0∧¬ x.O=0) by omega) with c6_0 | ⟨c6_0,c6_1⟩ | ⟨c6_0,c6_1,c6_2⟩
  all_goals (go_wp2_with (go_at_call 63;(refine (zab _ _).mono ?_);rintro e w1 ⟨rfl,rfl⟩);go_ret;exact⟨by first | (simp [Nd.moreB,sumsB,zai,zaf, *];done) | (simp [Nd.moreB,sumsB,zai,zaf, *];omega),HB.out⟩)
 obtain⟨d9,d10,d6⟩:=c6
 go_upto_region 6 with (go_at_call 63;(refine (zab _ _).mono ?_);rintro e w1 ⟨rfl,rfl⟩)
 by_cases c8:x.K=0∧x.S=0∧x.P=0
 rotate_left
 ·rcases (show (¬ x.K=0)∨(x.K=0∧¬ x.S=0)∨(x.K=0∧x.S=0∧¬ x.P=0) by omega) with c8_0 | ⟨c8_0,c8_1⟩ | ⟨c8_0,c8_1,c8_2⟩
  all_goals (go_wp2_with (go_at_call 63;(refine (zab _ _).mono ?_);rintro e w1 ⟨rfl,rfl⟩);go_ret;exact⟨by first | (simp [Nd.moreB,sumsB,zai,zaf, *];done) | (simp [Nd.moreB,sumsB,zai,zaf, *];omega),HB.out⟩)
 obtain⟨d3,d4,d5⟩:=c8
 go_upto_region 8 with (go_at_call 63;(refine (zab _ _).mono ?_);rintro e w1 ⟨rfl,rfl⟩)
 by_cases c10:x.nb=0∧x.Y=0∧x.m2=0∧x.s2=0∧x.z2=0
 rotate_left
 ·rcases (show (¬ x.nb=0)∨(x.nb=0∧¬ x.Y=0)∨(x.nb=0∧x.Y=0∧¬ x.m2=0)∨(x.nb=0∧x.Y=0∧x.m2=0∧¬ x.s2=0)∨(x.nb=0∧x.Y=0∧x.m2=0∧x.s2=0∧¬ x.z2=0) by omega) with c10_0 | ⟨c10_0,c10_1⟩ | ⟨c10_0,c10_1,c10_2⟩ | ⟨c10_0,c10_1,c10_2,c10_3⟩ | ⟨c10_0,c10_1,c10_2,c10_3,c10_4⟩
  all_goals (go_wp2_with (go_at_call 63;(refine (zab _ _).mono ?_);rintro e w1 ⟨rfl,rfl⟩);go_ret;exact⟨by first | (simp [Nd.moreB,sumsB,zai,zaf, *];done) | (simp [Nd.moreB,sumsB,zai,zaf, *];omega),HB.out⟩)
 obtain⟨d2,d8,d14,d15,d16⟩:=c10
 go_upto_region 10 with (go_at_call 63;(refine (zab _ _).mono ?_);rintro e w1 ⟨rfl,rfl⟩)
 by_cases c12:x.m1=0∧x.s1=0∧x.z1=0∧x.lo=0∧x.hi=0
 rotate_left
 ·rcases (show (¬ x.m1=0)∨(x.m1=0∧¬ x.s1=0)∨(x.m1=0∧x.s1=0∧¬ x.z1=0)∨(x.m1=0∧x.s1=0∧x.z1=0∧¬ x.lo=0)∨(x.m1=0∧x.s1=0∧x.z1=0∧x.lo=0∧¬ x.hi=0) by omega) with c12_0 | ⟨c12_0,c12_1⟩ | ⟨c12_0,c12_1,c12_2⟩ | ⟨c12_0,c12_1,c12_2,c12_3⟩ | ⟨c12_0,c12_1,c12_2,c12_3,c12_4⟩
  all_goals (go_wp2_with (go_at_call 63;(refine (zab _ _).mono ?_);rintro e w1 ⟨rfl,rfl⟩);go_ret;exact⟨by first | (simp [Nd.moreB,sumsB,zai,zaf, *];done) | (simp [Nd.moreB,sumsB,zai,zaf, *];omega),HB.out⟩)
 obtain⟨d11,d12,d13,d17,d18⟩:=c12
 go_upto_region 12 with (go_at_call 63;(refine (zab _ _).mono ?_);rintro e w1 ⟨rfl,rfl⟩)
 by_cases c99:x.Z=0
 rotate_left
 ·rcases (show (¬ x.Z=0) by omega) with c99_0
  all_goals (go_wp2_with (go_at_call 63;(refine (zab _ _).mono ?_);rintro e w1 ⟨rfl,rfl⟩);go_ret;exact⟨by first | (simp [Nd.moreB,sumsB,zai,zaf, *];done) | (simp [Nd.moreB,sumsB,zai,zaf, *];omega),HB.out⟩)
 have d7:=c99
 go_wp2_with (go_at_call 63;(refine (zab _ _).mono ?_);rintro e w1 ⟨rfl,rfl⟩)
 go_ret
 exact⟨by first | (simp [Nd.moreB,sumsB,zai,zaf, *];done) | (simp [Nd.moreB,sumsB,zai,zaf, *];omega),HB.out⟩
theorem more_o (x:Nd) (hk:x.kd < 1∨9 < x.kd):MoreIs x:=fun w=>by
 refine Z7d ?_;intro TN HB
 have HK:=hid hk
 clear hk
 unfold Nd.val at *
 go_enter Tryz.func62,Tryz.ntmps62
 go_upto_region 1 with fail
 generalize w.alloc (.cells #[Jj Jq x.kd,Jj Jq x.na,Jj Jq x.nb,Jj Jq x.K,Jj Jq x.S,Jj Jq x.P,Jj Jq x.O,.int .i8 x.Z,.int .i8 x.Y,.slice x.WA x.nW x.cW,.slice x.BA x.nB x.cB,.int .i32 x.m1,Jj Jq x.s1,.int .i8 x.z1,.int .i32 x.m2,Jj Jq x.s2,.int .i8 x.z2,.int .i8 x.lo,.int .i8 x.hi] 28)=W0 at TN HB ⊢
 refine Za2 ?_;intro n0 n2
 refine Z7p ?_;intro n3 n4 n5
 have n6:=TN.out.at 6 _ rfl
 refine Z99 ?_;intro n7 n8
 refine Z82 ?_;intro n9 n10
 refine Z6e ?_;intro n11 n12 n13 n14 n15 n16
 refine Z8y ?_;intro n17 n18
 have hk:=HK.out
 have ks:∀ j:Int,1≤j→j≤9→(x.kd == j)=false∧(x.kd != j)=true∧¬ x.kd=j:=fun j h1 h2=>by
  have:x.kd≠j:=by omega
  simp [this]
 obtain⟨e1,f1,g1⟩:=ks 1 Zb3 Zb3
 obtain⟨e2,f2,g2⟩:=ks 2 Zb3 Zb3
 obtain⟨e3,f3,g3⟩:=ks 3 Zb3 Zb3
 obtain⟨e4,f4,g4⟩:=ks 4 Zb3 Zb3
 obtain⟨e5,f5,g5⟩:=ks 5 Zb3 Zb3
 obtain⟨e6,f6,g6⟩:=ks 6 Zb3 Zb3
 obtain⟨e7,f7,g7⟩:=ks 7 Zb3 Zb3
 obtain⟨e8,f8,g8⟩:=ks 8 Zb3 Zb3
 obtain⟨e9,f9,g9⟩:=ks 9 Zb3 Zb3
 clear ks
 have hsc:zaf x.kd=false:=by simp [zaf,e1,e2,e3,e6,e7]
 by_cases c6:x.nW=0∧x.nB=0∧x.O=0
 rotate_left
 ·rcases (show (¬ x.nW=0)∨(x.nW=0∧¬ x.nB=0)∨(x.nW=0∧x.nB=0∧¬ x.O=0) by omega) with c6_0 | ⟨c6_0,c6_1⟩ | ⟨c6_0,c6_1,c6_2⟩
  all_goals (go_wp2_with (go_at_call 63;(refine (zab _ _).mono ?_);rintro e w1 ⟨rfl,rfl⟩);go_ret;exact⟨by first | (simp [Nd.moreB,sumsB,zai,zaf, *];done) | (simp [Nd.moreB,sumsB,zai,zaf, *];omega),HB.out⟩)
 obtain⟨d9,d10,d6⟩:=c6
 go_upto_region 6 with (go_at_call 63;(refine (zab _ _).mono ?_);rintro e w1 ⟨rfl,rfl⟩)
 by_cases c8:x.K=0∧x.S=0∧x.P=0
 rotate_left
 ·rcases (show (¬ x.K=0)∨(x.K=0∧¬ x.S=0)∨(x.K=0∧x.S=0∧¬ x.P=0) by omega) with c8_0 | ⟨c8_0,c8_1⟩ | ⟨c8_0,c8_1,c8_2⟩
  all_goals (go_wp2_with (go_at_call 63;(refine (zab _ _).mono ?_);rintro e w1 ⟨rfl,rfl⟩);go_ret;exact⟨by first | (simp [Nd.moreB,sumsB,zai,zaf, *];done) | (simp [Nd.moreB,sumsB,zai,zaf, *];omega),HB.out⟩)
 obtain⟨d3,d4,d5⟩:=c8
 go_upto_region 8 with (go_at_call 63;(refine (zab _ _).mono ?_);rintro e w1 ⟨rfl,rfl⟩)
 by_cases c10:x.nb=0∧x.Y=0∧x.m2=0∧x.s2=0∧x.z2=0
 rotate_left
 ·rcases (show (¬ x.nb=0)∨(x.nb=0∧¬ x.Y=0)∨(x.nb=0∧x.Y=0∧¬ x.m2=0)∨(x.nb=0∧x.Y=0∧x.m2=0∧¬ x.s2=0)∨(x.nb=0∧x.Y=0∧x.m2=0∧x.s2=0∧¬ x.z2=0) by omega) with c10_0 | ⟨c10_0,c10_1⟩ | ⟨c10_0,c10_1,c10_2⟩ | ⟨c10_0,c10_1,c10_2,c10_3⟩ | ⟨c10_0,c10_1,c10_2,c10_3,c10_4⟩
  all_goals (go_wp2_with (go_at_call 63;(refine (zab _ _).mono ?_);rintro e w1 ⟨rfl,rfl⟩);go_ret;exact⟨by first | (simp [Nd.moreB,sumsB,zai,zaf, *];done) | (simp [Nd.moreB,sumsB,zai,zaf, *];omega),HB.out⟩)
 obtain⟨d2,d8,d14,d15,d16⟩:=c10
 go_upto_region 10 with (go_at_call 63;(refine (zab _ _).mono ?_);rintro e w1 ⟨rfl,rfl⟩)
 by_cases c12:x.m1=0∧x.s1=0∧x.z1=0∧x.lo=0∧x.hi=0
 rotate_left
 ·rcases (show (¬ x.m1=0)∨(x.m1=0∧¬ x.s1=0)∨(x.m1=0∧x.s1=0∧¬ x.z1=0)∨(x.m1=0∧x.s1=0∧x.z1=0∧¬ x.lo=0)∨(x.m1=0∧x.s1=0∧x.z1=0∧x.lo=0∧¬ x.hi=0) by omega) with c12_0 | ⟨c12_0,c12_1⟩ | ⟨c12_0,c12_1,c12_2⟩ | ⟨c12_0,c12_1,c12_2,c12_3⟩ | ⟨c12_0,c12_1,c12_2,c12_3,c12_4⟩
  all_goals (go_wp2_with (go_at_call 63;(refine (zab _ _).mono ?_);rintro e w1 ⟨rfl,rfl⟩);go_ret;exact⟨by first | (simp [Nd.moreB,sumsB,zai,zaf, *];done) | (simp [Nd.moreB,sumsB,zai,zaf, *];omega),HB.out⟩)
 obtain⟨d11,d12,d13,d17,d18⟩:=c12
 go_upto_region 12 with (go_at_call 63;(refine (zab _ _).mono ?_);rintro e w1 ⟨rfl,rfl⟩)
 by_cases c99:x.Z=0
 rotate_left
 ·rcases (show (¬ x.Z=0) by omega) with c99_0
  all_goals (go_wp2_with (go_at_call 63;(refine (zab _ _).mono ?_);rintro e w1 ⟨rfl,rfl⟩);go_ret;exact⟨by first | (simp [Nd.moreB,sumsB,zai,zaf, *];done) | (simp [Nd.moreB,sumsB,zai,zaf, *];omega),HB.out⟩)
 have d7:=c99
 go_wp2_with (go_at_call 63;(refine (zab _ _).mono ?_);rintro e w1 ⟨rfl,rfl⟩)
 go_ret
 exact⟨by first | (simp [Nd.moreB,sumsB,zai,zaf, *];done) | (simp [Nd.moreB,sumsB,zai,zaf, *];omega),HB.out⟩
end CKind
end
section
namespace CTensor
open Go Go.ChangeShapes Go.WideShapes Go.ChangeAt Go.RowKit
open Plain CSat CShape
theorem zb9 (a b c x y z:Int) (w:World):(Op.equalIn 10000 30 (.agg #[Jj Jq a,Jj Jq b,Jj Jq c]) (.agg #[Jj Jq x,Jj Jq y,Jj Jq z])).run Tryz.prog w=.ok (a == x && (b == y && c == z)) w:=by
 have u3:=Tryz.underlying3
 have a3:=Tryz.isAgg3
 have z3:=Tryz.sizeOf3
 have hS:Tryz.prog.underlying 30=some (.struct (Tryz.prog.fieldsOf 30)):=by kernel_rfl
 rw [show (10000:Nat)=9999+1 from rfl,run_equalIn_agg w 9999 30 _ _ hS Tryz.stoodInHeld30]
 simp only [Program.fieldsOf,Tryz.underlying30]
 go_simp
 by_cases h1:a=x <;> by_cases h2:b=y <;> by_cases h3:c=z <;> simp [h1,h2,h3]
theorem differ {xs ys:List Int} {k:Nat} (h1:k < xs.length) (h2:k < ys.length) (h:¬ xs[k]=ys[k]):decide (xs=ys)=false:=by
 simp only [decide_eq_false_iff_not]
 intro e
 subst e
 exact h rfl
end CTensor
end
section
namespace CFix
open Go Go.ChangeShapes Go.WideShapes Go.ChangeAt Go.RowKit
open Plain CSat
theorem refRound_int (v s t:Int) (h1:0≤s) (h2:s≤62) (hv1 : -9223372036854775808≤v) (hv2:v≤9223372036854775807) (ht:zbo v s.toNat=t) (w:World) :
  Calls Tryz.prog 113 #[Jj Jq v,Jj Jq s] w fun e w'=>e=.returned (Jj Jq t)∧∃ m,w'=w.drewN m:=by
 obtain⟨n,rfl⟩:=Int.eq_ofNat_of_zero_le h1
 exact ht ▸ refRound_yes v n Zb3 hv1 hv2 w
theorem scale_int (a m s t:Int) (h1:0≤s) (h2:s≤62) (ha1 : -2147483648≤a) (ha2:a≤2147483647) (hm1 : -2147483648≤m) (hm2:m≤2147483647) (ht:zbo (a * m) s.toNat=t) (w:World) :
  Calls Tryz.prog 136 #[.int .i32 a,.int .i32 m,Jj Jq s] w fun e w'=>e=.returned (Jj Jq t)∧w=w':=by
 obtain⟨n,rfl⟩:=Int.eq_ofNat_of_zero_le h1
 exact ht ▸ scale_yes a m n Zb3 ha1 ha2 hm1 hm2 w
end CFix
end
section
namespace CLane
open Go Go.ChangeShapes Go.WideShapes Go.ChangeAt Go.RowKit
open Plain CSat CShape CTensor CConv FloatNum CFour CWheel
def ReachM (g0:Nat) (H W C:Int) (A:Option Addr) (n c:Nat) (x0 x1 x2 x8 x11 x12 x13 x14 x15 x16 x17 x18:Value) (K S P O Z:Int) (WA BA:Option Addr) (nW cW nB cB:Nat) (zs:List Int) (ok:Nat→Prop) (M:Nat) (v1 v2:Value) (rows:List (List Int)) (ps:List Int) (w wr:World):Prop :=
 BoxAt g0 H W C A n c wr∧zae (g0+1) x0 x1 x2 x8 x11 x12 x13 x14 x15 x16 x17 x18 K S P O Z WA BA nW cW nB cB wr∧Two (g0+2) (.slice none 0 0) (.slice none 0 0) wr∧Two (g0+3) v1 v2 wr∧Kit.Rd wr g0 A (I8s zs)∧zbc (g0+4) ok M v1 v2 rows ps wr∧Below g0 w wr
theorem zbc.sizes {B0:Nat} {ok:Nat→Prop} {M:Nat} {v1 v2:Value} {rows:List (List Int)} {ps:List Int} {w:World} (h:zbc B0 ok M v1 v2 rows ps w):∃ A1 c1 A2 c2,v1=.slice A1 rows.length c1∧v2=.slice A2 ps.length c2:=by
 obtain⟨vs,h⟩:=h
 obtain⟨A1,c1,e1, -, -, -⟩:=Kit.zaj h.2.1
 obtain⟨A2,c2,e2, -, -, -⟩:=Kit.zaj h.2.2.1
 exact⟨A1,c1,A2,c2,e1,e2⟩
theorem one_la {B0:Nat} {ok:Nat→Prop} {M:Nat} {v1 v2:Value} {rows:List (List Int)} {ps:List Int} {w:World} (h:zbc B0 ok M v1 v2 rows ps w):(#[v1,v2].all (·.oneCell'))=true:=by
 obtain⟨A1,c1,A2,c2,rfl,rfl⟩:=h.sizes
 exact one_sl _ _ _ _ _ _
theorem ReachM.next {g0:Nat} {H W C:Int} {A:Option Addr} {n c:Nat} {x0 x1 x2 x8 x11 x12 x13 x14 x15 x16 x17 x18:Value} {K S P O Z:Int} {WA BA:Option Addr} {nW cW nB cB:Nat} {zs:List Int} {ok:Nat→Prop} {M:Nat} {v1 v2 u1 u2:Value} {rows rows':List (List Int)} {ps ps':List Int} {w wr w1:World}
  (h:ReachM g0 H W C A n c x0 x1 x2 x8 x11 x12 x13 x14 x15 x16 x17 x18 K S P O Z WA BA nW cW nB cB zs ok M v1 v2 rows ps w wr) (hlt:g0+3 < g0+4) (hok:¬ ok (g0+3)) (hla:zbc (g0+4) ok M u1 u2 rows' ps' w1) (hb:Below (g0+4) wr w1):ReachM g0 H W C A n c x0 x1 x2 x8 x11 x12 x13 x14 x15 x16 x17 x18 K S P O Z WA BA nW cW nB cB zs ok M u1 u2 rows' ps' w (CFour.set2 (g0+3) u1 u2 w1):=by
 obtain⟨a,b,d,e,f,g,i⟩:=h
 obtain⟨vs,hl⟩:=hla
 have k1:∀ (p q:Nat),p < g0+3→(CFour.set2 (g0+3) u1 u2 w1).cell? ⟨p,q,none⟩=w1.cell? ⟨p,q,none⟩:=fun p q hp=>by
  show ((w1.setCell ⟨g0+3,0,none⟩ u1).setCell ⟨g0+3,1,none⟩ u2).cell? ⟨p,q,none⟩=_
  rw [World.cell?_setCell_other _ _ _ _ (fun e=>by have:=congrArg Addr.block e;simp at this;omega),World.cell?_setCell_other _ _ _ _ (fun e=>by have:=congrArg Addr.block e;simp at this;omega)]
 have a1:=a.below (B':=g0+4) Zb3 hb
 have b1:=b.below (B':=g0+4) Zb3 hb
 have d1:=d.below hb Zb3
 have hs:Below (g0+3) w1 (CFour.set2 (g0+3) u1 u2 w1):=zcq (Below.refl _ _) (le_refl _) u1 u2
 refine⟨a1.below (B':=g0+3) Zb3 hs,b1.below (B':=g0+3) Zb3 hs,d1.below hs Zb3,(e.below hb hlt).set2 u1 u2,f.below ((hb.mono Zb3).trans (hs.mono Zb3)),⟨vs,(hl.set (p:=⟨g0+3,0,none⟩) hok u1).set (p:=⟨g0+3,1,none⟩) hok u2⟩,(i.trans (hb.mono Zb3)).trans (hs.mono Zb3)⟩
theorem rowsTo_no {zs:List Int} {Z H W C top:Int} {d pp Wn M i:Nat} (h:¬ (0≤top+(i:Int)∧top+(i:Int) < H)):zbj zs Z H W C top d pp Wn M (i+1)=zbj zs Z H W C top d pp Wn M i:=by
 show zbj zs Z H W C top d pp Wn M i ++ (if _ then _ else _)=_
 rw [if_neg h,List.append_nil]
theorem psTo_no {H top:Int} {d i:Nat} (h:¬ (0≤top+(i:Int)∧top+(i:Int) < H)):psTo H top d (i+1)=psTo H top d i:=by
 show psTo H top d i ++ (if _ then _ else _)=_
 rw [if_neg h,List.append_nil]
theorem zbc.sets {B0:Nat} {ok:Nat→Prop} {M:Nat} {v1 v2:Value} {rows:List (List Int)} {ps:List Int} {w:World} (h:zbc B0 ok M v1 v2 rows ps w) {g:Nat} (hg:¬ ok g) (a b:Value):zbc B0 ok M v1 v2 rows ps (CFour.set2 g a b w):=by
 obtain⟨vs,h⟩:=h
 exact⟨vs,(h.set (p:=⟨g,0,none⟩) hg a).set (p:=⟨g,1,none⟩) hg b⟩
theorem zbc.under {B0:Nat} {ok:Nat→Prop} {M:Nat} {v1 v2:Value} {rows:List (List Int)} {ps:List Int} {w w':World} (h:zbc B0 ok M v1 v2 rows ps w) (hb:Below w.heap.size w w'):zbc B0 ok M v1 v2 rows ps w':=by
 obtain⟨vs,h⟩:=h
 exact⟨vs,h.below hb⟩
theorem inB_row {H W C y:Int} (h:¬ (0≤y∧y < H)):inB H W C y 0 0=false:=by
 unfold inB
 rw [Bool.and_eq_false_iff]
 exact .inr (decide_eq_false (fun h9=>h ⟨h9.1,h9.2.1⟩))
theorem rowsTo_le (zs:List Int) (Z H W C top:Int) (d pp Wn M:Nat) (hd:d≤1024):∀ k,(zbj zs Z H W C top d pp Wn M k).length≤k * 1024
 | 0=>by simp [zbj]
 | k+1=>by
   rw [len_if]
   have:=rowsTo_le zs Z H W C top d pp Wn M hd k
   have h2:(if 0≤top+(k:Int)∧top+(k:Int) < H then d else 0)≤1024:=by split <;> omega
   have h3:(k+1) * 1024=k * 1024+1024:=Nat.succ_mul k 1024
   rw [h3]
   exact Nat.add_le_add this h2
theorem reached_to (H W C:Int) (A:Option Addr) (zs:List Int) (n c:Nat) (hn:zs.length=n) (hz:I8b zs) (ht:tensB H W C n=true) (x0 x1 x2 x8 x11 x12 x13 x14 x15 x16 x17 x18:Value) (K S P O Z:Int) (WA BA:Option Addr) (nW cW nB cB:Nat) (z1 : -128≤Z) (z2:Z≤127) (top:Int) (t1 : -1000≤top) (t2:top≤1000)
  (d pp Wn M:Nat) (hd:C=(d:Int)) (hP:P=(pp:Int)) (hW:W=(Wn:Int)) (hM:M=Wn+2 * pp) (p2:pp≤4) (w:World)
  (hr:Kit.Rd w w.heap.size A (I8s zs)) :
  Calls Tryz.prog 75 #[.agg #[Jj Jq H,Jj Jq W,Jj Jq C,.slice A n c],.agg #[x0,x1,x2,Jj Jq K,Jj Jq S,Jj Jq P,Jj Jq O,.int .i8 Z,x8,.slice WA nW cW,.slice BA nB cB,x11,x12,x13,x14,x15,x16,x17,x18],Jj Jq top] w fun e w'=>∃ v1 v2,e=.returned (.agg #[v1,v2])∧zbc (w.heap.size+4) (fun g=>(w.heap.size+4)≤g) M v1 v2 (zbj zs Z H W C top d pp Wn M 3) (psTo H top d 3) w'∧Below w.heap.size w w':=by
 refine Zb2 ?_;intro hs
 obtain⟨g1,g2,g3,g4,g5,g6,g7⟩:=zac hs
 have hd1:1≤d∧d≤1024:=by omega
 have HR:=hid hr
 have HT:=hid ht
 have HZ:=hid hz
 have HN:=hid hn
 have HD:=hid hd
 have HP:=hid hP
 have HW:=hid hW
 have HM:=hid hM
 clear hs hr hz hn hd hP hW hM ht g7
 go_enter Tryz.func75,Tryz.ntmps75
 go_upto_region 2 with fail
 have hm0:ReachM w.heap.size H W C A n c x0 x1 x2 x8 x11 x12 x13 x14 x15 x16 x17 x18 K S P O Z WA BA nW cW nB cB zs (fun g=>(w.heap.size+4)≤g) M (.slice none 0 0) (.slice none 0 0) (zbj zs Z H W C top d pp Wn M 0) (psTo H top d 0) w ((((w.alloc (.cells #[Jj Jq H,Jj Jq W,Jj Jq C,.slice A n c] 32)).alloc (.cells #[x0,x1,x2,Jj Jq K,Jj Jq S,Jj Jq P,Jj Jq O,.int .i8 Z,x8,.slice WA nW cW,.slice BA nB cB,x11,x12,x13,x14,x15,x16,x17,x18] 28)).alloc (.cells #[.slice none 0 0,.slice none 0 0] 106)).alloc (.cells #[.slice none 0 0,.slice none 0 0] 106)):=by
  have hT:BoxAt w.heap.size H W C A n c ((((w.alloc (.cells #[Jj Jq H,Jj Jq W,Jj Jq C,.slice A n c] 32)).alloc (.cells #[x0,x1,x2,Jj Jq K,Jj Jq S,Jj Jq P,Jj Jq O,.int .i8 Z,x8,.slice WA nW cW,.slice BA nB cB,x11,x12,x13,x14,x15,x16,x17,x18] 28)).alloc (.cells #[.slice none 0 0,.slice none 0 0] 106)).alloc (.cells #[.slice none 0 0,.slice none 0 0] 106)):=⟨by go_cell,by go_cell,by go_cell,by go_cell⟩
  have hR:Two (w.heap.size+2) (.slice none 0 0) (.slice none 0 0) ((((w.alloc (.cells #[Jj Jq H,Jj Jq W,Jj Jq C,.slice A n c] 32)).alloc (.cells #[x0,x1,x2,Jj Jq K,Jj Jq S,Jj Jq P,Jj Jq O,.int .i8 Z,x8,.slice WA nW cW,.slice BA nB cB,x11,x12,x13,x14,x15,x16,x17,x18] 28)).alloc (.cells #[.slice none 0 0,.slice none 0 0] 106)).alloc (.cells #[.slice none 0 0,.slice none 0 0] 106)):=⟨by go_cell,by go_cell,fun i hi=>by rcases i with _ | _ | i <;> first | (exact absurd hi Zb3) | go_cell,by first | (simp;done) | (simp;omega)⟩
  have hL:Two (w.heap.size+3) (.slice none 0 0) (.slice none 0 0) ((((w.alloc (.cells #[Jj Jq H,Jj Jq W,Jj Jq C,.slice A n c] 32)).alloc (.cells #[x0,x1,x2,Jj Jq K,Jj Jq S,Jj Jq P,Jj Jq O,.int .i8 Z,x8,.slice WA nW cW,.slice BA nB cB,x11,x12,x13,x14,x15,x16,x17,x18] 28)).alloc (.cells #[.slice none 0 0,.slice none 0 0] 106)).alloc (.cells #[.slice none 0 0,.slice none 0 0] 106)):=⟨by go_cell,by go_cell,fun i hi=>by rcases i with _ | _ | i <;> first | (exact absurd hi Zb3) | go_cell,by first | (simp;done) | (simp;omega)⟩
  have hN:zae (w.heap.size+1) x0 x1 x2 x8 x11 x12 x13 x14 x15 x16 x17 x18 K S P O Z WA BA nW cW nB cB ((((w.alloc (.cells #[Jj Jq H,Jj Jq W,Jj Jq C,.slice A n c] 32)).alloc (.cells #[x0,x1,x2,Jj Jq K,Jj Jq S,Jj Jq P,Jj Jq O,.int .i8 Z,x8,.slice WA nW cW,.slice BA nB cB,x11,x12,x13,x14,x15,x16,x17,x18] 28)).alloc (.cells #[.slice none 0 0,.slice none 0 0] 106)).alloc (.cells #[.slice none 0 0,.slice none 0 0] 106)):=by
   have h9:=(zae.new x0 x1 x2 x8 x11 x12 x13 x14 x15 x16 x17 x18 K S P O Z WA BA nW cW nB cB 28 (w.alloc (.cells #[Jj Jq H,Jj Jq W,Jj Jq C,.slice A n c] 32))).below (B':=w.heap.size+2) Zb7 (((Below.refl _ _).alloc Zb7 (.cells #[.slice none 0 0,.slice none 0 0] 106)).alloc Zb7 (.cells #[.slice none 0 0,.slice none 0 0] 106))
   simpa using h9
  have hB:Below w.heap.size w ((((w.alloc (.cells #[Jj Jq H,Jj Jq W,Jj Jq C,.slice A n c] 32)).alloc (.cells #[x0,x1,x2,Jj Jq K,Jj Jq S,Jj Jq P,Jj Jq O,.int .i8 Z,x8,.slice WA nW cW,.slice BA nB cB,x11,x12,x13,x14,x15,x16,x17,x18] 28)).alloc (.cells #[.slice none 0 0,.slice none 0 0] 106)).alloc (.cells #[.slice none 0 0,.slice none 0 0] 106)):=((((Below.refl _ _).alloc (le_refl _) _).alloc Zb7 _).alloc Zba _).alloc Zba _
  exact⟨hT,hN,hR,hL,HR.out.below hB,⟨[],zbw.start _ _ _ _⟩,hB⟩
 have HM0:=hid hm0
 clear hm0
 generalize hW0:((((w.alloc (.cells #[Jj Jq H,Jj Jq W,Jj Jq C,.slice A n c] 32)).alloc (.cells #[x0,x1,x2,Jj Jq K,Jj Jq S,Jj Jq P,Jj Jq O,.int .i8 Z,x8,.slice WA nW cW,.slice BA nB cB,x11,x12,x13,x14,x15,x16,x17,x18] 28)).alloc (.cells #[.slice none 0 0,.slice none 0 0] 106)).alloc (.cells #[.slice none 0 0,.slice none 0 0] 106))=w0 at HM0 ⊢
 clear hW0
 go_upto_region 3 with fail
 go_loopw [9] (fun u wr=>∃ (i:Nat) (v1 v2:Value),i≤3∧u=Jj Jq i∧Hid (ReachM w.heap.size H W C A n c x0 x1 x2 x8 x11 x12 x13 x14 x15 x16 x17 x18 K S P O Z WA BA nW cW nB cB zs (fun g=>(w.heap.size+4)≤g) M v1 v2 (zbj zs Z H W C top d pp Wn M i) (psTo H top d i) w wr)) (fun u _=>3 - (intOf u).toNat)
 case atStart=>exact⟨0,_,_,by omega,rfl,HM0⟩
 case round =>
  clear HM0
  obtain⟨i,v1,v2,hi,rfl,HMM⟩:=hrel
  obtain⟨A1,c1,A2,c2,rfl,rfl⟩:=HMM.out.2.2.2.2.2.1.sizes
  obtain⟨t0,t1',t2',t3⟩:=HMM.out.1
  obtain⟨l0,l1, -,hsz⟩:=HMM.out.2.2.2.1
  have hsz:w.heap.size+4≤wr.heap.size:=hsz
  have hl1:(zbj zs Z H W C top d pp Wn M i).length≤100000:=Nat.le_trans (rowsTo_le zs Z H W C top d pp Wn M hd1.2 i) Zb3
  have hl2:(psTo H top d i).length≤100000:=by rw [← len_to zs Z H W C top d pp Wn M i];exact hl1
  by_cases hlt:i < 3
  ·have hii:(i:Int) < 3:=by omega
   obtain⟨y,hy⟩:∃ y,top+(i:Int)=y:=⟨_,rfl⟩
   have e1:IntKind.i64.wrap (top+(i:Int))=y:=by rw [hy];exact IntWalk.i64_in _ Zb3
   have e2:IntKind.i64.wrap ((i:Int) * 3)=((i * 3:Nat):Int):=by rw [IntWalk.i64_in _ Zb3];omega
   have hpd:i * 3 * d≤9216:=Nat.le_trans (Nat.mul_le_mul (show i * 3≤9 by omega) hd1.2) Zb3
   have e3:IntKind.i64.wrap (((i * 3:Nat):Int) * C)=((i * 3 * d:Nat):Int):=by rw [HD.out, ← Int.natCast_mul];exact IntWalk.i64_in _ Zb3
   have hp5:i * 3 * d≤100000:=by omega
   have HY:=hid hy
   clear hy hpd
   obtain⟨pl,hpl⟩:∃ pl,i * 3 * d=pl:=⟨_,rfl⟩
   rw [hpl] at e3 hp5
   generalize hi3:i * 3=i3 at e2 e3
   clear hi3
   have HPL:=hid hpl
   clear hpl
   by_cases hin:0≤y∧y < H
   ·obtain⟨st,hst⟩:∃ st:Nat,y * W * C=(st:Int):=⟨(y * W * C).toNat,by rw [Int.toNat_of_nonneg (Int.mul_nonneg (Int.mul_nonneg hin.1 Zb3) Zb3)]⟩
    have HST:=hid hst
    clear hst
    go_upto_region 6 with (first
     | (refine wpList_load_mid rfl 106 (.tmp 7) rfl (w.heap.size+3) 0 rfl [(.slice A1 (zbj zs Z H W C top d pp Wn M i).length c1),(.slice A2 (psTo H top d i).length c2)] _ (Kit.zc1 l0 l1) Tryz.underlying106 rfl Zb5 ?_)
     | (refine wpList_load_mid rfl 28 (.tmp 4) rfl (w.heap.size+1) 0 rfl [x0,x1,x2,Jj Jq K,Jj Jq S,Jj Jq P,Jj Jq O,.int .i8 Z,x8,.slice WA nW cW,.slice BA nB cB,x11,x12,x13,x14,x15,x16,x17,x18] _ HMM.out.2.1 Tryz.underlying28 rfl Zb5 ?_)
     | (go_at_call 117;refine (with_in (w.heap.size+4) _ _ _ _ H W C A zs n c HN.out HZ.out HT.out x0 x1 x2 x8 x11 x12 x13 x14 x15 x16 x17 x18 K S P O Z WA BA nW cW nB cB z1 z2 y hin.1 hin.2 d pp Wn M st pl HD.out HP.out HW.out HM.out HST.out p2 hp5 hl1 hl2 _ hsz (HMM.out.2.2.2.2.1.more Zb3) HMM.out.2.2.2.2.2.1).mono ?_;rintro e w1 ⟨u1,u2,rfl,hla1,hb1⟩;clear t0 t1' t2' t3 l0 l1)
     | (refine wpList_store_mid rfl 106 (.tmp 7) (.tmp 24) rfl (w.heap.size+3) 0 #[u1,u2] rfl rfl (HMM.out.2.2.2.1.below hb1 (lt_succ_self _)).there Zb5 (one_la hla1) ?_;change wpList _ _ _ _ _ (CFour.set2 (w.heap.size+3) u1 u2 w1);have HM1:=hid (HMM.out.next (lt_succ_self _) (fun h=>absurd h (Nat.not_succ_le_self _)) hla1 hb1);generalize CFour.set2 (w.heap.size+3) u1 u2 w1=w2 at HM1 ⊢))
    go_wp2_with fail
    go_roundw
    case rel =>
     refine⟨i+1,u1,u2,by omega,by go_num,hid ?_⟩
     have h9:=HM1.out
     unfold zbj psTo
     rw [HY.out,if_pos hin,if_pos hin,HST.out,HPL.out]
     exact h9
    case measure=>simp [intOf];omega
   ·have hin2:=inB_row (W:=W) (C:=C) hin
    go_upto_region 6 with (first
     | (refine wpList_load_mid rfl 106 (.tmp 7) rfl (w.heap.size+3) 0 rfl [(.slice A1 (zbj zs Z H W C top d pp Wn M i).length c1),(.slice A2 (psTo H top d i).length c2)] _ (Kit.zc1 l0 l1) Tryz.underlying106 rfl Zb5 ?_)
     | (refine wpList_load_mid rfl 28 (.tmp 4) rfl (w.heap.size+1) 0 rfl [x0,x1,x2,Jj Jq K,Jj Jq S,Jj Jq P,Jj Jq O,.int .i8 Z,x8,.slice WA nW cW,.slice BA nB cB,x11,x12,x13,x14,x15,x16,x17,x18] _ HMM.out.2.1 Tryz.underlying28 rfl Zb5 ?_)
     | (go_at_call 117;refine (with_out A1 A2 _ c1 _ c2 H W C A n c x0 x1 x2 x8 x11 x12 x13 x14 x15 x16 x17 x18 K S P O Z WA BA nW cW nB cB y (pl:Int) hin2 _).mono ?_;rintro e w1 ⟨rfl,hb1'⟩;have hb1:=hb1'.mono hsz;have hla1:=HMM.out.2.2.2.2.2.1;replace hla1:=zbc.under hla1 hb1';clear t0 t1' t2' t3 l0 l1)
     | (refine wpList_store_mid rfl 106 (.tmp 7) (.tmp 24) rfl (w.heap.size+3) 0 #[(.slice A1 (zbj zs Z H W C top d pp Wn M i).length c1),(.slice A2 (psTo H top d i).length c2)] rfl rfl (HMM.out.2.2.2.1.below hb1 (lt_succ_self _)).there Zb5 (one_la hla1) ?_;change wpList _ _ _ _ _ (CFour.set2 (w.heap.size+3) (.slice A1 (zbj zs Z H W C top d pp Wn M i).length c1) (.slice A2 (psTo H top d i).length c2) w1);have HM1:=hid (HMM.out.next (lt_succ_self _) (fun h=>absurd h (Nat.not_succ_le_self _)) hla1 hb1);generalize CFour.set2 (w.heap.size+3) (.slice A1 (zbj zs Z H W C top d pp Wn M i).length c1) (.slice A2 (psTo H top d i).length c2) w1=w2 at HM1 ⊢))
    go_wp2_with fail
    go_roundw
    case rel =>
     refine⟨i+1,(.slice A1 (zbj zs Z H W C top d pp Wn M i).length c1),(.slice A2 (psTo H top d i).length c2),by omega,by go_num,hid ?_⟩
     have h9:=HM1.out
     rw [rowsTo_no (by rw [HY.out];exact hin),psTo_no (by rw [HY.out];exact hin)]
     exact h9
    case measure=>simp [intOf];omega
  ·obtain rfl:i=3:=by omega
   have hii:¬ (((3:Nat):Int) < 3):=by omega
   clear t0 t1' t2' t3
   go_wp2_with (first
    | (refine wpList_load_mid rfl 106 (.tmp 7) rfl (w.heap.size+3) 0 rfl [(.slice A1 (zbj zs Z H W C top d pp Wn M 3).length c1),(.slice A2 (psTo H top d 3).length c2)] _ (Kit.zc1 l0 l1) Tryz.underlying106 rfl Zb5 ?_)
    | (refine wpList_store_mid rfl 106 (.tmp 6) (.tmp 26) rfl (w.heap.size+2) 0 #[(.slice A1 (zbj zs Z H W C top d pp Wn M 3).length c1),(.slice A2 (psTo H top d 3).length c2)] rfl rfl HMM.out.2.2.1.there Zb5 (one_la HMM.out.2.2.2.2.2.1) ?_;change wpList _ _ _ _ _ (CFour.set2 (w.heap.size+2) (.slice A1 (zbj zs Z H W C top d pp Wn M 3).length c1) (.slice A2 (psTo H top d 3).length c2) wr);have hR2:=HMM.out.2.2.1.set2 (.slice A1 (zbj zs Z H W C top d pp Wn M 3).length c1) (.slice A2 (psTo H top d 3).length c2);have hLA:=HMM.out.2.2.2.2.2.1.sets (g:=w.heap.size+2) (fun h=>absurd h (Nat.not_le_of_lt Zb3)) (.slice A1 (zbj zs Z H W C top d pp Wn M 3).length c1) (.slice A2 (psTo H top d 3).length c2);have hB2:=zcq HMM.out.2.2.2.2.2.2 (g:=w.heap.size+2) Zb3 (.slice A1 (zbj zs Z H W C top d pp Wn M 3).length c1) (.slice A2 (psTo H top d 3).length c2);generalize CFour.set2 (w.heap.size+2) (.slice A1 (zbj zs Z H W C top d pp Wn M 3).length c1) (.slice A2 (psTo H top d 3).length c2) wr=w9 at hR2 hLA hB2 ⊢))
   refine bodyPost_ret (Kit.zbi rfl _ _ (w.heap.size+2) 0 [(.slice A1 (zbj zs Z H W C top d pp Wn M 3).length c1),(.slice A2 (psTo H top d 3).length c2)] _ rfl (Kit.zc1 hR2.1 hR2.2.1) Tryz.underlying106 rfl Zb5) rfl ?_
   exact⟨_,_,rfl,hLA,hB2⟩
end CLane
end
section
namespace CGemm
open Go Go.ChangeShapes Go.WideShapes Go.ChangeAt Go.RowKit
open Plain
def zcy (L r c:Int):Bool:=decide (1≤r∧r≤16384∧1≤c∧c≤16384∧L=r * c)
theorem small_mul {r c:Int} (h1:1≤r) (h2:r≤16384) (h3:1≤c) (h4:c≤16384):1≤r * c∧r * c≤268435456:=by
 have a:=Int.mul_le_mul h2 h4 Zb3 Zb3
 have b:=Int.mul_le_mul h1 h3 Zb3 Zb3
 omega
theorem holdsB_yes {L r c:Int} (h:zcy L r c=true):1≤r∧r≤16384∧1≤c∧c≤16384∧L=r * c:=by simpa [zcy] using h
theorem holds_to (L r c:Int) (b:Bool) (hb:zcy L r c=b) (w:World) :
  Calls Tryz.prog 124 #[Jj Jq L,Jj Jq r,Jj Jq c] w fun e w'=>e=.returned (.bool b)∧w=w':=by
 have HB:=hid hb
 clear hb
 rcases (show r < 1∨(1≤r∧16384 < r)∨(1≤r∧r≤16384∧c < 1)∨(1≤r∧r≤16384∧1≤c∧16384 < c)∨(1≤r∧r≤16384∧1≤c∧c≤16384) by omega) with h1 | ⟨h1,h2⟩ | ⟨h1,h2,h3⟩ | ⟨h1,h2,h3,h4⟩ | ⟨h1,h2,h3,h4⟩
 ·exact Z4d
 ·exact Z4d
 ·exact Z4d
 ·exact Z4d
 ·obtain⟨s1,s2⟩:=small_mul h1 h2 h3 h4
  have e:IntKind.i64.wrap (r * c)=r * c:=IntWalk.i64_in _ Zb3
  have hbb:decide (L=r * c)=b:=by rw [← HB.out];simp [zcy,h1,h2,h3,h4]
  obtain⟨q,hq⟩:∃ q,r * c=q:=⟨_,rfl⟩
  rw [hq] at e hbb
  have e2:IntKind.i64.wrap (r * c)=q:=by rw [hq];exact e
  clear hq s1 s2 HB
  go_enter Tryz.func124,Tryz.ntmps124
  go_wp2_with fail
  go_ret
  refine⟨?_,rfl⟩
  rw [← hbb]
  first | rfl | simp
theorem tiles_to (n:Nat) (h:n≤16384) (w:World) :
  Calls Tryz.prog 125 #[Jj Jq (n:Int)] w fun e w'=>e=.returned (Jj Jq (((n+31) / 32:Nat):Int))∧w=w':=by
 have e1:IntKind.i64.wrap ((n:Int)+32)=(n:Int)+32:=IntWalk.i64_in _ Zb3
 have e2:IntKind.i64.wrap ((n:Int)+32 - 1)=(n:Int)+31:=by rw [IntWalk.i64_in _ Zb3];omega
 have e3:((n:Int)+31).tdiv 32=(((n+31) / 32:Nat):Int):=by
  rw [Int.tdiv_eq_ediv_of_nonneg Zb3];omega
 have e4:IntKind.i64.wrap ((((n+31) / 32:Nat):Int))=(((n+31) / 32:Nat):Int):=IntWalk.i64_in _ Zb3
 generalize (n+31) / 32=q at e3 e4 ⊢
 go_enter Tryz.func125,Tryz.ntmps125
 exact Z1f
theorem zao {w:World} {b:Nat} {v0 v1 v2 v3:Value} (h0:w.cell? ⟨b,0,none⟩=some v0) (h1:w.cell? ⟨b,1,none⟩=some v1) (h2:w.cell? ⟨b,2,none⟩=some v2) (h3:w.cell? ⟨b,3,none⟩=some v3) :
  w.rangeAt b 0 [v0,v1,v2,v3]:=fun j v hj=>by
 match j,hj with
 | 0,hj=>simp only [List.getElem?_cons_zero] at hj;cases hj;exact h0
 | 1,hj=>simp at hj;cases hj;exact h1
 | 2,hj=>simp at hj;cases hj;exact h2
 | 3,hj=>simp at hj;cases hj;exact h3
 | j+4,hj=>simp at hj
theorem bounds_to (p q e0 e1 e2 e3:Nat) (h:p≤1000) (h':q≤1000) (h0:p * 32=e0) (h1:(p+1) * 32=e1) (h2:q * 32=e2) (h3:(q+1) * 32=e3) (w:World) :
  Calls Tryz.prog 126 #[Jj Jq (p:Int),Jj Jq (q:Int)] w fun e w'=>e=.returned (.agg #[Jj Jq (e0:Int),Jj Jq (e1:Int),Jj Jq (e2:Int),Jj Jq (e3:Int)])∧Below w.heap.size w w':=by
 obtain⟨p',hp⟩:∃ p':Int,(p:Int)+1=p':=⟨_,rfl⟩
 obtain⟨q',hq⟩:∃ q':Int,(q:Int)+1=q':=⟨_,rfl⟩
 have g1:IntKind.i64.wrap ((p:Int) * 32)=(e0:Int):=by rw [IntWalk.i64_in _ Zb3];omega
 have g2:IntKind.i64.wrap ((p:Int)+1)=p':=by rw [IntWalk.i64_in _ Zb3];omega
 have g3:IntKind.i64.wrap (p' * 32)=(e1:Int):=by rw [IntWalk.i64_in _ Zb3];omega
 have f1:IntKind.i64.wrap ((q:Int) * 32)=(e2:Int):=by rw [IntWalk.i64_in _ Zb3];omega
 have f2:IntKind.i64.wrap ((q:Int)+1)=q':=by rw [IntWalk.i64_in _ Zb3];omega
 have f3:IntKind.i64.wrap (q' * 32)=(e3:Int):=by rw [IntWalk.i64_in _ Zb3];omega
 clear hp hq h0 h1 h2 h3
 go_enter Tryz.func126,Tryz.ntmps126
 go_wp2_with fail
 refine bodyPost_ret (Kit.zbi rfl _ _ w.heap.size 0 [Jj Jq (e0:Int),Jj Jq (e1:Int),Jj Jq (e2:Int),Jj Jq (e3:Int)] _ rfl (zao Zb6 Zb6 Zb6 Zb6) Tryz.underlying159 rfl Zb5) rfl ?_
 exact⟨rfl,(Below.refl _ _).alloc (le_refl _) _⟩
end CGemm
end
section
namespace CPool
def nearZ (s m:Int):Int:=if m < 1 then 0 else if s < 0 then -((2 * -s+m) / (2 * m)) else (2 * s+m) / (2 * m)
theorem near_way {s m:Int} (hm:1≤m) (hs:0≤s):(2 * s+m) / (2 * m)=if m - s % m≤s % m then s / m+1 else s / m:=by
 have h1:0≤s % m:=Int.emod_nonneg _ Zb3
 have h2:s % m < m:=Int.emod_lt_of_pos _ Zb3
 have h3:m * (s / m)+s % m=s:=Int.mul_ediv_add_emod s m
 generalize s % m=r at h1 h2 h3 ⊢
 generalize s / m=q at h3 ⊢
 have e:2 * s+m=(2 * r+m)+2 * m * q:=by rw [← h3,Int.mul_assoc];omega
 rw [e,Int.add_mul_ediv_left _ _ Zb3]
 by_cases h:m - r≤r
 ·rw [if_pos h]
  have:(2 * r+m) / (2 * m)=1:=by
   have a:1≤(2 * r+m) / (2 * m):=by rw [Int.le_ediv_iff_mul_le Zb3];omega
   have b:(2 * r+m) / (2 * m) < 2:=by rw [Int.ediv_lt_iff_lt_mul Zb3];omega
   omega
  omega
 ·rw [if_neg h]
  have:(2 * r+m) / (2 * m)=0:=Int.ediv_eq_zero_of_lt Zb3 Zb3
  omega
theorem near_le {s m M:Int} (hm:1≤m) (h:s≤M * m):nearZ s m≤M:=by
 unfold nearZ
 rw [if_neg Zb3]
 by_cases hs:s < 0
 ·rw [if_pos hs]
  have : -M≤(2 * -s+m) / (2 * m):=by
   rw [Int.le_ediv_iff_mul_le Zb3,Int.neg_mul]
   exact Z1y
  omega
 ·rw [if_neg hs]
  have:(2 * s+m) / (2 * m) < M+1:=by
   rw [Int.ediv_lt_iff_lt_mul Zb3,Int.add_mul]
   exact Z1y
  omega
theorem near_ge {s m M:Int} (hm:1≤m) (h:M * m≤s):M≤nearZ s m:=by
 unfold nearZ
 rw [if_neg Zb3]
 by_cases hs:s < 0
 ·rw [if_pos hs]
  have:(2 * -s+m) / (2 * m) < -M+1:=by
   rw [Int.ediv_lt_iff_lt_mul Zb3,Int.add_mul,Int.neg_mul]
   exact Z1y
  omega
 ·rw [if_neg hs,Int.le_ediv_iff_mul_le Zb3]
  exact Z1y
end CPool
end
end Go.Proofs.YtchpdhhpkljdhaaGreatDoor
