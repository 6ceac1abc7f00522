/- Texts of this seat, one behind the other: RunMadeS, PoolBoth. -/
import Derived.Deep.RegionHeld3
import Derived.Deep.CutRange
import Derived.Test.YtkpngknbiecdiaaGreatDoorGB5
import Derived.Test.YtkpngknbiecdiaaGreatDoorGB11
import Derived.Test.YtkpngknbiecdiaaGreatDoorGB13
import Derived.Test.YtkpngknbiecdiaaGreatDoorGB17
import Derived.Test.YtkpngknbiecdiaaGreatDoorGB25
import Derived.Test.YtkpngknbiecdiaaGreatDoorGB28
import Derived.Test.YtkpngknbiecdiaaGreatDoorGB42
import Derived.Test.YtkpngknbiecdiaaGreatDoorGB43
import Derived.Test.YtkpngknbiecdiaaGreatDoorGB44
import Derived.Test.YtkpngknbiecdiaaGreatDoorGB46
import Derived.Test.YtkpngknbiecdiaaGreatDoorGB48
section
namespace Go.Proofs.YtkpngknbiecdiaaGreatDoor.CRun
set_option maxRecDepth 100000
open Go Go.ChangeShapes Go.WideShapes Go.ChangeAt Go.RowKit Go.Deep
open Plain CSat CShape CTensor CConv CKind CFix
set_option linter.unusedVariables false
set_option linter.unusedSimpArgs false
theorem sum_made_1 (x:Nd) (hk:x.kd=1) (H W C:Int) (A:Option Addr) (n c:Nat) (zs:List Int) (hn:zs.length=n) (hz:I8b zs) (H2 W2 C2:Int) (B:Option Addr) (ys ws bs:List Int) (hN:NIn x ws bs) :
  ∃ r,Good x H W C H2 W2 C2 r∧I32s r.xs∧∀ w,Mem x A B zs ys ws bs w→Calls Tryz.prog 10 #[.agg x.val,.agg #[.int .i64 H,.int .i64 W,.int .i64 C,.slice A n c]] w (MAcc w r):=by
 cases ht:tensB H W C n
 ·cases hf:(decide (x.K=3) && decide (x.S=1))
  ·exact⟨Res.bad 5,Good.bad _ _ _ _ _ _ _ _ (by decide),(fun z hz=>by cases hz),fun w hM=>csum_lower x hk hf H W C A n c _ w (fun w1 hb=>CLower.lOf_bad H W C A n c (.int .i64 x.kd) (.int .i64 x.na) (.int .i64 x.nb) (.int .i8 x.Y) (.int .i32 x.m1) (.int .i64 x.s1) (.int .i8 x.z1) (.int .i32 x.m2) (.int .i64 x.s2) (.int .i8 x.z2) (.int .i8 x.lo) (.int .i8 x.hi) x.K x.S x.P x.O x.Z x.WA x.BA x.nW x.cW x.nB x.cB ht w1)⟩
  ·exact⟨Res.bad 5,Good.bad _ _ _ _ _ _ _ _ (by decide),(fun z hz=>by cases hz),fun w hM=>csum_lane x hk hf H W C A n c _ w (fun w1 hb=>CLane.lof_bad H W C A n c (.int .i64 x.kd) (.int .i64 x.na) (.int .i64 x.nb) (.int .i8 x.Y) (.int .i32 x.m1) (.int .i64 x.s1) (.int .i8 x.z1) (.int .i32 x.m2) (.int .i64 x.s2) (.int .i8 x.z2) (.int .i8 x.lo) (.int .i8 x.hi) x.K x.S x.P x.O x.Z x.WA x.BA x.nW x.cW x.nB x.cB ht w1)⟩
 ·by_cases he:convE H W C x.K x.S x.P x.O x.nW x.nB=0
  ·obtain⟨hsl,hnW,hn16,hnB⟩:=convE_ok he
   obtain⟨hs0,har1,har2, -, -,hsr⟩:=slide_ok hsl
   obtain⟨q1,q2,q3,q4,q5,q6,q7⟩:=shapeB_yes hsr
   obtain⟨-, -, -, -,c1,c2, -⟩:=shapeB_yes hs0
   obtain⟨-, -,k1,k2, -⟩:=argsB_yes har1
   obtain⟨a,ha⟩:∃ a:Nat,stepsM H x.K x.S x.P=(a:Int):=⟨(stepsM H x.K x.S x.P).toNat,by omega⟩
   obtain⟨b,hb⟩:∃ b:Nat,stepsM W x.K x.S x.P=(b:Int):=⟨(stepsM W x.K x.S x.P).toNat,by omega⟩
   obtain⟨oo,hO⟩:∃ oo:Nat,x.O=(oo:Int):=⟨x.O.toNat,by omega⟩
   obtain⟨d,hd⟩:∃ d:Nat,C=(d:Int):=⟨C.toNat,by omega⟩
   obtain⟨kk,hkk⟩:∃ kk:Nat,x.K=(kk:Int):=⟨x.K.toNat,by omega⟩
   have hN4:((a * b * oo:Nat):Int)≤1024:=by
    have:((a * b * oo:Nat):Int)=stepsM H x.K x.S x.P * stepsM W x.K x.S x.P * x.O:=by rw [ha,hb,hO];simp
    omega
   refine⟨⟨a,b,x.O,a * b * oo,CConv.rowL (CConv.gridF b oo (CConv.sumF zs ws bs H W C x.S x.P d kk x.Z)) (a * b * oo),0⟩,⟨CConv.rowL_len _ _,by show a * b * oo≤1000000;omega,fun h=>absurd rfl h,fun _=>⟨by unfold Nd.shE;rw [if_pos hk];exact he,by unfold Nd.shV;rw [if_pos hk];unfold convS;rw [if_pos he,ha,hb],tens_of (by rw [← ha, ← hb];exact hsr) (by rw [hO];simp)⟩⟩,(fun z hz=>by obtain⟨i,_,rfl⟩:=List.mem_map.1 hz;exact wrap32_in _),fun w hM=>?_⟩
   cases hf:(decide (x.K=3) && decide (x.S=1))
   ·exact csum_lower x hk hf H W C A n c _ w (fun w1 hb1=>CLower.lOf_good H W C A zs n c hn ht hz (.int .i64 x.kd) (.int .i64 x.na) (.int .i64 x.nb) (.int .i8 x.Y) (.int .i32 x.m1) (.int .i64 x.s1) (.int .i8 x.z1) (.int .i32 x.m2) (.int .i64 x.s2) (.int .i8 x.z2) (.int .i8 x.lo) (.int .i8 x.hi) x.K x.S x.P x.O x.Z x.WA x.BA x.nW x.cW x.nB x.cB ws hN.hws hN.hwc hN.hwm hN.hwb bs hN.hbs he a b oo d kk ha hb hO hd hkk _ rfl hN.z1 hN.z2 w1 (hM.grown hb1).1 (hM.grown hb1).2.2.1 (hM.grown hb1).2.2.2.1)
   ·have hf2:=hf
    simp only [Bool.and_eq_true,decide_eq_true_eq] at hf2
    obtain rfl:kk=3:=by omega
    exact csum_lane x hk hf H W C A n c _ w (fun w1 hb1=>CLane.lof_yes H W C A zs n c hn ht hz (.int .i64 x.kd) (.int .i64 x.na) (.int .i64 x.nb) (.int .i8 x.Y) (.int .i32 x.m1) (.int .i64 x.s1) (.int .i8 x.z1) (.int .i32 x.m2) (.int .i64 x.s2) (.int .i8 x.z2) (.int .i8 x.lo) (.int .i8 x.hi) x.K x.S x.P x.O x.Z x.WA x.BA x.nW x.cW x.nB x.cB ws hN.hws hN.hwc hN.hwm hN.hwb bs hN.hbs he hf2.1 hf2.2 a b oo d ha hb hO hd _ rfl hN.z1 hN.z2 w1 (hM.grown hb1).1 (hM.grown hb1).2.2.1 (hM.grown hb1).2.2.2.1)
  ·cases hf:(decide (x.K=3) && decide (x.S=1))
   ·exact⟨Res.bad (convE H W C x.K x.S x.P x.O x.nW x.nB),Good.bad _ _ _ _ _ _ _ _ he,(fun z hz=>by cases hz),fun w hM=>csum_lower x hk hf H W C A n c _ w (fun w1 hb=>CLower.lOf_err H W C A n c (.int .i64 x.kd) (.int .i64 x.na) (.int .i64 x.nb) (.int .i8 x.Y) (.int .i32 x.m1) (.int .i64 x.s1) (.int .i8 x.z1) (.int .i32 x.m2) (.int .i64 x.s2) (.int .i8 x.z2) (.int .i8 x.lo) (.int .i8 x.hi) x.K x.S x.P x.O x.Z x.WA x.BA x.nW x.cW x.nB x.cB ht _ rfl he w1)⟩
   ·exact⟨Res.bad (convE H W C x.K x.S x.P x.O x.nW x.nB),Good.bad _ _ _ _ _ _ _ _ he,(fun z hz=>by cases hz),fun w hM=>csum_lane x hk hf H W C A n c _ w (fun w1 hb=>CLane.lof_err H W C A n c (.int .i64 x.kd) (.int .i64 x.na) (.int .i64 x.nb) (.int .i8 x.Y) (.int .i32 x.m1) (.int .i64 x.s1) (.int .i8 x.z1) (.int .i32 x.m2) (.int .i64 x.s2) (.int .i8 x.z2) (.int .i8 x.lo) (.int .i8 x.hi) x.K x.S x.P x.O x.Z x.WA x.BA x.nW x.cW x.nB x.cB ht _ rfl he w1)⟩
theorem sum_made_2 (x:Nd) (hk:x.kd=2) (H W C:Int) (A:Option Addr) (n c:Nat) (zs:List Int) (hn:zs.length=n) (hz:I8b zs) (H2 W2 C2:Int) (B:Option Addr) (ys ws bs:List Int) (hN:NIn x ws bs) :
  ∃ r,Good x H W C H2 W2 C2 r∧I32s r.xs∧∀ w,Mem x A B zs ys ws bs w→Calls Tryz.prog 10 #[.agg x.val,.agg #[.int .i64 H,.int .i64 W,.int .i64 C,.slice A n c]] w (MAcc w r):=by
 cases ht:tensB H W C n
 ·exact⟨Res.bad 5,Good.bad _ _ _ _ _ _ _ _ (by decide),(fun z hz=>by cases hz),fun w hM=>csum_depth x hk H W C A n c _ w (fun w1 hb=>CDepth.dof_bad H W C A n c (.int .i64 x.kd) (.int .i64 x.na) (.int .i64 x.nb) (.int .i8 x.Y) (.int .i32 x.m1) (.int .i64 x.s1) (.int .i8 x.z1) (.int .i32 x.m2) (.int .i64 x.s2) (.int .i8 x.z2) (.int .i8 x.lo) (.int .i8 x.hi) x.K x.S x.P x.O x.Z x.WA x.BA x.nW x.cW x.nB x.cB ht w1)⟩
 ·by_cases he:CDepth.depthE H W C x.K x.S x.P x.nW x.nB=0
  ·obtain⟨a,b,d,kk,ha,hb,hd,hkk,hN4⟩:=CDepth.dep_letters he
   have hsr:=(slide_ok (CDepth.depthE_ok he).1).2.2.2.2.2
   refine⟨⟨a,b,C,a * b * d,CConv.rowL (CConv.gridF b d (CDepth.sumD zs ws bs H W C x.S x.P kk x.Z)) (a * b * d),0⟩,⟨CConv.rowL_len _ _,by show a * b * d≤1000000;omega,fun h=>absurd rfl h,fun _=>⟨by unfold Nd.shE;rw [if_neg (show ¬ x.kd=1 by omega),if_pos hk];exact he,by unfold Nd.shV;rw [if_neg (show ¬ x.kd=1 by omega),if_pos hk];unfold CDepth.depthS;rw [if_pos he,ha,hb],tens_of (by rw [← ha, ← hb];exact hsr) (by rw [hd];simp)⟩⟩,(fun z hz=>by obtain⟨i,_,rfl⟩:=List.mem_map.1 hz;exact wrap32_in _),fun w hM=>?_⟩
   exact csum_depth x hk H W C A n c _ w (fun w1 hb1=>CDepth.dof_yes H W C A zs n c hn ht hz (.int .i64 x.kd) (.int .i64 x.na) (.int .i64 x.nb) (.int .i8 x.Y) (.int .i32 x.m1) (.int .i64 x.s1) (.int .i8 x.z1) (.int .i32 x.m2) (.int .i64 x.s2) (.int .i8 x.z2) (.int .i8 x.lo) (.int .i8 x.hi) x.K x.S x.P x.O x.Z x.WA x.BA x.nW x.cW x.nB x.cB ws hN.hws hN.hwc hN.hwb bs hN.hbs he a b d kk ha hb hd hkk _ rfl hN.z1 hN.z2 w1 (hM.grown hb1).1 (hM.grown hb1).2.2.1 (hM.grown hb1).2.2.2.1)
  ·exact⟨Res.bad (CDepth.depthE H W C x.K x.S x.P x.nW x.nB),Good.bad _ _ _ _ _ _ _ _ he,(fun z hz=>by cases hz),fun w hM=>csum_depth x hk H W C A n c _ w (fun w1 hb=>CDepth.dof_err H W C A n c (.int .i64 x.kd) (.int .i64 x.na) (.int .i64 x.nb) (.int .i8 x.Y) (.int .i32 x.m1) (.int .i64 x.s1) (.int .i8 x.z1) (.int .i32 x.m2) (.int .i64 x.s2) (.int .i8 x.z2) (.int .i8 x.lo) (.int .i8 x.hi) x.K x.S x.P x.O x.Z x.WA x.BA x.nW x.cW x.nB x.cB ht _ rfl he w1)⟩
theorem sum_made_3 (x:Nd) (hk:x.kd=3) (H W C:Int) (A:Option Addr) (n c:Nat) (zs:List Int) (hn:zs.length=n) (hz:I8b zs) (H2 W2 C2:Int) (B:Option Addr) (ys ws bs:List Int) (hN:NIn x ws bs) :
  ∃ r,Good x H W C H2 W2 C2 r∧I32s r.xs∧∀ w,Mem x A B zs ys ws bs w→Calls Tryz.prog 10 #[.agg x.val,.agg #[.int .i64 H,.int .i64 W,.int .i64 C,.slice A n c]] w (MAcc w r):=by
 cases ht:tensB H W C n
 ·exact⟨Res.bad 5,Good.bad _ _ _ _ _ _ _ _ (by decide),(fun z hz=>by cases hz),fun w hM=>csum_dense x hk H W C A n c _ w (fun w1 hb=>CDense.dof_bad H W C A n c (.int .i64 x.kd) (.int .i64 x.na) (.int .i64 x.nb) (.int .i8 x.Y) (.int .i32 x.m1) (.int .i64 x.s1) (.int .i8 x.z1) (.int .i32 x.m2) (.int .i64 x.s2) (.int .i8 x.z2) (.int .i8 x.lo) (.int .i8 x.hi) x.K x.S x.P x.O x.Z x.WA x.BA x.nW x.cW x.nB x.cB ht w1)⟩
 ·by_cases he:CDense.denseE H W C x.O x.nW x.nB=0
  ·obtain⟨h1,h2,hnW,hn16,hnB⟩:=CDense.denseE_ok he
   obtain⟨-, -, -, -,o1,o2, -⟩:=shapeB_yes h2
   refine⟨⟨1,1,x.O,x.nB,CConv.rowL (CDense.lineF zs ws bs n x.Z) x.nB,0⟩,⟨CConv.rowL_len _ _,by show x.nB≤1000000;omega,fun h=>absurd rfl h,fun _=>⟨by unfold Nd.shE;rw [if_neg (show ¬ x.kd=1 by omega),if_neg (show ¬ x.kd=2 by omega),if_pos hk];exact he,by unfold Nd.shV;rw [if_neg (show ¬ x.kd=1 by omega),if_neg (show ¬ x.kd=2 by omega),if_pos hk];unfold CDense.denseS;rw [if_pos he],tens_of h2 (by rw [hnB];simp)⟩⟩,(fun z hz=>by obtain⟨i,_,rfl⟩:=List.mem_map.1 hz;exact wrap32_in _),fun w hM=>?_⟩
   exact csum_dense x hk H W C A n c _ w (fun w1 hb1=>CDense.dof_yes H W C A zs n c hn ht hz (.int .i64 x.kd) (.int .i64 x.na) (.int .i64 x.nb) (.int .i8 x.Y) (.int .i32 x.m1) (.int .i64 x.s1) (.int .i8 x.z1) (.int .i32 x.m2) (.int .i64 x.s2) (.int .i8 x.z2) (.int .i8 x.lo) (.int .i8 x.hi) x.K x.S x.P x.O x.Z x.WA x.BA x.nW x.cW x.nB x.cB ws hN.hws hN.hwc hN.hwb bs hN.hbs he hN.z1 hN.z2 w1 (hM.grown hb1).1 (hM.grown hb1).2.2.1 (hM.grown hb1).2.2.2.1)
  ·exact⟨Res.bad (CDense.denseE H W C x.O x.nW x.nB),Good.bad _ _ _ _ _ _ _ _ he,(fun z hz=>by cases hz),fun w hM=>csum_dense x hk H W C A n c _ w (fun w1 hb=>CDense.dof_err H W C A n c (.int .i64 x.kd) (.int .i64 x.na) (.int .i64 x.nb) (.int .i8 x.Y) (.int .i32 x.m1) (.int .i64 x.s1) (.int .i8 x.z1) (.int .i32 x.m2) (.int .i64 x.s2) (.int .i8 x.z2) (.int .i8 x.lo) (.int .i8 x.hi) x.K x.S x.P x.O x.Z x.WA x.BA x.nW x.cW x.nB x.cB ht _ rfl he w1)⟩
theorem sum_made_any (x:Nd) (hk:x.kd=1∨x.kd=2∨x.kd=3) (H W C:Int) (A:Option Addr) (n c:Nat) (zs:List Int) (hn:zs.length=n) (hz:I8b zs) (H2 W2 C2:Int) (B:Option Addr) (ys ws bs:List Int) (hN:NIn x ws bs) :
  ∃ r,Good x H W C H2 W2 C2 r∧I32s r.xs∧∀ w,Mem x A B zs ys ws bs w→Calls Tryz.prog 10 #[.agg x.val,.agg #[.int .i64 H,.int .i64 W,.int .i64 C,.slice A n c]] w (MAcc w r):=by
 rcases hk with hk | hk | hk
 ·exact sum_made_1 x hk H W C A n c zs hn hz H2 W2 C2 B ys ws bs hN
 ·exact sum_made_2 x hk H W C A n c zs hn hz H2 W2 C2 B ys ws bs hN
 ·exact sum_made_3 x hk H W C A n c zs hn hz H2 W2 C2 B ys ws bs hN
end Go.Proofs.YtkpngknbiecdiaaGreatDoor.CRun
end
section
namespace Go.Proofs.YtkpngknbiecdiaaGreatDoor.CPool
open Go Go.ChangeShapes Go.WideShapes Go.ChangeAt Go.RowKit
open Plain CSat CShape CTensor CConv
set_option linter.unusedVariables false
set_option maxHeartbeats 2000000 in
theorem max_mk (H W C:Int) (A:Option Addr) (zs:List Int) (n c:Nat) (x0 x1 x2 x8 x11 x12 x13 x14 x15 x16 x17 x18:Value) (K S P O Z:Int) (WA BA:Option Addr) (nW cW nB cB:Nat) (X Y U:Int) (m:Nat) (xs:List Int) (er:Int)
  (hE:∀ w:World,Kit.Rd w w.heap.size A (I8s zs)→Calls Tryz.prog 53 #[.agg #[.int .i64 H,.int .i64 W,.int .i64 C,.slice A n c],.agg #[x0,x1,x2,.int .i64 K,.int .i64 S,.int .i64 P,.int .i64 O,.int .i8 Z,x8,.slice WA nW cW,.slice BA nB cB,x11,x12,x13,x14,x15,x16,x17,x18],.func (.func 54) #[] #[]] w (MadeP w X Y U m xs (.int .i64 er))) (w:World) (hr:Kit.Rd w w.heap.size A (I8s zs)) :
  Calls Tryz.prog 18 #[.agg #[.int .i64 H,.int .i64 W,.int .i64 C,.slice A n c],.agg #[x0,x1,x2,.int .i64 K,.int .i64 S,.int .i64 P,.int .i64 O,.int .i8 Z,x8,.slice WA nW cW,.slice BA nB cB,x11,x12,x13,x14,x15,x16,x17,x18]] w (MadeP w X Y U m xs (.int .i64 er)):=by
 have HE:=Lib.hid hE
 have HR:=Lib.hid hr
 clear hE hr
 have TN0:Hid (NodeAt (w.heap.size+1) x0 x1 x2 x8 x11 x12 x13 x14 x15 x16 x17 x18 K S P O Z WA BA nW cW nB cB (((w.alloc (.cells #[.int .i64 H,.int .i64 W,.int .i64 C,.slice A n c] 32)).alloc (.cells #[x0,x1,x2,.int .i64 K,.int .i64 S,.int .i64 P,.int .i64 O,.int .i8 Z,x8,.slice WA nW cW,.slice BA nB cB,x11,x12,x13,x14,x15,x16,x17,x18] 28)).alloc (.cells #[.int .i64 0,.int .i64 0,.int .i64 0,.slice none 0 0] 32))):=by
  have h:=NodeAt.new x0 x1 x2 x8 x11 x12 x13 x14 x15 x16 x17 x18 K S P O Z WA BA nW cW nB cB 28 (w.alloc (.cells #[.int .i64 H,.int .i64 W,.int .i64 C,.slice A n c] 32))
  rw [World.size_alloc] at h
  exact Lib.hid (h.below (B':=w.heap.size+2) (by omega) ((Below.refl _ _).alloc (by simp) _))
 go_enter Tryz.func18,Tryz.ntmps18
 go_wp2_with (first
  | (go_at_call 53
     have hal:Below w.heap.size w (((w.alloc (.cells #[.int .i64 H,.int .i64 W,.int .i64 C,.slice A n c] 32)).alloc (.cells #[x0,x1,x2,.int .i64 K,.int .i64 S,.int .i64 P,.int .i64 O,.int .i8 Z,x8,.slice WA nW cW,.slice BA nB cB,x11,x12,x13,x14,x15,x16,x17,x18] 28)).alloc (.cells #[.int .i64 0,.int .i64 0,.int .i64 0,.slice none 0 0] 32)):=(((Below.refl _ _).alloc (by first | exact Nat.le_refl _ | (simp;done) | (simp;omega)) _).alloc (by first | exact Nat.le_refl _ | (simp;done) | (simp;omega)) _).alloc (by first | exact Nat.le_refl _ | (simp;done) | (simp;omega)) _
     refine (HE.out _ ((HR.out.below hal).more hal.size)).mono ?_
     rintro e w1 ⟨v,rfl,ho,hb⟩
     have hh:Below w.heap.size w w1:=hal.trans (hb.mono hal.size)
     have qTB:=(boxNew H W C A n c 32) w
     try simp only [World.size_alloc] at qTB
     have TB:=Lib.hid ((qTB.below (B':=w.heap.size+1) (by omega) ((((Below.refl _ _).alloc (by first | exact Nat.le_refl _ | (simp;done) | (simp;omega)) _).alloc (by first | exact Nat.le_refl _ | (simp;done) | (simp;omega)) _).mono (by simp))).below (by first | (simp;done) | (simp;omega)) hb)
     have yTB:w.heap.size < w1.heap.size:=by have:=hb.size;simp at this;omega
     clear qTB
     have qTN:=(NodeAt.new x0 x1 x2 x8 x11 x12 x13 x14 x15 x16 x17 x18 K S P O Z WA BA nW cW nB cB 28) (w.alloc (.cells #[.int .i64 H,.int .i64 W,.int .i64 C,.slice A n c] 32))
     try simp only [World.size_alloc] at qTN
     have TN:=Lib.hid ((qTN.below (B':=w.heap.size+2) (by omega) (((Below.refl _ _).alloc (by first | exact Nat.le_refl _ | (simp;done) | (simp;omega)) _).mono (by simp))).below (by first | (simp;done) | (simp;omega)) hb)
     have yTN:w.heap.size+1 < w1.heap.size:=by have:=hb.size;simp at this;omega
     clear qTN
     have qFR:=(freshNew 32) ((w.alloc (.cells #[.int .i64 H,.int .i64 W,.int .i64 C,.slice A n c] 32)).alloc (.cells #[x0,x1,x2,.int .i64 K,.int .i64 S,.int .i64 P,.int .i64 O,.int .i8 Z,x8,.slice WA nW cW,.slice BA nB cB,x11,x12,x13,x14,x15,x16,x17,x18] 28))
     try simp only [World.size_alloc] at qFR
     have FR:=Lib.hid (qFR.below (by first | (simp;done) | (simp;omega)) hb)
     have yFR:w.heap.size+2 < w1.heap.size:=by have:=hb.size;simp at this;omega
     clear qFR
     replace HR:=Lib.hid ((HR.out.below hh).more hh.size)
     have HBW:Hid (Below w.heap.size w w1):=Lib.hid hh
     have HO:=Lib.hid ho
     obtain⟨A2,c2,rfl, -, -, -⟩:=Kit.own_rd ho
     have hal9:=hal.size
     clear ho
     obtain⟨⟨z0,z1,z2,z3⟩,z4,z5,z6,z7⟩:=FR.out
     obtain⟨tbp0,tbp1,tbp2,tbp3⟩:=TB.out
     clear hb hh hal)
  | (refine wpList_load_mid rfl 28 (.tmp 3) rfl (w.heap.size+1) 0 rfl [x0,x1,x2,.int .i64 K,.int .i64 S,.int .i64 P,.int .i64 O,.int .i8 Z,x8,.slice WA nW cW,.slice BA nB cB,x11,x12,x13,x14,x15,x16,x17,x18] _ TN0.out Tryz.underlying28 rfl (by kernel_rfl) ?_))
 simp only [World.size_alloc] at hal9
 refine bodyPost_ret (Kit.results_ct rfl _ _ (w.heap.size+2) 0 [.int .i64 X,.int .i64 Y,.int .i64 U,.slice A2 m c2] _ rfl (range_4 (by go_cell) (by go_cell) (by go_cell) (by go_cell)) Tryz.underlying32 rfl (by kernel_rfl)) rfl ?_
 refine⟨_,rfl,Kit.own_base (own_set4 HO.out ?_) ?_,?_⟩
 any_goals (first | omega | (simp;done) | (simp;omega))
 exact (((HBW.out.setCell (p:=⟨w.heap.size+2,0,none⟩) (by simp) _).setCell (p:=⟨w.heap.size+2,1,none⟩) (by simp) _).setCell (p:=⟨w.heap.size+2,2,none⟩) (by simp) _).setCell (p:=⟨w.heap.size+2,3,none⟩) (by simp) _
set_option maxHeartbeats 2000000 in
theorem mean_mk (H W C:Int) (A:Option Addr) (zs:List Int) (n c:Nat) (x0 x1 x2 x8 x11 x12 x13 x14 x15 x16 x17 x18:Value) (K S P O Z:Int) (WA BA:Option Addr) (nW cW nB cB:Nat) (X Y U:Int) (m:Nat) (xs:List Int) (er:Int)
  (hE:∀ w:World,Kit.Rd w w.heap.size A (I8s zs)→Calls Tryz.prog 53 #[.agg #[.int .i64 H,.int .i64 W,.int .i64 C,.slice A n c],.agg #[x0,x1,x2,.int .i64 K,.int .i64 S,.int .i64 P,.int .i64 O,.int .i8 Z,x8,.slice WA nW cW,.slice BA nB cB,x11,x12,x13,x14,x15,x16,x17,x18],.func (.func 55) #[] #[]] w (MadeP w X Y U m xs (.int .i64 er))) (w:World) (hr:Kit.Rd w w.heap.size A (I8s zs)) :
  Calls Tryz.prog 19 #[.agg #[.int .i64 H,.int .i64 W,.int .i64 C,.slice A n c],.agg #[x0,x1,x2,.int .i64 K,.int .i64 S,.int .i64 P,.int .i64 O,.int .i8 Z,x8,.slice WA nW cW,.slice BA nB cB,x11,x12,x13,x14,x15,x16,x17,x18]] w (MadeP w X Y U m xs (.int .i64 er)):=by
 have HE:=Lib.hid hE
 have HR:=Lib.hid hr
 clear hE hr
 have TN0:Hid (NodeAt (w.heap.size+1) x0 x1 x2 x8 x11 x12 x13 x14 x15 x16 x17 x18 K S P O Z WA BA nW cW nB cB (((w.alloc (.cells #[.int .i64 H,.int .i64 W,.int .i64 C,.slice A n c] 32)).alloc (.cells #[x0,x1,x2,.int .i64 K,.int .i64 S,.int .i64 P,.int .i64 O,.int .i8 Z,x8,.slice WA nW cW,.slice BA nB cB,x11,x12,x13,x14,x15,x16,x17,x18] 28)).alloc (.cells #[.int .i64 0,.int .i64 0,.int .i64 0,.slice none 0 0] 32))):=by
  have h:=NodeAt.new x0 x1 x2 x8 x11 x12 x13 x14 x15 x16 x17 x18 K S P O Z WA BA nW cW nB cB 28 (w.alloc (.cells #[.int .i64 H,.int .i64 W,.int .i64 C,.slice A n c] 32))
  rw [World.size_alloc] at h
  exact Lib.hid (h.below (B':=w.heap.size+2) (by omega) ((Below.refl _ _).alloc (by simp) _))
 go_enter Tryz.func19,Tryz.ntmps19
 go_wp2_with (first
  | (go_at_call 53
     have hal:Below w.heap.size w (((w.alloc (.cells #[.int .i64 H,.int .i64 W,.int .i64 C,.slice A n c] 32)).alloc (.cells #[x0,x1,x2,.int .i64 K,.int .i64 S,.int .i64 P,.int .i64 O,.int .i8 Z,x8,.slice WA nW cW,.slice BA nB cB,x11,x12,x13,x14,x15,x16,x17,x18] 28)).alloc (.cells #[.int .i64 0,.int .i64 0,.int .i64 0,.slice none 0 0] 32)):=(((Below.refl _ _).alloc (by first | exact Nat.le_refl _ | (simp;done) | (simp;omega)) _).alloc (by first | exact Nat.le_refl _ | (simp;done) | (simp;omega)) _).alloc (by first | exact Nat.le_refl _ | (simp;done) | (simp;omega)) _
     refine (HE.out _ ((HR.out.below hal).more hal.size)).mono ?_
     rintro e w1 ⟨v,rfl,ho,hb⟩
     have hh:Below w.heap.size w w1:=hal.trans (hb.mono hal.size)
     have qTB:=(boxNew H W C A n c 32) w
     try simp only [World.size_alloc] at qTB
     have TB:=Lib.hid ((qTB.below (B':=w.heap.size+1) (by omega) ((((Below.refl _ _).alloc (by first | exact Nat.le_refl _ | (simp;done) | (simp;omega)) _).alloc (by first | exact Nat.le_refl _ | (simp;done) | (simp;omega)) _).mono (by simp))).below (by first | (simp;done) | (simp;omega)) hb)
     have yTB:w.heap.size < w1.heap.size:=by have:=hb.size;simp at this;omega
     clear qTB
     have qTN:=(NodeAt.new x0 x1 x2 x8 x11 x12 x13 x14 x15 x16 x17 x18 K S P O Z WA BA nW cW nB cB 28) (w.alloc (.cells #[.int .i64 H,.int .i64 W,.int .i64 C,.slice A n c] 32))
     try simp only [World.size_alloc] at qTN
     have TN:=Lib.hid ((qTN.below (B':=w.heap.size+2) (by omega) (((Below.refl _ _).alloc (by first | exact Nat.le_refl _ | (simp;done) | (simp;omega)) _).mono (by simp))).below (by first | (simp;done) | (simp;omega)) hb)
     have yTN:w.heap.size+1 < w1.heap.size:=by have:=hb.size;simp at this;omega
     clear qTN
     have qFR:=(freshNew 32) ((w.alloc (.cells #[.int .i64 H,.int .i64 W,.int .i64 C,.slice A n c] 32)).alloc (.cells #[x0,x1,x2,.int .i64 K,.int .i64 S,.int .i64 P,.int .i64 O,.int .i8 Z,x8,.slice WA nW cW,.slice BA nB cB,x11,x12,x13,x14,x15,x16,x17,x18] 28))
     try simp only [World.size_alloc] at qFR
     have FR:=Lib.hid (qFR.below (by first | (simp;done) | (simp;omega)) hb)
     have yFR:w.heap.size+2 < w1.heap.size:=by have:=hb.size;simp at this;omega
     clear qFR
     replace HR:=Lib.hid ((HR.out.below hh).more hh.size)
     have HBW:Hid (Below w.heap.size w w1):=Lib.hid hh
     have HO:=Lib.hid ho
     obtain⟨A2,c2,rfl, -, -, -⟩:=Kit.own_rd ho
     have hal9:=hal.size
     clear ho
     obtain⟨⟨z0,z1,z2,z3⟩,z4,z5,z6,z7⟩:=FR.out
     obtain⟨tbp0,tbp1,tbp2,tbp3⟩:=TB.out
     clear hb hh hal)
  | (refine wpList_load_mid rfl 28 (.tmp 3) rfl (w.heap.size+1) 0 rfl [x0,x1,x2,.int .i64 K,.int .i64 S,.int .i64 P,.int .i64 O,.int .i8 Z,x8,.slice WA nW cW,.slice BA nB cB,x11,x12,x13,x14,x15,x16,x17,x18] _ TN0.out Tryz.underlying28 rfl (by kernel_rfl) ?_))
 simp only [World.size_alloc] at hal9
 refine bodyPost_ret (Kit.results_ct rfl _ _ (w.heap.size+2) 0 [.int .i64 X,.int .i64 Y,.int .i64 U,.slice A2 m c2] _ rfl (range_4 (by go_cell) (by go_cell) (by go_cell) (by go_cell)) Tryz.underlying32 rfl (by kernel_rfl)) rfl ?_
 refine⟨_,rfl,Kit.own_base (own_set4 HO.out ?_) ?_,?_⟩
 any_goals (first | omega | (simp;done) | (simp;omega))
 exact (((HBW.out.setCell (p:=⟨w.heap.size+2,0,none⟩) (by simp) _).setCell (p:=⟨w.heap.size+2,1,none⟩) (by simp) _).setCell (p:=⟨w.heap.size+2,2,none⟩) (by simp) _).setCell (p:=⟨w.heap.size+2,3,none⟩) (by simp) _
theorem pool_letters {H W C K S P:Int} (he:slideE H W C K S P C=0):∃ a b d kk:Nat,stepsM H K S P=(a:Int)∧stepsM W K S P=(b:Int)∧C=(d:Int)∧K=(kk:Int)∧a * b * d≤1024:=by
 obtain⟨hs0,har1,har2, -, -,hsr⟩:=slide_ok he
 obtain⟨-, -,k1,k2, -⟩:=argsB_yes har1
 obtain⟨q1,q2,q3,q4,q5,q6,q7⟩:=shapeB_yes hsr
 obtain⟨a,ha⟩:∃ a:Nat,stepsM H K S P=(a:Int):=⟨(stepsM H K S P).toNat,by omega⟩
 obtain⟨b,hb⟩:∃ b:Nat,stepsM W K S P=(b:Int):=⟨(stepsM W K S P).toNat,by omega⟩
 obtain⟨d,hd⟩:∃ d:Nat,C=(d:Int):=⟨C.toNat,by omega⟩
 obtain⟨kk,hk⟩:∃ kk:Nat,K=(kk:Int):=⟨K.toNat,by omega⟩
 refine⟨a,b,d,kk,ha,hb,hd,hk,?_⟩
 have:((a * b * d:Nat):Int)=stepsM H K S P * stepsM W K S P * C:=by rw [ha,hb,hd];simp
 omega
end Go.Proofs.YtkpngknbiecdiaaGreatDoor.CPool
end
