/- -/
import Derived.Test.YtahekhpeomcfjaaGreatDoorGJ40
import Derived.Test.YtahekhpeomcfjaaGreatDoorGJ41
import Derived.Test.YtahekhpeomcfjaaGreatDoorGJ42
import Derived.Test.YtahekhpeomcfjaaGreatDoorGJ43
open Go.Lib (hid)
open Nat (le_refl lt_of_succ_lt lt_succ_self)
set_option linter.unusedVariables false
set_option linter.unusedSimpArgs false
set_option maxRecDepth 100000
set_option maxHeartbeats 16000000
namespace Go.Proofs.YtahekhpeomcfjaaGreatDoor
namespace CConv
end CConv
namespace CDense
end CDense
namespace CDepth
end CDepth
namespace CFix
end CFix
namespace CKind
end CKind
namespace CSat
end CSat
namespace CShape
end CShape
namespace CTensor
end CTensor
open Go Go.ChangeShapes Go.WideShapes Go.ChangeAt Go.RowKit Go.Deep
section
namespace CKind
open Plain CSat CShape CTensor CConv CDense CDepth
theorem shape_flat (H W C:Int):zad 1 1 (zay H W C)=zad H W C:=by
 cases hs:zad H W C
 ·rw [elemsZ_no hs];decide
 ·obtain⟨a1,a2,a3,a4,a5,a6,a7⟩:=zab hs
  have:=prod_bd a1 a2 a3 a4 a5 a6
  rw [zaw hs]
  generalize H * W * C=n at *
  exact decide_eq_true ⟨by omega,by omega,by omega,by omega,by omega,by omega,by omega⟩
theorem shape_to (x:Nd):ShapeIs 43 x:=by
 intro H W C H2 W2 C2 e u0 u1 u2 he hv w
 by_cases h0:x.kd < 1∨9 < x.kd
 ·have n1:¬ x.kd=1:=by omega
  have n2:¬ x.kd=2:=by omega
  have n3:¬ x.kd=3:=by omega
  have n4:¬ (x.kd=4∨x.kd=5):=by omega
  have e6:x.shE H W C H2 W2 C2=6:=by unfold Nd.shE;rw [if_neg n1,if_neg n2,if_neg n3,if_neg n4,if_pos h0]
  refine csh_0 x h0 H W C H2 W2 C2 e u0 u1 u2 (e6.symm.trans he) ?_ w
  rw [← hv];unfold Nd.shV;rw [if_neg n1,if_neg n2,if_neg n3,if_neg n4,e6,if_pos (by decide)]
 have hk:x.kd=1∨x.kd=2∨x.kd=3∨x.kd=4∨x.kd=5∨x.kd=6∨x.kd=7∨x.kd=8∨x.kd=9:=by omega
 clear h0
 have c0:∀ {b:Bool} {y:Int},(if b=false then (5:Int) else y)=if b=true then y else 5:=fun {b} {y} => by cases b <;> rfl
 unfold Nd.shV Nd.shE at hv
 unfold Nd.shE at he
 rcases hk with h | h | h | h | h | h | h | h | h
 all_goals simp only [h,if_true,if_false,show ¬ (2:Int)=1 by decide,show ¬ (3:Int)=1 by decide,show ¬ (4:Int)=1 by decide,show ¬ (5:Int)=1 by decide,show ¬ (6:Int)=1 by decide,show ¬ (7:Int)=1 by decide,show ¬ (8:Int)=1 by decide,show ¬ (9:Int)=1 by decide,
  show ¬ (3:Int)=2 by decide,show ¬ (4:Int)=2 by decide,show ¬ (5:Int)=2 by decide,show ¬ (6:Int)=2 by decide,show ¬ (7:Int)=2 by decide,show ¬ (8:Int)=2 by decide,show ¬ (9:Int)=2 by decide,
  show ¬ (4:Int)=3 by decide,show ¬ (5:Int)=3 by decide,show ¬ (6:Int)=3 by decide,show ¬ (7:Int)=3 by decide,show ¬ (8:Int)=3 by decide,show ¬ (9:Int)=3 by decide,
  show ((4:Int)=4∨(4:Int)=5) by decide,show ((5:Int)=4∨(5:Int)=5) by decide,show ¬ ((6:Int)=4∨(6:Int)=5) by decide,show ¬ ((7:Int)=4∨(7:Int)=5) by decide,show ¬ ((8:Int)=4∨(8:Int)=5) by decide,show ¬ ((9:Int)=4∨(9:Int)=5) by decide,
  show ¬ ((6:Int) < 1∨(9:Int) < 6) by decide,show ¬ ((7:Int) < 1∨(9:Int) < 7) by decide,show ¬ ((8:Int) < 1∨(9:Int) < 8) by decide,show ¬ ((9:Int) < 1∨(9:Int) < 9) by decide,
  show ¬ (7:Int)=6 by decide,show ¬ (8:Int)=6 by decide,show ¬ (9:Int)=6 by decide,show ¬ (6:Int)=8 by decide,show ¬ (7:Int)=8 by decide,show ¬ (9:Int)=8 by decide,show ¬ (6:Int)=9 by decide,show ¬ (7:Int)=9 by decide,show ¬ (8:Int)=9 by decide,true_and,false_and] at he hv
 ·exact csh_1 x h H W C H2 W2 C2 e u0 u1 u2 he hv w
 ·exact csh_2 x h H W C H2 W2 C2 e u0 u1 u2 he hv w
 ·exact csh_3 x h H W C H2 W2 C2 e u0 u1 u2 he hv w
 ·exact csh_4 x h H W C H2 W2 C2 e u0 u1 u2 he hv w
 ·exact csh_5 x h H W C H2 W2 C2 e u0 u1 u2 he hv w
 ·cases hd:(H == H2 && (W == W2 && C == C2))
  ·have h5:(if zad H W C=false then (5:Int) else if (H == H2 && (W == W2 && C == C2))=false then 5 else 0)=5:=by rw [hd];cases zad H W C <;> rfl
   rw [h5] at he hv
   exact csh_6n x h H W C H2 W2 C2 e u0 u1 u2 hd he (by rw [← hv,if_pos (by decide)]) w
  ·have h5:(if zad H W C=false then (5:Int) else if (H == H2 && (W == W2 && C == C2))=false then 5 else 0)=if zad H W C=true then 0 else 5:=by rw [hd];cases zad H W C <;> rfl
   rw [h5] at he hv
   refine csh_6y x h H W C H2 W2 C2 e u0 u1 u2 hd he ?_ w
   rw [← hv];cases zad H W C <;> rfl
 ·rw [c0] at he hv
  refine csh_7 x h H W C H2 W2 C2 e u0 u1 u2 he ?_ w
  rw [← hv];cases zad H W C <;> rfl
 ·refine csh_8 x h H W C H2 W2 C2 e u0 u1 u2 he ?_ w
  rw [← hv, ← he]
 ·rw [c0] at he hv
  refine csh_9 x h H W C H2 W2 C2 e u0 u1 u2 _ rfl (by rw [shape_flat];exact he) ?_ w
  rw [shape_flat, ← hv];cases zad H W C <;> rfl
end CKind
end
section
namespace CRun
open Plain CSat CShape CTensor CConv CKind CFix
def asN (x:Nd) (na nb:Int):Nd := { x with na:=na,nb:=nb }
def Like (x y:Nd):Prop:=∃ na nb,y=asN x na nb∧(asN x na nb).checkZ=x.checkZ
theorem sum_fun_1 (x:Nd) (hk:x.kd=1) (H W C:Int) (n:Nat) (zs:List Int) (hn:zs.length=n) (hz:I8b zs) (H2 W2 C2:Int) (ys ws bs:List Int) (hN:NIn x ws bs) :
  ∃ r,Good x H W C H2 W2 C2 r∧I32s r.xs∧∀ (A B:Option Addr) (c d:Nat) (y:Nd) (w:World),Like x y→n≤c→Mem y A B zs ys ws bs w→Calls Tryz.prog 96 #[.agg y.val,.agg #[.int .i64 H,.int .i64 W,.int .i64 C,.slice A n c]] w (MAcc w r):=by
 cases ht:tensB H W C n
 ·cases hf:(decide (x.K=3) && decide (x.S=1))
  ·exact⟨Res.bad 5,Good.bad _ _ _ _ _ _ _ _ (by decide),(fun z hz=>by cases hz),fun A B c _ y w hy hnc hM=>by obtain⟨na,nb,rfl,hcy⟩:=hy;exact csum_lower (asN x na nb) hk hf H W C A n c _ w (fun w1 hb=>CLower.lOf_bad H W C A n c (.int .i64 x.kd) (.int .i64 (asN x na nb).na) (.int .i64 (asN x na nb).nb) (.int .i8 x.Y) (.int .i32 x.m1) (.int .i64 x.s1) (.int .i8 x.z1) (.int .i32 x.m2) (.int .i64 x.s2) (.int .i8 x.z2) (.int .i8 x.lo) (.int .i8 x.hi) x.K x.S x.P x.O x.Z x.WA x.BA x.nW x.cW x.nB x.cB ht w1)⟩
  ·exact⟨Res.bad 5,Good.bad _ _ _ _ _ _ _ _ (by decide),(fun z hz=>by cases hz),fun A B c _ y w hy hnc hM=>by obtain⟨na,nb,rfl,hcy⟩:=hy;exact csum_lane (asN x na nb) hk hf H W C A n c _ w (fun w1 hb=>CLane.lof_bad H W C A n c (.int .i64 x.kd) (.int .i64 (asN x na nb).na) (.int .i64 (asN x na nb).nb) (.int .i8 x.Y) (.int .i32 x.m1) (.int .i64 x.s1) (.int .i8 x.z1) (.int .i32 x.m2) (.int .i64 x.s2) (.int .i8 x.z2) (.int .i8 x.lo) (.int .i8 x.hi) x.K x.S x.P x.O x.Z x.WA x.BA x.nW x.cW x.nB x.cB ht w1)⟩
 ·by_cases he:convE H W C x.K x.S x.P x.O x.nW x.nB=0
  ·obtain⟨hsl,hnW,hn16,hnB⟩:=convE_ok he
   obtain⟨hs0,har1,har2, -, -,hsr⟩:=za9 hsl
   obtain⟨q1,q2,q3,q4,q5,q6,q7⟩:=zab hsr
   obtain⟨-, -, -, -,c1,c2, -⟩:=zab hs0
   obtain⟨-, -,k1,k2, -⟩:=za7 har1
   obtain⟨a,ha⟩:∃ a:Nat,zae H x.K x.S x.P=(a:Int):=⟨(zae H x.K x.S x.P).toNat,by omega⟩
   obtain⟨b,hb⟩:∃ b:Nat,zae W x.K x.S x.P=(b:Int):=⟨(zae W x.K x.S x.P).toNat,by omega⟩
   obtain⟨oo,hO⟩:∃ oo:Nat,x.O=(oo:Int):=⟨x.O.toNat,by omega⟩
   obtain⟨d,hd⟩:∃ d:Nat,C=(d:Int):=⟨C.toNat,by omega⟩
   obtain⟨kk,hkk⟩:∃ kk:Nat,x.K=(kk:Int):=⟨x.K.toNat,by omega⟩
   have hN4:((a * b * oo:Nat):Int)≤1024:=by
    have:((a * b * oo:Nat):Int)=zae H x.K x.S x.P * zae W x.K x.S x.P * x.O:=by rw [ha,hb,hO];simp
    omega
   refine⟨⟨a,b,x.O,a * b * oo,CConv.rowL (CConv.gridF b oo (CConv.sumF zs ws bs H W C x.S x.P d kk x.Z)) (a * b * oo),0⟩,⟨CConv.zbn _ _,by show a * b * oo≤1000000;omega,fun h=>absurd rfl h,fun _=>⟨by unfold Nd.shE;rw [if_pos hk];exact he,by unfold Nd.shV;rw [if_pos hk];unfold convS;rw [if_pos he,ha,hb],tens_of (by rw [← ha, ← hb];exact hsr) (by rw [hO];simp)⟩⟩,(fun z hz=>by obtain⟨i,_,rfl⟩:=List.mem_map.1 hz;exact wrap32_in _),fun A B c _ y w hy hnc hM=>?_⟩
   obtain⟨na,nb,rfl,hcy⟩:=hy
   cases hf:(decide (x.K=3) && decide (x.S=1))
   ·exact csum_lower (asN x na nb) hk hf H W C A n c _ w (fun w1 hb1=>CLower.lOf_good H W C A zs n c hn ht hz (.int .i64 x.kd) (.int .i64 (asN x na nb).na) (.int .i64 (asN x na nb).nb) (.int .i8 x.Y) (.int .i32 x.m1) (.int .i64 x.s1) (.int .i8 x.z1) (.int .i32 x.m2) (.int .i64 x.s2) (.int .i8 x.z2) (.int .i8 x.lo) (.int .i8 x.hi) x.K x.S x.P x.O x.Z x.WA x.BA x.nW x.cW x.nB x.cB ws hN.hws hN.hwc hN.hwm hN.hwb bs hN.hbs he a b oo d kk ha hb hO hd hkk _ rfl hN.z1 hN.z2 w1 (hM.grown hb1).1 (hM.grown hb1).2.2.1 (hM.grown hb1).2.2.2.1)
   ·have hf2:=hf
    simp only [Bool.and_eq_true,decide_eq_true_eq] at hf2
    obtain rfl:kk=3:=by omega
    exact csum_lane (asN x na nb) hk hf H W C A n c _ w (fun w1 hb1=>CLane.lof_yes H W C A zs n c hn ht hz (.int .i64 x.kd) (.int .i64 (asN x na nb).na) (.int .i64 (asN x na nb).nb) (.int .i8 x.Y) (.int .i32 x.m1) (.int .i64 x.s1) (.int .i8 x.z1) (.int .i32 x.m2) (.int .i64 x.s2) (.int .i8 x.z2) (.int .i8 x.lo) (.int .i8 x.hi) x.K x.S x.P x.O x.Z x.WA x.BA x.nW x.cW x.nB x.cB ws hN.hws hN.hwc hN.hwm hN.hwb bs hN.hbs he hf2.1 hf2.2 a b oo d ha hb hO hd _ rfl hN.z1 hN.z2 w1 (hM.grown hb1).1 (hM.grown hb1).2.2.1 (hM.grown hb1).2.2.2.1)
  ·cases hf:(decide (x.K=3) && decide (x.S=1))
   ·exact⟨Res.bad (convE H W C x.K x.S x.P x.O x.nW x.nB),Good.bad _ _ _ _ _ _ _ _ he,(fun z hz=>by cases hz),fun A B c _ y w hy hnc hM=>by obtain⟨na,nb,rfl,hcy⟩:=hy;exact csum_lower (asN x na nb) hk hf H W C A n c _ w (fun w1 hb=>CLower.lOf_err H W C A n c (.int .i64 x.kd) (.int .i64 (asN x na nb).na) (.int .i64 (asN x na nb).nb) (.int .i8 x.Y) (.int .i32 x.m1) (.int .i64 x.s1) (.int .i8 x.z1) (.int .i32 x.m2) (.int .i64 x.s2) (.int .i8 x.z2) (.int .i8 x.lo) (.int .i8 x.hi) x.K x.S x.P x.O x.Z x.WA x.BA x.nW x.cW x.nB x.cB ht _ rfl he w1)⟩
   ·exact⟨Res.bad (convE H W C x.K x.S x.P x.O x.nW x.nB),Good.bad _ _ _ _ _ _ _ _ he,(fun z hz=>by cases hz),fun A B c _ y w hy hnc hM=>by obtain⟨na,nb,rfl,hcy⟩:=hy;exact csum_lane (asN x na nb) hk hf H W C A n c _ w (fun w1 hb=>CLane.lof_err H W C A n c (.int .i64 x.kd) (.int .i64 (asN x na nb).na) (.int .i64 (asN x na nb).nb) (.int .i8 x.Y) (.int .i32 x.m1) (.int .i64 x.s1) (.int .i8 x.z1) (.int .i32 x.m2) (.int .i64 x.s2) (.int .i8 x.z2) (.int .i8 x.lo) (.int .i8 x.hi) x.K x.S x.P x.O x.Z x.WA x.BA x.nW x.cW x.nB x.cB ht _ rfl he w1)⟩
theorem sum_fun_2 (x:Nd) (hk:x.kd=2) (H W C:Int) (n:Nat) (zs:List Int) (hn:zs.length=n) (hz:I8b zs) (H2 W2 C2:Int) (ys ws bs:List Int) (hN:NIn x ws bs) :
  ∃ r,Good x H W C H2 W2 C2 r∧I32s r.xs∧∀ (A B:Option Addr) (c d:Nat) (y:Nd) (w:World),Like x y→n≤c→Mem y A B zs ys ws bs w→Calls Tryz.prog 96 #[.agg y.val,.agg #[.int .i64 H,.int .i64 W,.int .i64 C,.slice A n c]] w (MAcc w r):=by
 cases ht:tensB H W C n
 ·exact⟨Res.bad 5,Good.bad _ _ _ _ _ _ _ _ (by decide),(fun z hz=>by cases hz),fun A B c _ y w hy hnc hM=>by obtain⟨na,nb,rfl,hcy⟩:=hy;exact csum_depth (asN x na nb) hk H W C A n c _ w (fun w1 hb=>CDepth.dof_bad H W C A n c (.int .i64 x.kd) (.int .i64 (asN x na nb).na) (.int .i64 (asN x na nb).nb) (.int .i8 x.Y) (.int .i32 x.m1) (.int .i64 x.s1) (.int .i8 x.z1) (.int .i32 x.m2) (.int .i64 x.s2) (.int .i8 x.z2) (.int .i8 x.lo) (.int .i8 x.hi) x.K x.S x.P x.O x.Z x.WA x.BA x.nW x.cW x.nB x.cB ht w1)⟩
 ·by_cases he:CDepth.depthE H W C x.K x.S x.P x.nW x.nB=0
  ·obtain⟨a,b,d,kk,ha,hb,hd,hkk,hN4⟩:=CDepth.dep_letters he
   have hsr:=(za9 (CDepth.depthE_ok he).1).2.2.2.2.2
   refine⟨⟨a,b,C,a * b * d,CConv.rowL (CConv.gridF b d (CDepth.sumD zs ws bs H W C x.S x.P kk x.Z)) (a * b * d),0⟩,⟨CConv.zbn _ _,by show a * b * d≤1000000;omega,fun h=>absurd rfl h,fun _=>⟨by unfold Nd.shE;rw [if_neg (show ¬ x.kd=1 by omega),if_pos hk];exact he,by unfold Nd.shV;rw [if_neg (show ¬ x.kd=1 by omega),if_pos hk];unfold CDepth.depthS;rw [if_pos he,ha,hb],tens_of (by rw [← ha, ← hb];exact hsr) (by rw [hd];simp)⟩⟩,(fun z hz=>by obtain⟨i,_,rfl⟩:=List.mem_map.1 hz;exact wrap32_in _),fun A B c _ y w hy hnc hM=>?_⟩
   obtain⟨na,nb,rfl,hcy⟩:=hy
   exact csum_depth (asN x na nb) hk H W C A n c _ w (fun w1 hb1=>CDepth.dof_yes H W C A zs n c hn ht hz (.int .i64 x.kd) (.int .i64 (asN x na nb).na) (.int .i64 (asN x na nb).nb) (.int .i8 x.Y) (.int .i32 x.m1) (.int .i64 x.s1) (.int .i8 x.z1) (.int .i32 x.m2) (.int .i64 x.s2) (.int .i8 x.z2) (.int .i8 x.lo) (.int .i8 x.hi) x.K x.S x.P x.O x.Z x.WA x.BA x.nW x.cW x.nB x.cB ws hN.hws hN.hwc hN.hwb bs hN.hbs he a b d kk ha hb hd hkk _ rfl hN.z1 hN.z2 w1 (hM.grown hb1).1 (hM.grown hb1).2.2.1 (hM.grown hb1).2.2.2.1)
  ·exact⟨Res.bad (CDepth.depthE H W C x.K x.S x.P x.nW x.nB),Good.bad _ _ _ _ _ _ _ _ he,(fun z hz=>by cases hz),fun A B c _ y w hy hnc hM=>by obtain⟨na,nb,rfl,hcy⟩:=hy;exact csum_depth (asN x na nb) hk H W C A n c _ w (fun w1 hb=>CDepth.dof_err H W C A n c (.int .i64 x.kd) (.int .i64 (asN x na nb).na) (.int .i64 (asN x na nb).nb) (.int .i8 x.Y) (.int .i32 x.m1) (.int .i64 x.s1) (.int .i8 x.z1) (.int .i32 x.m2) (.int .i64 x.s2) (.int .i8 x.z2) (.int .i8 x.lo) (.int .i8 x.hi) x.K x.S x.P x.O x.Z x.WA x.BA x.nW x.cW x.nB x.cB ht _ rfl he w1)⟩
theorem sum_fun_3 (x:Nd) (hk:x.kd=3) (H W C:Int) (n:Nat) (zs:List Int) (hn:zs.length=n) (hz:I8b zs) (H2 W2 C2:Int) (ys ws bs:List Int) (hN:NIn x ws bs) :
  ∃ r,Good x H W C H2 W2 C2 r∧I32s r.xs∧∀ (A B:Option Addr) (c d:Nat) (y:Nd) (w:World),Like x y→n≤c→Mem y A B zs ys ws bs w→Calls Tryz.prog 96 #[.agg y.val,.agg #[.int .i64 H,.int .i64 W,.int .i64 C,.slice A n c]] w (MAcc w r):=by
 cases ht:tensB H W C n
 ·exact⟨Res.bad 5,Good.bad _ _ _ _ _ _ _ _ (by decide),(fun z hz=>by cases hz),fun A B c _ y w hy hnc hM=>by obtain⟨na,nb,rfl,hcy⟩:=hy;exact csum_dense (asN x na nb) hk H W C A n c _ w (fun w1 hb=>CDense.dof_bad H W C A n c (.int .i64 x.kd) (.int .i64 (asN x na nb).na) (.int .i64 (asN x na nb).nb) (.int .i8 x.Y) (.int .i32 x.m1) (.int .i64 x.s1) (.int .i8 x.z1) (.int .i32 x.m2) (.int .i64 x.s2) (.int .i8 x.z2) (.int .i8 x.lo) (.int .i8 x.hi) x.K x.S x.P x.O x.Z x.WA x.BA x.nW x.cW x.nB x.cB ht w1)⟩
 ·by_cases he:CDense.denseE H W C x.O x.nW x.nB=0
  ·obtain⟨h1,h2,hnW,hn16,hnB⟩:=CDense.denseE_ok he
   obtain⟨-, -, -, -,o1,o2, -⟩:=zab h2
   refine⟨⟨1,1,x.O,x.nB,CConv.rowL (CDense.lineF zs ws bs n x.Z) x.nB,0⟩,⟨CConv.zbn _ _,by show x.nB≤1000000;omega,fun h=>absurd rfl h,fun _=>⟨by unfold Nd.shE;rw [if_neg (show ¬ x.kd=1 by omega),if_neg (show ¬ x.kd=2 by omega),if_pos hk];exact he,by unfold Nd.shV;rw [if_neg (show ¬ x.kd=1 by omega),if_neg (show ¬ x.kd=2 by omega),if_pos hk];unfold CDense.denseS;rw [if_pos he],tens_of h2 (by rw [hnB];simp)⟩⟩,(fun z hz=>by obtain⟨i,_,rfl⟩:=List.mem_map.1 hz;exact wrap32_in _),fun A B c _ y w hy hnc hM=>?_⟩
   obtain⟨na,nb,rfl,hcy⟩:=hy
   exact csum_dense (asN x na nb) hk H W C A n c _ w (fun w1 hb1=>CDense.dof_yes H W C A zs n c hn ht hz (.int .i64 x.kd) (.int .i64 (asN x na nb).na) (.int .i64 (asN x na nb).nb) (.int .i8 x.Y) (.int .i32 x.m1) (.int .i64 x.s1) (.int .i8 x.z1) (.int .i32 x.m2) (.int .i64 x.s2) (.int .i8 x.z2) (.int .i8 x.lo) (.int .i8 x.hi) x.K x.S x.P x.O x.Z x.WA x.BA x.nW x.cW x.nB x.cB ws hN.hws hN.hwc hN.hwb bs hN.hbs he hN.z1 hN.z2 w1 (hM.grown hb1).1 (hM.grown hb1).2.2.1 (hM.grown hb1).2.2.2.1)
  ·exact⟨Res.bad (CDense.denseE H W C x.O x.nW x.nB),Good.bad _ _ _ _ _ _ _ _ he,(fun z hz=>by cases hz),fun A B c _ y w hy hnc hM=>by obtain⟨na,nb,rfl,hcy⟩:=hy;exact csum_dense (asN x na nb) hk H W C A n c _ w (fun w1 hb=>CDense.dof_err H W C A n c (.int .i64 x.kd) (.int .i64 (asN x na nb).na) (.int .i64 (asN x na nb).nb) (.int .i8 x.Y) (.int .i32 x.m1) (.int .i64 x.s1) (.int .i8 x.z1) (.int .i32 x.m2) (.int .i64 x.s2) (.int .i8 x.z2) (.int .i8 x.lo) (.int .i8 x.hi) x.K x.S x.P x.O x.Z x.WA x.BA x.nW x.cW x.nB x.cB ht _ rfl he w1)⟩
theorem sum_fun_any (x:Nd) (hk:x.kd=1∨x.kd=2∨x.kd=3) (H W C:Int) (n:Nat) (zs:List Int) (hn:zs.length=n) (hz:I8b zs) (H2 W2 C2:Int) (ys ws bs:List Int) (hN:NIn x ws bs) :
  ∃ r,Good x H W C H2 W2 C2 r∧I32s r.xs∧∀ (A B:Option Addr) (c d:Nat) (y:Nd) (w:World),Like x y→n≤c→Mem y A B zs ys ws bs w→Calls Tryz.prog 96 #[.agg y.val,.agg #[.int .i64 H,.int .i64 W,.int .i64 C,.slice A n c]] w (MAcc w r):=by
 rcases hk with hk | hk | hk
 ·exact sum_fun_1 x hk H W C n zs hn hz H2 W2 C2 ys ws bs hN
 ·exact sum_fun_2 x hk H W C n zs hn hz H2 W2 C2 ys ws bs hN
 ·exact sum_fun_3 x hk H W C n zs hn hz H2 W2 C2 ys ws bs hN
end CRun
end
section
namespace CPool
open Go Go.ChangeShapes Go.WideShapes Go.ChangeAt Go.RowKit Go.Shelf
open Plain CSat CShape CTensor CConv
attribute [local go_sem] Oper.semAt_some
def maxL (l:List Int):Int:=l.foldl (fun a x=>if a < x then x else a) (-128)
theorem maxL_snoc (l:List Int) (x:Int):maxL (l ++ [x])=if maxL l < x then x else maxL l:=by unfold maxL;rw [List.foldl_append];rfl
theorem maxC_to (g b off:Nat) (H W C:Int) (N c kk o d:Nat) (top left:Int) (G:Nat→Int) (hbz:∀ k, -128≤G k∧G k≤127) (ht:tensB H W C N=true) (hd:C=(d:Int)) (ho:o < d) (hk7:kk≤7)
  (t1 : -1000≤top) (t2:top≤1000) (l1 : -1000≤left) (l2:left≤1000) (R:Int) (hR:maxL ((rowsI H W C top left kk o kk).map G)=R)
  (w:World) (hg:g+4 < w.heap.size) (hb:b < w.heap.size) (hcap:CapAt g H W C (some ⟨b,off,none⟩) N c (kk:Int) top left (o:Int) w) (hc:∀ j,j < N→w.cell? ⟨b,off+j,none⟩=some (.int .i8 (G j))) :
  Calls Tryz.prog 82 #[.func (.func 132) #[] #[.pointer (some ⟨g+1,0,none⟩),.pointer (some ⟨g,0,none⟩),.pointer (some ⟨g+2,0,none⟩),.pointer (some ⟨g+3,0,none⟩),.pointer (some ⟨g+4,0,none⟩)]] w fun e w'=>e=.returned (.int .i8 R)∧Below w.heap.size w w':=by
 have HR:=hid hR
 clear hR
 refine (callsIn_wide (n:=5)).1 ?_
 refine callsIn_of_wp_marks Tryz.func82 rfl trivial ?_ rfl
 simp only [Tryz.ntmps82,List.size_toArray,List.length_cons,List.length_nil,Nat.reduceAdd,Nat.reduceSub,Array.replicate_succ,Array.replicate_zero,List.push_toArray,List.append_toArray,List.nil_append,List.cons_append]
 refine wpIn_wide.2 ?_
 go_wp2_with fail
 have bX:=Boxed.new w 39 (.int .i8 (-128))
 have hbW:Below w.heap.size w (w.alloc (.cells #[.int .i8 (-128)] 39)):=(Below.refl _ _).alloc (le_refl _) _
 have hsW:(w.alloc (.cells #[.int .i8 (-128)] 39)).heap.size=w.heap.size+1:=by simp
 generalize w.alloc (.cells #[.int .i8 (-128)] 39)=W1 at bX hbW hsW ⊢
 refine (wpIn_wide (n:=5)).1 ?_
 refine wpIn_rangeFunc_ownG (F:=Fence.wide) (n:=5) rfl (by omega) (gf:=132) (lb:=#[.pointer (some ⟨g+1,0,none⟩),.pointer (some ⟨g,0,none⟩),.pointer (some ⟨g+2,0,none⟩),.pointer (some ⟨g+3,0,none⟩),.pointer (some ⟨g+4,0,none⟩)]) rfl trivial (enters_of Tryz.func132 (by kernel_rfl) rfl)
  (seq_window (5 - 1) (by omega) g w.heap.size b off H W C N c kk o d top left G ht hd ho hk7 t1 t2 l1 l2 hg hb W1 (by omega) (hcap.below hg hbW) (fun j hj=>(hbW.cell (p:=⟨b,off+j,none⟩) hb).trans (hc j hj))) belowK_t (belowK_b (by omega)) (Below.refl _ _) (fun _=>rfl)
  (fun pre W=>Boxed W w.heap.size 39 (.int .i8 (maxL (pre.map G)))∧Below w.heap.size w W)
  (fun _ _ _=>False)
  (OwnFrom.and (Own.from (boxed_own w.heap.size 39 (fun pre:List Nat=>.int .i8 (maxL (pre.map G)))) _) (ownFrom_below (by omega) (by omega)))
  (fun _ _ _ _ _ hs _ _=>hs)
  ⟨bX,hbW⟩
  ?a1 ?assign ?body ?done ?stop
 case assign =>
  intro l x W K hK
  gi_wp2
  exact hK
 case body =>
  rintro l pre x W ⟨hX,hB⟩ _
  have hs:=maxL_snoc (pre.map G) (G x)
  have hm:(pre ++ [x]).map G=pre.map G ++ [G x]:=by simp
  rw [← hm] at hs
  clear hm
  obtain⟨m0,hm0⟩:∃ m0,maxL (pre.map G)=m0:=⟨_,rfl⟩
  rw [hm0] at hs hX
  generalize G x=y at hs ⊢
  have HS:=hid hs
  have HX:=hid hX
  have HB:=hid hB
  have hcx:=hX.cell
  have hfx:=hX.frozen
  clear hs hX hB hm0 hbz bX hbW hcap hc ht
  by_cases hlt:m0 < y
  ·have hmx:max m0 y=y:=by omega
   gi_wp2
   exact⟨(KeepsOthers.setCell _ _ _).from _,(Below.refl _ _).setCell (p:=⟨w.heap.size,0,none⟩) (le_refl _) _,by rw [HS.out,if_pos (by omega)];exact HX.out.set _,HB.out.setCell (p:=⟨w.heap.size,0,none⟩) (le_refl _) _⟩
  ·have hmx:max m0 y=m0:=by omega
   have hle:y≤m0:=by omega
   gi_wp2
   exact⟨(KeepsOthers.setCell _ _ _).from _,(Below.refl _ _).setCell (p:=⟨w.heap.size,0,none⟩) (le_refl _) _,by rw [HS.out,if_neg (by omega)];exact HX.out.set _,HB.out.setCell (p:=⟨w.heap.size,0,none⟩) (le_refl _) _⟩
 case done =>
  rintro D ls W hD rfl ⟨hX,hB⟩ hK
  rw [HR.out] at hX
  have hcx:=hX.cell
  have HB:=hid hB
  have HK:=hid hK
  have HD:=hid hD
  clear hX hB hK hD hbz bX hbW hcap hc ht
  go_wp2_with fail
  refine⟨by simp,.inl ⟨_,_,rfl,run_takeDeferred HK.out,?_⟩⟩
  refine⟨.int .i8 R,?_,rfl,HB.out.trans (belowK_b (w:=w) (le_refl _) _ D _ _ (by have:=HD.out;omega) HK.out rfl rfl)⟩
  simp [results,Tryz.f82,go_sem]
 case stop =>
  rintro D c pre W _ _ h _
  exact h.elim
end CPool
end
section
namespace CPool
open Go Go.ChangeShapes Go.WideShapes Go.ChangeAt Go.RowKit
open Plain CSat CShape CTensor CConv
def greatF (zs:List Int) (H W C S P:Int) (kk:Nat) (h v o:Nat):Int:=maxL (windowL zs H W C ((h:Int) * S - P) ((v:Int) * S - P) kk o)
theorem eachMax_yes (H W C:Int) (A:Option Addr) (zs:List Int) (n c:Nat) (hn:zs.length=n) (ht:tensB H W C n=true) (hz:I8b zs) (x0 x1 x2 x8 x11 x12 x13 x14 x15 x16 x17 x18:Value) (K S P O Z:Int) (WA BA:Option Addr) (nW cW nB cB:Nat) (a b d kk:Nat) (he:zaz H W C K S P C=0) (ha:zae H K S P=(a:Int)) (hb:zae W K S P=(b:Int)) (hd:C=(d:Int)) (hk:K=(kk:Int)) (N:Nat) (hN:a * b * d=N)
  (w:World) (hr:Kit.Rd w w.heap.size A (I8s zs)) :
  Calls Tryz.prog 81 #[.agg #[.int .i64 H,.int .i64 W,.int .i64 C,.slice A n c],.agg #[x0,x1,x2,.int .i64 K,.int .i64 S,.int .i64 P,.int .i64 O,.int .i8 Z,x8,.slice WA nW cW,.slice BA nB cB,x11,x12,x13,x14,x15,x16,x17,x18],.func (.func 82) #[] #[]] w (MadeP w (a:Int) (b:Int) C N (rowL (gridF b d (greatF zs H W C S P kk)) N) (.int .i64 0)):=by
 obtain⟨hs0,har1,har2, -, -,hsr⟩:=za9 he
 obtain⟨-, -,k1,k2,st1,st2,pd1,pd2, -⟩:=za7 har1
 have hS:za8 H W C K S P C=#[.int .i64 (a:Int),.int .i64 (b:Int),.int .i64 C]:=by unfold za8;rw [he,if_pos rfl,ha,hb]
 rw [ha,hb] at hsr
 obtain⟨q1,q2,q3,q4,q5,q6,q7⟩:=zab hsr
 have hNI:(a:Int) * (b:Int) * C=(N:Int):=by rw [hd, ← hN];simp
 have hN2:N≤1024:=by rw [hNI] at q7;omega
 have hel:zay (a:Int) (b:Int) C=(N:Int):=by rw [zaw hsr];exact hNI
 obtain⟨F,hF⟩:∃ F,F=gridF b d (greatF zs H W C S P kk):=⟨_,rfl⟩
 have hFF:∀ i j k:Nat,j < b→k < d→F ((i * b+j) * d+k)=greatF zs H W C S P kk i j k:=fun i j k hj hk=>by rw [hF,grid_at b d _ hj hk]
 rw [← hF]
 have hn1:0 < n:=by
  obtain⟨hs1,hn1⟩:zad H W C=true∧(n:Int)=H * W * C:=by simpa [tensB] using ht
  obtain⟨g1,g2,g3,g4,g5,g6,g7⟩:=zab hs1
  have:0 < H * W * C:=Int.mul_pos (Int.mul_pos (by omega) (by omega)) (by omega)
  omega
 obtain⟨bb,ob,rfl,hbb,hcb⟩:=zav hr (j:=0) (by omega)
 obtain⟨i0,hi0,hi1,hi2,hi3⟩:=zbz info_i8p
 have hmk:∀ w:World,(Instr.makeSlice 25 (.int .i64 0) (.int .i64 (N:Int))).run Tryz.prog w=.ok (.slice (some ⟨w.heap.size,0,none⟩) 0 N) (w.alloc (.cells (madeCells #[.int .i8 0] N) 39)):=fun w=>by
  have h:=run_make (P:=Tryz.prog) w 25 39 i0 (.int .i8 0) Tryz.underlying25 hi0 hi1 .i64 .i64 0 N (Int.le_refl _) (by omega) (by rw [hi3];omega) (by omega)
  rw [hi2,Nat.mul_one,show (Value.int .i8 0).cells=#[.int .i8 0] from rfl] at h
  simpa using h
 have hkk1:1≤kk:=by omega
 have hkk7:kk≤7:=by omega
 subst hk
 have HT:=hid ht
 have HE:=hid he
 have HS:=hid hS
 have HEL:=hid hel
 have HFF:=hid hFF
 have HN:=hid hn
 have HZ:=hid hz
 have HD:=hid hd
 have HNN:=hid hN
 have HCB:=hid hcb
 clear hcb ht he hS hel hFF hn hz hd hN hr hs0 har1 har2 hsr q7 hNI hF ha hb
 go_enter Tryz.func81,Tryz.ntmps81
 go_wp2_with (first
  | (go_at_call 13
     have hal:Below w.heap.size w (((w.alloc (.cells #[.int .i64 H,.int .i64 W,.int .i64 C,.slice (some ⟨bb,ob,none⟩) n c] 27)).alloc (.cells #[x0,x1,x2,.int .i64 (kk:Int),.int .i64 S,.int .i64 P,.int .i64 O,.int .i8 Z,x8,.slice WA nW cW,.slice BA nB cB,x11,x12,x13,x14,x15,x16,x17,x18] 44)).alloc (.cells #[.int .i64 0,.int .i64 0,.int .i64 0,.slice none 0 0] 27)):=(((Below.refl _ _).alloc (by first | exact le_refl _ | (simp;done) | (simp;omega)) _).alloc (by first | exact le_refl _ | (simp;done) | (simp;omega)) _).alloc (by first | exact le_refl _ | (simp;done) | (simp;omega)) _
     refine (zac H W C (some ⟨bb,ob,none⟩) n c true HT.out _).mono ?_
     rintro e w1 ⟨rfl,hb⟩
     have hh:Below w.heap.size w w1:=hal.trans (hb.mono hal.size)
     have qTB:=(zbd H W C (some ⟨bb,ob,none⟩) n c 27) w
     try simp only [World.size_alloc] at qTB
     have TB:=hid ((qTB.below (B':=w.heap.size+1) (by omega) ((((Below.refl _ _).alloc (by first | exact le_refl _ | (simp;done) | (simp;omega)) _).alloc (by first | exact le_refl _ | (simp;done) | (simp;omega)) _).mono (by simp))).below (by first | (simp;done) | (simp;omega)) hb)
     have yTB:w.heap.size < w1.heap.size:=by have:=hb.size;simp at this;omega
     clear qTB
     have qTN:=(zai.new x0 x1 x2 x8 x11 x12 x13 x14 x15 x16 x17 x18 (kk:Int) S P O Z WA BA nW cW nB cB 44) (w.alloc (.cells #[.int .i64 H,.int .i64 W,.int .i64 C,.slice (some ⟨bb,ob,none⟩) n c] 27))
     try simp only [World.size_alloc] at qTN
     have TN:=hid ((qTN.below (B':=w.heap.size+2) (by omega) (((Below.refl _ _).alloc (by first | exact le_refl _ | (simp;done) | (simp;omega)) _).mono (by simp))).below (by first | (simp;done) | (simp;omega)) hb)
     have yTN:w.heap.size+1 < w1.heap.size:=by have:=hb.size;simp at this;omega
     clear qTN
     have qFR:=(za5 27) ((w.alloc (.cells #[.int .i64 H,.int .i64 W,.int .i64 C,.slice (some ⟨bb,ob,none⟩) n c] 27)).alloc (.cells #[x0,x1,x2,.int .i64 (kk:Int),.int .i64 S,.int .i64 P,.int .i64 O,.int .i8 Z,x8,.slice WA nW cW,.slice BA nB cB,x11,x12,x13,x14,x15,x16,x17,x18] 44))
     try simp only [World.size_alloc] at qFR
     have FR:=hid (qFR.below (by first | (simp;done) | (simp;omega)) hb)
     have yFR:w.heap.size+2 < w1.heap.size:=by have:=hb.size;simp at this;omega
     clear qFR
     have HBW:Hid (Below w.heap.size w w1):=hid hh
     obtain⟨tbp0,tbp1,tbp2,tbp3⟩:=TB.out
     have n3:=TN.out.at 3 _ rfl
     have n4:=TN.out.at 4 _ rfl
     have n5:=TN.out.at 5 _ rfl
     clear hb hh hal)
  | (go_at_call 78
     have hal:Below w1.heap.size w1 w1:=Below.refl _ _
     refine (zbf H W C (kk:Int) S P C 0 _ HE.out HS.out _).mono ?_
     rintro e w2 ⟨rfl,hb⟩
     have hh:Below w1.heap.size w1 w2:=hal.trans (hb.mono hal.size)
     replace TB:=hid (TB.out.below yTB hh)
     replace yTB:=Nat.lt_of_lt_of_le yTB hh.size
     replace TN:=hid (TN.out.below yTN hh)
     replace yTN:=Nat.lt_of_lt_of_le yTN hh.size
     replace FR:=hid (FR.out.below yFR hh)
     replace yFR:=Nat.lt_of_lt_of_le yFR hh.size
     replace HBW:=hid (HBW.out.trans (hh.mono HBW.out.size))
     clear tbp0 tbp1 tbp2 tbp3 n3 n4 n5
     have hg2:w.heap.size+3≤w2.heap.size:=yFR
     obtain⟨tbp0,tbp1,tbp2,tbp3⟩:=TB.out
     have n3:=TN.out.at 3 _ rfl
     have n4:=TN.out.at 4 _ rfl
     have n5:=TN.out.at 5 _ rfl
     clear hb hh hal)
  | (go_at_call 25
     have hal:Below w2.heap.size w2 (w2.alloc (.cells #[.int .i64 (a:Int),.int .i64 (b:Int),.int .i64 C] 24)):=(Below.refl _ _).alloc (by first | exact le_refl _ | (simp;done) | (simp;omega)) _
     refine (zbk (a:Int) (b:Int) C N HEL.out _).mono ?_
     rintro e w3 ⟨rfl,hb⟩
     have hh:Below w2.heap.size w2 w3:=hal.trans (hb.mono hal.size)
     have qTS:=(zba (a:Int) (b:Int) C 24) w2
     try simp only [World.size_alloc] at qTS
     have TS:=hid (qTS.below (by first | (simp;done) | (simp;omega)) hb)
     have yTS:w2.heap.size < w3.heap.size:=by have:=hb.size;simp at this;omega
     clear qTS
     replace TB:=hid (TB.out.below yTB hh)
     replace yTB:=Nat.lt_of_lt_of_le yTB hh.size
     replace TN:=hid (TN.out.below yTN hh)
     replace yTN:=Nat.lt_of_lt_of_le yTN hh.size
     replace FR:=hid (FR.out.below yFR hh)
     replace yFR:=Nat.lt_of_lt_of_le yFR hh.size
     replace HBW:=hid (HBW.out.trans (hh.mono HBW.out.size))
     clear tbp0 tbp1 tbp2 tbp3 n3 n4 n5
     obtain⟨tbp0,tbp1,tbp2,tbp3⟩:=TB.out
     have n3:=TN.out.at 3 _ rfl
     have n4:=TN.out.at 4 _ rfl
     have n5:=TN.out.at 5 _ rfl
     obtain⟨tsp0,tsp1,tsp2⟩:=TS.out
     clear hb hh hal))
 have hal:Below w3.heap.size w3 (w3.alloc (.cells (madeCells #[.int .i8 0] N) 39)):=(Below.refl _ _).alloc (le_refl _) _
 have h63:w.heap.size+3≤w2.heap.size:=hg2
 have hOA:Hid (OfAt w H W C (some ⟨bb,ob,none⟩) n c x0 x1 x2 x8 x11 x12 x13 x14 x15 x16 x17 x18 (kk:Int) S P O Z WA BA nW cW nB cB (a:Int) (b:Int) C w2.heap.size (w3.alloc (.cells (madeCells #[.int .i8 0] N) 39))):=hid ⟨TB.out.below yTB hal,TN.out.below yTN hal,FR.out.below yFR hal,TS.out.below yTS hal,HBW.out.trans (hal.mono HBW.out.size),by simp;omega⟩
 have hW:Hid ((w3.alloc (.cells (madeCells #[.int .i8 0] N) 39)).ownsRow (w2.heap.size+1) 39 1 (.slice (some ⟨w3.heap.size,0,none⟩) 0 N) 0 (I8s (rowL F 0))):=hid (World.ownsRow_made (e:=39) w3 _ N (by omega) (by unfold maxLen;omega) (by rw [size_madeCells];simp))
 clear TB TN FR TS yTB yTN yFR yTS hal tbp0 tbp1 tbp2 tbp3 n3 n4 n5 tsp0 tsp1 tsp2 HBW hg2
 generalize (w3.alloc (.cells (madeCells #[.int .i8 0] N) 39))=Wm at hOA hW ⊢
 generalize w2.heap.size=g6 at hOA hW h63 ⊢
 generalize (⟨w3.heap.size,0,none⟩:Addr)=ad at hW ⊢
 go_loopw [10,42] (fun v u wr=>∃ i:Nat,i≤a∧u=.int .i64 i∧Hid (OfAt w H W C (some ⟨bb,ob,none⟩) n c x0 x1 x2 x8 x11 x12 x13 x14 x15 x16 x17 x18 (kk:Int) S P O Z WA BA nW cW nB cB (a:Int) (b:Int) C g6 wr)∧Hid (wr.ownsRow (g6+1) 39 1 v (i * b * d) (I8s (rowL F (i * b * d))))) (fun _ u _=>a - (intOf u).toNat)
 case atStart=>exact⟨0,Nat.zero_le _,rfl,hOA,by simpa using hW⟩
 case round =>
  obtain⟨i,hi,rfl,hA0,hW0⟩:=hrel
  clear hOA hW
  obtain⟨Av0,cv0,rfl, -, -, -⟩:=Kit.zam hW0.out
  obtain⟨-, -, -,⟨s1,s2,s3⟩, -, -⟩:=hA0.out
  by_cases hlt:i < a
  ·have hiI:(i:Int) < (a:Int):=by omega
   go_wp2_with fail
   go_loopw [10,47] (fun v u wr=>∃ j:Nat,j≤b∧u=.int .i64 j∧Hid (OfAt w H W C (some ⟨bb,ob,none⟩) n c x0 x1 x2 x8 x11 x12 x13 x14 x15 x16 x17 x18 (kk:Int) S P O Z WA BA nW cW nB cB (a:Int) (b:Int) C g6 wr)∧Hid (wr.ownsRow (g6+1) 39 1 v ((i * b+j) * d) (I8s (rowL F ((i * b+j) * d))))) (fun _ u _=>b - (intOf u).toNat)
   case atStart=>exact⟨0,Nat.zero_le _,rfl,hA0,by simpa using hW0⟩
   case round =>
    obtain⟨j,hj,rfl,hA1,hW1⟩:=hrel
    clear hA0 hW0 s1 s2 s3
    obtain⟨Av1,cv1,rfl, -, -, -⟩:=Kit.zam hW1.out
    obtain⟨-, -, -,⟨s1,s2,s3⟩, -, -⟩:=hA1.out
    by_cases hltj:j < b
    ·have hjI:(j:Int) < (b:Int):=by omega
     obtain⟨o,ho⟩:∃ o,(i * b+j) * d=o:=⟨_,rfl⟩
     rw [ho] at hW1 ⊢
     have HOO:=hid ho
     clear ho
     go_wp2_with fail
     go_loopw [10,52] (fun v u wr=>∃ k:Nat,k≤d∧u=.int .i64 k∧Hid (OfAt w H W C (some ⟨bb,ob,none⟩) n c x0 x1 x2 x8 x11 x12 x13 x14 x15 x16 x17 x18 (kk:Int) S P O Z WA BA nW cW nB cB (a:Int) (b:Int) C g6 wr)∧Hid (wr.ownsRow (g6+1) 39 1 v (o+k) (I8s (rowL F (o+k))))) (fun _ u _=>d - (intOf u).toNat)
     case atStart=>exact⟨0,Nat.zero_le _,rfl,hA1,hW1⟩
     case round =>
      obtain⟨k,hk,rfl,hA2,hW2⟩:=hrel
      clear hA1 hW1 s1 s2 s3
      obtain⟨Av,cv,rfl, -, -, -⟩:=Kit.zam hW2.out
      obtain⟨hbx,hnd, -,⟨s1,s2,s3⟩,hbw,hsz⟩:=hA2.out
      have HBW:=hid hbw
      clear hbw
      by_cases hltk:k < d
      ·have hkI:(k:Int) < C:=by have:=HD.out;omega
       have hk0:(0:Int)≤(k:Int):=by omega
       have hom:o+k < N:=by rw [← HOO.out, ← HNN.out];exact at_lt hlt hltj hltk
       obtain⟨hs,hhs⟩:∃ hs,(i:Int) * S=hs:=⟨_,rfl⟩
       obtain⟨vs,hvs⟩:∃ vs,(j:Int) * S=vs:=⟨_,rfl⟩
       have b1:0≤hs∧hs≤64:=by
        rw [← hhs]
        exact⟨Int.mul_nonneg (by omega) (by omega),Int.le_trans (Int.mul_le_mul (show (i:Int)≤16 by omega) st2 (by omega) (by omega)) (by omega)⟩
       have b2:0≤vs∧vs≤64:=by
        rw [← hvs]
        exact⟨Int.mul_nonneg (by omega) (by omega),Int.le_trans (Int.mul_le_mul (show (j:Int)≤16 by omega) st2 (by omega) (by omega)) (by omega)⟩
       have e1:IntKind.i64.wrap hs=hs:=IntWalk.i64_in _ (by omega)
       have e2:IntKind.i64.wrap vs=vs:=IntWalk.i64_in _ (by omega)
       obtain⟨top,htop⟩:∃ top,hs - P=top:=⟨_,rfl⟩
       obtain⟨left,hleft⟩:∃ left,vs - P=left:=⟨_,rfl⟩
       have e3:IntKind.i64.wrap (hs - P)=top:=by rw [IntWalk.i64_in _ (by omega),htop]
       have e4:IntKind.i64.wrap (vs - P)=left:=by rw [IntWalk.i64_in _ (by omega),hleft]
       have hF1:=HFF.out i j k hltj hltk
       unfold greatF windowL at hF1
       rw [HOO.out,hhs,hvs,htop,hleft] at hF1
       obtain⟨x,hx⟩:∃ x,F (o+k)=x:=⟨_,rfl⟩
       rw [hx] at hF1
       have HX1:Hid (maxL ((rowsI H W C top left kk k kk).map (fun q=>zs.getD q 0))=x):=hid (by rw [← rowsI_L];exact hF1.symm)
       have HXX:=hid hx
       have t1 : -1000≤top:=by omega
       have t2:top≤1000:=by omega
       have l1 : -1000≤left:=by omega
       have l2:left≤1000:=by omega
       obtain⟨k0,k1_,k2_,k3_⟩:=hbx
       have n3:=hnd.at 3 _ rfl
       have n4:=hnd.at 4 _ rfl
       have n5:=hnd.at 5 _ rfl
       clear hx hF1 htop hleft hnd
       go_wp2_with (first
        | (go_at_call 115;(refine (pwin_to H W C (some ⟨bb,ob,none⟩) n c (kk:Int) top left (k:Int) _).mono ?_);(rintro e w4 ⟨rfl,hcap,hb4,hs4⟩;have HCAP:=hid hcap;have HB4:=hid hb4;have HS4:=hid hs4;have hz4:w.heap.size≤w4.heap.size:=Nat.le_trans HBW.out.size hb4.size;clear hcap hb4 hs4))
        | (go_at_call 82;(refine (maxC_to wr.heap.size bb ob H W C n c kk k d top left (fun q=>zs.getD q 0) HZ.out HT.out HD.out hltk hkk7 t1 t2 l1 l2 x HX1.out w4 (by have:=HS4.out;omega) (by omega) HCAP.out (fun j hj=>((HBW.out.trans (HB4.out.mono HBW.out.size)).cell (p:=⟨bb,ob+j,none⟩) hbb).trans (HCB.out j (by rw [HN.out];exact hj)))).mono ?_);(rintro e w5 ⟨rfl,hb5⟩;have HB5:=hid ((HB4.out.trans (hb5.mono HB4.out.size)).alloc (Nat.le_trans HB4.out.size hb5.size) (.cells #[.int .i8 x] 39));have HO5:=hid (Kit.own_below hW2.out HB5.out);have hz5:g6+1≤(w5.alloc (.cells #[.int .i8 x] 39)).heap.size:=Nat.le_trans hsz HB5.out.size;clear hb5))
        | (at_builtin;refine Kit.zal _ rfl (.tmp 55) (.tmp 77) _ rfl (g6+1) 39 i0 (.int .i8 0) 1 1 Tryz.underlying25 hi0 hi1 hi2 hi3 rfl (by decide) _ (o+k) (I8s (rowL F (o+k))) rfl HO5.out _ _ 1 1 [.int .i8 x] rfl rfl (Kit.Rd.new _ _ _ (lt_succ_self _)) (Kit.zbj .i8 [x]) (by unfold maxLen;omega) (by omega) hz5 ?_;(intro v6 w6 hown6 hg7 _;obtain⟨A6,c6,rfl, -, -, -⟩:=Kit.zam hown6;have hb6:Below (g6+1) _ w6:=(Below.refl _ _).grown hg7 hz5 (Kit.zaj HO5.out);rw [rowL_succ8 F (o+k) x HXX.out] at hown6;have HW6:=hid hown6;have HA6:=hid ((hA2.out.below h63 (show g6 < wr.heap.size by omega) HB5.out).below h63 (lt_succ_self _) hb6);clear hown6 hg7 hb6)))
       go_roundw
       case rel=>exact⟨k+1,by omega,by go_num,HA6,HW6⟩
       case measure=>simp [intOf];omega
      ·obtain rfl:k=d:=by omega
       have hkI:¬ (k:Int) < C:=by have:=HD.out;omega
       have e:(i * b+(j+1)) * k=o+k:=by rw [← HOO.out, ← Nat.add_assoc,Nat.add_mul _ 1,Nat.one_mul]
       have hW3:Hid (wr.ownsRow (g6+1) 39 1 (.slice Av (o+k) cv) ((i * b+(j+1)) * k) (I8s (rowL F ((i * b+(j+1)) * k)))):=by rw [e];exact hW2
       go_wp2_with fail
       go_roundw
       case rel=>exact⟨j+1,by omega,by go_num,hA2,hW3⟩
       case measure=>simp [intOf];omega
    ·obtain rfl:j=b:=by omega
     have e:(i+1) * j * d=(i * j+j) * d:=by rw [Nat.add_mul i 1,Nat.one_mul]
     have hW3:Hid (wr.ownsRow (g6+1) 39 1 (.slice Av1 ((i * j+j) * d) cv1) ((i+1) * j * d) (I8s (rowL F ((i+1) * j * d)))):=by rw [e];exact hW1
     go_wp2_with fail
     go_roundw
     case rel=>exact⟨i+1,by omega,by go_num,hA1,hW3⟩
     case measure=>simp [intOf];omega
  ·obtain rfl:i=a:=by omega
   rw [HNN.out] at hW0
   clear s1 s2 s3
   obtain⟨-, -,⟨⟨z0,z1,z2,z3⟩,z4,z5,z6,z7⟩,⟨s1,s2,s3⟩,hbw,hsz⟩:=hA0.out
   have HBW:=hid hbw
   clear hbw
   rw [HNN.out]
   go_wp2_with fail
   refine bodyPost_ret (Kit.zaa rfl _ _ (w.heap.size+2) 0 [.int .i64 (i:Int),.int .i64 (b:Int),.int .i64 C,.slice Av0 N cv0] _ rfl (zan (by go_cell) (by go_cell) (by go_cell) (by go_cell)) Tryz.underlying27 rfl (by kernel_rfl)) rfl ?_
   refine⟨_,rfl,Kit.zah (za3 hW0.out ?_) ?_,?_⟩
   any_goals (first | omega | (simp;done) | (simp;omega))
   exact (((HBW.out.setCell (p:=⟨w.heap.size+2,0,none⟩) (by simp) _).setCell (p:=⟨w.heap.size+2,1,none⟩) (by simp) _).setCell (p:=⟨w.heap.size+2,2,none⟩) (by simp) _).setCell (p:=⟨w.heap.size+2,3,none⟩) (by simp) _
end CPool
end
end Go.Proofs.YtahekhpeomcfjaaGreatDoor
