/- -/
import Derived.Test.YtchpdhhpkljdhaaGreatDoorGD44
import Derived.Test.YtchpdhhpkljdhaaGreatDoorGD45
open Go.Value renaming int→Jj
open Go.IntKind renaming i64→Jq
open Go.Lib (hid)
open Nat (le_refl lt_of_succ_lt lt_succ_self)
set_option linter.unusedVariables false
set_option linter.unusedSimpArgs false
set_option maxRecDepth 100000
set_option maxHeartbeats 16000000
namespace Go.Proofs.YtchpdhhpkljdhaaGreatDoor
namespace CConv
end CConv
namespace CKind
end CKind
namespace CRun
end CRun
namespace CSat
end CSat
open Go Go.ChangeShapes Go.WideShapes Go.ChangeAt Go.RowKit Go.Deep
section
namespace CRun
open Plain CSat CShape CTensor CConv CKind CFix
theorem sum_both_1 (x:Nd) (hk:x.kd=1) (H W C:Int) (A:Option Addr) (n c:Nat) (zs:List Int) (hn:zs.length=n) (hz:I8b zs) (B:Option Addr) (ys ws bs:List Int) (hN:NIn x ws bs) :
  ∃ r:Res,(r.xs.length=r.m∧r.m≤1000000∧(r.er≠0→r=Res.bad r.er)∧(r.er=0→tensB r.X r.Y r.U r.m=true)∧I32s r.xs)∧(∀ w,Mem x A B zs ys ws bs w→Calls Tryz.prog 8 #[.agg x.val,.agg #[Jj Jq H,Jj Jq W,Jj Jq C,.slice A n c]] w (MAcc w r))∧∀ w,Mem x A B zs ys ws bs w→Calls Tryz.prog 9 #[.agg x.val,.agg #[Jj Jq H,Jj Jq W,Jj Jq C,.slice A n c]] w (MAcc w r):=by
 cases ht:tensB H W C n
 ·cases hf:(decide (x.K=3) && decide (x.S=1))
  ·exact⟨Res.bad (5),⟨rfl,Nat.zero_le _,fun _=>rfl,fun h0=>absurd h0 Zbc,(fun z hz=>by cases hz)⟩,fun w hM=>csum_lower x hk hf H W C A n c _ w (fun w1 hb=>CLower.lOf_bad H W C A n c (Jj Jq x.kd) (Jj Jq x.na) (Jj Jq x.nb) (.int .i8 x.Y) (.int .i32 x.m1) (Jj Jq x.s1) (.int .i8 x.z1) (.int .i32 x.m2) (Jj Jq x.s2) (.int .i8 x.z2) (.int .i8 x.lo) (.int .i8 x.hi) x.K x.S x.P x.O x.Z x.WA x.BA x.nW x.cW x.nB x.cB ht w1),fun w hM=>rsum_1 x hk H W C A n c _ w (fun w1 hb=>refOf_bad H W C A n c (Jj Jq x.kd) (Jj Jq x.na) (Jj Jq x.nb) (.int .i8 x.Y) (.int .i32 x.m1) (Jj Jq x.s1) (.int .i8 x.z1) (.int .i32 x.m2) (Jj Jq x.s2) (.int .i8 x.z2) (.int .i8 x.lo) (.int .i8 x.hi) x.K x.S x.P x.O x.Z x.WA x.BA x.nW x.cW x.nB x.cB ht w1)⟩
  ·exact⟨Res.bad (5),⟨rfl,Nat.zero_le _,fun _=>rfl,fun h0=>absurd h0 Zbc,(fun z hz=>by cases hz)⟩,fun w hM=>csum_lane x hk hf H W C A n c _ w (fun w1 hb=>CLane.lof_bad H W C A n c (Jj Jq x.kd) (Jj Jq x.na) (Jj Jq x.nb) (.int .i8 x.Y) (.int .i32 x.m1) (Jj Jq x.s1) (.int .i8 x.z1) (.int .i32 x.m2) (Jj Jq x.s2) (.int .i8 x.z2) (.int .i8 x.lo) (.int .i8 x.hi) x.K x.S x.P x.O x.Z x.WA x.BA x.nW x.cW x.nB x.cB ht w1),fun w hM=>rsum_1 x hk H W C A n c _ w (fun w1 hb=>refOf_bad H W C A n c (Jj Jq x.kd) (Jj Jq x.na) (Jj Jq x.nb) (.int .i8 x.Y) (.int .i32 x.m1) (Jj Jq x.s1) (.int .i8 x.z1) (.int .i32 x.m2) (Jj Jq x.s2) (.int .i8 x.z2) (.int .i8 x.lo) (.int .i8 x.hi) x.K x.S x.P x.O x.Z x.WA x.BA x.nW x.cW x.nB x.cB ht w1)⟩
 ·by_cases he:convE H W C x.K x.S x.P x.O x.nW x.nB=0
  ·obtain⟨hsl,hnW,hn16,hnB⟩:=convE_ok he
   obtain⟨hs0,har1,har2, -, -,hsr⟩:=za9 hsl
   obtain⟨q1,q2,q3,q4,q5,q6,q7⟩:=zac hsr
   obtain⟨-, -, -, -,c1,c2, -⟩:=zac hs0
   obtain⟨-, -,k1,k2, -⟩:=za1 har1
   obtain⟨a,ha⟩:∃ a:Nat,zad H x.K x.S x.P=(a:Int):=⟨(zad H x.K x.S x.P).toNat,by omega⟩
   obtain⟨b,hb⟩:∃ b:Nat,zad W x.K x.S x.P=(b:Int):=⟨(zad W x.K x.S x.P).toNat,by omega⟩
   obtain⟨oo,hO⟩:∃ oo:Nat,x.O=(oo:Int):=⟨x.O.toNat,by omega⟩
   obtain⟨d,hd⟩:∃ d:Nat,C=(d:Int):=⟨C.toNat,by omega⟩
   obtain⟨kk,hkk⟩:∃ kk:Nat,x.K=(kk:Int):=⟨x.K.toNat,by omega⟩
   have hN4:((a * b * oo:Nat):Int)≤1024:=by
    have:((a * b * oo:Nat):Int)=zad H x.K x.S x.P * zad W x.K x.S x.P * x.O:=by rw [ha,hb,hO];simp
    omega
   refine⟨⟨a,b,x.O,a * b * oo,CConv.rowL (CConv.gridF b oo (CConv.sumF zs ws bs H W C x.S x.P d kk x.Z)) (a * b * oo),0⟩,⟨CConv.zbx _ _,by show a * b * oo≤1000000;omega,fun h=>absurd rfl h,fun _=>tens_of (by rw [← ha, ← hb];exact hsr) (by rw [hO];simp),(fun z hz=>by obtain⟨i,_,rfl⟩:=List.mem_map.1 hz;exact wrap32_in _)⟩,fun w hM=>?_,fun w hM=>rsum_1 x hk H W C A n c _ w (fun w1 hb1=>refOf_yes H W C A zs n c hn ht hz (Jj Jq x.kd) (Jj Jq x.na) (Jj Jq x.nb) (.int .i8 x.Y) (.int .i32 x.m1) (Jj Jq x.s1) (.int .i8 x.z1) (.int .i32 x.m2) (Jj Jq x.s2) (.int .i8 x.z2) (.int .i8 x.lo) (.int .i8 x.hi) x.K x.S x.P x.O x.Z x.WA x.BA x.nW x.cW x.nB x.cB ws hN.hws hN.hwc hN.hwb bs hN.hbs hN.hb32 he a b oo d kk ha hb hO hd hkk _ rfl hN.z1 hN.z2 w1 (hM.grown hb1).1 (hM.grown hb1).2.2.1 (hM.grown hb1).2.2.2.1)⟩
   cases hf:(decide (x.K=3) && decide (x.S=1))
   ·exact csum_lower x hk hf H W C A n c _ w (fun w1 hb1=>CLower.lOf_good H W C A zs n c hn ht hz (Jj Jq x.kd) (Jj Jq x.na) (Jj Jq x.nb) (.int .i8 x.Y) (.int .i32 x.m1) (Jj Jq x.s1) (.int .i8 x.z1) (.int .i32 x.m2) (Jj Jq x.s2) (.int .i8 x.z2) (.int .i8 x.lo) (.int .i8 x.hi) x.K x.S x.P x.O x.Z x.WA x.BA x.nW x.cW x.nB x.cB ws hN.hws hN.hwc hN.hwm hN.hwb bs hN.hbs he a b oo d kk ha hb hO hd hkk _ rfl hN.z1 hN.z2 w1 (hM.grown hb1).1 (hM.grown hb1).2.2.1 (hM.grown hb1).2.2.2.1)
   ·have hf2:=hf
    simp only [Bool.and_eq_true,decide_eq_true_eq] at hf2
    obtain rfl:kk=3:=by omega
    exact csum_lane x hk hf H W C A n c _ w (fun w1 hb1=>CLane.lof_yes H W C A zs n c hn ht hz (Jj Jq x.kd) (Jj Jq x.na) (Jj Jq x.nb) (.int .i8 x.Y) (.int .i32 x.m1) (Jj Jq x.s1) (.int .i8 x.z1) (.int .i32 x.m2) (Jj Jq x.s2) (.int .i8 x.z2) (.int .i8 x.lo) (.int .i8 x.hi) x.K x.S x.P x.O x.Z x.WA x.BA x.nW x.cW x.nB x.cB ws hN.hws hN.hwc hN.hwm hN.hwb bs hN.hbs he hf2.1 hf2.2 a b oo d ha hb hO hd _ rfl hN.z1 hN.z2 w1 (hM.grown hb1).1 (hM.grown hb1).2.2.1 (hM.grown hb1).2.2.2.1)
  ·cases hf:(decide (x.K=3) && decide (x.S=1))
   ·exact⟨Res.bad (convE H W C x.K x.S x.P x.O x.nW x.nB),⟨rfl,Nat.zero_le _,fun _=>rfl,fun h0=>absurd h0 he,(fun z hz=>by cases hz)⟩,fun w hM=>csum_lower x hk hf H W C A n c _ w (fun w1 hb=>CLower.lOf_err H W C A n c (Jj Jq x.kd) (Jj Jq x.na) (Jj Jq x.nb) (.int .i8 x.Y) (.int .i32 x.m1) (Jj Jq x.s1) (.int .i8 x.z1) (.int .i32 x.m2) (Jj Jq x.s2) (.int .i8 x.z2) (.int .i8 x.lo) (.int .i8 x.hi) x.K x.S x.P x.O x.Z x.WA x.BA x.nW x.cW x.nB x.cB ht _ rfl he w1),fun w hM=>rsum_1 x hk H W C A n c _ w (fun w1 hb=>refOf_err H W C A n c (Jj Jq x.kd) (Jj Jq x.na) (Jj Jq x.nb) (.int .i8 x.Y) (.int .i32 x.m1) (Jj Jq x.s1) (.int .i8 x.z1) (.int .i32 x.m2) (Jj Jq x.s2) (.int .i8 x.z2) (.int .i8 x.lo) (.int .i8 x.hi) x.K x.S x.P x.O x.Z x.WA x.BA x.nW x.cW x.nB x.cB ht _ rfl he w1)⟩
   ·exact⟨Res.bad (convE H W C x.K x.S x.P x.O x.nW x.nB),⟨rfl,Nat.zero_le _,fun _=>rfl,fun h0=>absurd h0 he,(fun z hz=>by cases hz)⟩,fun w hM=>csum_lane x hk hf H W C A n c _ w (fun w1 hb=>CLane.lof_err H W C A n c (Jj Jq x.kd) (Jj Jq x.na) (Jj Jq x.nb) (.int .i8 x.Y) (.int .i32 x.m1) (Jj Jq x.s1) (.int .i8 x.z1) (.int .i32 x.m2) (Jj Jq x.s2) (.int .i8 x.z2) (.int .i8 x.lo) (.int .i8 x.hi) x.K x.S x.P x.O x.Z x.WA x.BA x.nW x.cW x.nB x.cB ht _ rfl he w1),fun w hM=>rsum_1 x hk H W C A n c _ w (fun w1 hb=>refOf_err H W C A n c (Jj Jq x.kd) (Jj Jq x.na) (Jj Jq x.nb) (.int .i8 x.Y) (.int .i32 x.m1) (Jj Jq x.s1) (.int .i8 x.z1) (.int .i32 x.m2) (Jj Jq x.s2) (.int .i8 x.z2) (.int .i8 x.lo) (.int .i8 x.hi) x.K x.S x.P x.O x.Z x.WA x.BA x.nW x.cW x.nB x.cB ht _ rfl he w1)⟩
theorem sum_both_2 (x:Nd) (hk:x.kd=2) (H W C:Int) (A:Option Addr) (n c:Nat) (zs:List Int) (hn:zs.length=n) (hz:I8b zs) (B:Option Addr) (ys ws bs:List Int) (hN:NIn x ws bs) :
  ∃ r:Res,(r.xs.length=r.m∧r.m≤1000000∧(r.er≠0→r=Res.bad r.er)∧(r.er=0→tensB r.X r.Y r.U r.m=true)∧I32s r.xs)∧(∀ w,Mem x A B zs ys ws bs w→Calls Tryz.prog 8 #[.agg x.val,.agg #[Jj Jq H,Jj Jq W,Jj Jq C,.slice A n c]] w (MAcc w r))∧∀ w,Mem x A B zs ys ws bs w→Calls Tryz.prog 9 #[.agg x.val,.agg #[Jj Jq H,Jj Jq W,Jj Jq C,.slice A n c]] w (MAcc w r):=by
 cases ht:tensB H W C n
 ·exact⟨Res.bad (5),⟨rfl,Nat.zero_le _,fun _=>rfl,fun h0=>absurd h0 Zbc,(fun z hz=>by cases hz)⟩,fun w hM=>csum_depth x hk H W C A n c _ w (fun w1 hb=>CDepth.dof_bad H W C A n c (Jj Jq x.kd) (Jj Jq x.na) (Jj Jq x.nb) (.int .i8 x.Y) (.int .i32 x.m1) (Jj Jq x.s1) (.int .i8 x.z1) (.int .i32 x.m2) (Jj Jq x.s2) (.int .i8 x.z2) (.int .i8 x.lo) (.int .i8 x.hi) x.K x.S x.P x.O x.Z x.WA x.BA x.nW x.cW x.nB x.cB ht w1),fun w hM=>rsum_2 x hk H W C A n c _ w (fun w1 hb=>CDepth.drefOf_bad H W C A n c (Jj Jq x.kd) (Jj Jq x.na) (Jj Jq x.nb) (.int .i8 x.Y) (.int .i32 x.m1) (Jj Jq x.s1) (.int .i8 x.z1) (.int .i32 x.m2) (Jj Jq x.s2) (.int .i8 x.z2) (.int .i8 x.lo) (.int .i8 x.hi) x.K x.S x.P x.O x.Z x.WA x.BA x.nW x.cW x.nB x.cB ht w1)⟩
 ·by_cases he:CDepth.zcw H W C x.K x.S x.P x.nW x.nB=0
  ·obtain⟨a,b,d,kk,ha,hb,hd,hkk,hN4⟩:=CDepth.dep_letters he
   have hsr:=(za9 (CDepth.depthE_ok he).1).2.2.2.2.2
   exact⟨⟨a,b,C,a * b * d,CConv.rowL (CConv.gridF b d (CDepth.sumD zs ws bs H W C x.S x.P kk x.Z)) (a * b * d),0⟩,⟨CConv.zbx _ _,by show a * b * d≤1000000;omega,fun h=>absurd rfl h,fun _=>tens_of (by rw [← ha, ← hb];exact hsr) (by rw [hd];simp),(fun z hz=>by obtain⟨i,_,rfl⟩:=List.mem_map.1 hz;exact wrap32_in _)⟩,
    fun w hM=>csum_depth x hk H W C A n c _ w (fun w1 hb1=>CDepth.dof_yes H W C A zs n c hn ht hz (Jj Jq x.kd) (Jj Jq x.na) (Jj Jq x.nb) (.int .i8 x.Y) (.int .i32 x.m1) (Jj Jq x.s1) (.int .i8 x.z1) (.int .i32 x.m2) (Jj Jq x.s2) (.int .i8 x.z2) (.int .i8 x.lo) (.int .i8 x.hi) x.K x.S x.P x.O x.Z x.WA x.BA x.nW x.cW x.nB x.cB ws hN.hws hN.hwc hN.hwb bs hN.hbs he a b d kk ha hb hd hkk _ rfl hN.z1 hN.z2 w1 (hM.grown hb1).1 (hM.grown hb1).2.2.1 (hM.grown hb1).2.2.2.1),fun w hM=>rsum_2 x hk H W C A n c _ w (fun w1 hb1=>CDepth.drefOf_yes H W C A zs n c hn ht hz (Jj Jq x.kd) (Jj Jq x.na) (Jj Jq x.nb) (.int .i8 x.Y) (.int .i32 x.m1) (Jj Jq x.s1) (.int .i8 x.z1) (.int .i32 x.m2) (Jj Jq x.s2) (.int .i8 x.z2) (.int .i8 x.lo) (.int .i8 x.hi) x.K x.S x.P x.O x.Z x.WA x.BA x.nW x.cW x.nB x.cB ws hN.hws hN.hwc hN.hwb bs hN.hbs hN.hb32 he a b d kk ha hb hd hkk _ rfl hN.z1 hN.z2 w1 (hM.grown hb1).1 (hM.grown hb1).2.2.1 (hM.grown hb1).2.2.2.1)⟩
  ·exact⟨Res.bad (CDepth.zcw H W C x.K x.S x.P x.nW x.nB),⟨rfl,Nat.zero_le _,fun _=>rfl,fun h0=>absurd h0 he,(fun z hz=>by cases hz)⟩,fun w hM=>csum_depth x hk H W C A n c _ w (fun w1 hb=>CDepth.dof_err H W C A n c (Jj Jq x.kd) (Jj Jq x.na) (Jj Jq x.nb) (.int .i8 x.Y) (.int .i32 x.m1) (Jj Jq x.s1) (.int .i8 x.z1) (.int .i32 x.m2) (Jj Jq x.s2) (.int .i8 x.z2) (.int .i8 x.lo) (.int .i8 x.hi) x.K x.S x.P x.O x.Z x.WA x.BA x.nW x.cW x.nB x.cB ht _ rfl he w1),fun w hM=>rsum_2 x hk H W C A n c _ w (fun w1 hb=>CDepth.drefOf_err H W C A n c (Jj Jq x.kd) (Jj Jq x.na) (Jj Jq x.nb) (.int .i8 x.Y) (.int .i32 x.m1) (Jj Jq x.s1) (.int .i8 x.z1) (.int .i32 x.m2) (Jj Jq x.s2) (.int .i8 x.z2) (.int .i8 x.lo) (.int .i8 x.hi) x.K x.S x.P x.O x.Z x.WA x.BA x.nW x.cW x.nB x.cB ht _ rfl he w1)⟩
theorem sum_both_3 (x:Nd) (hk:x.kd=3) (H W C:Int) (A:Option Addr) (n c:Nat) (zs:List Int) (hn:zs.length=n) (hz:I8b zs) (B:Option Addr) (ys ws bs:List Int) (hN:NIn x ws bs) :
  ∃ r:Res,(r.xs.length=r.m∧r.m≤1000000∧(r.er≠0→r=Res.bad r.er)∧(r.er=0→tensB r.X r.Y r.U r.m=true)∧I32s r.xs)∧(∀ w,Mem x A B zs ys ws bs w→Calls Tryz.prog 8 #[.agg x.val,.agg #[Jj Jq H,Jj Jq W,Jj Jq C,.slice A n c]] w (MAcc w r))∧∀ w,Mem x A B zs ys ws bs w→Calls Tryz.prog 9 #[.agg x.val,.agg #[Jj Jq H,Jj Jq W,Jj Jq C,.slice A n c]] w (MAcc w r):=by
 cases ht:tensB H W C n
 ·exact⟨Res.bad (5),⟨rfl,Nat.zero_le _,fun _=>rfl,fun h0=>absurd h0 Zbc,(fun z hz=>by cases hz)⟩,fun w hM=>csum_dense x hk H W C A n c _ w (fun w1 hb=>CDense.dof_bad H W C A n c (Jj Jq x.kd) (Jj Jq x.na) (Jj Jq x.nb) (.int .i8 x.Y) (.int .i32 x.m1) (Jj Jq x.s1) (.int .i8 x.z1) (.int .i32 x.m2) (Jj Jq x.s2) (.int .i8 x.z2) (.int .i8 x.lo) (.int .i8 x.hi) x.K x.S x.P x.O x.Z x.WA x.BA x.nW x.cW x.nB x.cB ht w1),fun w hM=>rsum_3 x hk H W C A n c _ w (fun w1 hb=>CDense.rof_bad H W C A n c (Jj Jq x.kd) (Jj Jq x.na) (Jj Jq x.nb) (.int .i8 x.Y) (.int .i32 x.m1) (Jj Jq x.s1) (.int .i8 x.z1) (.int .i32 x.m2) (Jj Jq x.s2) (.int .i8 x.z2) (.int .i8 x.lo) (.int .i8 x.hi) x.K x.S x.P x.O x.Z x.WA x.BA x.nW x.cW x.nB x.cB ht w1)⟩
 ·by_cases he:CDense.zc7 H W C x.O x.nW x.nB=0
  ·obtain⟨h1,h2,hnW,hn16,hnB⟩:=CDense.denseE_ok he
   obtain⟨-, -, -, -,o1,o2, -⟩:=zac h2
   exact⟨⟨1,1,x.O,x.nB,CConv.rowL (CDense.lineF zs ws bs n x.Z) x.nB,0⟩,⟨CConv.zbx _ _,by show x.nB≤1000000;omega,fun h=>absurd rfl h,fun _=>tens_of h2 (by rw [hnB];simp),(fun z hz=>by obtain⟨i,_,rfl⟩:=List.mem_map.1 hz;exact wrap32_in _)⟩,
    fun w hM=>csum_dense x hk H W C A n c _ w (fun w1 hb1=>CDense.dof_yes H W C A zs n c hn ht hz (Jj Jq x.kd) (Jj Jq x.na) (Jj Jq x.nb) (.int .i8 x.Y) (.int .i32 x.m1) (Jj Jq x.s1) (.int .i8 x.z1) (.int .i32 x.m2) (Jj Jq x.s2) (.int .i8 x.z2) (.int .i8 x.lo) (.int .i8 x.hi) x.K x.S x.P x.O x.Z x.WA x.BA x.nW x.cW x.nB x.cB ws hN.hws hN.hwc hN.hwb bs hN.hbs he hN.z1 hN.z2 w1 (hM.grown hb1).1 (hM.grown hb1).2.2.1 (hM.grown hb1).2.2.2.1),fun w hM=>rsum_3 x hk H W C A n c _ w (fun w1 hb1=>CDense.rof_yes H W C A zs n c hn ht hz (Jj Jq x.kd) (Jj Jq x.na) (Jj Jq x.nb) (.int .i8 x.Y) (.int .i32 x.m1) (Jj Jq x.s1) (.int .i8 x.z1) (.int .i32 x.m2) (Jj Jq x.s2) (.int .i8 x.z2) (.int .i8 x.lo) (.int .i8 x.hi) x.K x.S x.P x.O x.Z x.WA x.BA x.nW x.cW x.nB x.cB ws hN.hws hN.hwc hN.hwb bs hN.hbs hN.hb32 he hN.z1 hN.z2 w1 (hM.grown hb1).1 (hM.grown hb1).2.2.1 (hM.grown hb1).2.2.2.1)⟩
  ·exact⟨Res.bad (CDense.zc7 H W C x.O x.nW x.nB),⟨rfl,Nat.zero_le _,fun _=>rfl,fun h0=>absurd h0 he,(fun z hz=>by cases hz)⟩,fun w hM=>csum_dense x hk H W C A n c _ w (fun w1 hb=>CDense.dof_err H W C A n c (Jj Jq x.kd) (Jj Jq x.na) (Jj Jq x.nb) (.int .i8 x.Y) (.int .i32 x.m1) (Jj Jq x.s1) (.int .i8 x.z1) (.int .i32 x.m2) (Jj Jq x.s2) (.int .i8 x.z2) (.int .i8 x.lo) (.int .i8 x.hi) x.K x.S x.P x.O x.Z x.WA x.BA x.nW x.cW x.nB x.cB ht _ rfl he w1),fun w hM=>rsum_3 x hk H W C A n c _ w (fun w1 hb=>CDense.rof_err H W C A n c (Jj Jq x.kd) (Jj Jq x.na) (Jj Jq x.nb) (.int .i8 x.Y) (.int .i32 x.m1) (Jj Jq x.s1) (.int .i8 x.z1) (.int .i32 x.m2) (Jj Jq x.s2) (.int .i8 x.z2) (.int .i8 x.lo) (.int .i8 x.hi) x.K x.S x.P x.O x.Z x.WA x.BA x.nW x.cW x.nB x.cB ht _ rfl he w1)⟩
theorem sum_both (x:Nd) (H W C:Int) (A:Option Addr) (n c:Nat) (zs:List Int) (hn:zs.length=n) (hz:I8b zs) (B:Option Addr) (ys ws bs:List Int) (hN:NIn x ws bs) :
  ∃ r:Res,(r.xs.length=r.m∧r.m≤1000000∧(r.er≠0→r=Res.bad r.er)∧(r.er=0→tensB r.X r.Y r.U r.m=true)∧I32s r.xs)∧(∀ w,Mem x A B zs ys ws bs w→Calls Tryz.prog 8 #[.agg x.val,.agg #[Jj Jq H,Jj Jq W,Jj Jq C,.slice A n c]] w (MAcc w r))∧∀ w,Mem x A B zs ys ws bs w→Calls Tryz.prog 9 #[.agg x.val,.agg #[Jj Jq H,Jj Jq W,Jj Jq C,.slice A n c]] w (MAcc w r):=by
 by_cases h1:x.kd=1
 ·exact sum_both_1 x h1 H W C A n c zs hn hz B ys ws bs hN
 by_cases h2:x.kd=2
 ·exact sum_both_2 x h2 H W C A n c zs hn hz B ys ws bs hN
 by_cases h3:x.kd=3
 ·exact sum_both_3 x h3 H W C A n c zs hn hz B ys ws bs hN
 exact⟨Res.bad (6),⟨rfl,Nat.zero_le _,fun _=>rfl,fun h0=>absurd h0 Zbc,(fun z hz=>by cases hz)⟩,fun w hM=>csum_no x ⟨h1,h2,h3⟩ H W C A n c w,fun w hM=>rsum_no x ⟨h1,h2,h3⟩ H W C A n c w⟩
theorem zc5 {P:Program} {f:FuncId} {args:Array Value} {w:World} {r:Res} (h:Calls P f args w (MTen w r)):Calls P f args w (MRd w r):=h.mono fun _ _ h=>h.rd
theorem node_both_sum (x:Nd) (hk:x.kd=1∨x.kd=2∨x.kd=3) (hc0:x.checkZ=0) (H W C:Int) (A:Option Addr) (n c:Nat) (H2 W2 C2:Int) (B:Option Addr) (m d:Nat) (zs ys:List Int) (hn:zs.length=n) (hz:I8b zs) (hn6:n≤1000000) (hnc:n≤c) (hm:ys.length=m) (hzm:I8b ys) (ht:tensB H W C n=true) (ws bs:List Int) (hN:NIn x ws bs) :
  ∃ r:Res,(r.xs.length=r.m∧r.m≤1000000)∧(∀ w,Mem x A B zs ys ws bs w→Calls Tryz.prog 6 #[.agg x.val,.agg #[Jj Jq H,Jj Jq W,Jj Jq C,.slice A n c],.agg #[Jj Jq H2,Jj Jq W2,Jj Jq C2,.slice B m d]] w (MTen w r))∧∀ w,Mem x A B zs ys ws bs w→Calls Tryz.prog 7 #[.agg x.val,.agg #[Jj Jq H,Jj Jq W,Jj Jq C,.slice A n c],.agg #[Jj Jq H2,Jj Jq W2,Jj Jq C2,.slice B m d]] w (MRd w r):=by
 obtain⟨r,hG,hS,hD⟩:=sum_both x H W C A n c zs hn hz B ys ws bs hN
 obtain⟨-,hq, -⟩:=check_ok hc0
 have hr:=hq (by rcases hk with h | h | h <;> (rw [h];rfl))
 by_cases h0:r.er=0
 ·have g3:=hG.2.2.2.1 h0
  have hsE:=tens_shape g3
  refine⟨⟨r.X,r.Y,r.U,r.m,r.xs.map fun a=>heldZ a x.m1 x.s1 x.z1 x.lo x.hi,0⟩,⟨by simp [hG.1],hG.2.1⟩,fun w hM=>?_,fun w hM=>zc5 ?_⟩
  ·exact cnode_sum x hk H W C A n c H2 W2 C2 B m d ht _ w (fun w1 hb=>by have h:=zbu x hN.small w1 (hM.grown hb).2.2.2.2;rw [hc0] at h;exact h) (fun w1 hb=>csummed_ok x H W C A n c r _ h0 w1 (fun w2 hb2=>hS w2 ((hM.grown hb).grown hb2)) (fun w2 A2 c2 hb2 hrd=>CAct.aput_yes r.X r.Y r.U A2 r.xs r.m c2 hG.1 hG.2.1 hG.2.2.2.2 (Jj Jq x.kd) (Jj Jq x.na) (Jj Jq x.nb) x.K x.S x.P x.O x.Z x.Y x.WA x.BA x.nW x.cW x.nB x.cB x.m1 x.s1 x.z1 x.m2 x.s2 x.z2 x.lo x.hi (show CAct.NBd x.Z x.Y x.m1 x.z1 x.m2 x.z2 x.lo x.hi from ⟨⟨hN.z1,hN.z2⟩,hN.small.2.1,hN.hm.1,hN.hm.2.1,hN.hm.2.2.1,hN.hm.2.2.2,hN.small.2.2.1,hN.small.2.2.2⟩) g3 hr w2 hrd))
  ·exact rnode_sum x hk H W C A n c H2 W2 C2 B m d ht r _ h0 w (fun w1 hb=>by have h:=zbp x w1;rw [hc0] at h;exact h) (fun w2 hb2=>hD w2 (hM.grown hb2)) (fun w2 A2 c2 hb2 hrd=>CAct.rput_yes r.X r.Y r.U A2 r.xs r.m c2 hG.1 hG.2.1 hG.2.2.2.2 (Jj Jq x.kd) (Jj Jq x.na) (Jj Jq x.nb) x.K x.S x.P x.O x.Z x.Y x.WA x.BA x.nW x.cW x.nB x.cB x.m1 x.s1 x.z1 x.m2 x.s2 x.z2 x.lo x.hi (show CAct.NBd x.Z x.Y x.m1 x.z1 x.m2 x.z2 x.lo x.hi from ⟨⟨hN.z1,hN.z2⟩,hN.small.2.1,hN.hm.1,hN.hm.2.1,hN.hm.2.2.1,hN.hm.2.2.2,hN.small.2.2.1,hN.small.2.2.2⟩) _ rfl (by rw [zay hsE, ← tens_num g3];have:=CAct.tens_pos g3;omega) (by rw [zay hsE, ← tens_num g3]) hr w2 hrd)
 ·refine⟨Res.bad r.er,⟨rfl,Nat.zero_le _⟩,fun w hM=>?_,fun w hM=>zc5 ?_⟩
  ·exact cnode_sum x hk H W C A n c H2 W2 C2 B m d ht _ w (fun w1 hb=>by have h:=zbu x hN.small w1 (hM.grown hb).2.2.2.2;rw [hc0] at h;exact h) (fun w1 hb=>csummed_err x H W C A n c r h0 w1 (fun w2 hb2=>hS w2 ((hM.grown hb).grown hb2)))
  ·exact rnode_sume x hk H W C A n c H2 W2 C2 B m d ht r h0 w (fun w1 hb=>by have h:=zbp x w1;rw [hc0] at h;exact h) (fun w2 hb2=>hD w2 (hM.grown hb2))
theorem node_both_4 (x:Nd) (hk:x.kd=4) (hc0:x.checkZ=0) (H W C:Int) (A:Option Addr) (n c:Nat) (H2 W2 C2:Int) (B:Option Addr) (m d:Nat) (zs ys:List Int) (hn:zs.length=n) (hz:I8b zs) (hn6:n≤1000000) (hnc:n≤c) (hm:ys.length=m) (hzm:I8b ys) (ht:tensB H W C n=true) (ws bs:List Int) (hN:NIn x ws bs) :
  ∃ r:Res,(r.xs.length=r.m∧r.m≤1000000)∧(∀ w,Mem x A B zs ys ws bs w→Calls Tryz.prog 6 #[.agg x.val,.agg #[Jj Jq H,Jj Jq W,Jj Jq C,.slice A n c],.agg #[Jj Jq H2,Jj Jq W2,Jj Jq C2,.slice B m d]] w (MTen w r))∧∀ w,Mem x A B zs ys ws bs w→Calls Tryz.prog 7 #[.agg x.val,.agg #[Jj Jq H,Jj Jq W,Jj Jq C,.slice A n c],.agg #[Jj Jq H2,Jj Jq W2,Jj Jq C2,.slice B m d]] w (MRd w r):=by
 obtain⟨X,V,U,k,xs,ys2,er,hl1,hl2,hk6, -,h1,h2,h3,h4⟩:=CPool.pool_both H W C A zs n c hn hz (Jj Jq x.kd) (Jj Jq x.na) (Jj Jq x.nb) (.int .i8 x.Y) (.int .i32 x.m1) (Jj Jq x.s1) (.int .i8 x.z1) (.int .i32 x.m2) (Jj Jq x.s2) (.int .i8 x.z2) (.int .i8 x.lo) (.int .i8 x.hi) x.K x.S x.P x.O x.Z x.WA x.BA x.nW x.cW x.nB x.cB
 exact⟨⟨X,V,U,k,xs,er⟩,⟨hl1,hk6⟩,fun w hM=>cnode_4 x hk H W C A n c H2 W2 C2 B m d ht _ w (fun w1 hb=>by have h:=zbu x hN.small w1 (hM.grown hb).2.2.2.2;rw [hc0] at h;exact h) (fun w1 hb1=>h1 w1 (hM.grown hb1).1),fun w hM=>zc5 (rnode_4 x hk H W C A n c H2 W2 C2 B m d ht _ w (fun w1 hb=>by have h:=zbp x w1;rw [hc0] at h;exact h) (fun w1 hb1=>h3 w1 (hM.grown hb1).1))⟩
theorem node_both_5 (x:Nd) (hk:x.kd=5) (hc0:x.checkZ=0) (H W C:Int) (A:Option Addr) (n c:Nat) (H2 W2 C2:Int) (B:Option Addr) (m d:Nat) (zs ys:List Int) (hn:zs.length=n) (hz:I8b zs) (hn6:n≤1000000) (hnc:n≤c) (hm:ys.length=m) (hzm:I8b ys) (ht:tensB H W C n=true) (ws bs:List Int) (hN:NIn x ws bs) :
  ∃ r:Res,(r.xs.length=r.m∧r.m≤1000000)∧(∀ w,Mem x A B zs ys ws bs w→Calls Tryz.prog 6 #[.agg x.val,.agg #[Jj Jq H,Jj Jq W,Jj Jq C,.slice A n c],.agg #[Jj Jq H2,Jj Jq W2,Jj Jq C2,.slice B m d]] w (MTen w r))∧∀ w,Mem x A B zs ys ws bs w→Calls Tryz.prog 7 #[.agg x.val,.agg #[Jj Jq H,Jj Jq W,Jj Jq C,.slice A n c],.agg #[Jj Jq H2,Jj Jq W2,Jj Jq C2,.slice B m d]] w (MRd w r):=by
 obtain⟨X,V,U,k,xs,ys2,er,hl1,hl2,hk6, -,h1,h2,h3,h4⟩:=CPool.pool_both H W C A zs n c hn hz (Jj Jq x.kd) (Jj Jq x.na) (Jj Jq x.nb) (.int .i8 x.Y) (.int .i32 x.m1) (Jj Jq x.s1) (.int .i8 x.z1) (.int .i32 x.m2) (Jj Jq x.s2) (.int .i8 x.z2) (.int .i8 x.lo) (.int .i8 x.hi) x.K x.S x.P x.O x.Z x.WA x.BA x.nW x.cW x.nB x.cB
 exact⟨⟨X,V,U,k,ys2,er⟩,⟨hl2,hk6⟩,fun w hM=>cnode_5 x hk H W C A n c H2 W2 C2 B m d ht _ w (fun w1 hb=>by have h:=zbu x hN.small w1 (hM.grown hb).2.2.2.2;rw [hc0] at h;exact h) (fun w1 hb1=>h2 w1 (hM.grown hb1).1),fun w hM=>zc5 (rnode_5 x hk H W C A n c H2 W2 C2 B m d ht _ w (fun w1 hb=>by have h:=zbp x w1;rw [hc0] at h;exact h) (fun w1 hb1=>h4 w1 (hM.grown hb1).1))⟩
theorem node_both_6 (x:Nd) (hk:x.kd=6) (hc0:x.checkZ=0) (H W C:Int) (A:Option Addr) (n c:Nat) (H2 W2 C2:Int) (B:Option Addr) (m d:Nat) (zs ys:List Int) (hn:zs.length=n) (hz:I8b zs) (hn6:n≤1000000) (hnc:n≤c) (hm:ys.length=m) (hzm:I8b ys) (ht:tensB H W C n=true) (ws bs:List Int) (hN:NIn x ws bs) :
  ∃ r:Res,(r.xs.length=r.m∧r.m≤1000000)∧(∀ w,Mem x A B zs ys ws bs w→Calls Tryz.prog 6 #[.agg x.val,.agg #[Jj Jq H,Jj Jq W,Jj Jq C,.slice A n c],.agg #[Jj Jq H2,Jj Jq W2,Jj Jq C2,.slice B m d]] w (MTen w r))∧∀ w,Mem x A B zs ys ws bs w→Calls Tryz.prog 7 #[.agg x.val,.agg #[Jj Jq H,Jj Jq W,Jj Jq C,.slice A n c],.agg #[Jj Jq H2,Jj Jq W2,Jj Jq C2,.slice B m d]] w (MRd w r):=by
 obtain⟨X,V,U,k,xs,er,hl1,hk6,h1,h2, -⟩:=CJoin.joinOf_all H W C H2 W2 C2 A B zs ys n m c d hn hm hz hzm hn6 (Jj Jq x.kd) (Jj Jq x.na) (Jj Jq x.nb) x.K x.S x.P x.O x.Z x.Y x.WA x.BA x.nW x.cW x.nB x.cB x.m1 x.s1 x.z1 x.m2 x.s2 x.z2 x.lo x.hi (show CAct.NBd x.Z x.Y x.m1 x.z1 x.m2 x.z2 x.lo x.hi from ⟨⟨hN.z1,hN.z2⟩,hN.small.2.1,hN.hm.1,hN.hm.2.1,hN.hm.2.2.1,hN.hm.2.2.2,hN.small.2.2.1,hN.small.2.2.2⟩)
 exact⟨⟨X,V,U,k,xs,er⟩,⟨hl1,hk6⟩,fun w hM=>cnode_6 x hk H W C A n c H2 W2 C2 B m d ht _ w (fun w1 hb=>by have h:=zbu x hN.small w1 (hM.grown hb).2.2.2.2;rw [hc0] at h;exact h) (fun w1 hb1=>h1 w1 (hM.grown hb1).1 (hM.grown hb1).2.1),fun w hM=>zc5 (rnode_6 x hk H W C A n c H2 W2 C2 B m d ht _ w (fun w1 hb=>by have h:=zbp x w1;rw [hc0] at h;exact h) (fun w1 hb1=>h2 w1 (hM.grown hb1).1 (hM.grown hb1).2.1))⟩
theorem node_both_7 (x:Nd) (hk:x.kd=7) (hc0:x.checkZ=0) (H W C:Int) (A:Option Addr) (n c:Nat) (H2 W2 C2:Int) (B:Option Addr) (m d:Nat) (zs ys:List Int) (hn:zs.length=n) (hz:I8b zs) (hn6:n≤1000000) (hnc:n≤c) (hm:ys.length=m) (hzm:I8b ys) (ht:tensB H W C n=true) (ws bs:List Int) (hN:NIn x ws bs) :
  ∃ r:Res,(r.xs.length=r.m∧r.m≤1000000)∧(∀ w,Mem x A B zs ys ws bs w→Calls Tryz.prog 6 #[.agg x.val,.agg #[Jj Jq H,Jj Jq W,Jj Jq C,.slice A n c],.agg #[Jj Jq H2,Jj Jq W2,Jj Jq C2,.slice B m d]] w (MTen w r))∧∀ w,Mem x A B zs ys ws bs w→Calls Tryz.prog 7 #[.agg x.val,.agg #[Jj Jq H,Jj Jq W,Jj Jq C,.slice A n c],.agg #[Jj Jq H2,Jj Jq W2,Jj Jq C2,.slice B m d]] w (MRd w r):=by
 obtain⟨X,V,U,k,xs,er,hl1,hk6,h1,h2⟩:=CAct.actOf_all H W C A n c zs hn hz hn6 (Jj Jq x.kd) (Jj Jq x.na) (Jj Jq x.nb) x.K x.S x.P x.O x.Z x.Y x.WA x.BA x.nW x.cW x.nB x.cB x.m1 x.s1 x.z1 x.m2 x.s2 x.z2 x.lo x.hi (show CAct.NBd x.Z x.Y x.m1 x.z1 x.m2 x.z2 x.lo x.hi from ⟨⟨hN.z1,hN.z2⟩,hN.small.2.1,hN.hm.1,hN.hm.2.1,hN.hm.2.2.1,hN.hm.2.2.2,hN.small.2.2.1,hN.small.2.2.2⟩)
 exact⟨⟨X,V,U,k,xs,er⟩,⟨hl1,hk6⟩,fun w hM=>cnode_7 x hk H W C A n c H2 W2 C2 B m d ht _ w (fun w1 hb=>by have h:=zbu x hN.small w1 (hM.grown hb).2.2.2.2;rw [hc0] at h;exact h) (fun w1 hb1=>h1 w1 (hM.grown hb1).1),fun w hM=>zc5 (rnode_7 x hk H W C A n c H2 W2 C2 B m d ht _ w (fun w1 hb=>by have h:=zbp x w1;rw [hc0] at h;exact h) (fun w1 hb1=>h2 w1 (hM.grown hb1).1))⟩
theorem node_both_8 (x:Nd) (hk:x.kd=8) (hc0:x.checkZ=0) (H W C:Int) (A:Option Addr) (n c:Nat) (H2 W2 C2:Int) (B:Option Addr) (m d:Nat) (zs ys:List Int) (hn:zs.length=n) (hz:I8b zs) (hn6:n≤1000000) (hnc:n≤c) (hm:ys.length=m) (hzm:I8b ys) (ht:tensB H W C n=true) (ws bs:List Int) (hN:NIn x ws bs) :
  ∃ r:Res,(r.xs.length=r.m∧r.m≤1000000)∧(∀ w,Mem x A B zs ys ws bs w→Calls Tryz.prog 6 #[.agg x.val,.agg #[Jj Jq H,Jj Jq W,Jj Jq C,.slice A n c],.agg #[Jj Jq H2,Jj Jq W2,Jj Jq C2,.slice B m d]] w (MTen w r))∧∀ w,Mem x A B zs ys ws bs w→Calls Tryz.prog 7 #[.agg x.val,.agg #[Jj Jq H,Jj Jq W,Jj Jq C,.slice A n c],.agg #[Jj Jq H2,Jj Jq W2,Jj Jq C2,.slice B m d]] w (MRd w r):=by
 by_cases hp:x.P < 0∨4 < x.P
 ·exact⟨Res.bad 2,⟨rfl,Nat.zero_le _⟩,fun w hM=>cnode_8 x hk H W C A n c H2 W2 C2 B m d ht _ w (fun w1 hb=>by have h:=zbu x hN.small w1 (hM.grown hb).2.2.2.2;rw [hc0] at h;exact h) (fun w1 hb1=>(CPad.around_err H W C A n c x.P x.Z 2 (by unfold CPad.mayZ;rw [if_pos ht,if_pos hp]) Zbc w1)),fun w hM=>zc5 (rnode_8e x hk H W C A n c H2 W2 C2 B m d ht 2 Zbc w (fun w1 hb=>by have h:=zbp x w1;rw [hc0] at h;exact h) (fun w1=>CPad.refMay_to H W C A n c x.P 2 (by rw [if_pos ht,if_pos hp]) w1))⟩
 ·obtain⟨X,V,U,k,xs,er,hl1,hk6,h1,h2⟩:=CPad.around_both H W C A zs n c hn hnc ht x.P x.Z Zb3 Zb3
  exact⟨⟨X,V,U,k,xs,er⟩,⟨hl1,hk6⟩,fun w hM=>cnode_8 x hk H W C A n c H2 W2 C2 B m d ht _ w (fun w1 hb=>by have h:=zbu x hN.small w1 (hM.grown hb).2.2.2.2;rw [hc0] at h;exact h) (fun w1 hb1=>h1 w1 (hM.grown hb1).1),fun w hM=>zc5 (rnode_8 x hk H W C A n c H2 W2 C2 B m d ht _ w (fun w1 hb=>by have h:=zbp x w1;rw [hc0] at h;exact h) (fun w1=>CPad.refMay_to H W C A n c x.P 0 (by rw [if_pos ht,if_neg hp]) w1) (fun w1 hb1=>h2 w1 (hM.grown hb1).1))⟩
theorem node_both_9 (x:Nd) (hk:x.kd=9) (hc0:x.checkZ=0) (H W C:Int) (A:Option Addr) (n c:Nat) (H2 W2 C2:Int) (B:Option Addr) (m d:Nat) (zs ys:List Int) (hn:zs.length=n) (hz:I8b zs) (hn6:n≤1000000) (hnc:n≤c) (hm:ys.length=m) (hzm:I8b ys) (ht:tensB H W C n=true) (ws bs:List Int) (hN:NIn x ws bs) :
  ∃ r:Res,(r.xs.length=r.m∧r.m≤1000000)∧(∀ w,Mem x A B zs ys ws bs w→Calls Tryz.prog 6 #[.agg x.val,.agg #[Jj Jq H,Jj Jq W,Jj Jq C,.slice A n c],.agg #[Jj Jq H2,Jj Jq W2,Jj Jq C2,.slice B m d]] w (MTen w r))∧∀ w,Mem x A B zs ys ws bs w→Calls Tryz.prog 7 #[.agg x.val,.agg #[Jj Jq H,Jj Jq W,Jj Jq C,.slice A n c],.agg #[Jj Jq H2,Jj Jq W2,Jj Jq C2,.slice B m d]] w (MRd w r):=by
 exact⟨⟨1,1,n,n,zs,0⟩,⟨hn,hn6⟩,fun w hM=>cnode_9 x hk H W C A n c H2 W2 C2 B m d ht _ w (fun w1 hb=>by have h:=zbu x hN.small w1 (hM.grown hb).2.2.2.2;rw [hc0] at h;exact h) (fun w1 hb1=>CTensor.flat_yes H W C A zs n c hn hn6 ht w1 (le_refl _) (hM.grown hb1).1),fun w hM=>rnode_9 x hk H W C A n c H2 W2 C2 B m d ht zs hn6 w hM.1 (fun w1 hb=>by have h:=zbp x w1;rw [hc0] at h;exact h)⟩
theorem node_both (x:Nd) (H W C:Int) (A:Option Addr) (n c:Nat) (H2 W2 C2:Int) (B:Option Addr) (m d:Nat) (zs ys:List Int) (hn:zs.length=n) (hz:I8b zs) (hn6:n≤1000000) (hnc:n≤c) (hm:ys.length=m) (hzm:I8b ys) (ws bs:List Int) (hN:NIn x ws bs) :
  ∃ r:Res,(r.xs.length=r.m∧r.m≤1000000)∧(∀ w,Mem x A B zs ys ws bs w→Calls Tryz.prog 6 #[.agg x.val,.agg #[Jj Jq H,Jj Jq W,Jj Jq C,.slice A n c],.agg #[Jj Jq H2,Jj Jq W2,Jj Jq C2,.slice B m d]] w (MTen w r))∧∀ w,Mem x A B zs ys ws bs w→Calls Tryz.prog 7 #[.agg x.val,.agg #[Jj Jq H,Jj Jq W,Jj Jq C,.slice A n c],.agg #[Jj Jq H2,Jj Jq W2,Jj Jq C2,.slice B m d]] w (MRd w r):=by
 by_cases hc0:x.checkZ=0
 ·cases ht:tensB H W C n
  ·exact⟨Res.bad 5,⟨rfl,Nat.zero_le _⟩,fun w hM=>cnode_bad x H W C A n c H2 W2 C2 B m d ht w (fun w1 hb=>by have h:=zbu x hN.small w1 (hM.grown hb).2.2.2.2;rw [hc0] at h;exact h),fun w hM=>zc5 (rnode_bad x H W C A n c H2 W2 C2 B m d ht w (fun w1 hb=>by have h:=zbp x w1;rw [hc0] at h;exact h))⟩
  ·obtain⟨⟨k1,k9⟩, -⟩:=check_ok hc0
   have hk:(x.kd=1∨x.kd=2∨x.kd=3)∨x.kd=4∨x.kd=5∨x.kd=6∨x.kd=7∨x.kd=8∨x.kd=9:=by omega
   rcases hk with hk | hk | hk | hk | hk | hk | hk
   ·exact node_both_sum x hk hc0 H W C A n c H2 W2 C2 B m d zs ys hn hz hn6 hnc hm hzm ht ws bs hN
   ·exact node_both_4 x hk hc0 H W C A n c H2 W2 C2 B m d zs ys hn hz hn6 hnc hm hzm ht ws bs hN
   ·exact node_both_5 x hk hc0 H W C A n c H2 W2 C2 B m d zs ys hn hz hn6 hnc hm hzm ht ws bs hN
   ·exact node_both_6 x hk hc0 H W C A n c H2 W2 C2 B m d zs ys hn hz hn6 hnc hm hzm ht ws bs hN
   ·exact node_both_7 x hk hc0 H W C A n c H2 W2 C2 B m d zs ys hn hz hn6 hnc hm hzm ht ws bs hN
   ·exact node_both_8 x hk hc0 H W C A n c H2 W2 C2 B m d zs ys hn hz hn6 hnc hm hzm ht ws bs hN
   ·exact node_both_9 x hk hc0 H W C A n c H2 W2 C2 B m d zs ys hn hz hn6 hnc hm hzm ht ws bs hN
 ·exact⟨Res.bad x.checkZ,⟨rfl,Nat.zero_le _⟩,fun w hM=>cnode_err x H W C A n c H2 W2 C2 B m d _ hc0 w (fun w1 hb=>zbu x hN.small w1 (hM.grown hb).2.2.2.2),fun w hM=>zc5 (rnode_err x H W C A n c H2 W2 C2 B m d _ hc0 w (fun w1 hb=>zbp x w1))⟩
end CRun
end
section
namespace lawRunNodes
open Plain CSat CFix CShape CTensor CConv CKind CRun
theorem walk_no1 (x:Nd) (H W C:Int) (A:Option Addr) (n c:Nat) (H2 W2 C2:Int) (B:Option Addr) (m d:Nat) (hf:¬ (n≤1024∧x.nW≤2000∧x.nB≤200)) (w:World) (hT:zbv w) :
  Calls Tryz.prog 3 #[.agg x.val,.agg #[Jj Jq H,Jj Jq W,Jj Jq C,.slice A n c],.agg #[Jj Jq H2,Jj Jq W2,Jj Jq C2,.slice B m d]] w fun e w'=>e=.returned (.bool true)∧Below w.heap.size w w':=by
 have HF:Hid (∀ w,Calls Tryz.prog 4 #[.agg #[Jj Jq H,Jj Jq W,Jj Jq C,.slice A n c],.agg x.val] w fun e w'=>e=.returned (.bool false)∧Below w.heap.size w w'):=hid (fun w=>few_no H W C A n c (Jj Jq x.kd) (Jj Jq x.na) (Jj Jq x.nb) (.int .i8 x.Y) (.int .i32 x.m1) (Jj Jq x.s1) (.int .i8 x.z1) (.int .i32 x.m2) (Jj Jq x.s2) (.int .i8 x.z2) (.int .i8 x.lo) (.int .i8 x.hi) x.K x.S x.P x.O x.Z x.WA x.BA x.nW x.cW x.nB x.cB hf w)
 have HT:=hid hT
 clear hT hf
 exact Zc
theorem walk_no2 (x:Nd) (H W C:Int) (A:Option Addr) (n c:Nat) (H2 W2 C2:Int) (B:Option Addr) (m d:Nat) (hf:n≤1024∧x.nW≤2000∧x.nB≤200) (hm:1024 < m) (hm6:m≤maxLen) (w:World) (hT:zbv w) :
  Calls Tryz.prog 3 #[.agg x.val,.agg #[Jj Jq H,Jj Jq W,Jj Jq C,.slice A n c],.agg #[Jj Jq H2,Jj Jq W2,Jj Jq C2,.slice B m d]] w fun e w'=>e=.returned (.bool true)∧Below w.heap.size w w':=by
 refine Z8e ?_;intro HF
 have HT:=hid hT
 clear hT hf
 have h1:(1024:Int) < (m:Int):=by omega
 clear hm hm6
 exact Zc
theorem walk_yes (x:Nd) (H W C:Int) (A:Option Addr) (n c:Nat) (H2 W2 C2:Int) (B:Option Addr) (m d:Nat) (hf:n≤1024∧x.nW≤2000∧x.nB≤200) (hm:m≤1024) (w:World) (zs ys ws bs:List Int) (hM:Mem x A B zs ys ws bs w) (X V U:Int) (k:Nat) (xs:List Int) (er:Int) (hx:xs.length=k) (hk6:k≤1000000) (X5 V5 U5:Int) (k5:Nat) (xs5:List Int) (er5:Int) (hx5:xs5.length=k5) (hk56:k5≤1000000)
  (hN:∀ w1,Mem x A B zs ys ws bs w1→Calls Tryz.prog 6 #[.agg x.val,.agg #[Jj Jq H,Jj Jq W,Jj Jq C,.slice A n c],.agg #[Jj Jq H2,Jj Jq W2,Jj Jq C2,.slice B m d]] w1 (CAct.MadeT w1 X V U k xs (Jj Jq er)))
  (hD:∀ w1,Mem x A B zs ys ws bs w1→Calls Tryz.prog 7 #[.agg x.val,.agg #[Jj Jq H,Jj Jq W,Jj Jq C,.slice A n c],.agg #[Jj Jq H2,Jj Jq W2,Jj Jq C2,.slice B m d]] w1 fun e w'=>∃ A c,e=.returned (.tuple #[.agg #[Jj Jq X,Jj Jq V,Jj Jq U,.slice A k c],Jj Jq er])∧Kit.Rd w' w'.heap.size A (I8s xs)∧Below w1.heap.size w1 w')
  (hS:∀ w1,Mem x A B zs ys ws bs w1→Calls Tryz.prog 8 #[.agg x.val,.agg #[Jj Jq H,Jj Jq W,Jj Jq C,.slice A n c]] w1 (CConv.MadeA w1 X5 V5 U5 k5 xs5 (Jj Jq er5)))
  (hE:∀ w1,Mem x A B zs ys ws bs w1→Calls Tryz.prog 9 #[.agg x.val,.agg #[Jj Jq H,Jj Jq W,Jj Jq C,.slice A n c]] w1 (CConv.MadeA w1 X5 V5 U5 k5 xs5 (Jj Jq er5))) :
  Calls Tryz.prog 3 #[.agg x.val,.agg #[Jj Jq H,Jj Jq W,Jj Jq C,.slice A n c],.agg #[Jj Jq H2,Jj Jq W2,Jj Jq C2,.slice B m d]] w fun e w'=>e=.returned (.bool true)∧Below w.heap.size w w':=by
 refine Z8e ?_;intro HF
 have HT:=hid hM.2.2.2.2
 have HM:=hid hM
 have h1:¬ (1024:Int) < (m:Int):=by omega
 clear hM hf hm
 have HN:=hid hN
 have HD:=hid hD
 have HS:=hid hS
 have HE:=hid hE
 have HX:=hid hx
 have HX5:=hid hx5
 clear hN hD hS hE hx hx5
 go_enter Tryz.func3,Tryz.ntmps3
 go_wp2_with (first
  | (go_at_call 4
     refine Z8k ?_;intro hal
     refine (HF.out _).mono ?_
     rintro e w1 ⟨rfl,hb⟩
     refine Z6m ?_;intro hh
     refine Z79 ?_;intro TN yTN TA yTA TB yTB
     refine Z71 ?_;intro HBW
     refine Z7q ?_;intro tap0 tap1 tap2 tap3 tbp0 tbp1 tbp2 tbp3
     clear hb hh hal)
  | (go_at_call 6
     refine Z72 ?_;intro hal
     refine (HN.out _ (HM.out.grown (HBW.out.trans (hal.mono HBW.out.size)))).mono ?_
     rintro e w2 ⟨v2,rfl,ho2,hb⟩
     refine Z6r ?_;intro hh
     refine Z6j ?_;try clear TN yTN;intro TN yTN
     refine Z6l ?_;try clear TA yTA TB yTB;intro TA yTA TB yTB
     refine Z74 ?_;try clear HBW;intro HBW
     clear tap0 tap1 tap2 tap3 tbp0 tbp1 tbp2 tbp3
     obtain⟨A2,c2,rfl, -, -,hrd2⟩:=Kit.zaj ho2
     have RA2:=hid hrd2
     clear ho2 hrd2
     refine Z7q ?_;intro tap0 tap1 tap2 tap3 tbp0 tbp1 tbp2 tbp3
     clear hb hh hal)
  | (go_at_call 7
     have hal:Below w2.heap.size w2 (w2.alloc (.cells #[Jj Jq X,Jj Jq V,Jj Jq U,.slice A2 k c2] 32)):=(Below.refl _ _).alloc Zb4 _
     refine (HD.out _ (HM.out.grown (HBW.out.trans (hal.mono HBW.out.size)))).mono ?_
     rintro e w3 ⟨A3,c3,rfl,hrd3,hb⟩
     refine Z8c ?_;intro hh
     have qT1:=(zav X V U A2 k c2 32) w2
     try simp only [World.size_alloc] at qT1
     have T1:=hid (qT1.below Zb9 hb)
     have yT1:w2.heap.size < w3.heap.size:=by have:=hb.size;simp at this;omega
     clear qT1
     refine Z6j ?_;try clear TN yTN;intro TN yTN
     refine Z6l ?_;try clear TA yTA TB yTB;intro TA yTA TB yTB
     replace RA2:=hid ((RA2.out.below hh).more hh.size)
     refine Z74 ?_;try clear HBW;intro HBW
     clear tap0 tap1 tap2 tap3 tbp0 tbp1 tbp2 tbp3
     have RA3:=hid hrd3
     clear hrd3
     refine Z7q ?_;intro tap0 tap1 tap2 tap3 tbp0 tbp1 tbp2 tbp3
     obtain⟨t1p0,t1p1,t1p2,t1p3⟩:=T1.out
     clear hb hh hal)
  | (go_at_call 8
     have hal:Below w3.heap.size w3 (w3.alloc (.cells #[Jj Jq X,Jj Jq V,Jj Jq U,.slice A3 k c3] 32)):=(Below.refl _ _).alloc Zb4 _
     refine (HS.out _ (HM.out.grown (HBW.out.trans (hal.mono HBW.out.size)))).mono ?_
     rintro e w4 ⟨v4,rfl,ho4,hb⟩
     have hh:Below w3.heap.size w3 w4:=hal.trans (hb.mono hal.size)
     have qT2:=(zav X V U A3 k c3 32) w3
     try simp only [World.size_alloc] at qT2
     have T2:=hid (qT2.below Zb9 hb)
     have yT2:w3.heap.size < w4.heap.size:=by have:=hb.size;simp at this;omega
     clear qT2
     refine Z6j ?_;try clear TN yTN;intro TN yTN
     refine Z6l ?_;try clear TA yTA TB yTB;intro TA yTA TB yTB
     replace T1:=hid (T1.out.below yT1 hh)
     replace yT1:=Nat.lt_of_lt_of_le yT1 hh.size
     replace RA2:=hid ((RA2.out.below hh).more hh.size)
     replace RA3:=hid ((RA3.out.below hh).more hh.size)
     refine Z74 ?_;try clear HBW;intro HBW
     clear tap0 tap1 tap2 tap3 tbp0 tbp1 tbp2 tbp3 t1p0 t1p1 t1p2 t1p3
     obtain⟨A4,c4,rfl, -, -,hrd4⟩:=Kit.zaj ho4
     have RA4:=hid hrd4
     clear ho4 hrd4
     refine Z7q ?_;intro tap0 tap1 tap2 tap3 tbp0 tbp1 tbp2 tbp3
     obtain⟨t1p0,t1p1,t1p2,t1p3⟩:=T1.out
     obtain⟨t2p0,t2p1,t2p2,t2p3⟩:=T2.out
     clear hb hh hal)
  | (go_at_call 9
     have hal:Below w4.heap.size w4 (w4.alloc (.cells #[Jj Jq X5,Jj Jq V5,Jj Jq U5,.slice A4 k5 c4] 41)):=(Below.refl _ _).alloc Zb4 _
     refine (HE.out _ (HM.out.grown (HBW.out.trans (hal.mono HBW.out.size)))).mono ?_
     rintro e w5 ⟨v5,rfl,ho5,hb⟩
     have hh:Below w4.heap.size w4 w5:=hal.trans (hb.mono hal.size)
     have qT3:=(zav X5 V5 U5 A4 k5 c4 41) w4
     try simp only [World.size_alloc] at qT3
     have T3:=hid (qT3.below Zb9 hb)
     have yT3:w4.heap.size < w5.heap.size:=by have:=hb.size;simp at this;omega
     clear qT3
     refine Z6j ?_;try clear TN yTN;intro TN yTN
     refine Z6l ?_;try clear TA yTA TB yTB;intro TA yTA TB yTB
     refine Z9d ?_;try clear T1 yT1 T2 yT2;intro T1 yT1 T2 yT2
     refine Z9h ?_;try clear RA2 RA3 RA4;intro RA2 RA3 RA4
     refine Z74 ?_;try clear HBW;intro HBW
     clear tap0 tap1 tap2 tap3 tbp0 tbp1 tbp2 tbp3 t1p0 t1p1 t1p2 t1p3 t2p0 t2p1 t2p2 t2p3
     obtain⟨A5,c5,rfl, -, -,hrd5⟩:=Kit.zaj ho5
     have RA5:=hid hrd5
     clear ho5 hrd5
     refine Z7q ?_;intro tap0 tap1 tap2 tap3 tbp0 tbp1 tbp2 tbp3
     obtain⟨t1p0,t1p1,t1p2,t1p3⟩:=T1.out
     obtain⟨t2p0,t2p1,t2p2,t2p3⟩:=T2.out
     obtain⟨t3p0,t3p1,t3p2,t3p3⟩:=T3.out
     clear hb hh hal)
  | (go_at_call 10
     have hal:Below w5.heap.size w5 (w5.alloc (.cells #[Jj Jq X5,Jj Jq V5,Jj Jq U5,.slice A5 k5 c5] 41)):=(Below.refl _ _).alloc Zb4 _
     refine (refSame_to X V U A2 A3 xs xs k c2 c3 HX.out HX.out hk6 true Zb7 _ hal.size hal.size (RA2.out.below hal) (RA3.out.below hal)).mono ?_
     rintro e w6 ⟨rfl,hb⟩
     have hh:Below w5.heap.size w5 w6:=hal.trans (hb.mono hal.size)
     have qT4:=(zav X5 V5 U5 A5 k5 c5 41) w5
     try simp only [World.size_alloc] at qT4
     have T4:=hid (qT4.below Zb9 hb)
     have yT4:w5.heap.size < w6.heap.size:=by have:=hb.size;simp at this;omega
     clear qT4
     refine Z6j ?_;try clear TN yTN;intro TN yTN
     refine Z6l ?_;try clear TA yTA TB yTB;intro TA yTA TB yTB
     refine Z9d ?_;try clear T1 yT1 T2 yT2;intro T1 yT1 T2 yT2
     replace T3:=hid (T3.out.below yT3 hh)
     replace yT3:=Nat.lt_of_lt_of_le yT3 hh.size
     refine Z9h ?_;try clear RA2 RA3 RA4;intro RA2 RA3 RA4
     replace RA5:=hid ((RA5.out.below hh).more hh.size)
     refine Z74 ?_;try clear HBW;intro HBW
     clear tap0 tap1 tap2 tap3 tbp0 tbp1 tbp2 tbp3 t1p0 t1p1 t1p2 t1p3 t2p0 t2p1 t2p2 t2p3 t3p0 t3p1 t3p2 t3p3
     refine Z7q ?_;intro tap0 tap1 tap2 tap3 tbp0 tbp1 tbp2 tbp3
     obtain⟨t1p0,t1p1,t1p2,t1p3⟩:=T1.out
     obtain⟨t2p0,t2p1,t2p2,t2p3⟩:=T2.out
     obtain⟨t3p0,t3p1,t3p2,t3p3⟩:=T3.out
     obtain⟨t4p0,t4p1,t4p2,t4p3⟩:=T4.out
     clear hb hh hal)
  | (go_at_call 11
     have hal:Below w6.heap.size w6 w6:=Below.refl _ _
     refine (sameA_to X5 V5 U5 A4 A5 xs5 k5 c4 c5 HX5.out hk56 _ hal.size hal.size (RA4.out.below hal) (RA5.out.below hal)).mono ?_
     rintro e w7 ⟨rfl,hb⟩
     have hh:Below w6.heap.size w6 w7:=hal.trans (hb.mono hal.size)
     refine Z6j ?_;try clear TN yTN;intro TN yTN
     refine Z6l ?_;try clear TA yTA TB yTB;intro TA yTA TB yTB
     refine Z9d ?_;try clear T1 yT1 T2 yT2;intro T1 yT1 T2 yT2
     replace T3:=hid (T3.out.below yT3 hh)
     replace yT3:=Nat.lt_of_lt_of_le yT3 hh.size
     replace T4:=hid (T4.out.below yT4 hh)
     replace yT4:=Nat.lt_of_lt_of_le yT4 hh.size
     refine Z9h ?_;try clear RA2 RA3 RA4;intro RA2 RA3 RA4
     replace RA5:=hid ((RA5.out.below hh).more hh.size)
     refine Z74 ?_;try clear HBW;intro HBW
     clear tap0 tap1 tap2 tap3 tbp0 tbp1 tbp2 tbp3 t1p0 t1p1 t1p2 t1p3 t2p0 t2p1 t2p2 t2p3 t3p0 t3p1 t3p2 t3p3 t4p0 t4p1 t4p2 t4p3
     refine Z7q ?_;intro tap0 tap1 tap2 tap3 tbp0 tbp1 tbp2 tbp3
     obtain⟨t1p0,t1p1,t1p2,t1p3⟩:=T1.out
     obtain⟨t2p0,t2p1,t2p2,t2p3⟩:=T2.out
     obtain⟨t3p0,t3p1,t3p2,t3p3⟩:=T3.out
     obtain⟨t4p0,t4p1,t4p2,t4p3⟩:=T4.out
     clear hb hh hal)
  | (go_at_call 5
     have hal:Below w7.heap.size w7 w7:=Below.refl _ _
     refine (known26 _ (HT.out.grown HBW.out)).mono ?_
     rintro e w8 ⟨rfl,hb⟩
     have hh:Below w7.heap.size w7 w8:=hal.trans (hb.mono hal.size)
     refine Z6j ?_;try clear TN yTN;intro TN yTN
     refine Z6l ?_;try clear TA yTA TB yTB;intro TA yTA TB yTB
     refine Z9d ?_;try clear T1 yT1 T2 yT2;intro T1 yT1 T2 yT2
     replace T3:=hid (T3.out.below yT3 hh)
     replace yT3:=Nat.lt_of_lt_of_le yT3 hh.size
     replace T4:=hid (T4.out.below yT4 hh)
     replace yT4:=Nat.lt_of_lt_of_le yT4 hh.size
     refine Z9h ?_;try clear RA2 RA3 RA4;intro RA2 RA3 RA4
     replace RA5:=hid ((RA5.out.below hh).more hh.size)
     refine Z74 ?_;try clear HBW;intro HBW
     clear tap0 tap1 tap2 tap3 tbp0 tbp1 tbp2 tbp3 t1p0 t1p1 t1p2 t1p3 t2p0 t2p1 t2p2 t2p3 t3p0 t3p1 t3p2 t3p3 t4p0 t4p1 t4p2 t4p3
     refine Z7q ?_;intro tap0 tap1 tap2 tap3 tbp0 tbp1 tbp2 tbp3
     obtain⟨t1p0,t1p1,t1p2,t1p3⟩:=T1.out
     obtain⟨t2p0,t2p1,t2p2,t2p3⟩:=T2.out
     obtain⟨t3p0,t3p1,t3p2,t3p3⟩:=T3.out
     obtain⟨t4p0,t4p1,t4p2,t4p3⟩:=T4.out
     clear hb hh hal)
  | (refine za4 rfl _ rfl w.heap.size x rfl (show NdAt w.heap.size x _ from (NdAt.new x 28 w).below (B:=w.heap.size+1) Zb3 (((Below.refl _ _).alloc Zb7 _).alloc Zbj _)) ?_)
  | (refine za4 rfl _ rfl w.heap.size x rfl TN.out ?_)
  | (refine za4 rfl _ rfl w.heap.size x rfl (TN.out.below yTN ((Below.refl _ _).alloc (le_refl _) _)) ?_))
 go_ret
 exact⟨by simp,HBW.out⟩
end lawRunNodes
end
end Go.Proofs.YtchpdhhpkljdhaaGreatDoor
