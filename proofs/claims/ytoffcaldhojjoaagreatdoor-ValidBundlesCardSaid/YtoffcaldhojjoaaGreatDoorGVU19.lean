/- -/
import Derived.Test.YtoffcaldhojjoaaGreatDoorGVU17
import Derived.Test.YtoffcaldhojjoaaGreatDoorGVU18
open Go.Lib (hid)
open Nat (le_refl lt_of_succ_lt lt_succ_self)
set_option linter.unusedVariables false
set_option linter.unusedSimpArgs false
set_option maxRecDepth 100000
set_option maxHeartbeats 16000000
namespace Go.Proofs.YtoffcaldhojjoaaGreatDoor
namespace CConv
end CConv
namespace CDense
end CDense
namespace CFix
end CFix
namespace CSat
end CSat
namespace CTensor
end CTensor
open Go Go.ChangeShapes Go.WideShapes Go.ChangeAt Go.RowKit Go.Deep
section
namespace CKind
open Plain CSat CFix CShape CTensor CConv CDense CDepth
def Nd.shE (x:Nd) (H W C H2 W2 C2:Int):Int :=
 if x.kd=1 then convE H W C x.K x.S x.P x.O x.nW x.nB else if x.kd=2 then depthE H W C x.K x.S x.P x.nW x.nB else if x.kd=3 then zcb H W C x.O x.nW x.nB else if x.kd=4∨x.kd=5 then za1 H W C x.K x.S x.P C
 else if x.kd < 1∨9 < x.kd then 6 else if zae H W C=false then 5 else if x.kd=6∧(H == H2 && (W == W2 && C == C2))=false then 5 else if x.kd=8 then (if x.P < 0∨4 < x.P then 2 else if zae (H+2 * x.P) (W+2 * x.P) C=false then 5 else 0) else 0
def Nd.shV (x:Nd) (H W C H2 W2 C2:Int):Array Value :=
 if x.kd=1 then convS H W C x.K x.S x.P x.O x.nW x.nB else if x.kd=2 then depthS H W C x.K x.S x.P x.nW x.nB else if x.kd=3 then zcc H W C x.O x.nW x.nB else if x.kd=4∨x.kd=5 then zaw H W C x.K x.S x.P C
 else if x.shE H W C H2 W2 C2≠0 then #[.int .i64 0,.int .i64 0,.int .i64 0] else if x.kd=9 then #[.int .i64 1,.int .i64 1,.int .i64 (zam H W C)] else if x.kd=8 then #[.int .i64 (H+2 * x.P),.int .i64 (W+2 * x.P),.int .i64 C] else #[.int .i64 H,.int .i64 W,.int .i64 C]
theorem Nd.sh_three (x:Nd) (H W C H2 W2 C2:Int):∃ u0 u1 u2,x.shV H W C H2 W2 C2=#[.int .i64 u0,.int .i64 u1,.int .i64 u2]:=by
 unfold Nd.shV convS depthS zcc zaw
 repeat' split
 all_goals exact⟨_,_,_,rfl⟩
def ShapeIs (f:FuncId) (x:Nd):Prop:=∀ (H W C H2 W2 C2 e u0 u1 u2:Int) (_:x.shE H W C H2 W2 C2=e) (_:x.shV H W C H2 W2 C2=#[.int .i64 u0,.int .i64 u1,.int .i64 u2]) (w:World),
 Calls Tryz.prog f #[.agg x.val,.agg #[.int .i64 H,.int .i64 W,.int .i64 C],.agg #[.int .i64 H2,.int .i64 W2,.int .i64 C2]] w fun r w'=>r=.returned (.tuple #[.agg #[.int .i64 u0,.int .i64 u1,.int .i64 u2],.int .i64 e])∧Below w.heap.size w w'
theorem za5 {a b c d e f:Int} (h:(#[.int .i64 a,.int .i64 b,.int .i64 c]:Array Value)=#[.int .i64 d,.int .i64 e,.int .i64 f]):a=d∧b=e∧c=f:=by simpa using h
theorem refShape_to (x:Nd):ShapeIs 24 x:=by
 intro H W C H2 W2 C2 e u0 u1 u2 he hv w
 obtain⟨kd,na,nb,K,S,P,O,Z,Y,WA,nW,cW,BA,nB,cB,m1,s1,z1,m2,s2,z2,lo,hi⟩:=x
 unfold Nd.val
 by_cases h1:kd < 1
 ·have e6:(⟨kd,na,nb,K,S,P,O,Z,Y,WA,nW,cW,BA,nB,cB,m1,s1,z1,m2,s2,z2,lo,hi⟩:Nd).shE H W C H2 W2 C2=6:=by
   simp only [Nd.shE,show ¬ kd=1 by omega,show ¬ kd=2 by omega,show ¬ kd=3 by omega,show ¬ kd=4 by omega,show ¬ kd=5 by omega,h1,if_false,false_or,true_or,if_true]
  unfold Nd.shV at hv
  rw [e6] at he hv
  subst he
  simp only [show ¬ kd=1 by omega,show ¬ kd=2 by omega,show ¬ kd=3 by omega,show ¬ kd=4 by omega,show ¬ kd=5 by omega,if_false,false_or] at hv
  obtain⟨rfl,rfl,rfl⟩:=za5 hv
  exact rks_lo H W C H2 W2 C2 na nb K S P O Z Y WA nW cW BA nB cB m1 s1 z1 m2 s2 z2 lo hi kd h1 w
 by_cases h9:9 < kd
 ·have e6:(⟨kd,na,nb,K,S,P,O,Z,Y,WA,nW,cW,BA,nB,cB,m1,s1,z1,m2,s2,z2,lo,hi⟩:Nd).shE H W C H2 W2 C2=6:=by
   simp only [Nd.shE,show ¬ kd=1 by omega,show ¬ kd=2 by omega,show ¬ kd=3 by omega,show ¬ kd=4 by omega,show ¬ kd=5 by omega,h9,if_false,false_or,or_true,if_true]
  unfold Nd.shV at hv
  rw [e6] at he hv
  subst he
  simp only [show ¬ kd=1 by omega,show ¬ kd=2 by omega,show ¬ kd=3 by omega,show ¬ kd=4 by omega,show ¬ kd=5 by omega,if_false,false_or] at hv
  obtain⟨rfl,rfl,rfl⟩:=za5 hv
  exact rks_hi H W C H2 W2 C2 na nb K S P O Z Y WA nW cW BA nB cB m1 s1 z1 m2 s2 z2 lo hi kd h9 w
 have hk:kd=1∨kd=2∨kd=3∨kd=4∨kd=5∨kd=6∨kd=7∨kd=8∨kd=9:=by omega
 clear h1 h9
 rcases hk with rfl | rfl | rfl | rfl | rfl | rfl | rfl | rfl | rfl
 ·exact rks1 H W C H2 W2 C2 na nb K S P O Z Y WA nW cW BA nB cB m1 s1 z1 m2 s2 z2 lo hi e u0 u1 u2 he hv w
 ·exact rks2 H W C H2 W2 C2 na nb K S P O Z Y WA nW cW BA nB cB m1 s1 z1 m2 s2 z2 lo hi e u0 u1 u2 he hv w
 ·exact rks3 H W C H2 W2 C2 na nb K S P O Z Y WA nW cW BA nB cB m1 s1 z1 m2 s2 z2 lo hi e u0 u1 u2 he hv w
 ·exact rks4 H W C H2 W2 C2 na nb K S P O Z Y WA nW cW BA nB cB m1 s1 z1 m2 s2 z2 lo hi e u0 u1 u2 he hv w
 ·exact rks5 H W C H2 W2 C2 na nb K S P O Z Y WA nW cW BA nB cB m1 s1 z1 m2 s2 z2 lo hi e u0 u1 u2 he hv w
 ·cases hs:zae H W C
  ·have ez:(⟨6,na,nb,K,S,P,O,Z,Y,WA,nW,cW,BA,nB,cB,m1,s1,z1,m2,s2,z2,lo,hi⟩:Nd).shE H W C H2 W2 C2=5:=by simp [Nd.shE,hs]
   unfold Nd.shV at hv
   rw [ez] at he hv
   subst he
   simp only [show ¬ (6:Int)=1 by omega,show ¬ (6:Int)=2 by omega,show ¬ (6:Int)=3 by omega,show ¬ (6:Int)=4 by omega,show ¬ (6:Int)=5 by omega,ne_eq,not_true_eq_false,not_false_eq_true,if_false,if_true,false_or,or_false,show ¬ (0:Int)≠0 by omega,show (2:Int)≠0 by omega,show (5:Int)≠0 by omega,show ¬ (6:Int)=8 by omega,show ¬ (6:Int)=9 by omega] at hv
   obtain⟨rfl,rfl,rfl⟩:=za5 hv
   exact rks6_no H W C H2 W2 C2 na nb K S P O Z Y WA nW cW BA nB cB m1 s1 z1 m2 s2 z2 lo hi hs w
  ·cases hd:(H == H2 && (W == W2 && C == C2))
   ·have ez:(⟨6,na,nb,K,S,P,O,Z,Y,WA,nW,cW,BA,nB,cB,m1,s1,z1,m2,s2,z2,lo,hi⟩:Nd).shE H W C H2 W2 C2=5:=by simp [Nd.shE,hs,hd]
    unfold Nd.shV at hv
    rw [ez] at he hv
    subst he
    simp only [show ¬ (6:Int)=1 by omega,show ¬ (6:Int)=2 by omega,show ¬ (6:Int)=3 by omega,show ¬ (6:Int)=4 by omega,show ¬ (6:Int)=5 by omega,ne_eq,not_true_eq_false,not_false_eq_true,if_false,if_true,false_or,or_false,show ¬ (0:Int)≠0 by omega,show (2:Int)≠0 by omega,show (5:Int)≠0 by omega,show ¬ (6:Int)=8 by omega,show ¬ (6:Int)=9 by omega] at hv
    obtain⟨rfl,rfl,rfl⟩:=za5 hv
    exact rks6_ne H W C H2 W2 C2 na nb K S P O Z Y WA nW cW BA nB cB m1 s1 z1 m2 s2 z2 lo hi hs hd w
   ·have ez:(⟨6,na,nb,K,S,P,O,Z,Y,WA,nW,cW,BA,nB,cB,m1,s1,z1,m2,s2,z2,lo,hi⟩:Nd).shE H W C H2 W2 C2=0:=by simp [Nd.shE,hs,hd]
    unfold Nd.shV at hv
    rw [ez] at he hv
    subst he
    simp only [show ¬ (6:Int)=1 by omega,show ¬ (6:Int)=2 by omega,show ¬ (6:Int)=3 by omega,show ¬ (6:Int)=4 by omega,show ¬ (6:Int)=5 by omega,ne_eq,not_true_eq_false,not_false_eq_true,if_false,if_true,false_or,or_false,show ¬ (0:Int)≠0 by omega,show (2:Int)≠0 by omega,show (5:Int)≠0 by omega,show ¬ (6:Int)=8 by omega,show ¬ (6:Int)=9 by omega] at hv
    obtain⟨rfl,rfl,rfl⟩:=za5 hv
    exact rks6_eq H W C H2 W2 C2 na nb K S P O Z Y WA nW cW BA nB cB m1 s1 z1 m2 s2 z2 lo hi hs hd w
 ·cases hs:zae H W C
  ·have ez:(⟨7,na,nb,K,S,P,O,Z,Y,WA,nW,cW,BA,nB,cB,m1,s1,z1,m2,s2,z2,lo,hi⟩:Nd).shE H W C H2 W2 C2=5:=by simp [Nd.shE,hs]
   unfold Nd.shV at hv
   rw [ez] at he hv
   subst he
   simp only [show ¬ (7:Int)=1 by omega,show ¬ (7:Int)=2 by omega,show ¬ (7:Int)=3 by omega,show ¬ (7:Int)=4 by omega,show ¬ (7:Int)=5 by omega,ne_eq,not_true_eq_false,not_false_eq_true,if_false,if_true,false_or,or_false,show ¬ (0:Int)≠0 by omega,show (2:Int)≠0 by omega,show (5:Int)≠0 by omega,show ¬ (7:Int)=8 by omega,show ¬ (7:Int)=9 by omega] at hv
   obtain⟨rfl,rfl,rfl⟩:=za5 hv
   exact rks7_no H W C H2 W2 C2 na nb K S P O Z Y WA nW cW BA nB cB m1 s1 z1 m2 s2 z2 lo hi hs w
  ·have ez:(⟨7,na,nb,K,S,P,O,Z,Y,WA,nW,cW,BA,nB,cB,m1,s1,z1,m2,s2,z2,lo,hi⟩:Nd).shE H W C H2 W2 C2=0:=by simp [Nd.shE,hs]
   unfold Nd.shV at hv
   rw [ez] at he hv
   subst he
   simp only [show ¬ (7:Int)=1 by omega,show ¬ (7:Int)=2 by omega,show ¬ (7:Int)=3 by omega,show ¬ (7:Int)=4 by omega,show ¬ (7:Int)=5 by omega,ne_eq,not_true_eq_false,not_false_eq_true,if_false,if_true,false_or,or_false,show ¬ (0:Int)≠0 by omega,show (2:Int)≠0 by omega,show (5:Int)≠0 by omega,show ¬ (7:Int)=8 by omega,show ¬ (7:Int)=9 by omega] at hv
   obtain⟨rfl,rfl,rfl⟩:=za5 hv
   exact rks7_yes H W C H2 W2 C2 na nb K S P O Z Y WA nW cW BA nB cB m1 s1 z1 m2 s2 z2 lo hi hs w
 ·cases hs:zae H W C
  ·have ez:(⟨8,na,nb,K,S,P,O,Z,Y,WA,nW,cW,BA,nB,cB,m1,s1,z1,m2,s2,z2,lo,hi⟩:Nd).shE H W C H2 W2 C2=5:=by simp [Nd.shE,hs]
   unfold Nd.shV at hv
   rw [ez] at he hv
   subst he
   simp only [show ¬ (8:Int)=1 by omega,show ¬ (8:Int)=2 by omega,show ¬ (8:Int)=3 by omega,show ¬ (8:Int)=4 by omega,show ¬ (8:Int)=5 by omega,ne_eq,not_true_eq_false,not_false_eq_true,if_false,if_true,false_or,or_false,show ¬ (0:Int)≠0 by omega,show (2:Int)≠0 by omega,show (5:Int)≠0 by omega,show ¬ (8:Int)=9 by omega] at hv
   obtain⟨rfl,rfl,rfl⟩:=za5 hv
   exact rks8_no H W C H2 W2 C2 na nb K S P O Z Y WA nW cW BA nB cB m1 s1 z1 m2 s2 z2 lo hi hs w
  ·by_cases p1:P < 0
   ·have ez:(⟨8,na,nb,K,S,P,O,Z,Y,WA,nW,cW,BA,nB,cB,m1,s1,z1,m2,s2,z2,lo,hi⟩:Nd).shE H W C H2 W2 C2=2:=by simp [Nd.shE,hs,p1]
    unfold Nd.shV at hv
    rw [ez] at he hv
    subst he
    simp only [show ¬ (8:Int)=1 by omega,show ¬ (8:Int)=2 by omega,show ¬ (8:Int)=3 by omega,show ¬ (8:Int)=4 by omega,show ¬ (8:Int)=5 by omega,ne_eq,not_true_eq_false,not_false_eq_true,if_false,if_true,false_or,or_false,show ¬ (0:Int)≠0 by omega,show (2:Int)≠0 by omega,show (5:Int)≠0 by omega,show ¬ (8:Int)=9 by omega] at hv
    obtain⟨rfl,rfl,rfl⟩:=za5 hv
    exact rks8_lo H W C H2 W2 C2 na nb K S P O Z Y WA nW cW BA nB cB m1 s1 z1 m2 s2 z2 lo hi hs p1 w
   by_cases p2:4 < P
   ·have ez:(⟨8,na,nb,K,S,P,O,Z,Y,WA,nW,cW,BA,nB,cB,m1,s1,z1,m2,s2,z2,lo,hi⟩:Nd).shE H W C H2 W2 C2=2:=by simp [Nd.shE,hs,p2]
    unfold Nd.shV at hv
    rw [ez] at he hv
    subst he
    simp only [show ¬ (8:Int)=1 by omega,show ¬ (8:Int)=2 by omega,show ¬ (8:Int)=3 by omega,show ¬ (8:Int)=4 by omega,show ¬ (8:Int)=5 by omega,ne_eq,not_true_eq_false,not_false_eq_true,if_false,if_true,false_or,or_false,show ¬ (0:Int)≠0 by omega,show (2:Int)≠0 by omega,show (5:Int)≠0 by omega,show ¬ (8:Int)=9 by omega] at hv
    obtain⟨rfl,rfl,rfl⟩:=za5 hv
    exact rks8_hi H W C H2 W2 C2 na nb K S P O Z Y WA nW cW BA nB cB m1 s1 z1 m2 s2 z2 lo hi hs p2 w
   cases ht:zae (H+2 * P) (W+2 * P) C
   ·have ez:(⟨8,na,nb,K,S,P,O,Z,Y,WA,nW,cW,BA,nB,cB,m1,s1,z1,m2,s2,z2,lo,hi⟩:Nd).shE H W C H2 W2 C2=5:=by simp [Nd.shE,hs,p1,p2,ht]
    unfold Nd.shV at hv
    rw [ez] at he hv
    subst he
    simp only [show ¬ (8:Int)=1 by omega,show ¬ (8:Int)=2 by omega,show ¬ (8:Int)=3 by omega,show ¬ (8:Int)=4 by omega,show ¬ (8:Int)=5 by omega,ne_eq,not_true_eq_false,not_false_eq_true,if_false,if_true,false_or,or_false,show ¬ (0:Int)≠0 by omega,show (2:Int)≠0 by omega,show (5:Int)≠0 by omega,show ¬ (8:Int)=9 by omega] at hv
    obtain⟨rfl,rfl,rfl⟩:=za5 hv
    exact rks8_bad H W C H2 W2 C2 na nb K S P O Z Y WA nW cW BA nB cB m1 s1 z1 m2 s2 z2 lo hi hs (by omega) (by omega) ht w
   ·have ez:(⟨8,na,nb,K,S,P,O,Z,Y,WA,nW,cW,BA,nB,cB,m1,s1,z1,m2,s2,z2,lo,hi⟩:Nd).shE H W C H2 W2 C2=0:=by simp [Nd.shE,hs,p1,p2,ht]
    unfold Nd.shV at hv
    rw [ez] at he hv
    subst he
    simp only [show ¬ (8:Int)=1 by omega,show ¬ (8:Int)=2 by omega,show ¬ (8:Int)=3 by omega,show ¬ (8:Int)=4 by omega,show ¬ (8:Int)=5 by omega,ne_eq,not_true_eq_false,not_false_eq_true,if_false,if_true,false_or,or_false,show ¬ (0:Int)≠0 by omega,show (2:Int)≠0 by omega,show (5:Int)≠0 by omega,show ¬ (8:Int)=9 by omega] at hv
    obtain⟨rfl,rfl,rfl⟩:=za5 hv
    exact rks8_ok H W C H2 W2 C2 na nb K S P O Z Y WA nW cW BA nB cB m1 s1 z1 m2 s2 z2 lo hi hs (by omega) (by omega) ht w
 ·cases hs:zae H W C
  ·have ez:(⟨9,na,nb,K,S,P,O,Z,Y,WA,nW,cW,BA,nB,cB,m1,s1,z1,m2,s2,z2,lo,hi⟩:Nd).shE H W C H2 W2 C2=5:=by simp [Nd.shE,hs]
   unfold Nd.shV at hv
   rw [ez] at he hv
   subst he
   simp only [show ¬ (9:Int)=1 by omega,show ¬ (9:Int)=2 by omega,show ¬ (9:Int)=3 by omega,show ¬ (9:Int)=4 by omega,show ¬ (9:Int)=5 by omega,ne_eq,not_true_eq_false,not_false_eq_true,if_false,if_true,false_or,or_false,show ¬ (0:Int)≠0 by omega,show (2:Int)≠0 by omega,show (5:Int)≠0 by omega,show ¬ (9:Int)=8 by omega] at hv
   obtain⟨rfl,rfl,rfl⟩:=za5 hv
   exact rks9_no H W C H2 W2 C2 na nb K S P O Z Y WA nW cW BA nB cB m1 s1 z1 m2 s2 z2 lo hi hs w
  ·have ez:(⟨9,na,nb,K,S,P,O,Z,Y,WA,nW,cW,BA,nB,cB,m1,s1,z1,m2,s2,z2,lo,hi⟩:Nd).shE H W C H2 W2 C2=0:=by simp [Nd.shE,hs]
   unfold Nd.shV at hv
   rw [ez] at he hv
   subst he
   simp only [show ¬ (9:Int)=1 by omega,show ¬ (9:Int)=2 by omega,show ¬ (9:Int)=3 by omega,show ¬ (9:Int)=4 by omega,show ¬ (9:Int)=5 by omega,ne_eq,not_true_eq_false,not_false_eq_true,if_false,if_true,false_or,or_false,show ¬ (0:Int)≠0 by omega,show (2:Int)≠0 by omega,show (5:Int)≠0 by omega,show ¬ (9:Int)=8 by omega] at hv
   obtain⟨rfl,rfl,rfl⟩:=za5 hv
   exact rks9_yes H W C H2 W2 C2 na nb K S P O Z Y WA nW cW BA nB cB m1 s1 z1 m2 s2 z2 lo hi _ hs rfl w
end CKind
end
section
namespace CKind
open Plain CSat CFix CShape CTensor CConv
theorem alike_own (x:Nd) (h:1≤x.kd∧x.kd≤9):x.alikeB (x.ownK x.kd) = !x.moreB:=by
 have hk:x.kd=1∨x.kd=2∨x.kd=3∨x.kd=4∨x.kd=5∨x.kd=6∨x.kd=7∨x.kd=8∨x.kd=9:=by omega
 clear h
 rw [Bool.eq_iff_iff]
 rcases hk with h | h | h | h | h | h | h | h | h
 all_goals
  simp [Nd.alikeB,nineB,Nd.ownK,Nd.moreB,sumsB,zai,zad,h]
  try omega
theorem own_small (x:Nd) (k:Int) (hx:x.Small):(x.ownK k).Small:=by
 obtain⟨h1,h2,h3,h4⟩:=hx
 refine⟨?_,?_,?_,?_⟩
 all_goals
  simp only [Nd.ownK]
  split <;> omega
theorem right_b (m s z:Int) (b:Bool) (h:za0 m s=b) (w:World):Calls Tryz.prog 74 #[.agg #[.int .i32 m,.int .i64 s,.int .i8 z]] w fun e w'=>e=.returned (.bool b)∧Below w.heap.size w w':=by
 cases b
 ·exact isRight_no m s z h w
 ·exact isRight_yes m s z h w
theorem zbi (x:Nd) (hx:x.Small) (w:World) (hT:zan w):Calls Tryz.prog 56 #[.agg x.val] w fun e w'=>e=.returned (.int .i64 x.checkZ)∧Below w.heap.size w w':=by
 have TN:=hid (NdAt.new x 61 w)
 have HB:=hid ((Below.refl w.heap.size w).alloc (le_refl _) (.cells x.val 61))
 have HS:Hid (w.heap.size < (w.alloc (.cells x.val 61)).heap.size):=hid (by simp)
 have HT:Hid (zan (w.alloc (.cells x.val 61))):=hid (hT.grown HB.out)
 obtain⟨kb,hkb⟩:∃ b,knownB x.kd=b:=⟨_,rfl⟩
 obtain⟨mb,hmb⟩:∃ mb,x.moreB=mb:=⟨_,rfl⟩
 obtain⟨sb,hsb⟩:∃ sb,zad x.kd=sb:=⟨_,rfl⟩
 obtain⟨r1,hr1⟩:∃ b,za0 x.m1 x.s1=b:=⟨_,rfl⟩
 obtain⟨r2,hr2⟩:∃ b,za0 x.m2 x.s2=b:=⟨_,rfl⟩
 have hkn:=fun (w:World) (h:zan w)=>known_to x.kd w h
 rw [hkb] at hkn
 have hsc:=fun (w:World)=>scaled_to x.kd w
 rw [hsb] at hsc
 have HKN:=hid hkn
 have HSC:=hid hsc
 have HRA:=hid (fun (w:World)=>right_b x.m1 x.s1 x.z1 r1 hr1 w)
 have HRB:=hid (fun (w:World)=>right_b x.m2 x.s2 x.z2 r2 hr2 w)
 have hz:x.checkZ=if kb=false then 6 else if mb=true then 2 else if ((sb && !r1) || (x.kd == 6 && !r2))=true then 7 else if (sb && decide (x.hi < x.lo))=true then 2 else 0:=by
  unfold Nd.checkZ;rw [hmb,hsb,hr1,hr2]
  by_cases h:x.kd < 1∨9 < x.kd
  ·have e:kb=false:=by rw [← hkb];exact decide_eq_false (by omega)
   rw [if_pos h,e];rfl
  ·have e:kb=true:=by rw [← hkb];exact decide_eq_true (by omega)
   rw [if_neg h,e];rfl
 have HZ:=hid hz
 have HOW:Hid (kb=true→∀ w,Calls Tryz.prog 72 #[.agg x.val] w fun e w'=>e=.returned (.agg (x.ownK x.kd).val)∧Below w.heap.size w w'):=hid (fun h w=>own_to x (by rw [← hkb] at h;simpa [knownB] using h) w)
 have HAL:Hid (kb=true→∀ w,Calls Tryz.prog 71 #[.agg x.val,.agg (x.ownK x.kd).val] w fun e w'=>e=.returned (.bool !mb)∧Below w.heap.size w w'):=hid (fun h w=>csame_to x _ hx (own_small x _ hx) _ (by rw [alike_own x (by rw [← hkb] at h;simpa [knownB] using h),hmb]) w)
 generalize x.ownK x.kd=y at *
 clear hkb hmb hsb hr1 hr2 hz hkn hsc hx hT
 go_enter Tryz.func56,Tryz.ntmps56
 go_upto_region 1 with fail
 generalize w.alloc (.cells x.val 61)=W0 at TN HB HS HT ⊢
 have n0:=TN.out.at 0 (.int .i64 x.kd) rfl
 have n11:=TN.out.at 11 (.int .i32 x.m1) rfl
 have n12:=TN.out.at 12 (.int .i64 x.s1) rfl
 have n13:=TN.out.at 13 (.int .i8 x.z1) rfl
 have n14:=TN.out.at 14 (.int .i32 x.m2) rfl
 have n15:=TN.out.at 15 (.int .i64 x.s2) rfl
 have n16:=TN.out.at 16 (.int .i8 x.z2) rfl
 have n17:=TN.out.at 17 (.int .i8 x.lo) rfl
 have n18:=TN.out.at 18 (.int .i8 x.hi) rfl
 cases kb with
 | false =>
   go_wp2_with (go_at_call 70;(with_reducible refine (HKN.out _ HT.out).mono ?_);rintro e w1 ⟨rfl,rfl⟩)
   go_ret
   exact⟨by rw [HZ.out];rfl,HB.out⟩
 | true =>
   go_upto_region 3 with (go_at_call 70;(with_reducible refine (HKN.out _ HT.out).mono ?_);rintro e w1 ⟨rfl,rfl⟩)
   refine wp_region_held_drew (S:=NdAt w.heap.size x) (by kernel_rfl) (TN.out.below HS.out (Below.refl _ _).drew) (fun hHeld=>?_)
   replace HB:=hid (HB.out.trans (Below.refl _ W0).drew)
   replace HS:Hid (w.heap.size < W0.drew.heap.size):=hid HS.out
   clear TN HT HKN n0 n11 n12 n13 n14 n15 n16 n17 n18
   generalize W0.drew=W1 at *
   clear W0
   refine Tk.t 0 (v:=.agg x.val) rfl (zav _ rfl (by rfl) _ x rfl (fun _ h=>h)) (by assumption) ?_
   try simp only [Tk.put]
   refine Tk.t 1 (v:=.agg x.val) rfl (zav _ rfl (by rfl) _ x rfl (fun _ h=>h)) (by assumption) ?_
   try simp only [Tk.put]
   refine Tk.s 2 rfl (fun Kq hK=>?_)
   go_simp
   go_at_call 72
   with_reducible refine (HOW.out trivial _).mono ?_
   rintro e w1 ⟨rfl,hb⟩
   replace HB:=hid (HB.out.trans (hb.mono HB.out.size))
   have hS2:=hHeld.below HS.out hb
   replace HS:=hid (Nat.lt_of_lt_of_le HS.out hb.size)
   clear hb hHeld
   refine hK.out _ _ hS2 (fun hHeld=>?_)
   clear hK Kq hS2
   try simp only [Tk.put]
   refine Tk.s 3 rfl (fun Kq hK=>?_)
   go_simp
   go_at_call 71
   with_reducible refine (HAL.out trivial _).mono ?_
   rintro e w1 ⟨rfl,hb⟩
   replace HB:=hid (HB.out.trans (hb.mono HB.out.size))
   have hS2:=hHeld.below HS.out hb
   replace HS:=hid (Nat.lt_of_lt_of_le HS.out hb.size)
   clear hb hHeld
   refine hK.out _ _ hS2 (fun hHeld=>?_)
   clear hK Kq hS2
   try simp only [Tk.put]
   refine Tk.x 4 rfl ?_
   try simp only [Tk.put]
   refine Tk.x 5 rfl ?_
   try simp only [Tk.put]
   refine wpAnyH_done (by kernel_rfl) ?_ _
   have TN:=hid hHeld
   clear hHeld HOW HAL
   have n0:=TN.out.at 0 (.int .i64 x.kd) rfl
   have n11:=TN.out.at 11 (.int .i32 x.m1) rfl
   have n12:=TN.out.at 12 (.int .i64 x.s1) rfl
   have n13:=TN.out.at 13 (.int .i8 x.z1) rfl
   have n14:=TN.out.at 14 (.int .i32 x.m2) rfl
   have n15:=TN.out.at 15 (.int .i64 x.s2) rfl
   have n16:=TN.out.at 16 (.int .i8 x.z2) rfl
   have n17:=TN.out.at 17 (.int .i8 x.lo) rfl
   have n18:=TN.out.at 18 (.int .i8 x.hi) rfl
   cases mb with
   | true =>
     go_wp2_with fail
     go_ret
     have hz3:x.checkZ=2:=by rw [HZ.out];simp
     exact⟨by rw [hz3];rfl,HB.out⟩
   | false =>
     have HZ2:Hid (x.checkZ=if ((sb && !r1) || (x.kd == 6 && !r2))=true then 7 else if (sb && decide (x.hi < x.lo))=true then 2 else 0):=hid (by rw [HZ.out];simp)
     clear HZ
     obtain⟨k6,hk6⟩:∃ b,(x.kd == 6)=b:=⟨_,rfl⟩
     obtain⟨lb,hlb⟩:∃ b,decide (x.hi < x.lo)=b:=⟨_,rfl⟩
     rw [hk6,hlb] at HZ2
     cases sb <;> cases r1 <;> cases k6 <;> cases r2 <;> cases lb
     all_goals
      go_wp2_with (first | (go_at_call 73;(with_reducible refine (HSC.out _).mono ?_);rintro e w1 ⟨rfl,rfl⟩) | (go_at_call 74;(with_reducible refine (HRA.out _).mono ?_);rintro e w1 ⟨rfl,hb⟩;(replace TN:=hid (TN.out.below HS.out hb));(replace HB:=hid (HB.out.trans (hb.mono HB.out.size)));(replace HS:=hid (Nat.lt_of_lt_of_le HS.out hb.size));clear hb n0 n11 n12 n13 n14 n15 n16 n17 n18;(have n0:=TN.out.at 0 (.int .i64 x.kd) rfl);(have n11:=TN.out.at 11 (.int .i32 x.m1) rfl);(have n12:=TN.out.at 12 (.int .i64 x.s1) rfl);(have n13:=TN.out.at 13 (.int .i8 x.z1) rfl);(have n14:=TN.out.at 14 (.int .i32 x.m2) rfl);(have n15:=TN.out.at 15 (.int .i64 x.s2) rfl);(have n16:=TN.out.at 16 (.int .i8 x.z2) rfl);(have n17:=TN.out.at 17 (.int .i8 x.lo) rfl);(have n18:=TN.out.at 18 (.int .i8 x.hi) rfl)) | (go_at_call 74;(with_reducible refine (HRB.out _).mono ?_);rintro e w1 ⟨rfl,hb⟩;(replace TN:=hid (TN.out.below HS.out hb));(replace HB:=hid (HB.out.trans (hb.mono HB.out.size)));(replace HS:=hid (Nat.lt_of_lt_of_le HS.out hb.size));clear hb n0 n11 n12 n13 n14 n15 n16 n17 n18;(have n0:=TN.out.at 0 (.int .i64 x.kd) rfl);(have n11:=TN.out.at 11 (.int .i32 x.m1) rfl);(have n12:=TN.out.at 12 (.int .i64 x.s1) rfl);(have n13:=TN.out.at 13 (.int .i8 x.z1) rfl);(have n14:=TN.out.at 14 (.int .i32 x.m2) rfl);(have n15:=TN.out.at 15 (.int .i64 x.s2) rfl);(have n16:=TN.out.at 16 (.int .i8 x.z2) rfl);(have n17:=TN.out.at 17 (.int .i8 x.lo) rfl);(have n18:=TN.out.at 18 (.int .i8 x.hi) rfl)))
      go_ret
      exact⟨by rw [HZ2.out];rfl,HB.out⟩
end CKind
end
section
namespace CKind
open Plain CSat CShape CTensor CConv CDense CDepth
theorem valid_to (H W C e u0 u1 u2:Int) (b:Bool) (hb:zae H W C=b) (he:(if b=true then (0:Int) else 5)=e) (hv:(if b=true then (#[.int .i64 H,.int .i64 W,.int .i64 C]:Array Value) else #[.int .i64 0,.int .i64 0,.int .i64 0])=#[.int .i64 u0,.int .i64 u1,.int .i64 u2]) (w:World) :
  Calls Tryz.prog 78 #[.agg #[.int .i64 H,.int .i64 W,.int .i64 C]] w fun r w'=>r=.returned (.tuple #[.agg #[.int .i64 u0,.int .i64 u1,.int .i64 u2],.int .i64 e])∧Below w.heap.size w w':=by
 have HR:=hid (zax H W C b hb)
 have HB:Hid (Below w.heap.size w ((w.alloc (.cells #[.int .i64 H,.int .i64 W,.int .i64 C] 23)).alloc (.cells #[.int .i64 0,.int .i64 0,.int .i64 0] 23))):=hid (((Below.refl _ _).alloc (by first | exact le_refl _ | (simp;done) | (simp;omega) | omega) _).alloc (by first | exact le_refl _ | (simp;done) | (simp;omega) | omega) _)
 clear hb
 cases b
 all_goals
  simp only [if_true,if_false,Bool.false_eq_true] at he hv
  obtain⟨rfl,rfl,rfl⟩:=za5 hv
  subst he
  clear hv
  go_enter Tryz.func78,Tryz.ntmps78
  go_wp2_with (go_at_call 16;(with_reducible refine (HR.out _).mono ?_);rintro e1 w1 ⟨rfl,hb⟩;obtain⟨hcc,hff⟩:=Kit.bcell hb;have hz1:w.heap.size+1 < w1.heap.size:=(by have:=hb.size;simp at this;omega);(replace HB:=hid (HB.out.trans (hb.mono HB.out.size)));clear hb)
 ·refine bodyPost_ret (Kit.zaa rfl _ _ (w.heap.size+1) 0 [.int .i64 0,.int .i64 0,.int .i64 0] _ rfl (Kit.zaj (by go_cell) (by go_cell) (by go_cell)) Tryz.underlying23 rfl (by kernel_rfl)) rfl ?_
  exact⟨rfl,((HB.out.setCell (p:=⟨w.heap.size+1,0,none⟩) (Nat.le_succ _) _).setCell (p:=⟨w.heap.size+1,1,none⟩) (Nat.le_succ _) _).setCell (p:=⟨w.heap.size+1,2,none⟩) (Nat.le_succ _) _⟩
 ·refine bodyPost_ret (Kit.zaa rfl _ _ (w.heap.size+1) 0 [.int .i64 H,.int .i64 W,.int .i64 C] _ rfl (Kit.zaj (by go_cell) (by go_cell) (by go_cell)) Tryz.underlying23 rfl (by kernel_rfl)) rfl ?_
  exact⟨rfl,((HB.out.setCell (p:=⟨w.heap.size+1,0,none⟩) (Nat.le_succ _) _).setCell (p:=⟨w.heap.size+1,1,none⟩) (Nat.le_succ _) _).setCell (p:=⟨w.heap.size+1,2,none⟩) (Nat.le_succ _) _⟩
theorem shape_in {H W C:Int} (h:zae H W C=true):1≤H∧H≤16∧1≤W∧W≤16:=by
 obtain⟨a1,a2,a3,a4,_,_,_⟩:=zah h
 exact⟨a1,a2,a3,a4⟩
theorem widened_to (H W C P e u0 u1 u2:Int) (he:(if zae H W C=false then (5:Int) else if P < 0∨4 < P then 2 else if zae (H+2 * P) (W+2 * P) C=false then 5 else 0)=e) (hv:(if e≠0 then (#[.int .i64 0,.int .i64 0,.int .i64 0]:Array Value) else #[.int .i64 (H+2 * P),.int .i64 (W+2 * P),.int .i64 C])=#[.int .i64 u0,.int .i64 u1,.int .i64 u2]) (w:World) :
  Calls Tryz.prog 79 #[.agg #[.int .i64 H,.int .i64 W,.int .i64 C],.int .i64 P] w fun r w'=>r=.returned (.tuple #[.agg #[.int .i64 u0,.int .i64 u1,.int .i64 u2],.int .i64 e])∧Below w.heap.size w w':=by
 have HB:Hid (Below w.heap.size w ((w.alloc (.cells #[.int .i64 H,.int .i64 W,.int .i64 C] 23)).alloc (.cells #[.int .i64 0,.int .i64 0,.int .i64 0] 23))):=hid (((Below.refl _ _).alloc (by first | exact le_refl _ | (simp;done) | (simp;omega) | omega) _).alloc (by first | exact le_refl _ | (simp;done) | (simp;omega) | omega) _)
 cases hs:zae H W C
 ·have HR:=hid (zax H W C false hs)
  rw [if_pos hs] at he
  subst he
  rw [if_pos (by decide)] at hv
  obtain⟨rfl,rfl,rfl⟩:=za5 hv
  clear hv hs
  go_enter Tryz.func79,Tryz.ntmps79
  go_wp2_with (go_at_call 16;(with_reducible refine (HR.out _).mono ?_);rintro e1 w1 ⟨rfl,hb⟩;obtain⟨hcc,hff⟩:=Kit.bcell hb;have hz1:w.heap.size+1 < w1.heap.size:=(by have:=hb.size;simp at this;omega);(replace HB:=hid (HB.out.trans (hb.mono HB.out.size)));clear hb)
  refine bodyPost_ret (Kit.zaa rfl _ _ (w.heap.size+1) 0 [.int .i64 0,.int .i64 0,.int .i64 0] _ rfl (Kit.zaj (by go_cell) (by go_cell) (by go_cell)) Tryz.underlying23 rfl (by kernel_rfl)) rfl ?_
  exact⟨rfl,((HB.out.setCell (p:=⟨w.heap.size+1,0,none⟩) (Nat.le_succ _) _).setCell (p:=⟨w.heap.size+1,1,none⟩) (Nat.le_succ _) _).setCell (p:=⟨w.heap.size+1,2,none⟩) (Nat.le_succ _) _⟩
 ·have HR:=hid (zax H W C true hs)
  obtain⟨a1,a2,a3,a4⟩:=shape_in hs
  rw [if_neg (by simp [hs])] at he
  clear hs
  by_cases hp:P < 0∨4 < P
  ·rw [if_pos hp] at he
   subst he
   rw [if_pos (by decide)] at hv
   obtain⟨rfl,rfl,rfl⟩:=za5 hv
   clear hv a1 a2 a3 a4
   rcases (show P < 0∨(¬ P < 0∧4 < P) by omega) with hq | ⟨hq,hq2⟩
   all_goals
    clear hp
    go_enter Tryz.func79,Tryz.ntmps79
    go_wp2_with (go_at_call 16;(with_reducible refine (HR.out _).mono ?_);rintro e1 w1 ⟨rfl,hb⟩;obtain⟨hcc,hff⟩:=Kit.bcell hb;have hz1:w.heap.size+1 < w1.heap.size:=(by have:=hb.size;simp at this;omega);(replace HB:=hid (HB.out.trans (hb.mono HB.out.size)));clear hb)
    refine bodyPost_ret (Kit.zaa rfl _ _ (w.heap.size+1) 0 [.int .i64 0,.int .i64 0,.int .i64 0] _ rfl (Kit.zaj (by go_cell) (by go_cell) (by go_cell)) Tryz.underlying23 rfl (by kernel_rfl)) rfl ?_
    exact⟨rfl,((HB.out.setCell (p:=⟨w.heap.size+1,0,none⟩) (Nat.le_succ _) _).setCell (p:=⟨w.heap.size+1,1,none⟩) (Nat.le_succ _) _).setCell (p:=⟨w.heap.size+1,2,none⟩) (Nat.le_succ _) _⟩
  ·rw [if_neg hp] at he
   have p1:¬ P < 0:=by omega
   have p2:¬ 4 < P:=by omega
   have i1:IntKind.i64.wrap (2 * P)=2 * P:=IntWalk.i64_in _ (by omega)
   have i2:IntKind.i64.wrap (H+2 * P)=H+2 * P:=IntWalk.i64_in _ (by omega)
   have i3:IntKind.i64.wrap (W+2 * P)=W+2 * P:=IntWalk.i64_in _ (by omega)
   clear hp a1 a2 a3 a4
   have hva:(if zae (H+2 * P) (W+2 * P) C=true then (0:Int) else 5)=e:=by
    rw [← he];cases zae (H+2 * P) (W+2 * P) C <;> rfl
   have hvv:(if zae (H+2 * P) (W+2 * P) C=true then (#[.int .i64 (H+2 * P),.int .i64 (W+2 * P),.int .i64 C]:Array Value) else #[.int .i64 0,.int .i64 0,.int .i64 0])=#[.int .i64 u0,.int .i64 u1,.int .i64 u2]:=by
    rw [← hv, ← he];cases zae (H+2 * P) (W+2 * P) C <;> simp
   have HV:=hid (valid_to (H+2 * P) (W+2 * P) C e u0 u1 u2 _ rfl hva hvv)
   clear he hv hva hvv
   go_enter Tryz.func79,Tryz.ntmps79
   go_wp2_with (first
    | (go_at_call 16;(with_reducible refine (HR.out _).mono ?_);rintro e1 w1 ⟨rfl,hb⟩;obtain⟨hcc,hff⟩:=Kit.bcell hb;have hz1:w.heap.size+1 < w1.heap.size:=(by have:=hb.size;simp at this;omega);(replace HB:=hid (HB.out.trans (hb.mono HB.out.size)));clear hb)
    | (go_at_call 78;(with_reducible refine (HV.out _).mono ?_);rintro e1 w2 ⟨rfl,hb⟩;obtain⟨hcd,hfd⟩:=Kit.bcell hb;have hz2:w.heap.size+1 < w2.heap.size:=(Nat.lt_of_lt_of_le hz1 hb.size);(replace HB:=hid (HB.out.trans (hb.mono HB.out.size)));clear hb))
   refine bodyPost_ret (Kit.zaa rfl _ _ (w.heap.size+1) 0 [.int .i64 u0,.int .i64 u1,.int .i64 u2] _ rfl (Kit.zaj (by go_cell) (by go_cell) (by go_cell)) Tryz.underlying23 rfl (by kernel_rfl)) rfl ?_
   exact⟨rfl,((HB.out.setCell (p:=⟨w.heap.size+1,0,none⟩) (Nat.le_succ _) _).setCell (p:=⟨w.heap.size+1,1,none⟩) (Nat.le_succ _) _).setCell (p:=⟨w.heap.size+1,2,none⟩) (Nat.le_succ _) _⟩
end CKind
end
end Go.Proofs.YtoffcaldhojjoaaGreatDoor
