/- Texts of this seat, one behind the other: KindShape, RunGood, DepthBoth, PoolMean, PoolEach, JoinAll. -/
import Derived.Deep.CutRange
import Derived.Deep.RegionHeld3
import Derived.Deep.MidRow
import Derived.Laws.MakeOwn
import Derived.Test.YtkpngknbiecdiaaGreatDoorGB5
import Derived.Test.YtkpngknbiecdiaaGreatDoorGB8
import Derived.Test.YtkpngknbiecdiaaGreatDoorGB11
import Derived.Test.YtkpngknbiecdiaaGreatDoorGB13
import Derived.Test.YtkpngknbiecdiaaGreatDoorGB17
import Derived.Test.YtkpngknbiecdiaaGreatDoorGB22
import Derived.Test.YtkpngknbiecdiaaGreatDoorGB26
import Derived.Test.YtkpngknbiecdiaaGreatDoorGB28
import Derived.Test.YtkpngknbiecdiaaGreatDoorGB32
import Derived.Test.YtkpngknbiecdiaaGreatDoorGB34
import Derived.Test.YtkpngknbiecdiaaGreatDoorGB38
import Derived.Test.YtkpngknbiecdiaaGreatDoorGB39
import Derived.Test.YtkpngknbiecdiaaGreatDoorGB40
import Derived.Test.YtkpngknbiecdiaaGreatDoorGB42
import Derived.Test.YtkpngknbiecdiaaGreatDoorGB44
import Derived.Test.YtkpngknbiecdiaaGreatDoorGB45
section
namespace Go.Proofs.YtkpngknbiecdiaaGreatDoor.CKind
open Go Go.ChangeShapes Go.WideShapes Go.ChangeAt Go.RowKit Go.Deep
open Plain CSat CFix CShape CTensor CConv CDense CDepth
set_option linter.unusedVariables false
set_option linter.unusedSimpArgs false
def Nd.shE (x:Nd) (H W C H2 W2 C2:Int):Int :=
 if x.kd=1 then convE H W C x.K x.S x.P x.O x.nW x.nB else if x.kd=2 then depthE H W C x.K x.S x.P x.nW x.nB else if x.kd=3 then denseE H W C x.O x.nW x.nB else if x.kd=4∨x.kd=5 then slideE H W C x.K x.S x.P C
 else if x.kd < 1∨9 < x.kd then 6 else if shapeB H W C=false then 5 else if x.kd=6∧(H == H2 && (W == W2 && C == C2))=false then 5 else if x.kd=8 then (if x.P < 0∨4 < x.P then 2 else if shapeB (H+2 * x.P) (W+2 * x.P) C=false then 5 else 0) else 0
def Nd.shV (x:Nd) (H W C H2 W2 C2:Int):Array Value :=
 if x.kd=1 then convS H W C x.K x.S x.P x.O x.nW x.nB else if x.kd=2 then depthS H W C x.K x.S x.P x.nW x.nB else if x.kd=3 then denseS H W C x.O x.nW x.nB else if x.kd=4∨x.kd=5 then slideS H W C x.K x.S x.P C
 else if x.shE H W C H2 W2 C2≠0 then #[.int .i64 0,.int .i64 0,.int .i64 0] else if x.kd=9 then #[.int .i64 1,.int .i64 1,.int .i64 (elemsZ H W C)] else if x.kd=8 then #[.int .i64 (H+2 * x.P),.int .i64 (W+2 * x.P),.int .i64 C] else #[.int .i64 H,.int .i64 W,.int .i64 C]
theorem Nd.sh_three (x:Nd) (H W C H2 W2 C2:Int):∃ u0 u1 u2,x.shV H W C H2 W2 C2=#[.int .i64 u0,.int .i64 u1,.int .i64 u2]:=by
 unfold Nd.shV convS depthS denseS slideS
 repeat' split
 all_goals exact⟨_,_,_,rfl⟩
def ShapeIs (f:FuncId) (x:Nd):Prop:=∀ (H W C H2 W2 C2 e u0 u1 u2:Int) (_:x.shE H W C H2 W2 C2=e) (_:x.shV H W C H2 W2 C2=#[.int .i64 u0,.int .i64 u1,.int .i64 u2]) (w:World),
 Calls Tryz.prog f #[.agg x.val,.agg #[.int .i64 H,.int .i64 W,.int .i64 C],.agg #[.int .i64 H2,.int .i64 W2,.int .i64 C2]] w fun r w'=>r=.returned (.tuple #[.agg #[.int .i64 u0,.int .i64 u1,.int .i64 u2],.int .i64 e])∧Below w.heap.size w w'
theorem three_inj {a b c d e f:Int} (h:(#[.int .i64 a,.int .i64 b,.int .i64 c]:Array Value)=#[.int .i64 d,.int .i64 e,.int .i64 f]):a=d∧b=e∧c=f:=by simpa using h
set_option maxRecDepth 100000 in
set_option maxHeartbeats 8000000 in
theorem refShape_to (x:Nd):ShapeIs 14 x:=by
 intro H W C H2 W2 C2 e u0 u1 u2 he hv w
 obtain⟨kd,na,nb,K,S,P,O,Z,Y,WA,nW,cW,BA,nB,cB,m1,s1,z1,m2,s2,z2,lo,hi⟩:=x
 unfold Nd.val
 by_cases h1:kd < 1
 ·have e6:(⟨kd,na,nb,K,S,P,O,Z,Y,WA,nW,cW,BA,nB,cB,m1,s1,z1,m2,s2,z2,lo,hi⟩:Nd).shE H W C H2 W2 C2=6:=by
   simp only [Nd.shE,show ¬ kd=1 by omega,show ¬ kd=2 by omega,show ¬ kd=3 by omega,show ¬ kd=4 by omega,show ¬ kd=5 by omega,h1,if_false,false_or,true_or,if_true]
  unfold Nd.shV at hv
  rw [e6] at he hv
  subst he
  simp only [show ¬ kd=1 by omega,show ¬ kd=2 by omega,show ¬ kd=3 by omega,show ¬ kd=4 by omega,show ¬ kd=5 by omega,if_false,false_or] at hv
  obtain⟨rfl,rfl,rfl⟩:=three_inj hv
  exact rks_lo H W C H2 W2 C2 na nb K S P O Z Y WA nW cW BA nB cB m1 s1 z1 m2 s2 z2 lo hi kd h1 w
 by_cases h9:9 < kd
 ·have e6:(⟨kd,na,nb,K,S,P,O,Z,Y,WA,nW,cW,BA,nB,cB,m1,s1,z1,m2,s2,z2,lo,hi⟩:Nd).shE H W C H2 W2 C2=6:=by
   simp only [Nd.shE,show ¬ kd=1 by omega,show ¬ kd=2 by omega,show ¬ kd=3 by omega,show ¬ kd=4 by omega,show ¬ kd=5 by omega,h9,if_false,false_or,or_true,if_true]
  unfold Nd.shV at hv
  rw [e6] at he hv
  subst he
  simp only [show ¬ kd=1 by omega,show ¬ kd=2 by omega,show ¬ kd=3 by omega,show ¬ kd=4 by omega,show ¬ kd=5 by omega,if_false,false_or] at hv
  obtain⟨rfl,rfl,rfl⟩:=three_inj hv
  exact rks_hi H W C H2 W2 C2 na nb K S P O Z Y WA nW cW BA nB cB m1 s1 z1 m2 s2 z2 lo hi kd h9 w
 have hk:kd=1∨kd=2∨kd=3∨kd=4∨kd=5∨kd=6∨kd=7∨kd=8∨kd=9:=by omega
 clear h1 h9
 rcases hk with rfl | rfl | rfl | rfl | rfl | rfl | rfl | rfl | rfl
 ·exact rks1 H W C H2 W2 C2 na nb K S P O Z Y WA nW cW BA nB cB m1 s1 z1 m2 s2 z2 lo hi e u0 u1 u2 he hv w
 ·exact rks2 H W C H2 W2 C2 na nb K S P O Z Y WA nW cW BA nB cB m1 s1 z1 m2 s2 z2 lo hi e u0 u1 u2 he hv w
 ·exact rks3 H W C H2 W2 C2 na nb K S P O Z Y WA nW cW BA nB cB m1 s1 z1 m2 s2 z2 lo hi e u0 u1 u2 he hv w
 ·exact rks4 H W C H2 W2 C2 na nb K S P O Z Y WA nW cW BA nB cB m1 s1 z1 m2 s2 z2 lo hi e u0 u1 u2 he hv w
 ·exact rks5 H W C H2 W2 C2 na nb K S P O Z Y WA nW cW BA nB cB m1 s1 z1 m2 s2 z2 lo hi e u0 u1 u2 he hv w
 ·cases hs:shapeB H W C
  ·have ez:(⟨6,na,nb,K,S,P,O,Z,Y,WA,nW,cW,BA,nB,cB,m1,s1,z1,m2,s2,z2,lo,hi⟩:Nd).shE H W C H2 W2 C2=5:=by simp [Nd.shE,hs]
   unfold Nd.shV at hv
   rw [ez] at he hv
   subst he
   simp only [show ¬ (6:Int)=1 by omega,show ¬ (6:Int)=2 by omega,show ¬ (6:Int)=3 by omega,show ¬ (6:Int)=4 by omega,show ¬ (6:Int)=5 by omega,ne_eq,not_true_eq_false,not_false_eq_true,if_false,if_true,false_or,or_false,show ¬ (0:Int)≠0 by omega,show (2:Int)≠0 by omega,show (5:Int)≠0 by omega,show ¬ (6:Int)=8 by omega,show ¬ (6:Int)=9 by omega] at hv
   obtain⟨rfl,rfl,rfl⟩:=three_inj hv
   exact rks6_no H W C H2 W2 C2 na nb K S P O Z Y WA nW cW BA nB cB m1 s1 z1 m2 s2 z2 lo hi hs w
  ·cases hd:(H == H2 && (W == W2 && C == C2))
   ·have ez:(⟨6,na,nb,K,S,P,O,Z,Y,WA,nW,cW,BA,nB,cB,m1,s1,z1,m2,s2,z2,lo,hi⟩:Nd).shE H W C H2 W2 C2=5:=by simp [Nd.shE,hs,hd]
    unfold Nd.shV at hv
    rw [ez] at he hv
    subst he
    simp only [show ¬ (6:Int)=1 by omega,show ¬ (6:Int)=2 by omega,show ¬ (6:Int)=3 by omega,show ¬ (6:Int)=4 by omega,show ¬ (6:Int)=5 by omega,ne_eq,not_true_eq_false,not_false_eq_true,if_false,if_true,false_or,or_false,show ¬ (0:Int)≠0 by omega,show (2:Int)≠0 by omega,show (5:Int)≠0 by omega,show ¬ (6:Int)=8 by omega,show ¬ (6:Int)=9 by omega] at hv
    obtain⟨rfl,rfl,rfl⟩:=three_inj hv
    exact rks6_ne H W C H2 W2 C2 na nb K S P O Z Y WA nW cW BA nB cB m1 s1 z1 m2 s2 z2 lo hi hs hd w
   ·have ez:(⟨6,na,nb,K,S,P,O,Z,Y,WA,nW,cW,BA,nB,cB,m1,s1,z1,m2,s2,z2,lo,hi⟩:Nd).shE H W C H2 W2 C2=0:=by simp [Nd.shE,hs,hd]
    unfold Nd.shV at hv
    rw [ez] at he hv
    subst he
    simp only [show ¬ (6:Int)=1 by omega,show ¬ (6:Int)=2 by omega,show ¬ (6:Int)=3 by omega,show ¬ (6:Int)=4 by omega,show ¬ (6:Int)=5 by omega,ne_eq,not_true_eq_false,not_false_eq_true,if_false,if_true,false_or,or_false,show ¬ (0:Int)≠0 by omega,show (2:Int)≠0 by omega,show (5:Int)≠0 by omega,show ¬ (6:Int)=8 by omega,show ¬ (6:Int)=9 by omega] at hv
    obtain⟨rfl,rfl,rfl⟩:=three_inj hv
    exact rks6_eq H W C H2 W2 C2 na nb K S P O Z Y WA nW cW BA nB cB m1 s1 z1 m2 s2 z2 lo hi hs hd w
 ·cases hs:shapeB H W C
  ·have ez:(⟨7,na,nb,K,S,P,O,Z,Y,WA,nW,cW,BA,nB,cB,m1,s1,z1,m2,s2,z2,lo,hi⟩:Nd).shE H W C H2 W2 C2=5:=by simp [Nd.shE,hs]
   unfold Nd.shV at hv
   rw [ez] at he hv
   subst he
   simp only [show ¬ (7:Int)=1 by omega,show ¬ (7:Int)=2 by omega,show ¬ (7:Int)=3 by omega,show ¬ (7:Int)=4 by omega,show ¬ (7:Int)=5 by omega,ne_eq,not_true_eq_false,not_false_eq_true,if_false,if_true,false_or,or_false,show ¬ (0:Int)≠0 by omega,show (2:Int)≠0 by omega,show (5:Int)≠0 by omega,show ¬ (7:Int)=8 by omega,show ¬ (7:Int)=9 by omega] at hv
   obtain⟨rfl,rfl,rfl⟩:=three_inj hv
   exact rks7_no H W C H2 W2 C2 na nb K S P O Z Y WA nW cW BA nB cB m1 s1 z1 m2 s2 z2 lo hi hs w
  ·have ez:(⟨7,na,nb,K,S,P,O,Z,Y,WA,nW,cW,BA,nB,cB,m1,s1,z1,m2,s2,z2,lo,hi⟩:Nd).shE H W C H2 W2 C2=0:=by simp [Nd.shE,hs]
   unfold Nd.shV at hv
   rw [ez] at he hv
   subst he
   simp only [show ¬ (7:Int)=1 by omega,show ¬ (7:Int)=2 by omega,show ¬ (7:Int)=3 by omega,show ¬ (7:Int)=4 by omega,show ¬ (7:Int)=5 by omega,ne_eq,not_true_eq_false,not_false_eq_true,if_false,if_true,false_or,or_false,show ¬ (0:Int)≠0 by omega,show (2:Int)≠0 by omega,show (5:Int)≠0 by omega,show ¬ (7:Int)=8 by omega,show ¬ (7:Int)=9 by omega] at hv
   obtain⟨rfl,rfl,rfl⟩:=three_inj hv
   exact rks7_yes H W C H2 W2 C2 na nb K S P O Z Y WA nW cW BA nB cB m1 s1 z1 m2 s2 z2 lo hi hs w
 ·cases hs:shapeB H W C
  ·have ez:(⟨8,na,nb,K,S,P,O,Z,Y,WA,nW,cW,BA,nB,cB,m1,s1,z1,m2,s2,z2,lo,hi⟩:Nd).shE H W C H2 W2 C2=5:=by simp [Nd.shE,hs]
   unfold Nd.shV at hv
   rw [ez] at he hv
   subst he
   simp only [show ¬ (8:Int)=1 by omega,show ¬ (8:Int)=2 by omega,show ¬ (8:Int)=3 by omega,show ¬ (8:Int)=4 by omega,show ¬ (8:Int)=5 by omega,ne_eq,not_true_eq_false,not_false_eq_true,if_false,if_true,false_or,or_false,show ¬ (0:Int)≠0 by omega,show (2:Int)≠0 by omega,show (5:Int)≠0 by omega,show ¬ (8:Int)=9 by omega] at hv
   obtain⟨rfl,rfl,rfl⟩:=three_inj hv
   exact rks8_no H W C H2 W2 C2 na nb K S P O Z Y WA nW cW BA nB cB m1 s1 z1 m2 s2 z2 lo hi hs w
  ·by_cases p1:P < 0
   ·have ez:(⟨8,na,nb,K,S,P,O,Z,Y,WA,nW,cW,BA,nB,cB,m1,s1,z1,m2,s2,z2,lo,hi⟩:Nd).shE H W C H2 W2 C2=2:=by simp [Nd.shE,hs,p1]
    unfold Nd.shV at hv
    rw [ez] at he hv
    subst he
    simp only [show ¬ (8:Int)=1 by omega,show ¬ (8:Int)=2 by omega,show ¬ (8:Int)=3 by omega,show ¬ (8:Int)=4 by omega,show ¬ (8:Int)=5 by omega,ne_eq,not_true_eq_false,not_false_eq_true,if_false,if_true,false_or,or_false,show ¬ (0:Int)≠0 by omega,show (2:Int)≠0 by omega,show (5:Int)≠0 by omega,show ¬ (8:Int)=9 by omega] at hv
    obtain⟨rfl,rfl,rfl⟩:=three_inj hv
    exact rks8_lo H W C H2 W2 C2 na nb K S P O Z Y WA nW cW BA nB cB m1 s1 z1 m2 s2 z2 lo hi hs p1 w
   by_cases p2:4 < P
   ·have ez:(⟨8,na,nb,K,S,P,O,Z,Y,WA,nW,cW,BA,nB,cB,m1,s1,z1,m2,s2,z2,lo,hi⟩:Nd).shE H W C H2 W2 C2=2:=by simp [Nd.shE,hs,p2]
    unfold Nd.shV at hv
    rw [ez] at he hv
    subst he
    simp only [show ¬ (8:Int)=1 by omega,show ¬ (8:Int)=2 by omega,show ¬ (8:Int)=3 by omega,show ¬ (8:Int)=4 by omega,show ¬ (8:Int)=5 by omega,ne_eq,not_true_eq_false,not_false_eq_true,if_false,if_true,false_or,or_false,show ¬ (0:Int)≠0 by omega,show (2:Int)≠0 by omega,show (5:Int)≠0 by omega,show ¬ (8:Int)=9 by omega] at hv
    obtain⟨rfl,rfl,rfl⟩:=three_inj hv
    exact rks8_hi H W C H2 W2 C2 na nb K S P O Z Y WA nW cW BA nB cB m1 s1 z1 m2 s2 z2 lo hi hs p2 w
   cases ht:shapeB (H+2 * P) (W+2 * P) C
   ·have ez:(⟨8,na,nb,K,S,P,O,Z,Y,WA,nW,cW,BA,nB,cB,m1,s1,z1,m2,s2,z2,lo,hi⟩:Nd).shE H W C H2 W2 C2=5:=by simp [Nd.shE,hs,p1,p2,ht]
    unfold Nd.shV at hv
    rw [ez] at he hv
    subst he
    simp only [show ¬ (8:Int)=1 by omega,show ¬ (8:Int)=2 by omega,show ¬ (8:Int)=3 by omega,show ¬ (8:Int)=4 by omega,show ¬ (8:Int)=5 by omega,ne_eq,not_true_eq_false,not_false_eq_true,if_false,if_true,false_or,or_false,show ¬ (0:Int)≠0 by omega,show (2:Int)≠0 by omega,show (5:Int)≠0 by omega,show ¬ (8:Int)=9 by omega] at hv
    obtain⟨rfl,rfl,rfl⟩:=three_inj hv
    exact rks8_bad H W C H2 W2 C2 na nb K S P O Z Y WA nW cW BA nB cB m1 s1 z1 m2 s2 z2 lo hi hs (by omega) (by omega) ht w
   ·have ez:(⟨8,na,nb,K,S,P,O,Z,Y,WA,nW,cW,BA,nB,cB,m1,s1,z1,m2,s2,z2,lo,hi⟩:Nd).shE H W C H2 W2 C2=0:=by simp [Nd.shE,hs,p1,p2,ht]
    unfold Nd.shV at hv
    rw [ez] at he hv
    subst he
    simp only [show ¬ (8:Int)=1 by omega,show ¬ (8:Int)=2 by omega,show ¬ (8:Int)=3 by omega,show ¬ (8:Int)=4 by omega,show ¬ (8:Int)=5 by omega,ne_eq,not_true_eq_false,not_false_eq_true,if_false,if_true,false_or,or_false,show ¬ (0:Int)≠0 by omega,show (2:Int)≠0 by omega,show (5:Int)≠0 by omega,show ¬ (8:Int)=9 by omega] at hv
    obtain⟨rfl,rfl,rfl⟩:=three_inj hv
    exact rks8_ok H W C H2 W2 C2 na nb K S P O Z Y WA nW cW BA nB cB m1 s1 z1 m2 s2 z2 lo hi hs (by omega) (by omega) ht w
 ·cases hs:shapeB H W C
  ·have ez:(⟨9,na,nb,K,S,P,O,Z,Y,WA,nW,cW,BA,nB,cB,m1,s1,z1,m2,s2,z2,lo,hi⟩:Nd).shE H W C H2 W2 C2=5:=by simp [Nd.shE,hs]
   unfold Nd.shV at hv
   rw [ez] at he hv
   subst he
   simp only [show ¬ (9:Int)=1 by omega,show ¬ (9:Int)=2 by omega,show ¬ (9:Int)=3 by omega,show ¬ (9:Int)=4 by omega,show ¬ (9:Int)=5 by omega,ne_eq,not_true_eq_false,not_false_eq_true,if_false,if_true,false_or,or_false,show ¬ (0:Int)≠0 by omega,show (2:Int)≠0 by omega,show (5:Int)≠0 by omega,show ¬ (9:Int)=8 by omega] at hv
   obtain⟨rfl,rfl,rfl⟩:=three_inj hv
   exact rks9_no H W C H2 W2 C2 na nb K S P O Z Y WA nW cW BA nB cB m1 s1 z1 m2 s2 z2 lo hi hs w
  ·have ez:(⟨9,na,nb,K,S,P,O,Z,Y,WA,nW,cW,BA,nB,cB,m1,s1,z1,m2,s2,z2,lo,hi⟩:Nd).shE H W C H2 W2 C2=0:=by simp [Nd.shE,hs]
   unfold Nd.shV at hv
   rw [ez] at he hv
   subst he
   simp only [show ¬ (9:Int)=1 by omega,show ¬ (9:Int)=2 by omega,show ¬ (9:Int)=3 by omega,show ¬ (9:Int)=4 by omega,show ¬ (9:Int)=5 by omega,ne_eq,not_true_eq_false,not_false_eq_true,if_false,if_true,false_or,or_false,show ¬ (0:Int)≠0 by omega,show (2:Int)≠0 by omega,show (5:Int)≠0 by omega,show ¬ (9:Int)=8 by omega] at hv
   obtain⟨rfl,rfl,rfl⟩:=three_inj hv
   exact rks9_yes H W C H2 W2 C2 na nb K S P O Z Y WA nW cW BA nB cB m1 s1 z1 m2 s2 z2 lo hi _ hs rfl w
end Go.Proofs.YtkpngknbiecdiaaGreatDoor.CKind
end
section
namespace Go.Proofs.YtkpngknbiecdiaaGreatDoor.CRun
set_option maxRecDepth 100000
open Go Go.ChangeShapes Go.WideShapes Go.ChangeAt Go.RowKit Go.Deep
open Plain CSat CShape CTensor CConv CKind CFix
set_option linter.unusedVariables false
set_option linter.unusedSimpArgs false
def Mem (x:Nd) (A B:Option Addr) (zs ys ws bs:List Int) (w:World):Prop :=
 Kit.Rd w w.heap.size A (I8s zs)∧Kit.Rd w w.heap.size B (I8s ys)∧Kit.Rd w w.heap.size x.WA (I8s ws)∧Kit.Rd w w.heap.size x.BA (I32v bs)∧NamesIn w
theorem Mem.grown {x:Nd} {A B:Option Addr} {zs ys ws bs:List Int} {w w':World} (h:Mem x A B zs ys ws bs w) (hb:Below w.heap.size w w'):Mem x A B zs ys ws bs w' :=
 ⟨(h.1.below hb).more hb.size,(h.2.1.below hb).more hb.size,(h.2.2.1.below hb).more hb.size,(h.2.2.2.1.below hb).more hb.size,h.2.2.2.2.grown hb⟩
structure NIn (x:Nd) (ws bs:List Int):Prop where
 hws:ws.length=x.nW
 hwc:x.nW≤x.cW
 hwm:x.cW≤maxLen
 hwb:I8b ws
 hbs:bs.length=x.nB
 hb32:∀ q, -2147483648≤bs.getD q 0∧bs.getD q 0≤2147483647
 z1 : -128≤x.Z
 z2:x.Z≤127
 small:x.Small
 hm:(-2147483648≤x.m1∧x.m1≤2147483647)∧(-128≤x.z1∧x.z1≤127)∧(-2147483648≤x.m2∧x.m2≤2147483647)∧(-128≤x.z2∧x.z2≤127)
def Good (x:Nd) (H W C H2 W2 C2:Int) (r:Res):Prop :=
 r.xs.length=r.m∧r.m≤1000000∧(r.er≠0→r=Res.bad r.er) ∧
 (r.er=0→x.shE H W C H2 W2 C2=0∧x.shV H W C H2 W2 C2=#[.int .i64 r.X,.int .i64 r.Y,.int .i64 r.U]∧tensB r.X r.Y r.U r.m=true)
theorem Good.bad (x:Nd) (H W C H2 W2 C2 e:Int) (h:e≠0):Good x H W C H2 W2 C2 (Res.bad e):=⟨rfl,Nat.zero_le _,fun _=>rfl,fun h0=>absurd h0 h⟩
theorem tens_of {H W C:Int} {n:Nat} (hs:shapeB H W C=true) (hn:(n:Int)=H * W * C):tensB H W C n=true:=by simp [tensB,hs,hn]
theorem tens_shape {H W C:Int} {n:Nat} (ht:tensB H W C n=true):shapeB H W C=true:=by simp [tensB] at ht;exact ht.1
theorem tens_num {H W C:Int} {n:Nat} (ht:tensB H W C n=true):(n:Int)=H * W * C:=by simp [tensB] at ht;exact ht.2
theorem wrap32_in (a:Int) : -2147483648≤IntKind.i32.wrap a∧IntKind.i32.wrap a≤2147483647:=by rw [IntKind.wrap_i32];omega
theorem check_ok {x:Nd} (h:x.checkZ=0):(1≤x.kd∧x.kd≤9)∧(scaledB x.kd=true→rightB x.m1 x.s1=true)∧(x.kd=6→rightB x.m2 x.s2=true):=by
 unfold Nd.checkZ at h
 split at h
 ·cases h
 rename_i h1
 split at h
 ·cases h
 split at h
 ·cases h
 rename_i h3
 refine⟨by omega,fun hs=>?_,fun hk=>?_⟩
 ·cases hr:rightB x.m1 x.s1
  ·exact absurd (by simp [hs,hr]) h3
  ·rfl
 ·cases hr:rightB x.m2 x.s2
  ·exact absurd (by simp [hk,hr]) h3
  ·rfl
end Go.Proofs.YtkpngknbiecdiaaGreatDoor.CRun
end
section
namespace Go.Proofs.YtkpngknbiecdiaaGreatDoor.CDepth
open Go Go.ChangeShapes Go.WideShapes Go.ChangeAt Go.RowKit
open Plain CSat CShape CTensor CConv
set_option linter.unusedVariables false
theorem dep_letters {H W C K S P:Int} {nW nB:Nat} (he:depthE H W C K S P nW nB=0) :
  ∃ a b d kk:Nat,stepsM H K S P=(a:Int)∧stepsM W K S P=(b:Int)∧C=(d:Int)∧K=(kk:Int)∧a * b * d≤1024:=by
 obtain⟨hsl,hnW,hn16,hnB⟩:=depthE_ok he
 obtain⟨hs0,har1,har2, -, -,hsr⟩:=slide_ok hsl
 obtain⟨q1,q2,q3,q4,q5,q6,q7⟩:=shapeB_yes hsr
 obtain⟨-, -,k1,k2, -⟩:=argsB_yes har1
 obtain⟨a,ha⟩:∃ a:Nat,stepsM H K S P=(a:Int):=⟨(stepsM H K S P).toNat,by omega⟩
 obtain⟨b,hb⟩:∃ b:Nat,stepsM W K S P=(b:Int):=⟨(stepsM W K S P).toNat,by omega⟩
 obtain⟨d,hd⟩:∃ d:Nat,C=(d:Int):=⟨C.toNat,by omega⟩
 obtain⟨kk,hk⟩:∃ kk:Nat,K=(kk:Int):=⟨K.toNat,by omega⟩
 have hN:((a * b * d:Nat):Int)≤1024:=by
  have:((a * b * d:Nat):Int)=stepsM H K S P * stepsM W K S P * C:=by rw [ha,hb,hd];simp
  omega
 exact⟨a,b,d,kk,ha,hb,hd,hk,by omega⟩
end Go.Proofs.YtkpngknbiecdiaaGreatDoor.CDepth
end
section
namespace Go.Proofs.YtkpngknbiecdiaaGreatDoor.CPool
open Go Go.ChangeShapes Go.WideShapes Go.ChangeAt Go.RowKit
open Plain CSat CShape CTensor CConv
set_option linter.unusedVariables false
def meanF (zs:List Int) (H W C S P:Int) (kk:Nat) (h v o:Nat):Int:=meanZ (windowL zs H W C ((h:Int) * S - P) ((v:Int) * S - P) kk o)
theorem rowL_succ8 (F:Nat→Int) (k:Nat) (x:Int) (h:F k=x):I8s (rowL F k) ++ [.int .i8 x]=I8s (rowL F (k+1)):=by
 simp [I8s,rowL,List.range_succ,h]
end Go.Proofs.YtkpngknbiecdiaaGreatDoor.CPool
end
section
namespace Go.Proofs.YtkpngknbiecdiaaGreatDoor.CPool
open Go Go.ChangeShapes Go.WideShapes Go.ChangeAt Go.RowKit
open Plain CSat CShape CTensor CConv
set_option linter.unusedVariables false
set_option maxHeartbeats 2000000 in
theorem each_bad (H W C:Int) (A:Option Addr) (n c:Nat) (x0 x1 x2 x8 x11 x12 x13 x14 x15 x16 x17 x18:Value) (K S P O Z:Int) (WA BA:Option Addr) (nW cW nB cB:Nat) (fv:Value) (ht:tensB H W C n=false) (w:World) :
  Calls Tryz.prog 53 #[.agg #[.int .i64 H,.int .i64 W,.int .i64 C,.slice A n c],.agg #[x0,x1,x2,.int .i64 K,.int .i64 S,.int .i64 P,.int .i64 O,.int .i8 Z,x8,.slice WA nW cW,.slice BA nB cB,x11,x12,x13,x14,x15,x16,x17,x18],fv] w (MadeP w 0 0 0 0 [] (.int .i64 5)):=by
 have HT:=Lib.hid ht
 clear ht
 go_enter Tryz.func53,Tryz.ntmps53
 go_wp2_with (go_at_call 17;(refine (right_to H W C A n c false HT.out _).mono ?_);(rintro e w1 ⟨rfl,hb⟩;obtain⟨hcc,hff⟩:=Kit.bcell hb;have hz:w.heap.size+3≤w1.heap.size:=(by have:=hb.size;simp at this;omega);have hz2:w.heap.size+2 < w1.heap.size:=(by omega);have HB:=Lib.hid hb;clear hb))
 refine bodyPost_ret (Kit.results_ct rfl _ _ (w.heap.size+2) 0 [.int .i64 0,.int .i64 0,.int .i64 0,.slice none 0 0] _ rfl (range_4 (by go_cell) (by go_cell) (by go_cell) (by go_cell)) Tryz.underlying32 rfl (by kernel_rfl)) rfl ?_
 have hB1:Below w.heap.size w w1:=Below.trans ((((Below.refl _ _).alloc (Nat.le_refl _) _).alloc (by simp) _).alloc (by simp;omega) _) (HB.out.mono (by first | omega | (simp;done) | (simp;omega)))
 exact⟨_,rfl,World.ownsRow_nil _ _ _ _,(((hB1.setCell (p:=⟨w.heap.size+2,0,none⟩) (by simp) _).setCell (p:=⟨w.heap.size+2,1,none⟩) (by simp) _).setCell (p:=⟨w.heap.size+2,2,none⟩) (by simp) _).setCell (p:=⟨w.heap.size+2,3,none⟩) (by simp) _⟩
set_option maxHeartbeats 2000000 in
theorem each_err (H W C:Int) (A:Option Addr) (n c:Nat) (x0 x1 x2 x8 x11 x12 x13 x14 x15 x16 x17 x18:Value) (K S P O Z:Int) (WA BA:Option Addr) (nW cW nB cB:Nat) (fv:Value) (ht:tensB H W C n=true) (er:Int) (he:slideE H W C K S P C=er) (h0:er≠0) (w:World) :
  Calls Tryz.prog 53 #[.agg #[.int .i64 H,.int .i64 W,.int .i64 C,.slice A n c],.agg #[x0,x1,x2,.int .i64 K,.int .i64 S,.int .i64 P,.int .i64 O,.int .i8 Z,x8,.slice WA nW cW,.slice BA nB cB,x11,x12,x13,x14,x15,x16,x17,x18],fv] w (MadeP w 0 0 0 0 [] (.int .i64 er)):=by
 have hS:slideS H W C K S P C=#[.int .i64 0,.int .i64 0,.int .i64 0]:=by unfold slideS;rw [he,if_neg h0]
 have HT:=Lib.hid ht
 have HE:=Lib.hid he
 have HS:=Lib.hid hS
 have h0b:(er != 0)=true:=by simpa using h0
 have h0c:(er == 0)=false:=by simpa using h0
 clear ht he hS
 go_enter Tryz.func53,Tryz.ntmps53
 go_wp2_with (first
  | (go_at_call 17
     have hal:Below w.heap.size w (((w.alloc (.cells #[.int .i64 H,.int .i64 W,.int .i64 C,.slice A n c] 32)).alloc (.cells #[x0,x1,x2,.int .i64 K,.int .i64 S,.int .i64 P,.int .i64 O,.int .i8 Z,x8,.slice WA nW cW,.slice BA nB cB,x11,x12,x13,x14,x15,x16,x17,x18] 28)).alloc (.cells #[.int .i64 0,.int .i64 0,.int .i64 0,.slice none 0 0] 32)):=(((Below.refl _ _).alloc (by first | exact Nat.le_refl _ | (simp;done) | (simp;omega)) _).alloc (by first | exact Nat.le_refl _ | (simp;done) | (simp;omega)) _).alloc (by first | exact Nat.le_refl _ | (simp;done) | (simp;omega)) _
     refine (right_to H W C A n c true HT.out _).mono ?_
     rintro e w1 ⟨rfl,hb⟩
     have hh:Below w.heap.size w w1:=hal.trans (hb.mono hal.size)
     have qTB:=(boxNew H W C A n c 32) w
     try simp only [World.size_alloc] at qTB
     have TB:=Lib.hid ((qTB.below (B':=w.heap.size+1) (by omega) ((((Below.refl _ _).alloc (by first | exact Nat.le_refl _ | (simp;done) | (simp;omega)) _).alloc (by first | exact Nat.le_refl _ | (simp;done) | (simp;omega)) _).mono (by simp))).below (by first | (simp;done) | (simp;omega)) hb)
     have yTB:w.heap.size < w1.heap.size:=by have:=hb.size;simp at this;omega
     clear qTB
     have qTN:=(NodeAt.new x0 x1 x2 x8 x11 x12 x13 x14 x15 x16 x17 x18 K S P O Z WA BA nW cW nB cB 28) (w.alloc (.cells #[.int .i64 H,.int .i64 W,.int .i64 C,.slice A n c] 32))
     try simp only [World.size_alloc] at qTN
     have TN:=Lib.hid ((qTN.below (B':=w.heap.size+2) (by omega) (((Below.refl _ _).alloc (by first | exact Nat.le_refl _ | (simp;done) | (simp;omega)) _).mono (by simp))).below (by first | (simp;done) | (simp;omega)) hb)
     have yTN:w.heap.size+1 < w1.heap.size:=by have:=hb.size;simp at this;omega
     clear qTN
     have qFR:=(freshNew 32) ((w.alloc (.cells #[.int .i64 H,.int .i64 W,.int .i64 C,.slice A n c] 32)).alloc (.cells #[x0,x1,x2,.int .i64 K,.int .i64 S,.int .i64 P,.int .i64 O,.int .i8 Z,x8,.slice WA nW cW,.slice BA nB cB,x11,x12,x13,x14,x15,x16,x17,x18] 28))
     try simp only [World.size_alloc] at qFR
     have FR:=Lib.hid (qFR.below (by first | (simp;done) | (simp;omega)) hb)
     have yFR:w.heap.size+2 < w1.heap.size:=by have:=hb.size;simp at this;omega
     clear qFR
     have HBW:Hid (Below w.heap.size w w1):=Lib.hid hh
     obtain⟨tbp0,tbp1,tbp2,tbp3⟩:=TB.out
     have n3:=TN.out.at 3 _ rfl
     have n4:=TN.out.at 4 _ rfl
     have n5:=TN.out.at 5 _ rfl
     clear hb hh hal)
  | (go_at_call 102
     have hal:Below w1.heap.size w1 w1:=Below.refl _ _
     refine (slide_to H W C K S P C er _ HE.out HS.out _).mono ?_
     rintro e w2 ⟨rfl,hb⟩
     have hh:Below w1.heap.size w1 w2:=hal.trans (hb.mono hal.size)
     replace TB:=Lib.hid (TB.out.below yTB hh)
     replace yTB:=Nat.lt_of_lt_of_le yTB hh.size
     replace TN:=Lib.hid (TN.out.below yTN hh)
     replace yTN:=Nat.lt_of_lt_of_le yTN hh.size
     replace FR:=Lib.hid (FR.out.below yFR hh)
     replace yFR:=Nat.lt_of_lt_of_le yFR hh.size
     replace HBW:=Lib.hid (HBW.out.trans (hh.mono HBW.out.size))
     clear tbp0 tbp1 tbp2 tbp3 n3 n4 n5
     obtain⟨⟨z0,z1,z2,z3⟩,z4,z5,z6,z7⟩:=FR.out
     obtain⟨tbp0,tbp1,tbp2,tbp3⟩:=TB.out
     have n3:=TN.out.at 3 _ rfl
     have n4:=TN.out.at 4 _ rfl
     have n5:=TN.out.at 5 _ rfl
     clear hb hh hal))
 obtain⟨⟨z0,z1,z2,z3⟩,z4,z5,z6,z7⟩:=FR.out
 refine bodyPost_ret (Kit.results_ct rfl _ _ (w.heap.size+2) 0 [.int .i64 0,.int .i64 0,.int .i64 0,.slice none 0 0] _ rfl (range_4 (by go_cell) (by go_cell) (by go_cell) (by go_cell)) Tryz.underlying32 rfl (by kernel_rfl)) rfl ?_
 exact⟨_,rfl,World.ownsRow_nil _ _ _ _,by exact ((((HBW.out.setCell (p:=⟨w.heap.size+2,0,none⟩) (by simp) _).setCell (p:=⟨w.heap.size+2,1,none⟩) (by simp) _).setCell (p:=⟨w.heap.size+2,2,none⟩) (by simp) _).setCell (p:=⟨w.heap.size+2,3,none⟩) (by simp) _).alloc (by simp;omega) _⟩
end Go.Proofs.YtkpngknbiecdiaaGreatDoor.CPool
end
section
namespace Go.Proofs.YtkpngknbiecdiaaGreatDoor.CJoin
open Go Go.ChangeShapes Go.WideShapes Go.ChangeAt Go.RowKit Go.Deep
open Plain CSat CFix CShape CTensor CConv
set_option linter.unusedVariables false
theorem tens_pos {H W C:Int} {n:Nat} (h:tensB H W C n=true):1≤n:=by
 obtain⟨hs,hn⟩:shapeB H W C=true∧(n:Int)=H * W * C:=by simpa [tensB] using h
 obtain⟨g1,g2,g3,g4,g5,g6,g7⟩:=shapeB_yes hs
 have:0 < H * W * C:=Int.mul_pos (Int.mul_pos (by omega) (by omega)) (by omega)
 omega
end Go.Proofs.YtkpngknbiecdiaaGreatDoor.CJoin
end
