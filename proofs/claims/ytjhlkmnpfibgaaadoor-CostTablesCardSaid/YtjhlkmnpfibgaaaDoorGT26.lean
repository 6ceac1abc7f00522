/- -/
import Derived.Test.YtjhlkmnpfibgaaaDoorGT22
import Derived.Test.YtjhlkmnpfibgaaaDoorGT23
import Derived.Test.YtjhlkmnpfibgaaaDoorGT25
open Nat (le_refl lt_of_succ_lt lt_succ_self)
set_option linter.unusedVariables false
set_option linter.unusedSimpArgs false
set_option maxRecDepth 100000
set_option maxHeartbeats 16000000
namespace Go.Proofs.YtjhlkmnpfibgaaaDoor
namespace CConv
end CConv
namespace CDense
end CDense
namespace CSat
end CSat
namespace CTensor
end CTensor
open Go Go.ChangeShapes Go.WideShapes Go.ChangeAt Go.RowKit Go.Deep
section
namespace CKind
open Plain CSat CFix CShape CTensor CConv CDense CDepth
def Nd.shE (x:Nd) (H W C H2 W2 C2:Int):Int :=
 if x.kd=1 then convE H W C x.K x.S x.P x.O x.nW x.nB else if x.kd=2 then depthE H W C x.K x.S x.P x.nW x.nB else if x.kd=3 then denseE H W C x.O x.nW x.nB else if x.kd=4∨x.kd=5 then zas H W C x.K x.S x.P C
 else if x.kd < 1∨9 < x.kd then 6 else if zae H W C=false then 5 else if x.kd=6∧(H == H2 && (W == W2 && C == C2))=false then 5 else if x.kd=8 then (if x.P < 0∨4 < x.P then 2 else if zae (H+2 * x.P) (W+2 * x.P) C=false then 5 else 0) else 0
def Nd.shV (x:Nd) (H W C H2 W2 C2:Int):Array Value :=
 if x.kd=1 then convS H W C x.K x.S x.P x.O x.nW x.nB else if x.kd=2 then depthS H W C x.K x.S x.P x.nW x.nB else if x.kd=3 then denseS H W C x.O x.nW x.nB else if x.kd=4∨x.kd=5 then zar H W C x.K x.S x.P C
 else if x.shE H W C H2 W2 C2≠0 then #[.int .i64 0,.int .i64 0,.int .i64 0] else if x.kd=9 then #[.int .i64 1,.int .i64 1,.int .i64 (zam H W C)] else if x.kd=8 then #[.int .i64 (H+2 * x.P),.int .i64 (W+2 * x.P),.int .i64 C] else #[.int .i64 H,.int .i64 W,.int .i64 C]
theorem Nd.sh_three (x:Nd) (H W C H2 W2 C2:Int):∃ u0 u1 u2,x.shV H W C H2 W2 C2=#[.int .i64 u0,.int .i64 u1,.int .i64 u2]:=by
 unfold Nd.shV convS depthS denseS zar
 repeat' split
 all_goals exact⟨_,_,_,rfl⟩
def ShapeIs (f:FuncId) (x:Nd):Prop:=∀ (H W C H2 W2 C2 e u0 u1 u2:Int) (_:x.shE H W C H2 W2 C2=e) (_:x.shV H W C H2 W2 C2=#[.int .i64 u0,.int .i64 u1,.int .i64 u2]) (w:World),
 Calls Tryd.prog f #[.agg x.val,.agg #[.int .i64 H,.int .i64 W,.int .i64 C],.agg #[.int .i64 H2,.int .i64 W2,.int .i64 C2]] w fun r w'=>r=.returned (.tuple #[.agg #[.int .i64 u0,.int .i64 u1,.int .i64 u2],.int .i64 e])∧Below w.heap.size w w'
theorem zaz {a b c d e f:Int} (h:(#[.int .i64 a,.int .i64 b,.int .i64 c]:Array Value)=#[.int .i64 d,.int .i64 e,.int .i64 f]):a=d∧b=e∧c=f:=by simpa using h
theorem zbg (x:Nd):ShapeIs 25 x:=by
 intro H W C H2 W2 C2 e u0 u1 u2 he hv w
 obtain⟨kd,na,nb,K,S,P,O,Z,Y,WA,nW,cW,BA,nB,cB,m1,s1,z1,m2,s2,z2,lo,hi⟩:=x
 unfold Nd.val
 by_cases h1:kd < 1
 ·have e6:(⟨kd,na,nb,K,S,P,O,Z,Y,WA,nW,cW,BA,nB,cB,m1,s1,z1,m2,s2,z2,lo,hi⟩:Nd).shE H W C H2 W2 C2=6:=by
   simp only [Nd.shE,show ¬ kd=1 by omega,show ¬ kd=2 by omega,show ¬ kd=3 by omega,show ¬ kd=4 by omega,show ¬ kd=5 by omega,h1,if_false,false_or,true_or,if_true]
  unfold Nd.shV at hv
  rw [e6] at he hv
  subst he
  simp only [show ¬ kd=1 by omega,show ¬ kd=2 by omega,show ¬ kd=3 by omega,show ¬ kd=4 by omega,show ¬ kd=5 by omega,if_false,false_or] at hv
  obtain⟨rfl,rfl,rfl⟩:=zaz hv
  exact rks_lo H W C H2 W2 C2 na nb K S P O Z Y WA nW cW BA nB cB m1 s1 z1 m2 s2 z2 lo hi kd h1 w
 by_cases h9:9 < kd
 ·have e6:(⟨kd,na,nb,K,S,P,O,Z,Y,WA,nW,cW,BA,nB,cB,m1,s1,z1,m2,s2,z2,lo,hi⟩:Nd).shE H W C H2 W2 C2=6:=by
   simp only [Nd.shE,show ¬ kd=1 by omega,show ¬ kd=2 by omega,show ¬ kd=3 by omega,show ¬ kd=4 by omega,show ¬ kd=5 by omega,h9,if_false,false_or,or_true,if_true]
  unfold Nd.shV at hv
  rw [e6] at he hv
  subst he
  simp only [show ¬ kd=1 by omega,show ¬ kd=2 by omega,show ¬ kd=3 by omega,show ¬ kd=4 by omega,show ¬ kd=5 by omega,if_false,false_or] at hv
  obtain⟨rfl,rfl,rfl⟩:=zaz hv
  exact rks_hi H W C H2 W2 C2 na nb K S P O Z Y WA nW cW BA nB cB m1 s1 z1 m2 s2 z2 lo hi kd h9 w
 have hk:kd=1∨kd=2∨kd=3∨kd=4∨kd=5∨kd=6∨kd=7∨kd=8∨kd=9:=by omega
 clear h1 h9
 rcases hk with rfl | rfl | rfl | rfl | rfl | rfl | rfl | rfl | rfl
 ·exact rks1 H W C H2 W2 C2 na nb K S P O Z Y WA nW cW BA nB cB m1 s1 z1 m2 s2 z2 lo hi e u0 u1 u2 he hv w
 ·exact rks2 H W C H2 W2 C2 na nb K S P O Z Y WA nW cW BA nB cB m1 s1 z1 m2 s2 z2 lo hi e u0 u1 u2 he hv w
 ·exact rks3 H W C H2 W2 C2 na nb K S P O Z Y WA nW cW BA nB cB m1 s1 z1 m2 s2 z2 lo hi e u0 u1 u2 he hv w
 ·exact rks4 H W C H2 W2 C2 na nb K S P O Z Y WA nW cW BA nB cB m1 s1 z1 m2 s2 z2 lo hi e u0 u1 u2 he hv w
 ·exact rks5 H W C H2 W2 C2 na nb K S P O Z Y WA nW cW BA nB cB m1 s1 z1 m2 s2 z2 lo hi e u0 u1 u2 he hv w
 ·cases hs:zae H W C
  ·have ez:(⟨6,na,nb,K,S,P,O,Z,Y,WA,nW,cW,BA,nB,cB,m1,s1,z1,m2,s2,z2,lo,hi⟩:Nd).shE H W C H2 W2 C2=5:=by simp [Nd.shE,hs]
   unfold Nd.shV at hv
   rw [ez] at he hv
   subst he
   simp only [show ¬ (6:Int)=1 by omega,show ¬ (6:Int)=2 by omega,show ¬ (6:Int)=3 by omega,show ¬ (6:Int)=4 by omega,show ¬ (6:Int)=5 by omega,ne_eq,not_true_eq_false,not_false_eq_true,if_false,if_true,false_or,or_false,show ¬ (0:Int)≠0 by omega,show (2:Int)≠0 by omega,show (5:Int)≠0 by omega,show ¬ (6:Int)=8 by omega,show ¬ (6:Int)=9 by omega] at hv
   obtain⟨rfl,rfl,rfl⟩:=zaz hv
   exact rks6_no H W C H2 W2 C2 na nb K S P O Z Y WA nW cW BA nB cB m1 s1 z1 m2 s2 z2 lo hi hs w
  ·cases hd:(H == H2 && (W == W2 && C == C2))
   ·have ez:(⟨6,na,nb,K,S,P,O,Z,Y,WA,nW,cW,BA,nB,cB,m1,s1,z1,m2,s2,z2,lo,hi⟩:Nd).shE H W C H2 W2 C2=5:=by simp [Nd.shE,hs,hd]
    unfold Nd.shV at hv
    rw [ez] at he hv
    subst he
    simp only [show ¬ (6:Int)=1 by omega,show ¬ (6:Int)=2 by omega,show ¬ (6:Int)=3 by omega,show ¬ (6:Int)=4 by omega,show ¬ (6:Int)=5 by omega,ne_eq,not_true_eq_false,not_false_eq_true,if_false,if_true,false_or,or_false,show ¬ (0:Int)≠0 by omega,show (2:Int)≠0 by omega,show (5:Int)≠0 by omega,show ¬ (6:Int)=8 by omega,show ¬ (6:Int)=9 by omega] at hv
    obtain⟨rfl,rfl,rfl⟩:=zaz hv
    exact rks6_ne H W C H2 W2 C2 na nb K S P O Z Y WA nW cW BA nB cB m1 s1 z1 m2 s2 z2 lo hi hs hd w
   ·have ez:(⟨6,na,nb,K,S,P,O,Z,Y,WA,nW,cW,BA,nB,cB,m1,s1,z1,m2,s2,z2,lo,hi⟩:Nd).shE H W C H2 W2 C2=0:=by simp [Nd.shE,hs,hd]
    unfold Nd.shV at hv
    rw [ez] at he hv
    subst he
    simp only [show ¬ (6:Int)=1 by omega,show ¬ (6:Int)=2 by omega,show ¬ (6:Int)=3 by omega,show ¬ (6:Int)=4 by omega,show ¬ (6:Int)=5 by omega,ne_eq,not_true_eq_false,not_false_eq_true,if_false,if_true,false_or,or_false,show ¬ (0:Int)≠0 by omega,show (2:Int)≠0 by omega,show (5:Int)≠0 by omega,show ¬ (6:Int)=8 by omega,show ¬ (6:Int)=9 by omega] at hv
    obtain⟨rfl,rfl,rfl⟩:=zaz hv
    exact rks6_eq H W C H2 W2 C2 na nb K S P O Z Y WA nW cW BA nB cB m1 s1 z1 m2 s2 z2 lo hi hs hd w
 ·cases hs:zae H W C
  ·have ez:(⟨7,na,nb,K,S,P,O,Z,Y,WA,nW,cW,BA,nB,cB,m1,s1,z1,m2,s2,z2,lo,hi⟩:Nd).shE H W C H2 W2 C2=5:=by simp [Nd.shE,hs]
   unfold Nd.shV at hv
   rw [ez] at he hv
   subst he
   simp only [show ¬ (7:Int)=1 by omega,show ¬ (7:Int)=2 by omega,show ¬ (7:Int)=3 by omega,show ¬ (7:Int)=4 by omega,show ¬ (7:Int)=5 by omega,ne_eq,not_true_eq_false,not_false_eq_true,if_false,if_true,false_or,or_false,show ¬ (0:Int)≠0 by omega,show (2:Int)≠0 by omega,show (5:Int)≠0 by omega,show ¬ (7:Int)=8 by omega,show ¬ (7:Int)=9 by omega] at hv
   obtain⟨rfl,rfl,rfl⟩:=zaz hv
   exact rks7_no H W C H2 W2 C2 na nb K S P O Z Y WA nW cW BA nB cB m1 s1 z1 m2 s2 z2 lo hi hs w
  ·have ez:(⟨7,na,nb,K,S,P,O,Z,Y,WA,nW,cW,BA,nB,cB,m1,s1,z1,m2,s2,z2,lo,hi⟩:Nd).shE H W C H2 W2 C2=0:=by simp [Nd.shE,hs]
   unfold Nd.shV at hv
   rw [ez] at he hv
   subst he
   simp only [show ¬ (7:Int)=1 by omega,show ¬ (7:Int)=2 by omega,show ¬ (7:Int)=3 by omega,show ¬ (7:Int)=4 by omega,show ¬ (7:Int)=5 by omega,ne_eq,not_true_eq_false,not_false_eq_true,if_false,if_true,false_or,or_false,show ¬ (0:Int)≠0 by omega,show (2:Int)≠0 by omega,show (5:Int)≠0 by omega,show ¬ (7:Int)=8 by omega,show ¬ (7:Int)=9 by omega] at hv
   obtain⟨rfl,rfl,rfl⟩:=zaz hv
   exact rks7_yes H W C H2 W2 C2 na nb K S P O Z Y WA nW cW BA nB cB m1 s1 z1 m2 s2 z2 lo hi hs w
 ·cases hs:zae H W C
  ·have ez:(⟨8,na,nb,K,S,P,O,Z,Y,WA,nW,cW,BA,nB,cB,m1,s1,z1,m2,s2,z2,lo,hi⟩:Nd).shE H W C H2 W2 C2=5:=by simp [Nd.shE,hs]
   unfold Nd.shV at hv
   rw [ez] at he hv
   subst he
   simp only [show ¬ (8:Int)=1 by omega,show ¬ (8:Int)=2 by omega,show ¬ (8:Int)=3 by omega,show ¬ (8:Int)=4 by omega,show ¬ (8:Int)=5 by omega,ne_eq,not_true_eq_false,not_false_eq_true,if_false,if_true,false_or,or_false,show ¬ (0:Int)≠0 by omega,show (2:Int)≠0 by omega,show (5:Int)≠0 by omega,show ¬ (8:Int)=9 by omega] at hv
   obtain⟨rfl,rfl,rfl⟩:=zaz hv
   exact rks8_no H W C H2 W2 C2 na nb K S P O Z Y WA nW cW BA nB cB m1 s1 z1 m2 s2 z2 lo hi hs w
  ·by_cases p1:P < 0
   ·have ez:(⟨8,na,nb,K,S,P,O,Z,Y,WA,nW,cW,BA,nB,cB,m1,s1,z1,m2,s2,z2,lo,hi⟩:Nd).shE H W C H2 W2 C2=2:=by simp [Nd.shE,hs,p1]
    unfold Nd.shV at hv
    rw [ez] at he hv
    subst he
    simp only [show ¬ (8:Int)=1 by omega,show ¬ (8:Int)=2 by omega,show ¬ (8:Int)=3 by omega,show ¬ (8:Int)=4 by omega,show ¬ (8:Int)=5 by omega,ne_eq,not_true_eq_false,not_false_eq_true,if_false,if_true,false_or,or_false,show ¬ (0:Int)≠0 by omega,show (2:Int)≠0 by omega,show (5:Int)≠0 by omega,show ¬ (8:Int)=9 by omega] at hv
    obtain⟨rfl,rfl,rfl⟩:=zaz hv
    exact rks8_lo H W C H2 W2 C2 na nb K S P O Z Y WA nW cW BA nB cB m1 s1 z1 m2 s2 z2 lo hi hs p1 w
   by_cases p2:4 < P
   ·have ez:(⟨8,na,nb,K,S,P,O,Z,Y,WA,nW,cW,BA,nB,cB,m1,s1,z1,m2,s2,z2,lo,hi⟩:Nd).shE H W C H2 W2 C2=2:=by simp [Nd.shE,hs,p2]
    unfold Nd.shV at hv
    rw [ez] at he hv
    subst he
    simp only [show ¬ (8:Int)=1 by omega,show ¬ (8:Int)=2 by omega,show ¬ (8:Int)=3 by omega,show ¬ (8:Int)=4 by omega,show ¬ (8:Int)=5 by omega,ne_eq,not_true_eq_false,not_false_eq_true,if_false,if_true,false_or,or_false,show ¬ (0:Int)≠0 by omega,show (2:Int)≠0 by omega,show (5:Int)≠0 by omega,show ¬ (8:Int)=9 by omega] at hv
    obtain⟨rfl,rfl,rfl⟩:=zaz hv
    exact rks8_hi H W C H2 W2 C2 na nb K S P O Z Y WA nW cW BA nB cB m1 s1 z1 m2 s2 z2 lo hi hs p2 w
   cases ht:zae (H+2 * P) (W+2 * P) C
   ·have ez:(⟨8,na,nb,K,S,P,O,Z,Y,WA,nW,cW,BA,nB,cB,m1,s1,z1,m2,s2,z2,lo,hi⟩:Nd).shE H W C H2 W2 C2=5:=by simp [Nd.shE,hs,p1,p2,ht]
    unfold Nd.shV at hv
    rw [ez] at he hv
    subst he
    simp only [show ¬ (8:Int)=1 by omega,show ¬ (8:Int)=2 by omega,show ¬ (8:Int)=3 by omega,show ¬ (8:Int)=4 by omega,show ¬ (8:Int)=5 by omega,ne_eq,not_true_eq_false,not_false_eq_true,if_false,if_true,false_or,or_false,show ¬ (0:Int)≠0 by omega,show (2:Int)≠0 by omega,show (5:Int)≠0 by omega,show ¬ (8:Int)=9 by omega] at hv
    obtain⟨rfl,rfl,rfl⟩:=zaz hv
    exact rks8_bad H W C H2 W2 C2 na nb K S P O Z Y WA nW cW BA nB cB m1 s1 z1 m2 s2 z2 lo hi hs (by omega) (by omega) ht w
   ·have ez:(⟨8,na,nb,K,S,P,O,Z,Y,WA,nW,cW,BA,nB,cB,m1,s1,z1,m2,s2,z2,lo,hi⟩:Nd).shE H W C H2 W2 C2=0:=by simp [Nd.shE,hs,p1,p2,ht]
    unfold Nd.shV at hv
    rw [ez] at he hv
    subst he
    simp only [show ¬ (8:Int)=1 by omega,show ¬ (8:Int)=2 by omega,show ¬ (8:Int)=3 by omega,show ¬ (8:Int)=4 by omega,show ¬ (8:Int)=5 by omega,ne_eq,not_true_eq_false,not_false_eq_true,if_false,if_true,false_or,or_false,show ¬ (0:Int)≠0 by omega,show (2:Int)≠0 by omega,show (5:Int)≠0 by omega,show ¬ (8:Int)=9 by omega] at hv
    obtain⟨rfl,rfl,rfl⟩:=zaz hv
    exact rks8_ok H W C H2 W2 C2 na nb K S P O Z Y WA nW cW BA nB cB m1 s1 z1 m2 s2 z2 lo hi hs (by omega) (by omega) ht w
 ·cases hs:zae H W C
  ·have ez:(⟨9,na,nb,K,S,P,O,Z,Y,WA,nW,cW,BA,nB,cB,m1,s1,z1,m2,s2,z2,lo,hi⟩:Nd).shE H W C H2 W2 C2=5:=by simp [Nd.shE,hs]
   unfold Nd.shV at hv
   rw [ez] at he hv
   subst he
   simp only [show ¬ (9:Int)=1 by omega,show ¬ (9:Int)=2 by omega,show ¬ (9:Int)=3 by omega,show ¬ (9:Int)=4 by omega,show ¬ (9:Int)=5 by omega,ne_eq,not_true_eq_false,not_false_eq_true,if_false,if_true,false_or,or_false,show ¬ (0:Int)≠0 by omega,show (2:Int)≠0 by omega,show (5:Int)≠0 by omega,show ¬ (9:Int)=8 by omega] at hv
   obtain⟨rfl,rfl,rfl⟩:=zaz hv
   exact rks9_no H W C H2 W2 C2 na nb K S P O Z Y WA nW cW BA nB cB m1 s1 z1 m2 s2 z2 lo hi hs w
  ·have ez:(⟨9,na,nb,K,S,P,O,Z,Y,WA,nW,cW,BA,nB,cB,m1,s1,z1,m2,s2,z2,lo,hi⟩:Nd).shE H W C H2 W2 C2=0:=by simp [Nd.shE,hs]
   unfold Nd.shV at hv
   rw [ez] at he hv
   subst he
   simp only [show ¬ (9:Int)=1 by omega,show ¬ (9:Int)=2 by omega,show ¬ (9:Int)=3 by omega,show ¬ (9:Int)=4 by omega,show ¬ (9:Int)=5 by omega,ne_eq,not_true_eq_false,not_false_eq_true,if_false,if_true,false_or,or_false,show ¬ (0:Int)≠0 by omega,show (2:Int)≠0 by omega,show (5:Int)≠0 by omega,show ¬ (9:Int)=8 by omega] at hv
   obtain⟨rfl,rfl,rfl⟩:=zaz hv
   exact rks9_yes H W C H2 W2 C2 na nb K S P O Z Y WA nW cW BA nB cB m1 s1 z1 m2 s2 z2 lo hi _ hs rfl w
end CKind
end
end Go.Proofs.YtjhlkmnpfibgaaaDoor
