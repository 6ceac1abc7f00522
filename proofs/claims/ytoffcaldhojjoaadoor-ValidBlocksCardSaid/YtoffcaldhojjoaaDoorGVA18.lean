/- -/
import Derived.Test.YtoffcaldhojjoaaDoorGVA16
import Derived.Test.YtoffcaldhojjoaaDoorGVA17
open Go.Lib (hid)
open Nat (le_refl lt_of_succ_lt lt_succ_self)
set_option linter.unusedVariables false
set_option linter.unusedSimpArgs false
set_option maxRecDepth 100000
set_option maxHeartbeats 16000000
namespace Go.Proofs.YtoffcaldhojjoaaDoor
namespace CConv
end CConv
namespace CDense
end CDense
namespace CFix
end CFix
namespace CSat
end CSat
namespace CTensor
end CTensor
open Go Go.ChangeShapes Go.WideShapes Go.ChangeAt Go.RowKit Go.Deep
section
namespace CKind
open Plain CSat CFix CShape CTensor CConv CDense CDepth
def Nd.shE (x:Nd) (H W C H2 W2 C2:Int):Int :=
 if x.kd=1 then convE H W C x.K x.S x.P x.O x.nW x.nB else if x.kd=2 then depthE H W C x.K x.S x.P x.nW x.nB else if x.kd=3 then zb9 H W C x.O x.nW x.nB else if x.kd=4∨x.kd=5 then zaz H W C x.K x.S x.P C
 else if x.kd < 1∨9 < x.kd then 6 else if zae H W C=false then 5 else if x.kd=6∧(H == H2 && (W == W2 && C == C2))=false then 5 else if x.kd=8 then (if x.P < 0∨4 < x.P then 2 else if zae (H+2 * x.P) (W+2 * x.P) C=false then 5 else 0) else 0
def Nd.shV (x:Nd) (H W C H2 W2 C2:Int):Array Value :=
 if x.kd=1 then convS H W C x.K x.S x.P x.O x.nW x.nB else if x.kd=2 then depthS H W C x.K x.S x.P x.nW x.nB else if x.kd=3 then zcb H W C x.O x.nW x.nB else if x.kd=4∨x.kd=5 then zav H W C x.K x.S x.P C
 else if x.shE H W C H2 W2 C2≠0 then #[.int .i64 0,.int .i64 0,.int .i64 0] else if x.kd=9 then #[.int .i64 1,.int .i64 1,.int .i64 (zam H W C)] else if x.kd=8 then #[.int .i64 (H+2 * x.P),.int .i64 (W+2 * x.P),.int .i64 C] else #[.int .i64 H,.int .i64 W,.int .i64 C]
theorem Nd.sh_three (x:Nd) (H W C H2 W2 C2:Int):∃ u0 u1 u2,x.shV H W C H2 W2 C2=#[.int .i64 u0,.int .i64 u1,.int .i64 u2]:=by
 unfold Nd.shV convS depthS zcb zav
 repeat' split
 all_goals exact⟨_,_,_,rfl⟩
def ShapeIs (f:FuncId) (x:Nd):Prop:=∀ (H W C H2 W2 C2 e u0 u1 u2:Int) (_:x.shE H W C H2 W2 C2=e) (_:x.shV H W C H2 W2 C2=#[.int .i64 u0,.int .i64 u1,.int .i64 u2]) (w:World),
 Calls Tryd.prog f #[.agg x.val,.agg #[.int .i64 H,.int .i64 W,.int .i64 C],.agg #[.int .i64 H2,.int .i64 W2,.int .i64 C2]] w fun r w'=>r=.returned (.tuple #[.agg #[.int .i64 u0,.int .i64 u1,.int .i64 u2],.int .i64 e])∧Below w.heap.size w w'
theorem za3 {a b c d e f:Int} (h:(#[.int .i64 a,.int .i64 b,.int .i64 c]:Array Value)=#[.int .i64 d,.int .i64 e,.int .i64 f]):a=d∧b=e∧c=f:=by simpa using h
theorem refShape_to (x:Nd):ShapeIs 25 x:=by
 intro H W C H2 W2 C2 e u0 u1 u2 he hv w
 obtain⟨kd,na,nb,K,S,P,O,Z,Y,WA,nW,cW,BA,nB,cB,m1,s1,z1,m2,s2,z2,lo,hi⟩:=x
 unfold Nd.val
 by_cases h1:kd < 1
 ·have e6:(⟨kd,na,nb,K,S,P,O,Z,Y,WA,nW,cW,BA,nB,cB,m1,s1,z1,m2,s2,z2,lo,hi⟩:Nd).shE H W C H2 W2 C2=6:=by
   simp only [Nd.shE,show ¬ kd=1 by omega,show ¬ kd=2 by omega,show ¬ kd=3 by omega,show ¬ kd=4 by omega,show ¬ kd=5 by omega,h1,if_false,false_or,true_or,if_true]
  unfold Nd.shV at hv
  rw [e6] at he hv
  subst he
  simp only [show ¬ kd=1 by omega,show ¬ kd=2 by omega,show ¬ kd=3 by omega,show ¬ kd=4 by omega,show ¬ kd=5 by omega,if_false,false_or] at hv
  obtain⟨rfl,rfl,rfl⟩:=za3 hv
  exact rks_lo H W C H2 W2 C2 na nb K S P O Z Y WA nW cW BA nB cB m1 s1 z1 m2 s2 z2 lo hi kd h1 w
 by_cases h9:9 < kd
 ·have e6:(⟨kd,na,nb,K,S,P,O,Z,Y,WA,nW,cW,BA,nB,cB,m1,s1,z1,m2,s2,z2,lo,hi⟩:Nd).shE H W C H2 W2 C2=6:=by
   simp only [Nd.shE,show ¬ kd=1 by omega,show ¬ kd=2 by omega,show ¬ kd=3 by omega,show ¬ kd=4 by omega,show ¬ kd=5 by omega,h9,if_false,false_or,or_true,if_true]
  unfold Nd.shV at hv
  rw [e6] at he hv
  subst he
  simp only [show ¬ kd=1 by omega,show ¬ kd=2 by omega,show ¬ kd=3 by omega,show ¬ kd=4 by omega,show ¬ kd=5 by omega,if_false,false_or] at hv
  obtain⟨rfl,rfl,rfl⟩:=za3 hv
  exact rks_hi H W C H2 W2 C2 na nb K S P O Z Y WA nW cW BA nB cB m1 s1 z1 m2 s2 z2 lo hi kd h9 w
 have hk:kd=1∨kd=2∨kd=3∨kd=4∨kd=5∨kd=6∨kd=7∨kd=8∨kd=9:=by omega
 clear h1 h9
 rcases hk with rfl | rfl | rfl | rfl | rfl | rfl | rfl | rfl | rfl
 ·exact rks1 H W C H2 W2 C2 na nb K S P O Z Y WA nW cW BA nB cB m1 s1 z1 m2 s2 z2 lo hi e u0 u1 u2 he hv w
 ·exact rks2 H W C H2 W2 C2 na nb K S P O Z Y WA nW cW BA nB cB m1 s1 z1 m2 s2 z2 lo hi e u0 u1 u2 he hv w
 ·exact rks3 H W C H2 W2 C2 na nb K S P O Z Y WA nW cW BA nB cB m1 s1 z1 m2 s2 z2 lo hi e u0 u1 u2 he hv w
 ·exact rks4 H W C H2 W2 C2 na nb K S P O Z Y WA nW cW BA nB cB m1 s1 z1 m2 s2 z2 lo hi e u0 u1 u2 he hv w
 ·exact rks5 H W C H2 W2 C2 na nb K S P O Z Y WA nW cW BA nB cB m1 s1 z1 m2 s2 z2 lo hi e u0 u1 u2 he hv w
 ·cases hs:zae H W C
  ·have ez:(⟨6,na,nb,K,S,P,O,Z,Y,WA,nW,cW,BA,nB,cB,m1,s1,z1,m2,s2,z2,lo,hi⟩:Nd).shE H W C H2 W2 C2=5:=by simp [Nd.shE,hs]
   unfold Nd.shV at hv
   rw [ez] at he hv
   subst he
   simp only [show ¬ (6:Int)=1 by omega,show ¬ (6:Int)=2 by omega,show ¬ (6:Int)=3 by omega,show ¬ (6:Int)=4 by omega,show ¬ (6:Int)=5 by omega,ne_eq,not_true_eq_false,not_false_eq_true,if_false,if_true,false_or,or_false,show ¬ (0:Int)≠0 by omega,show (2:Int)≠0 by omega,show (5:Int)≠0 by omega,show ¬ (6:Int)=8 by omega,show ¬ (6:Int)=9 by omega] at hv
   obtain⟨rfl,rfl,rfl⟩:=za3 hv
   exact rks6_no H W C H2 W2 C2 na nb K S P O Z Y WA nW cW BA nB cB m1 s1 z1 m2 s2 z2 lo hi hs w
  ·cases hd:(H == H2 && (W == W2 && C == C2))
   ·have ez:(⟨6,na,nb,K,S,P,O,Z,Y,WA,nW,cW,BA,nB,cB,m1,s1,z1,m2,s2,z2,lo,hi⟩:Nd).shE H W C H2 W2 C2=5:=by simp [Nd.shE,hs,hd]
    unfold Nd.shV at hv
    rw [ez] at he hv
    subst he
    simp only [show ¬ (6:Int)=1 by omega,show ¬ (6:Int)=2 by omega,show ¬ (6:Int)=3 by omega,show ¬ (6:Int)=4 by omega,show ¬ (6:Int)=5 by omega,ne_eq,not_true_eq_false,not_false_eq_true,if_false,if_true,false_or,or_false,show ¬ (0:Int)≠0 by omega,show (2:Int)≠0 by omega,show (5:Int)≠0 by omega,show ¬ (6:Int)=8 by omega,show ¬ (6:Int)=9 by omega] at hv
    obtain⟨rfl,rfl,rfl⟩:=za3 hv
    exact rks6_ne H W C H2 W2 C2 na nb K S P O Z Y WA nW cW BA nB cB m1 s1 z1 m2 s2 z2 lo hi hs hd w
   ·have ez:(⟨6,na,nb,K,S,P,O,Z,Y,WA,nW,cW,BA,nB,cB,m1,s1,z1,m2,s2,z2,lo,hi⟩:Nd).shE H W C H2 W2 C2=0:=by simp [Nd.shE,hs,hd]
    unfold Nd.shV at hv
    rw [ez] at he hv
    subst he
    simp only [show ¬ (6:Int)=1 by omega,show ¬ (6:Int)=2 by omega,show ¬ (6:Int)=3 by omega,show ¬ (6:Int)=4 by omega,show ¬ (6:Int)=5 by omega,ne_eq,not_true_eq_false,not_false_eq_true,if_false,if_true,false_or,or_false,show ¬ (0:Int)≠0 by omega,show (2:Int)≠0 by omega,show (5:Int)≠0 by omega,show ¬ (6:Int)=8 by omega,show ¬ (6:Int)=9 by omega] at hv
    obtain⟨rfl,rfl,rfl⟩:=za3 hv
    exact rks6_eq H W C H2 W2 C2 na nb K S P O Z Y WA nW cW BA nB cB m1 s1 z1 m2 s2 z2 lo hi hs hd w
 ·cases hs:zae H W C
  ·have ez:(⟨7,na,nb,K,S,P,O,Z,Y,WA,nW,cW,BA,nB,cB,m1,s1,z1,m2,s2,z2,lo,hi⟩:Nd).shE H W C H2 W2 C2=5:=by simp [Nd.shE,hs]
   unfold Nd.shV at hv
   rw [ez] at he hv
   subst he
   simp only [show ¬ (7:Int)=1 by omega,show ¬ (7:Int)=2 by omega,show ¬ (7:Int)=3 by omega,show ¬ (7:Int)=4 by omega,show ¬ (7:Int)=5 by omega,ne_eq,not_true_eq_false,not_false_eq_true,if_false,if_true,false_or,or_false,show ¬ (0:Int)≠0 by omega,show (2:Int)≠0 by omega,show (5:Int)≠0 by omega,show ¬ (7:Int)=8 by omega,show ¬ (7:Int)=9 by omega] at hv
   obtain⟨rfl,rfl,rfl⟩:=za3 hv
   exact rks7_no H W C H2 W2 C2 na nb K S P O Z Y WA nW cW BA nB cB m1 s1 z1 m2 s2 z2 lo hi hs w
  ·have ez:(⟨7,na,nb,K,S,P,O,Z,Y,WA,nW,cW,BA,nB,cB,m1,s1,z1,m2,s2,z2,lo,hi⟩:Nd).shE H W C H2 W2 C2=0:=by simp [Nd.shE,hs]
   unfold Nd.shV at hv
   rw [ez] at he hv
   subst he
   simp only [show ¬ (7:Int)=1 by omega,show ¬ (7:Int)=2 by omega,show ¬ (7:Int)=3 by omega,show ¬ (7:Int)=4 by omega,show ¬ (7:Int)=5 by omega,ne_eq,not_true_eq_false,not_false_eq_true,if_false,if_true,false_or,or_false,show ¬ (0:Int)≠0 by omega,show (2:Int)≠0 by omega,show (5:Int)≠0 by omega,show ¬ (7:Int)=8 by omega,show ¬ (7:Int)=9 by omega] at hv
   obtain⟨rfl,rfl,rfl⟩:=za3 hv
   exact rks7_yes H W C H2 W2 C2 na nb K S P O Z Y WA nW cW BA nB cB m1 s1 z1 m2 s2 z2 lo hi hs w
 ·cases hs:zae H W C
  ·have ez:(⟨8,na,nb,K,S,P,O,Z,Y,WA,nW,cW,BA,nB,cB,m1,s1,z1,m2,s2,z2,lo,hi⟩:Nd).shE H W C H2 W2 C2=5:=by simp [Nd.shE,hs]
   unfold Nd.shV at hv
   rw [ez] at he hv
   subst he
   simp only [show ¬ (8:Int)=1 by omega,show ¬ (8:Int)=2 by omega,show ¬ (8:Int)=3 by omega,show ¬ (8:Int)=4 by omega,show ¬ (8:Int)=5 by omega,ne_eq,not_true_eq_false,not_false_eq_true,if_false,if_true,false_or,or_false,show ¬ (0:Int)≠0 by omega,show (2:Int)≠0 by omega,show (5:Int)≠0 by omega,show ¬ (8:Int)=9 by omega] at hv
   obtain⟨rfl,rfl,rfl⟩:=za3 hv
   exact rks8_no H W C H2 W2 C2 na nb K S P O Z Y WA nW cW BA nB cB m1 s1 z1 m2 s2 z2 lo hi hs w
  ·by_cases p1:P < 0
   ·have ez:(⟨8,na,nb,K,S,P,O,Z,Y,WA,nW,cW,BA,nB,cB,m1,s1,z1,m2,s2,z2,lo,hi⟩:Nd).shE H W C H2 W2 C2=2:=by simp [Nd.shE,hs,p1]
    unfold Nd.shV at hv
    rw [ez] at he hv
    subst he
    simp only [show ¬ (8:Int)=1 by omega,show ¬ (8:Int)=2 by omega,show ¬ (8:Int)=3 by omega,show ¬ (8:Int)=4 by omega,show ¬ (8:Int)=5 by omega,ne_eq,not_true_eq_false,not_false_eq_true,if_false,if_true,false_or,or_false,show ¬ (0:Int)≠0 by omega,show (2:Int)≠0 by omega,show (5:Int)≠0 by omega,show ¬ (8:Int)=9 by omega] at hv
    obtain⟨rfl,rfl,rfl⟩:=za3 hv
    exact rks8_lo H W C H2 W2 C2 na nb K S P O Z Y WA nW cW BA nB cB m1 s1 z1 m2 s2 z2 lo hi hs p1 w
   by_cases p2:4 < P
   ·have ez:(⟨8,na,nb,K,S,P,O,Z,Y,WA,nW,cW,BA,nB,cB,m1,s1,z1,m2,s2,z2,lo,hi⟩:Nd).shE H W C H2 W2 C2=2:=by simp [Nd.shE,hs,p2]
    unfold Nd.shV at hv
    rw [ez] at he hv
    subst he
    simp only [show ¬ (8:Int)=1 by omega,show ¬ (8:Int)=2 by omega,show ¬ (8:Int)=3 by omega,show ¬ (8:Int)=4 by omega,show ¬ (8:Int)=5 by omega,ne_eq,not_true_eq_false,not_false_eq_true,if_false,if_true,false_or,or_false,show ¬ (0:Int)≠0 by omega,show (2:Int)≠0 by omega,show (5:Int)≠0 by omega,show ¬ (8:Int)=9 by omega] at hv
    obtain⟨rfl,rfl,rfl⟩:=za3 hv
    exact rks8_hi H W C H2 W2 C2 na nb K S P O Z Y WA nW cW BA nB cB m1 s1 z1 m2 s2 z2 lo hi hs p2 w
   cases ht:zae (H+2 * P) (W+2 * P) C
   ·have ez:(⟨8,na,nb,K,S,P,O,Z,Y,WA,nW,cW,BA,nB,cB,m1,s1,z1,m2,s2,z2,lo,hi⟩:Nd).shE H W C H2 W2 C2=5:=by simp [Nd.shE,hs,p1,p2,ht]
    unfold Nd.shV at hv
    rw [ez] at he hv
    subst he
    simp only [show ¬ (8:Int)=1 by omega,show ¬ (8:Int)=2 by omega,show ¬ (8:Int)=3 by omega,show ¬ (8:Int)=4 by omega,show ¬ (8:Int)=5 by omega,ne_eq,not_true_eq_false,not_false_eq_true,if_false,if_true,false_or,or_false,show ¬ (0:Int)≠0 by omega,show (2:Int)≠0 by omega,show (5:Int)≠0 by omega,show ¬ (8:Int)=9 by omega] at hv
    obtain⟨rfl,rfl,rfl⟩:=za3 hv
    exact rks8_bad H W C H2 W2 C2 na nb K S P O Z Y WA nW cW BA nB cB m1 s1 z1 m2 s2 z2 lo hi hs (by omega) (by omega) ht w
   ·have ez:(⟨8,na,nb,K,S,P,O,Z,Y,WA,nW,cW,BA,nB,cB,m1,s1,z1,m2,s2,z2,lo,hi⟩:Nd).shE H W C H2 W2 C2=0:=by simp [Nd.shE,hs,p1,p2,ht]
    unfold Nd.shV at hv
    rw [ez] at he hv
    subst he
    simp only [show ¬ (8:Int)=1 by omega,show ¬ (8:Int)=2 by omega,show ¬ (8:Int)=3 by omega,show ¬ (8:Int)=4 by omega,show ¬ (8:Int)=5 by omega,ne_eq,not_true_eq_false,not_false_eq_true,if_false,if_true,false_or,or_false,show ¬ (0:Int)≠0 by omega,show (2:Int)≠0 by omega,show (5:Int)≠0 by omega,show ¬ (8:Int)=9 by omega] at hv
    obtain⟨rfl,rfl,rfl⟩:=za3 hv
    exact rks8_ok H W C H2 W2 C2 na nb K S P O Z Y WA nW cW BA nB cB m1 s1 z1 m2 s2 z2 lo hi hs (by omega) (by omega) ht w
 ·cases hs:zae H W C
  ·have ez:(⟨9,na,nb,K,S,P,O,Z,Y,WA,nW,cW,BA,nB,cB,m1,s1,z1,m2,s2,z2,lo,hi⟩:Nd).shE H W C H2 W2 C2=5:=by simp [Nd.shE,hs]
   unfold Nd.shV at hv
   rw [ez] at he hv
   subst he
   simp only [show ¬ (9:Int)=1 by omega,show ¬ (9:Int)=2 by omega,show ¬ (9:Int)=3 by omega,show ¬ (9:Int)=4 by omega,show ¬ (9:Int)=5 by omega,ne_eq,not_true_eq_false,not_false_eq_true,if_false,if_true,false_or,or_false,show ¬ (0:Int)≠0 by omega,show (2:Int)≠0 by omega,show (5:Int)≠0 by omega,show ¬ (9:Int)=8 by omega] at hv
   obtain⟨rfl,rfl,rfl⟩:=za3 hv
   exact rks9_no H W C H2 W2 C2 na nb K S P O Z Y WA nW cW BA nB cB m1 s1 z1 m2 s2 z2 lo hi hs w
  ·have ez:(⟨9,na,nb,K,S,P,O,Z,Y,WA,nW,cW,BA,nB,cB,m1,s1,z1,m2,s2,z2,lo,hi⟩:Nd).shE H W C H2 W2 C2=0:=by simp [Nd.shE,hs]
   unfold Nd.shV at hv
   rw [ez] at he hv
   subst he
   simp only [show ¬ (9:Int)=1 by omega,show ¬ (9:Int)=2 by omega,show ¬ (9:Int)=3 by omega,show ¬ (9:Int)=4 by omega,show ¬ (9:Int)=5 by omega,ne_eq,not_true_eq_false,not_false_eq_true,if_false,if_true,false_or,or_false,show ¬ (0:Int)≠0 by omega,show (2:Int)≠0 by omega,show (5:Int)≠0 by omega,show ¬ (9:Int)=8 by omega] at hv
   obtain⟨rfl,rfl,rfl⟩:=za3 hv
   exact rks9_yes H W C H2 W2 C2 na nb K S P O Z Y WA nW cW BA nB cB m1 s1 z1 m2 s2 z2 lo hi _ hs rfl w
end CKind
end
section
namespace CVerd
open Plain CSat CShape CTensor CConv CDense
def HeadAt (B:Nat) (WA BA:Option Addr) (nW cW nB cB:Nat) (D:Int) (wd:World):Prop :=
 wd.cell? ⟨B,0,none⟩=some (.slice WA nW cW)∧wd.cell? ⟨B,1,none⟩=some (.slice BA nB cB)∧wd.cell? ⟨B,2,none⟩=some (.int .i32 D)
theorem zbx (WA BA:Option Addr) (nW cW nB cB:Nat) (D:Int) (T:TypeId) (w:World):HeadAt w.heap.size WA BA nW cW nB cB D (w.alloc (.cells #[.slice WA nW cW,.slice BA nB cB,.int .i32 D] T)):=⟨Kit.zal _ _ _ _,Kit.zal _ _ _ _,Kit.zal _ _ _ _⟩
theorem HeadAt.below {B B':Nat} {WA BA:Option Addr} {nW cW nB cB:Nat} {D:Int} {w w':World} (h:HeadAt B WA BA nW cW nB cB D w) (hB:B < B') (hb:Below B' w w'):HeadAt B WA BA nW cW nB cB D w' :=
 ⟨(hb.cell (p:=⟨B,0,none⟩) hB).trans h.1,(hb.cell (p:=⟨B,1,none⟩) hB).trans h.2.1,(hb.cell (p:=⟨B,2,none⟩) hB).trans h.2.2⟩
def verdE (H W C:Int) (nW nB:Nat) (D N:Int):Int :=
 if zae H W C=false then 5 else if N < 2∨16 < N then 2 else if (nW:Int)=N * zam H W C∧nW≤16384∧(nB:Int)=N then (if D < 0 then 11 else 0) else 9
theorem one_right {N:Int} (h:¬ (N < 2∨16 < N)):zae 1 1 N=true:=by simp [zae];omega
theorem dense_ok {H W C:Int} {nW nB:Nat} {N:Int} (h1:zae H W C=true) (h2:¬ (N < 2∨16 < N)) (h3:(nW:Int)=N * zam H W C∧nW≤16384∧(nB:Int)=N):zb9 H W C N nW nB=0:=by
 unfold zb9;rw [if_pos ⟨h1,one_right h2⟩,if_pos h3]
theorem dense_nine {H W C:Int} {nW nB:Nat} {N:Int} (h1:zae H W C=true) (h2:¬ (N < 2∨16 < N)) (h3:¬ ((nW:Int)=N * zam H W C∧nW≤16384∧(nB:Int)=N)):zb9 H W C N nW nB=9:=by
 unfold zb9;rw [if_pos ⟨h1,one_right h2⟩,if_neg h3]
theorem chk_5 (H W C:Int) (WA BA:Option Addr) (nW cW nB cB:Nat) (D N:Int) (h1:zae H W C=false) (w:World) :
  Calls Tryd.prog 37 #[.agg #[.int .i64 H,.int .i64 W,.int .i64 C],.agg #[.slice WA nW cW,.slice BA nB cB,.int .i32 D],.int .i64 N] w fun e' w'=>e'=.returned (.int .i64 5)∧Below w.heap.size w w':=by
 have HB1:=hid h1
 clear h1
 go_enter Tryd.func37,Tryd.ntmps37
 go_wp2_with fail
 go_at_call 30
 have hal:Below w.heap.size w ((w.alloc (.cells #[.int .i64 H,.int .i64 W,.int .i64 C] 30)).alloc (.cells #[.slice WA nW cW,.slice BA nB cB,.int .i32 D] 26)):=((Below.refl _ _).alloc (by first | exact le_refl _ | (simp;done) | (simp;omega)) _).alloc (by first | exact le_refl _ | (simp;done) | (simp;omega)) _
 refine (CShape.zaw H W C false HB1.out _).mono ?_
 rintro e w1 ⟨rfl,hb⟩
 have hh:Below w.heap.size w w1:=hal.trans (hb.mono hal.size)
 have qTS0:=(zao H W C 30) w
 try simp only [World.size_alloc] at qTS0
 have TS0:=hid ((qTS0.below (B':=w.heap.size+1) (by omega) (((Below.refl _ _).alloc (by first | exact le_refl _ | (simp;done) | (simp;omega)) _).mono (by simp))).below (by first | (simp;done) | (simp;omega)) hb)
 have yTS0:w.heap.size < w1.heap.size:=by have:=hb.size;simp at this;omega
 clear qTS0
 have qTH:=(zbx WA BA nW cW nB cB D 26) (w.alloc (.cells #[.int .i64 H,.int .i64 W,.int .i64 C] 30))
 try simp only [World.size_alloc] at qTH
 have TH:=hid (qTH.below (by first | (simp;done) | (simp;omega)) hb)
 have yTH:w.heap.size+1 < w1.heap.size:=by have:=hb.size;simp at this;omega
 clear qTH
 have HBW:Hid (Below w.heap.size w w1):=hid hh
 obtain⟨ts0p0,ts0p1,ts0p2⟩:=TS0.out
 obtain⟨thp0,thp1,thp2⟩:=TH.out
 clear hb hh hal
 go_wp2_with fail
 go_ret
 exact⟨rfl,HBW.out⟩
theorem chk_2a (H W C:Int) (WA BA:Option Addr) (nW cW nB cB:Nat) (D N:Int) (h1:zae H W C=true) (h2:N < 2) (w:World) :
  Calls Tryd.prog 37 #[.agg #[.int .i64 H,.int .i64 W,.int .i64 C],.agg #[.slice WA nW cW,.slice BA nB cB,.int .i32 D],.int .i64 N] w fun e' w'=>e'=.returned (.int .i64 2)∧Below w.heap.size w w':=by
 have HB1:=hid h1
 have q1:(N < 2)=True:=by simp [h2]
 have q2:decide (N < 2)=true:=by simp [h2]
 clear h1
 go_enter Tryd.func37,Tryd.ntmps37
 go_wp2_with fail
 go_at_call 30
 have hal:Below w.heap.size w ((w.alloc (.cells #[.int .i64 H,.int .i64 W,.int .i64 C] 30)).alloc (.cells #[.slice WA nW cW,.slice BA nB cB,.int .i32 D] 26)):=((Below.refl _ _).alloc (by first | exact le_refl _ | (simp;done) | (simp;omega)) _).alloc (by first | exact le_refl _ | (simp;done) | (simp;omega)) _
 refine (CShape.zaw H W C true HB1.out _).mono ?_
 rintro e w1 ⟨rfl,hb⟩
 have hh:Below w.heap.size w w1:=hal.trans (hb.mono hal.size)
 have qTS0:=(zao H W C 30) w
 try simp only [World.size_alloc] at qTS0
 have TS0:=hid ((qTS0.below (B':=w.heap.size+1) (by omega) (((Below.refl _ _).alloc (by first | exact le_refl _ | (simp;done) | (simp;omega)) _).mono (by simp))).below (by first | (simp;done) | (simp;omega)) hb)
 have yTS0:w.heap.size < w1.heap.size:=by have:=hb.size;simp at this;omega
 clear qTS0
 have qTH:=(zbx WA BA nW cW nB cB D 26) (w.alloc (.cells #[.int .i64 H,.int .i64 W,.int .i64 C] 30))
 try simp only [World.size_alloc] at qTH
 have TH:=hid (qTH.below (by first | (simp;done) | (simp;omega)) hb)
 have yTH:w.heap.size+1 < w1.heap.size:=by have:=hb.size;simp at this;omega
 clear qTH
 have HBW:Hid (Below w.heap.size w w1):=hid hh
 obtain⟨ts0p0,ts0p1,ts0p2⟩:=TS0.out
 obtain⟨thp0,thp1,thp2⟩:=TH.out
 clear hb hh hal
 go_wp2_with fail
 go_ret
 exact⟨rfl,HBW.out⟩
theorem chk_2b (H W C:Int) (WA BA:Option Addr) (nW cW nB cB:Nat) (D N:Int) (h1:zae H W C=true) (h2:¬ N < 2) (h3:16 < N) (w:World) :
  Calls Tryd.prog 37 #[.agg #[.int .i64 H,.int .i64 W,.int .i64 C],.agg #[.slice WA nW cW,.slice BA nB cB,.int .i32 D],.int .i64 N] w fun e' w'=>e'=.returned (.int .i64 2)∧Below w.heap.size w w':=by
 have HB1:=hid h1
 have q1:decide (N < 2)=false:=by simp [h2]
 have q2:(16 < N)=True:=by simp [h3]
 have q3:decide (16 < N)=true:=by simp [h3]
 clear h1
 go_enter Tryd.func37,Tryd.ntmps37
 go_wp2_with fail
 go_at_call 30
 have hal:Below w.heap.size w ((w.alloc (.cells #[.int .i64 H,.int .i64 W,.int .i64 C] 30)).alloc (.cells #[.slice WA nW cW,.slice BA nB cB,.int .i32 D] 26)):=((Below.refl _ _).alloc (by first | exact le_refl _ | (simp;done) | (simp;omega)) _).alloc (by first | exact le_refl _ | (simp;done) | (simp;omega)) _
 refine (CShape.zaw H W C true HB1.out _).mono ?_
 rintro e w1 ⟨rfl,hb⟩
 have hh:Below w.heap.size w w1:=hal.trans (hb.mono hal.size)
 have qTS0:=(zao H W C 30) w
 try simp only [World.size_alloc] at qTS0
 have TS0:=hid ((qTS0.below (B':=w.heap.size+1) (by omega) (((Below.refl _ _).alloc (by first | exact le_refl _ | (simp;done) | (simp;omega)) _).mono (by simp))).below (by first | (simp;done) | (simp;omega)) hb)
 have yTS0:w.heap.size < w1.heap.size:=by have:=hb.size;simp at this;omega
 clear qTS0
 have qTH:=(zbx WA BA nW cW nB cB D 26) (w.alloc (.cells #[.int .i64 H,.int .i64 W,.int .i64 C] 30))
 try simp only [World.size_alloc] at qTH
 have TH:=hid (qTH.below (by first | (simp;done) | (simp;omega)) hb)
 have yTH:w.heap.size+1 < w1.heap.size:=by have:=hb.size;simp at this;omega
 clear qTH
 have HBW:Hid (Below w.heap.size w w1):=hid hh
 obtain⟨ts0p0,ts0p1,ts0p2⟩:=TS0.out
 obtain⟨thp0,thp1,thp2⟩:=TH.out
 clear hb hh hal
 go_wp2_with fail
 go_ret
 exact⟨rfl,HBW.out⟩
theorem chk_9 (H W C:Int) (WA BA:Option Addr) (nW cW nB cB:Nat) (D N:Int) (h1:zae H W C=true) (h2:¬ (N < 2∨16 < N)) (h3:¬ ((nW:Int)=N * zam H W C∧nW≤16384∧(nB:Int)=N)) (w:World) :
  Calls Tryd.prog 37 #[.agg #[.int .i64 H,.int .i64 W,.int .i64 C],.agg #[.slice WA nW cW,.slice BA nB cB,.int .i32 D],.int .i64 N] w fun e' w'=>e'=.returned (.int .i64 9)∧Below w.heap.size w w':=by
 have hE:zb9 H W C N nW nB=9:=dense_nine h1 h2 h3
 have hS:zcb H W C N nW nB=#[.int .i64 0,.int .i64 0,.int .i64 0]:=by unfold zcb;rw [hE];rfl
 have HB1:=hid h1
 have HE:=hid hE
 have HS:=hid hS
 have q1:decide (N < 2)=false:=by simp;omega
 have q2:decide (16 < N)=false:=by simp;omega
 have q3:¬ N < 2:=by omega
 have q4:¬ 16 < N:=by omega
 clear h1 hE hS h2 h3
 go_enter Tryd.func37,Tryd.ntmps37
 go_wp2_with fail
 go_at_call 30
 have hal:Below w.heap.size w ((w.alloc (.cells #[.int .i64 H,.int .i64 W,.int .i64 C] 30)).alloc (.cells #[.slice WA nW cW,.slice BA nB cB,.int .i32 D] 26)):=((Below.refl _ _).alloc (by first | exact le_refl _ | (simp;done) | (simp;omega)) _).alloc (by first | exact le_refl _ | (simp;done) | (simp;omega)) _
 refine (CShape.zaw H W C true HB1.out _).mono ?_
 rintro e w1 ⟨rfl,hb⟩
 have hh:Below w.heap.size w w1:=hal.trans (hb.mono hal.size)
 have qTS0:=(zao H W C 30) w
 try simp only [World.size_alloc] at qTS0
 have TS0:=hid ((qTS0.below (B':=w.heap.size+1) (by omega) (((Below.refl _ _).alloc (by first | exact le_refl _ | (simp;done) | (simp;omega)) _).mono (by simp))).below (by first | (simp;done) | (simp;omega)) hb)
 have yTS0:w.heap.size < w1.heap.size:=by have:=hb.size;simp at this;omega
 clear qTS0
 have qTH:=(zbx WA BA nW cW nB cB D 26) (w.alloc (.cells #[.int .i64 H,.int .i64 W,.int .i64 C] 30))
 try simp only [World.size_alloc] at qTH
 have TH:=hid (qTH.below (by first | (simp;done) | (simp;omega)) hb)
 have yTH:w.heap.size+1 < w1.heap.size:=by have:=hb.size;simp at this;omega
 clear qTH
 have HBW:Hid (Below w.heap.size w w1):=hid hh
 obtain⟨ts0p0,ts0p1,ts0p2⟩:=TS0.out
 obtain⟨thp0,thp1,thp2⟩:=TH.out
 clear hb hh hal
 go_wp2_with fail
 go_at_call 58
 have hal:Below w1.heap.size w1 w1:=Below.refl _ _
 refine (dshape_to H W C _ _ _ _ _ _ _ _ _ _ _ _ _ _ _ _ _ _ _ _ _ _ _ 9 #[.int .i64 0,.int .i64 0,.int .i64 0] HE.out HS.out _).mono ?_
 rintro e w2 ⟨rfl,hb⟩
 have hh:Below w1.heap.size w1 w2:=hal.trans (hb.mono hal.size)
 replace TS0:=hid (TS0.out.below yTS0 hh)
 replace yTS0:=Nat.lt_of_lt_of_le yTS0 hh.size
 replace TH:=hid (TH.out.below yTH hh)
 replace yTH:=Nat.lt_of_lt_of_le yTH hh.size
 replace HBW:=hid (HBW.out.trans (hh.mono HBW.out.size))
 clear ts0p0 ts0p1 ts0p2 thp0 thp1 thp2
 obtain⟨ts0p0,ts0p1,ts0p2⟩:=TS0.out
 obtain⟨thp0,thp1,thp2⟩:=TH.out
 clear hb hh hal
 go_wp2_with fail
 go_ret
 exact⟨rfl,by have hbw:=HBW.out;go_grown⟩
theorem chk_11 (H W C:Int) (WA BA:Option Addr) (nW cW nB cB:Nat) (D N:Int) (h1:zae H W C=true) (h2:¬ (N < 2∨16 < N)) (h3:(nW:Int)=N * zam H W C∧nW≤16384∧(nB:Int)=N) (h4:D < 0) (w:World) :
  Calls Tryd.prog 37 #[.agg #[.int .i64 H,.int .i64 W,.int .i64 C],.agg #[.slice WA nW cW,.slice BA nB cB,.int .i32 D],.int .i64 N] w fun e' w'=>e'=.returned (.int .i64 11)∧Below w.heap.size w w':=by
 have hE:zb9 H W C N nW nB=0:=dense_ok h1 h2 h3
 have hS:zcb H W C N nW nB=#[.int .i64 1,.int .i64 1,.int .i64 N]:=by unfold zcb;rw [hE];rfl
 have HB1:=hid h1
 have HE:=hid hE
 have HS:=hid hS
 have q1:decide (N < 2)=false:=by simp;omega
 have q2:decide (16 < N)=false:=by simp;omega
 have q3:¬ N < 2:=by omega
 have q4:¬ 16 < N:=by omega
 have q5:decide (D < 0)=true:=by simp [h4]
 have q6:(D < 0)=True:=by simp [h4]
 clear h1 hE hS h2 h3
 go_enter Tryd.func37,Tryd.ntmps37
 go_wp2_with fail
 go_at_call 30
 have hal:Below w.heap.size w ((w.alloc (.cells #[.int .i64 H,.int .i64 W,.int .i64 C] 30)).alloc (.cells #[.slice WA nW cW,.slice BA nB cB,.int .i32 D] 26)):=((Below.refl _ _).alloc (by first | exact le_refl _ | (simp;done) | (simp;omega)) _).alloc (by first | exact le_refl _ | (simp;done) | (simp;omega)) _
 refine (CShape.zaw H W C true HB1.out _).mono ?_
 rintro e w1 ⟨rfl,hb⟩
 have hh:Below w.heap.size w w1:=hal.trans (hb.mono hal.size)
 have qTS0:=(zao H W C 30) w
 try simp only [World.size_alloc] at qTS0
 have TS0:=hid ((qTS0.below (B':=w.heap.size+1) (by omega) (((Below.refl _ _).alloc (by first | exact le_refl _ | (simp;done) | (simp;omega)) _).mono (by simp))).below (by first | (simp;done) | (simp;omega)) hb)
 have yTS0:w.heap.size < w1.heap.size:=by have:=hb.size;simp at this;omega
 clear qTS0
 have qTH:=(zbx WA BA nW cW nB cB D 26) (w.alloc (.cells #[.int .i64 H,.int .i64 W,.int .i64 C] 30))
 try simp only [World.size_alloc] at qTH
 have TH:=hid (qTH.below (by first | (simp;done) | (simp;omega)) hb)
 have yTH:w.heap.size+1 < w1.heap.size:=by have:=hb.size;simp at this;omega
 clear qTH
 have HBW:Hid (Below w.heap.size w w1):=hid hh
 obtain⟨ts0p0,ts0p1,ts0p2⟩:=TS0.out
 obtain⟨thp0,thp1,thp2⟩:=TH.out
 clear hb hh hal
 go_wp2_with fail
 go_at_call 58
 have hal:Below w1.heap.size w1 w1:=Below.refl _ _
 refine (dshape_to H W C _ _ _ _ _ _ _ _ _ _ _ _ _ _ _ _ _ _ _ _ _ _ _ 0 #[.int .i64 1,.int .i64 1,.int .i64 N] HE.out HS.out _).mono ?_
 rintro e w2 ⟨rfl,hb⟩
 have hh:Below w1.heap.size w1 w2:=hal.trans (hb.mono hal.size)
 replace TS0:=hid (TS0.out.below yTS0 hh)
 replace yTS0:=Nat.lt_of_lt_of_le yTS0 hh.size
 replace TH:=hid (TH.out.below yTH hh)
 replace yTH:=Nat.lt_of_lt_of_le yTH hh.size
 replace HBW:=hid (HBW.out.trans (hh.mono HBW.out.size))
 clear ts0p0 ts0p1 ts0p2 thp0 thp1 thp2
 obtain⟨ts0p0,ts0p1,ts0p2⟩:=TS0.out
 obtain⟨thp0,thp1,thp2⟩:=TH.out
 clear hb hh hal
 go_wp2_with fail
 go_ret
 exact⟨rfl,by have hbw:=HBW.out;go_grown⟩
theorem chk_0 (H W C:Int) (WA BA:Option Addr) (nW cW nB cB:Nat) (D N:Int) (h1:zae H W C=true) (h2:¬ (N < 2∨16 < N)) (h3:(nW:Int)=N * zam H W C∧nW≤16384∧(nB:Int)=N) (h4:¬ D < 0) (w:World) :
  Calls Tryd.prog 37 #[.agg #[.int .i64 H,.int .i64 W,.int .i64 C],.agg #[.slice WA nW cW,.slice BA nB cB,.int .i32 D],.int .i64 N] w fun e' w'=>e'=.returned (.int .i64 0)∧Below w.heap.size w w':=by
 have hE:zb9 H W C N nW nB=0:=dense_ok h1 h2 h3
 have hS:zcb H W C N nW nB=#[.int .i64 1,.int .i64 1,.int .i64 N]:=by unfold zcb;rw [hE];rfl
 have HB1:=hid h1
 have HE:=hid hE
 have HS:=hid hS
 have q1:decide (N < 2)=false:=by simp;omega
 have q2:decide (16 < N)=false:=by simp;omega
 have q3:¬ N < 2:=by omega
 have q4:¬ 16 < N:=by omega
 have q5:decide (D < 0)=false:=by simp [h4]
 clear h1 hE hS h2 h3
 go_enter Tryd.func37,Tryd.ntmps37
 go_wp2_with fail
 go_at_call 30
 have hal:Below w.heap.size w ((w.alloc (.cells #[.int .i64 H,.int .i64 W,.int .i64 C] 30)).alloc (.cells #[.slice WA nW cW,.slice BA nB cB,.int .i32 D] 26)):=((Below.refl _ _).alloc (by first | exact le_refl _ | (simp;done) | (simp;omega)) _).alloc (by first | exact le_refl _ | (simp;done) | (simp;omega)) _
 refine (CShape.zaw H W C true HB1.out _).mono ?_
 rintro e w1 ⟨rfl,hb⟩
 have hh:Below w.heap.size w w1:=hal.trans (hb.mono hal.size)
 have qTS0:=(zao H W C 30) w
 try simp only [World.size_alloc] at qTS0
 have TS0:=hid ((qTS0.below (B':=w.heap.size+1) (by omega) (((Below.refl _ _).alloc (by first | exact le_refl _ | (simp;done) | (simp;omega)) _).mono (by simp))).below (by first | (simp;done) | (simp;omega)) hb)
 have yTS0:w.heap.size < w1.heap.size:=by have:=hb.size;simp at this;omega
 clear qTS0
 have qTH:=(zbx WA BA nW cW nB cB D 26) (w.alloc (.cells #[.int .i64 H,.int .i64 W,.int .i64 C] 30))
 try simp only [World.size_alloc] at qTH
 have TH:=hid (qTH.below (by first | (simp;done) | (simp;omega)) hb)
 have yTH:w.heap.size+1 < w1.heap.size:=by have:=hb.size;simp at this;omega
 clear qTH
 have HBW:Hid (Below w.heap.size w w1):=hid hh
 obtain⟨ts0p0,ts0p1,ts0p2⟩:=TS0.out
 obtain⟨thp0,thp1,thp2⟩:=TH.out
 clear hb hh hal
 go_wp2_with fail
 go_at_call 58
 have hal:Below w1.heap.size w1 w1:=Below.refl _ _
 refine (dshape_to H W C _ _ _ _ _ _ _ _ _ _ _ _ _ _ _ _ _ _ _ _ _ _ _ 0 #[.int .i64 1,.int .i64 1,.int .i64 N] HE.out HS.out _).mono ?_
 rintro e w2 ⟨rfl,hb⟩
 have hh:Below w1.heap.size w1 w2:=hal.trans (hb.mono hal.size)
 replace TS0:=hid (TS0.out.below yTS0 hh)
 replace yTS0:=Nat.lt_of_lt_of_le yTS0 hh.size
 replace TH:=hid (TH.out.below yTH hh)
 replace yTH:=Nat.lt_of_lt_of_le yTH hh.size
 replace HBW:=hid (HBW.out.trans (hh.mono HBW.out.size))
 clear ts0p0 ts0p1 ts0p2 thp0 thp1 thp2
 obtain⟨ts0p0,ts0p1,ts0p2⟩:=TS0.out
 obtain⟨thp0,thp1,thp2⟩:=TH.out
 clear hb hh hal
 go_wp2_with fail
 go_ret
 exact⟨rfl,by have hbw:=HBW.out;go_grown⟩
theorem chk_to (H W C:Int) (WA BA:Option Addr) (nW cW nB cB:Nat) (D N:Int) (e:Int) (he:verdE H W C nW nB D N=e) (w:World) :
  Calls Tryd.prog 37 #[.agg #[.int .i64 H,.int .i64 W,.int .i64 C],.agg #[.slice WA nW cW,.slice BA nB cB,.int .i32 D],.int .i64 N] w fun e' w'=>e'=.returned (.int .i64 e)∧Below w.heap.size w w':=by
 unfold verdE at he
 by_cases h1:zae H W C=false
 ·rw [if_pos h1] at he;subst he
  exact chk_5 H W C WA BA nW cW nB cB D N h1 w
 ·rw [if_neg h1] at he
  replace h1:zae H W C=true:=by simpa using h1
  by_cases h2:N < 2∨16 < N
  ·rw [if_pos h2] at he;subst he
   by_cases h3:N < 2
   ·exact chk_2a H W C WA BA nW cW nB cB D N h1 h3 w
   ·exact chk_2b H W C WA BA nW cW nB cB D N h1 h3 (by omega) w
  ·rw [if_neg h2] at he
   by_cases h3:(nW:Int)=N * zam H W C∧nW≤16384∧(nB:Int)=N
   ·rw [if_pos h3] at he
    by_cases h4:D < 0
    ·rw [if_pos h4] at he;subst he
     exact chk_11 H W C WA BA nW cW nB cB D N h1 h2 h3 h4 w
    ·rw [if_neg h4] at he;subst he
     exact chk_0 H W C WA BA nW cW nB cB D N h1 h2 h3 h4 w
   ·rw [if_neg h3] at he;subst he
    exact chk_9 H W C WA BA nW cW nB cB D N h1 h2 h3 w
end CVerd
end
end Go.Proofs.YtoffcaldhojjoaaDoor
