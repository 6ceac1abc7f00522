/- -/
import Derived.Test.YtjhlkmnpfibgaaaDoorGM37
open Nat (le_refl lt_of_succ_lt lt_succ_self)
set_option linter.unusedVariables false
set_option linter.unusedSimpArgs false
set_option maxRecDepth 100000
set_option maxHeartbeats 16000000
namespace Go.Proofs.YtjhlkmnpfibgaaaDoor
namespace CConv
end CConv
namespace CDense
end CDense
namespace CFix
end CFix
namespace CGraph
end CGraph
namespace CKind
end CKind
namespace CSat
end CSat
namespace CShape
end CShape
namespace CTensor
end CTensor
open Go Go.ChangeShapes Go.WideShapes Go.ChangeAt Go.RowKit Go.Deep
section
namespace CCost
open Plain CSat CFix CShape CTensor CConv CKind CGraph CDense
def eZ (x:Nd) (a b:Tri):Int:=x.shE a.1 a.2.1 a.2.2 b.1 b.2.1 b.2.2
def sZ (x:Nd) (a b:Tri):Tri:=triA (x.shV a.1 a.2.1 a.2.2 b.1 b.2.1 b.2.2)
def elT (a:Tri):Int:=zam a.1 a.2.1 a.2.2
def costZ (x:Nd) (a b:Tri):Int :=
 if eZ x a b≠0 then 0 else if x.kd=1 then elT (sZ x a b) * x.K * x.K * a.2.2 else if x.kd=2∨x.kd=4∨x.kd=5 then elT (sZ x a b) * x.K * x.K else if x.kd=3 then elT (sZ x a b) * elT a else elT (sZ x a b)
theorem zay {x:Nd} {a b:Tri} (h:eZ x a b=0):zaa (sZ x a b).1 (sZ x a b).2.1 (sZ x a b).2.2=true:=by
 obtain⟨u0,u1,u2,e,hs⟩:=shV_right h
 unfold sZ
 rw [e,zbf]
 exact hs
theorem za7 {a:Tri} (h:zaa a.1 a.2.1 a.2.2=true):1≤elT a∧elT a≤1024:=(el_pos _ _ _ h).2
theorem K_bd {x:Nd} {a b:Tri} (h:eZ x a b=0) (hk:x.kd=1∨x.kd=2∨x.kd=4∨x.kd=5):(1≤x.K∧x.K≤5)∧zaa a.1 a.2.1 a.2.2=true:=by
 have key:∀ o,zao a.1 a.2.1 a.2.2 x.K x.S x.P o=0→(1≤x.K∧x.K≤5)∧zaa a.1 a.2.1 a.2.2=true:=fun o ho=>by
  obtain⟨h1,h2, -⟩:=zax ho
  have:=zaw h2
  exact⟨by omega,h1⟩
 unfold eZ Nd.shE at h
 rcases hk with h1 | h1 | h1 | h1
 ·rw [if_pos h1] at h
  exact key _ (CConv.convE_ok h).1
 ·rw [if_neg (by omega),if_pos h1] at h
  unfold CDepth.depthE at h
  by_cases h3:zao a.1 a.2.1 a.2.2 x.K x.S x.P a.2.2≠0
  ·rw [if_pos h3] at h;exact absurd h h3
  ·exact key a.2.2 (by omega)
 ·rw [if_neg (by omega),if_neg (by omega),if_neg (by omega),if_pos (.inl h1)] at h
  exact key _ h
 ·rw [if_neg (by omega),if_neg (by omega),if_neg (by omega),if_pos (.inr h1)] at h
  exact key _ h
theorem mul_le {p q a b:Int} (h1:1≤p) (h2:p≤a) (h3:1≤q) (h4:q≤b) (ha:0≤a):1≤p * q∧p * q≤a * b:=by
 refine⟨?_,Int.mul_le_mul h2 h4 (by omega) ha⟩
 have:=Int.mul_le_mul h1 h3 (by omega) (by omega:(0:Int)≤p)
 omega
theorem dense_in {x:Nd} {a b:Tri} (h:eZ x a b=0) (hk:x.kd=3):zaa a.1 a.2.1 a.2.2=true:=by
 unfold eZ Nd.shE at h
 rw [if_neg (by omega),if_neg (by omega),if_pos hk] at h
 unfold denseE at h
 by_cases h4:zaa a.1 a.2.1 a.2.2=true∧zaa 1 1 x.O=true
 ·exact h4.1
 ·rw [if_neg h4] at h;omega
theorem cost_bd {x:Nd} {a b:Tri} (h:eZ x a b=0):1≤costZ x a b∧costZ x a b≤26214400:=by
 obtain⟨m1,m2⟩:=za7 (zay h)
 unfold costZ
 rw [if_neg (by omega)]
 by_cases k1:x.kd=1
 ·rw [if_pos k1]
  obtain⟨⟨q1,q2⟩,hs⟩:=K_bd h (.inl k1)
  obtain⟨-, -, -, -,c1,c2, -⟩:=zad hs
  have e1:=mul_le m1 m2 q1 q2 (by omega)
  have e2:=mul_le e1.1 e1.2 q1 q2 (by omega)
  have e3:=mul_le e2.1 e2.2 c1 c2 (by omega)
  exact⟨e3.1,by omega⟩
 ·rw [if_neg k1]
  by_cases k2:x.kd=2∨x.kd=4∨x.kd=5
  ·rw [if_pos k2]
   obtain⟨⟨q1,q2⟩,hs⟩:=K_bd h (.inr k2)
   have e1:=mul_le m1 m2 q1 q2 (by omega)
   have e2:=mul_le e1.1 e1.2 q1 q2 (by omega)
   exact⟨e2.1,by omega⟩
  ·rw [if_neg k2]
   by_cases k3:x.kd=3
   ·rw [if_pos k3]
    obtain⟨n1,n2⟩:=za7 (dense_in h k3)
    have e1:=mul_le m1 m2 n1 n2 (by omega)
    exact⟨e1.1,by omega⟩
   ·rw [if_neg k3];omega
theorem cost_all (x:Nd) (a b:Tri):0≤costZ x a b∧costZ x a b≤26214400:=by
 by_cases h:eZ x a b=0
 ·have:=cost_bd h;omega
 ·unfold costZ;rw [if_pos h];omega
def costN (X:Nat→Nd) (l:List Tri):Nat→Int
 | 0=>1
 | k+1=>costN X l k+costZ (X k) (l.getD (X k).na.toNat tri0) (l.getD (sndZ (X k)).toNat tri0)
theorem costN_bd (X:Nat→Nd) (l:List Tri):∀ k:Nat,1≤costN X l k∧costN X l k≤1+26214400 * (k:Int)
 | 0=>by unfold costN;omega
 | k+1=>by
   have h:=costN_bd X l k
   have h2:=cost_all (X k) (l.getD (X k).na.toNat tri0) (l.getD (sndZ (X k)).toNat tri0)
   unfold costN
   omega
def clZ (c:Int):Int:=min (max c 0) 16
theorem clZ_bd (c:Int):0≤clZ c∧clZ c≤16:=by unfold clZ;omega
def blkZ (X:Nat→Nd) (t0:Tri) (n:Nat) (ex:Bool) (c:Int):Int :=
 costN X (shL X t0 n) n+(if ex then clZ c * (elT ((shL X t0 n).getD n tri0)+1) else 0)
end CCost
end
end Go.Proofs.YtjhlkmnpfibgaaaDoor
