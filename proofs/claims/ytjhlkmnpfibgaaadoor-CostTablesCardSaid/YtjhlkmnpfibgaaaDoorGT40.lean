/- -/
import Derived.Test.YtjhlkmnpfibgaaaDoorGT38
import Derived.Test.YtjhlkmnpfibgaaaDoorGT39
open Go.Lib (hid)
open Nat (le_refl lt_of_succ_lt lt_succ_self)
set_option linter.unusedVariables false
set_option linter.unusedSimpArgs false
set_option maxRecDepth 100000
set_option maxHeartbeats 16000000
namespace Go.Proofs.YtjhlkmnpfibgaaaDoor
namespace CConv
end CConv
namespace CDense
end CDense
namespace CSat
end CSat
namespace CTensor
end CTensor
namespace Kit
end Kit
open Go Go.ChangeShapes Go.WideShapes Go.ChangeAt Go.RowKit Go.Deep
section
namespace CCost
open Plain CSat CFix CShape CTensor CConv CKind CGraph CDense
def eZ (x:Nd) (a b:Tri):Int:=x.shE a.1 a.2.1 a.2.2 b.1 b.2.1 b.2.2
def sZ (x:Nd) (a b:Tri):Tri:=triA (x.shV a.1 a.2.1 a.2.2 b.1 b.2.1 b.2.2)
def elT (a:Tri):Int:=zam a.1 a.2.1 a.2.2
def costZ (x:Nd) (a b:Tri):Int :=
 if eZ x a b≠0 then 0 else if x.kd=1 then elT (sZ x a b) * x.K * x.K * a.2.2 else if x.kd=2∨x.kd=4∨x.kd=5 then elT (sZ x a b) * x.K * x.K else if x.kd=3 then elT (sZ x a b) * elT a else elT (sZ x a b)
theorem zax {x:Nd} {a b:Tri} (h:eZ x a b=0):zae (sZ x a b).1 (sZ x a b).2.1 (sZ x a b).2.2=true:=by
 obtain⟨u0,u1,u2,e,hs⟩:=shV_right h
 unfold sZ
 rw [e,zbh]
 exact hs
theorem za5 {a:Tri} (h:zae a.1 a.2.1 a.2.2=true):1≤elT a∧elT a≤1024:=(el_pos _ _ _ h).2
theorem K_bd {x:Nd} {a b:Tri} (h:eZ x a b=0) (hk:x.kd=1∨x.kd=2∨x.kd=4∨x.kd=5):(1≤x.K∧x.K≤5)∧zae a.1 a.2.1 a.2.2=true:=by
 have key:∀ o,zas a.1 a.2.1 a.2.2 x.K x.S x.P o=0→(1≤x.K∧x.K≤5)∧zae a.1 a.2.1 a.2.2=true:=fun o ho=>by
  obtain⟨h1,h2, -⟩:=za2 ho
  have:=zay h2
  exact⟨by omega,h1⟩
 unfold eZ Nd.shE at h
 rcases hk with h1 | h1 | h1 | h1
 ·rw [if_pos h1] at h
  exact key _ (CConv.convE_ok h).1
 ·rw [if_neg (by omega),if_pos h1] at h
  unfold CDepth.depthE at h
  by_cases h3:zas a.1 a.2.1 a.2.2 x.K x.S x.P a.2.2≠0
  ·rw [if_pos h3] at h;exact absurd h h3
  ·exact key a.2.2 (by omega)
 ·rw [if_neg (by omega),if_neg (by omega),if_neg (by omega),if_pos (.inl h1)] at h
  exact key _ h
 ·rw [if_neg (by omega),if_neg (by omega),if_neg (by omega),if_pos (.inr h1)] at h
  exact key _ h
theorem mul_le {p q a b:Int} (h1:1≤p) (h2:p≤a) (h3:1≤q) (h4:q≤b) (ha:0≤a):1≤p * q∧p * q≤a * b:=by
 refine⟨?_,Int.mul_le_mul h2 h4 (by omega) ha⟩
 have:=Int.mul_le_mul h1 h3 (by omega) (by omega:(0:Int)≤p)
 omega
theorem dense_in {x:Nd} {a b:Tri} (h:eZ x a b=0) (hk:x.kd=3):zae a.1 a.2.1 a.2.2=true:=by
 unfold eZ Nd.shE at h
 rw [if_neg (by omega),if_neg (by omega),if_pos hk] at h
 unfold denseE at h
 by_cases h4:zae a.1 a.2.1 a.2.2=true∧zae 1 1 x.O=true
 ·exact h4.1
 ·rw [if_neg h4] at h;omega
theorem cost_bd {x:Nd} {a b:Tri} (h:eZ x a b=0):1≤costZ x a b∧costZ x a b≤26214400:=by
 obtain⟨m1,m2⟩:=za5 (zax h)
 unfold costZ
 rw [if_neg (by omega)]
 by_cases k1:x.kd=1
 ·rw [if_pos k1]
  obtain⟨⟨q1,q2⟩,hs⟩:=K_bd h (.inl k1)
  obtain⟨-, -, -, -,c1,c2, -⟩:=zad hs
  have e1:=mul_le m1 m2 q1 q2 (by omega)
  have e2:=mul_le e1.1 e1.2 q1 q2 (by omega)
  have e3:=mul_le e2.1 e2.2 c1 c2 (by omega)
  exact⟨e3.1,by omega⟩
 ·rw [if_neg k1]
  by_cases k2:x.kd=2∨x.kd=4∨x.kd=5
  ·rw [if_pos k2]
   obtain⟨⟨q1,q2⟩,hs⟩:=K_bd h (.inr k2)
   have e1:=mul_le m1 m2 q1 q2 (by omega)
   have e2:=mul_le e1.1 e1.2 q1 q2 (by omega)
   exact⟨e2.1,by omega⟩
  ·rw [if_neg k2]
   by_cases k3:x.kd=3
   ·rw [if_pos k3]
    obtain⟨n1,n2⟩:=za5 (dense_in h k3)
    have e1:=mul_le m1 m2 n1 n2 (by omega)
    exact⟨e1.1,by omega⟩
   ·rw [if_neg k3];omega
theorem cost_all (x:Nd) (a b:Tri):0≤costZ x a b∧costZ x a b≤26214400:=by
 by_cases h:eZ x a b=0
 ·have:=cost_bd h;omega
 ·unfold costZ;rw [if_pos h];omega
def costN (X:Nat→Nd) (l:List Tri):Nat→Int
 | 0=>1
 | k+1=>costN X l k+costZ (X k) (l.getD (X k).na.toNat tri0) (l.getD (sndZ (X k)).toNat tri0)
theorem costN_bd (X:Nat→Nd) (l:List Tri):∀ k:Nat,1≤costN X l k∧costN X l k≤1+26214400 * (k:Int)
 | 0=>by unfold costN;omega
 | k+1=>by
   have h:=costN_bd X l k
   have h2:=cost_all (X k) (l.getD (X k).na.toNat tri0) (l.getD (sndZ (X k)).toNat tri0)
   unfold costN
   omega
def clZ (c:Int):Int:=min (max c 0) 16
theorem clZ_bd (c:Int):0≤clZ c∧clZ c≤16:=by unfold clZ;omega
def blkZ (X:Nat→Nd) (t0:Tri) (n:Nat) (ex:Bool) (c:Int):Int :=
 costN X (shL X t0 n) n+(if ex then clZ c * (elT ((shL X t0 n).getD n tri0)+1) else 0)
end CCost
end
section
namespace CBund
open Kit CKind CGraph
theorem ListOk.below {w w':World} {B:Nat} {k:IntKind} {A:Option Addr} {n c:Nat} (h:ListOk w B k A n c) (hb:Below B w w'):ListOk w' B k A n c:=by
 obtain⟨zs,h1,h2,h3,h4,h5⟩:=h
 exact⟨zs,h1,h2,h3,h4,h5.below hb⟩
theorem ListOk.more {w:World} {B B':Nat} {k:IntKind} {A:Option Addr} {n c:Nat} (h:ListOk w B k A n c) (hB:B≤B'):ListOk w B' k A n c:=by
 obtain⟨zs,h1,h2,h3,h4,h5⟩:=h
 exact⟨zs,h1,h2,h3,h4,h5.more hB⟩
theorem NdOk.below {w w':World} {B:Nat} {x:Nd} (h:NdOk w B x) (hb:Below B w w'):NdOk w' B x:=by
 obtain⟨h1,h2,h3,h4,h5,h6,⟨zs,a1,a2,a3,a4,a5⟩,⟨ys,b1,b2,b3,b4,b5⟩⟩:=h
 exact⟨h1,h2,h3,h4,h5,h6,⟨zs,a1,a2,a3,a4,a5.below hb⟩,⟨ys,b1,b2,b3,b4,b5.below hb⟩⟩
theorem NdOk.more {w:World} {B B':Nat} {x:Nd} (h:NdOk w B x) (hB:B≤B'):NdOk w B' x:=by
 obtain⟨h1,h2,h3,h4,h5,h6,⟨zs,a1,a2,a3,a4,a5⟩,⟨ys,b1,b2,b3,b4,b5⟩⟩:=h
 exact⟨h1,h2,h3,h4,h5,h6,⟨zs,a1,a2,a3,a4,a5.more hB⟩,⟨ys,b1,b2,b3,b4,b5.more hB⟩⟩
theorem BkOk.below {w w':World} {B:Nat} {b:Bk} (h:BkOk w B b) (hb:Below B w w'):BkOk w' B b :=
 ⟨h.cap,h.nodes.below hb,fun j hj=>NdOk.below (h.each j hj) hb,h.head.1,h.head.2.1.below hb,h.head.2.2.below hb⟩
theorem BkOk.more {w:World} {B B':Nat} {b:Bk} (h:BkOk w B b) (hB:B≤B'):BkOk w B' b :=
 ⟨h.cap,h.nodes.more hB,fun j hj=>NdOk.more (h.each j hj) hB,h.head.1,h.head.2.1.more hB,h.head.2.2.more hB⟩
theorem MdOk.below {w w':World} {B:Nat} {m:Md} (h:MdOk w B m) (hb:Below B w w'):MdOk w' B m :=
 ⟨h.cap,zbr.below h.blocks hb,fun j hj=>(h.each j hj).below hb⟩
theorem MdOk.more {w:World} {B B':Nat} {m:Md} (h:MdOk w B m) (hB:B≤B'):MdOk w B' m :=
 ⟨h.cap,zbr.more h.blocks hB,fun j hj=>(h.each j hj).more hB⟩
theorem BuOk.below {w w':World} {B:Nat} {u:Bu} (h:BuOk w B u) (hb:Below B w w'):BuOk w' B u :=
 ⟨h.nums,h.cap,zbr.below h.models hb,fun j hj=>(h.each j hj).below hb⟩
theorem BuOk.more {w:World} {B B':Nat} {u:Bu} (h:BuOk w B u) (hB:B≤B'):BuOk w B' u :=
 ⟨h.nums,h.cap,zbr.more h.models hB,fun j hj=>(h.each j hj).more hB⟩
end CBund
end
section
namespace CGraph
open Plain CSat CFix CShape CTensor CConv CKind
theorem rowI_len (F:Nat→Int) (n:Nat):(rowI F n).length=n:=by simp [rowI]
theorem rdI_at {w:World} {B:Nat} {A:Option Addr} {S:Nat→Int} {n:Nat} (h:Kit.Rd w B A (rowI S n)) (hn:0 < n) :
  ∃ b o,A=some ⟨b,o,none⟩∧b < B∧∀ k,k < n→w.cell? ⟨b,o+k,none⟩=some (.int .i64 (S k)):=by
 obtain⟨b,o,e,hb,hc⟩:=h.plain (by rw [rowI_len];exact hn)
 exact⟨b,o,e,hb,fun k hk=>hc k _ (rowI_at S hk)⟩
theorem isame_to (F:Nat→Int) (n:Nat) (hn:n≤1000) (A A':Option Addr) (c c':Nat) (w:World) {B B':Nat} (hr:Kit.Rd w B A (rowI F n)) (hr':Kit.Rd w B' A' (rowI F n)) :
  Calls Tryd.prog 15 #[.slice A n c,.slice A' n c'] w fun e w'=>e=.returned (.bool true)∧∃ m,w'=w.drewN m:=by
 have HA:=hid hr
 have HB:=hid hr'
 clear hr hr'
 go_enter Tryd.func15,Tryd.ntmps15
 go_wp2_with fail
 go_loopw [5] (fun u wr=>∃ k nq:Nat,k≤n∧u=.int .i64 k∧Hid (wr=w.drewN nq)) (fun u _=>n - (intOf u).toNat)
 case atStart=>exact⟨0,0,Nat.zero_le _,rfl,hid rfl⟩
 case round =>
  obtain⟨k,nq,hk,rfl,hw⟩:=hrel
  obtain rfl:=hw.out
  clear hw
  by_cases hlt:k < n
  ·obtain⟨b1,o1,rfl, -,h1⟩:=rdI_at HA.out (by omega)
   obtain⟨b2,o2,rfl, -,h2⟩:=rdI_at HB.out (by omega)
   have c1:=h1 k hlt
   have c2:=h2 k hlt
   have k0:(0:Int)≤(k:Int):=by omega
   have k1:(k:Int) < (n:Int):=by omega
   clear h1 h2
   go_wp2_with fail
   go_quiet (fail)
   go_wp2
   go_roundw
   case rel=>exact⟨k+1,_,by omega,by go_num,hid rfl⟩
   case measure=>simp [intOf];omega
  ·obtain rfl:k=n:=by omega
   go_wp2_with fail
   go_ret
   exact⟨rfl,nq,rfl⟩
def nd9:Nd:=⟨9,0,0,0,0,0,0,0,0,none,0,0,none,0,0,0,0,0,0,0,0,0,0⟩
/-! ### what Shapes tells, in one form -/
def outL (X:Nat→Nd) (t0:Tri) (n:Nat):List Tri:=match outS X t0 n with | some _=>[] | none=>shL X t0 n
def outZ (X:Nat→Nd) (t0:Tri) (n:Nat):Int:=match outS X t0 n with | some r=>r.2 | none=>0
end CGraph
end
end Go.Proofs.YtjhlkmnpfibgaaaDoor
