/- -/
import Derived.Test.YtfgdfignoakkaaaGreatDoorGBC10
import Derived.Test.YtfgdfignoakkaaaGreatDoorGBC13
open Nat (le_refl lt_of_succ_lt lt_succ_self)
set_option linter.unusedVariables false
set_option linter.unusedSimpArgs false
set_option maxRecDepth 100000
set_option maxHeartbeats 16000000
namespace Go.Proofs.YtfgdfignoakkaaaGreatDoor
namespace CGraph
end CGraph
namespace CKind
end CKind
namespace Kit
end Kit
namespace Plain
end Plain
open Go Go.ChangeShapes Go.WideShapes Go.ChangeAt Go.RowKit Go.Deep
section
namespace CBunM
open Kit Plain CKind CGraph CBund
def RdX (m:Bool) (w:World) (lo hi:Nat) (A:Option Addr) (xs:List Value):Prop :=
 ∀ (j:Nat) (u:Value),xs[j]?=some u→∃ b o,A=some ⟨b,o,none⟩∧lo≤b∧b < hi∧w.cell? ⟨b,o+j,none⟩=some u∧(m=true→w.frozen? ⟨b,o+j,none⟩=false)
def Kept (lo hi:Nat) (w w':World):Prop:=∀ b o,lo≤b→b < hi→w'.cell? ⟨b,o,none⟩=w.cell? ⟨b,o,none⟩∧w'.frozen? ⟨b,o,none⟩=w.frozen? ⟨b,o,none⟩
theorem Kept.of_below {B lo hi:Nat} {w w':World} (h:Below B w w') (hB:hi≤B):Kept lo hi w w':=fun b o _ h2=>⟨h.cell (p:=⟨b,o,none⟩) (Nat.lt_of_lt_of_le h2 hB),h.frozen (p:=⟨b,o,none⟩) (Nat.lt_of_lt_of_le h2 hB)⟩
theorem RdX.keep {m:Bool} {w w':World} {lo hi:Nat} {A:Option Addr} {xs:List Value} (h:RdX m w lo hi A xs) (hk:Kept lo hi w w'):RdX m w' lo hi A xs:=fun j u hu=>by
 obtain⟨b,o,rfl,h1,h2,h3,h4⟩:=h j u hu
 exact⟨b,o,rfl,h1,h2,(hk _ _ h1 h2).1.trans h3,fun e=>(hk _ _ h1 h2).2.trans (h4 e)⟩
theorem RdX.more {m:Bool} {w:World} {lo hi lo' hi':Nat} {A:Option Addr} {xs:List Value} (h:RdX m w lo hi A xs) (h1:lo'≤lo) (h2:hi≤hi'):RdX m w lo' hi' A xs:=fun j u hu=>by
 obtain⟨b,o,rfl,a1,a2,h3⟩:=h j u hu
 exact⟨b,o,rfl,Nat.le_trans h1 a1,Nat.lt_of_lt_of_le a2 h2,h3⟩
theorem RdX.rd {m:Bool} {w:World} {lo hi:Nat} {A:Option Addr} {xs:List Value} (h:RdX m w lo hi A xs):Rd w hi A xs:=fun j u hu=>by
 obtain⟨b,o,rfl,a1,a2,h3,_⟩:=h j u hu
 exact⟨_,rfl,a2,by rw [Go.WideShapes.add_plain];exact h3⟩
theorem RdX.of_rd {w:World} {hi:Nat} {A:Option Addr} {xs:List Value} (h:Rd w hi A xs):RdX false w 0 hi A xs:=fun j u hu=>by
 have hn:0 < xs.length:=by have:=(List.getElem?_eq_some_iff.1 hu).1;omega
 obtain⟨b,o,e,hb,hc⟩:=h.plain hn
 exact⟨b,o,e,Nat.zero_le _,hb,hc j u hu,fun e=>by cases e⟩
theorem RdX.of_own {w:World} {base n c:Nat} {A:Option Addr} {e:TypeId} {size:Nat} {xs:List Value} (h:w.ownsRow base e size (.slice A n c) n xs):RdX true w base w.heap.size A xs:=fun j u hu=>by
 rcases h.2 with ⟨h1,h2⟩ | ⟨g,cap,cur,h1,hb,hg,_⟩
 ·have h3:=h.1
  rw [h2,Nat.zero_mul] at h3
  rw [List.eq_nil_of_length_eq_zero h3] at hu
  simp at hu
 ·simp only [Value.slice.injEq] at h1
  obtain⟨rfl,_,_⟩:=h1
  refine⟨g,0,rfl,hb,(Array.getElem?_eq_some_iff.1 hg).1,?_,fun _=>by simp [World.frozen?,hg]⟩
  have:=h.cells (g:=g) rfl j u hu
  rwa [Go.WideShapes.add_plain] at this
def zab {α:Type} (s:Nat) (val:α→List Value) (m:Bool) (w:World) (lo hi:Nat) (A:Option Addr) (n:Nat) (X:Nat→α):Prop :=
 ∀ j,j < n→∃ b o,A=some ⟨b,o,none⟩∧lo≤b∧b < hi∧w.rangeAt b (o+j * s) (val (X j))∧(m=true→∀ q,q < s→w.frozen? ⟨b,o+j * s+q,none⟩=false)
section
variable {α:Type} {s:Nat} {val:α→List Value} {m:Bool} {w w':World} {lo hi lo' hi' n:Nat} {A:Option Addr} {X:Nat→α}
theorem zab.keep (h:zab s val m w lo hi A n X) (hk:Kept lo hi w w'):zab s val m w' lo hi A n X:=fun j hj=>by
 obtain⟨b,o,rfl,h1,h2,hr,h4⟩:=h j hj
 exact⟨b,o,rfl,h1,h2,fun q v hq=>(hk _ _ h1 h2).1.trans (hr q v hq),fun e q hq=>(hk _ _ h1 h2).2.trans (h4 e q hq)⟩
theorem zab.more (h:zab s val m w lo hi A n X) (h1:lo'≤lo) (h2:hi≤hi'):zab s val m w lo' hi' A n X:=fun j hj=>by
 obtain⟨b,o,rfl,a1,a2,hr⟩:=h j hj
 exact⟨b,o,rfl,Nat.le_trans h1 a1,Nat.lt_of_lt_of_le a2 h2,hr⟩
theorem zab.of_at (h:zaf s val w hi A n X):zab s val false w 0 hi A n X:=fun j hj=>by
 obtain⟨b,o,rfl,a2,hr⟩:=h j hj
 exact⟨b,o,rfl,Nat.zero_le _,a2,hr,fun e=>by cases e⟩
end
def flatE {α:Type} (val:α→List Value) (X:Nat→α):Nat→List Value
 | 0=>[]
 | n+1=>flatE val X n ++ val (X n)
theorem flatE_len {α:Type} {s:Nat} {val:α→List Value} (hl:∀ a,(val a).length=s) (X:Nat→α) (n:Nat):(flatE val X n).length=n * s:=by
 induction n with
 | zero=>simp [flatE]
 | succ n ih=>simp only [flatE,List.length_append,ih,hl,Nat.add_mul,Nat.one_mul]
theorem flatE_get {α:Type} {s:Nat} {val:α→List Value} (hl:∀ a,(val a).length=s) (X:Nat→α) {n j q:Nat} (hj:j < n) (hq:q < s):(flatE val X n)[j * s+q]?=(val (X j))[q]?:=by
 induction n with
 | zero=>omega
 | succ n ih =>
   have hL:=flatE_len hl X n
   simp only [flatE]
   rcases (show j < n∨j=n by omega) with h | rfl
   ·have:j * s+q < n * s:=by
     have:(j+1) * s≤n * s:=Nat.mul_le_mul_right s h
     rw [Nat.add_mul] at this
     omega
    rw [List.getElem?_append_left (by omega)]
    exact ih h
   ·rw [List.getElem?_append_right (by omega),hL]
    congr 1
    omega
theorem flatE_of {α:Type} {s:Nat} {val:α→List Value} (hl:∀ a,(val a).length=s) (hs:0 < s) (X:Nat→α) {n i:Nat} {u:Value} (h:(flatE val X n)[i]?=some u):i / s < n∧(val (X (i / s)))[i % s]?=some u:=by
 have hi:i < n * s:=by have:=(List.getElem?_eq_some_iff.1 h).1;rwa [flatE_len hl] at this
 have h1:i / s < n:=(Nat.div_lt_iff_lt_mul hs).2 hi
 refine⟨h1,?_⟩
 rw [← flatE_get hl X h1 (Nat.mod_lt i hs),Nat.mul_comm,Nat.div_add_mod]
 exact h
theorem flatE_mem {α:Type} {val:α→List Value} {p:Value→Prop} (hp:∀ a,∀ u∈val a,p u) (X:Nat→α) (n:Nat):∀ u∈flatE val X n,p u:=by
 induction n with
 | zero=>intro u hu;simp [flatE] at hu
 | succ n ih =>
   intro u hu
   simp only [flatE,List.mem_append] at hu
   rcases hu with h | h
   ·exact ih u h
   ·exact hp _ u h
theorem zab.rdx {α:Type} {s:Nat} {val:α→List Value} {m:Bool} {w:World} {lo hi n:Nat} {A:Option Addr} {X:Nat→α} (hl:∀ a,(val a).length=s) (hs:0 < s) (h:zab s val m w lo hi A n X):RdX m w lo hi A (flatE val X n):=fun i u hu=>by
 obtain⟨h1,h2⟩:=flatE_of hl hs X hu
 obtain⟨b,o,rfl,a1,a2,hr,hf⟩:=h _ h1
 have e0:o+i / s * s+i % s=o+i:=by rw [Nat.add_assoc,Nat.mul_comm (i / s) s,Nat.div_add_mod]
 refine⟨b,o,rfl,a1,a2,?_,fun e=>?_⟩
 ·have:=hr _ u h2
  rwa [e0] at this
 ·have:=hf e (i % s) (Nat.mod_lt i hs)
  rwa [e0] at this
theorem zab.of_rdx {α:Type} {s:Nat} {val:α→List Value} {m:Bool} {w:World} {lo hi n:Nat} {A:Option Addr} {X:Nat→α} (hl:∀ a,(val a).length=s) (hs:0 < s) (h:RdX m w lo hi A (flatE val X n)):zab s val m w lo hi A n X:=fun j hj=>by
 have hg:∀ q,(hq:q < s)→(val (X j))[q]?=some ((val (X j))[q]'(by rw [hl];exact hq)):=fun q hq=>List.getElem?_eq_getElem _
 obtain⟨b,o,e,a1,a2,_⟩:=h (j * s+0) _ ((flatE_get hl X hj hs).trans (hg 0 hs))
 have all:∀ q v,q < s→(val (X j))[q]?=some v→w.cell? ⟨b,o+j * s+q,none⟩=some v∧(m=true→w.frozen? ⟨b,o+j * s+q,none⟩=false):=fun q v hqs hq=>by
  obtain⟨b',o',e',_,_,hc⟩:=h (j * s+q) v ((flatE_get hl X hj hqs).trans hq)
  rw [e] at e'
  simp only [Option.some.injEq,Addr.mk.injEq] at e'
  obtain⟨rfl,rfl,_⟩:=e'
  rw [Nat.add_assoc]
  exact hc
 refine⟨b,o,e,a1,a2,fun q v hq=>?_,fun em q hq=>(all q _ hq (hg q hq)).2 em⟩
 have hqs:q < s:=by have:=(List.getElem?_eq_some_iff.1 hq).1;rwa [hl] at this
 exact (all q v hqs hq).1
/-! ### what a bundle holds -/
structure PN where
 x:Nd
 ws:List Int
 bs:List Int
structure PB where
 n:Nat
 N:Nat→PN
 ex:Bool
 D:Int
 W:List Int
 Bs:List Int
structure PM where
 n:Nat
 K:Nat→PB
structure PU where
 H:Int
 W:Int
 C:Int
 cl:Int
 n:Nat
 M:Nat→PM
structure LsIn (m:Bool) (w:World) (lo hi:Nat) (k:IntKind) (A:Option Addr) (n c:Nat) (zs:List Int):Prop where
 len:zs.length=n
 cap:n≤c∧c≤maxLen
 rd:RdX m w lo hi A (zs.map (.int k))
structure NdIn (m:Bool) (w:World) (lo hi:Nat) (x:Nd) (p:PN):Prop where
 like:x.Like p.x
 lw:LsIn m w lo hi .i8 x.WA x.nW x.cW p.ws
 lb:LsIn m w lo hi .i32 x.BA x.nB x.cB p.bs
def NdsX:=@zab Nd 19 (fun x:Nd=>x.val.toList)
structure BkIn (m:Bool) (w:World) (lo hi:Nat) (b:Bk) (p:PB):Prop where
 n:b.n=p.n
 ex:b.ex=p.ex
 D:b.hd.D=p.D
 cap:b.n≤b.c∧b.c≤maxLen
 nodes:NdsX m w lo hi b.A b.n b.X
 each:∀ j,j < b.n→NdIn m w lo hi (b.X j) (p.N j)
 lw:LsIn m w lo hi .i8 b.hd.WA b.hd.nW b.hd.cW p.W
 lb:LsIn m w lo hi .i32 b.hd.BA b.hd.nB b.hd.cB p.Bs
def BksX:=@zab Bk 5 Bk.val
structure MdIn (m:Bool) (w:World) (lo hi:Nat) (d:Md) (p:PM):Prop where
 n:d.n=p.n
 cap:d.n≤d.c∧d.c≤maxLen
 blocks:BksX m w lo hi d.A d.n d.K
 each:∀ j,j < d.n→BkIn m w lo hi (d.K j) (p.K j)
def MdsX:=@zab Md 1 Md.val
structure BuIn (m:Bool) (w:World) (lo hi:Nat) (u:Bu) (p:PU):Prop where
 nums:u.H=p.H∧u.W=p.W∧u.C=p.C∧u.cl=p.cl
 n:u.n=p.n
 cap:u.n≤u.c∧u.c≤maxLen
 models:MdsX m w lo hi u.A u.n u.M
 each:∀ j,j < u.n→MdIn m w lo hi (u.M j) (p.M j)
section
variable {m:Bool} {w w':World} {lo hi lo' hi':Nat}
theorem LsIn.keep {k:IntKind} {A:Option Addr} {n c:Nat} {zs:List Int} (h:LsIn m w lo hi k A n c zs) (hk:Kept lo hi w w'):LsIn m w' lo hi k A n c zs:=⟨h.len,h.cap,h.rd.keep hk⟩
theorem LsIn.more {k:IntKind} {A:Option Addr} {n c:Nat} {zs:List Int} (h:LsIn m w lo hi k A n c zs) (h1:lo'≤lo) (h2:hi≤hi'):LsIn m w lo' hi' k A n c zs:=⟨h.len,h.cap,h.rd.more h1 h2⟩
theorem NdIn.keep {x:Nd} {p:PN} (h:NdIn m w lo hi x p) (hk:Kept lo hi w w'):NdIn m w' lo hi x p:=⟨h.like,h.lw.keep hk,h.lb.keep hk⟩
theorem NdIn.more {x:Nd} {p:PN} (h:NdIn m w lo hi x p) (h1:lo'≤lo) (h2:hi≤hi'):NdIn m w lo' hi' x p:=⟨h.like,h.lw.more h1 h2,h.lb.more h1 h2⟩
theorem BkIn.keep {b:Bk} {p:PB} (h:BkIn m w lo hi b p) (hk:Kept lo hi w w'):BkIn m w' lo hi b p:=⟨h.n,h.ex,h.D,h.cap,h.nodes.keep hk,fun j hj=>(h.each j hj).keep hk,h.lw.keep hk,h.lb.keep hk⟩
theorem BkIn.more {b:Bk} {p:PB} (h:BkIn m w lo hi b p) (h1:lo'≤lo) (h2:hi≤hi'):BkIn m w lo' hi' b p:=⟨h.n,h.ex,h.D,h.cap,h.nodes.more h1 h2,fun j hj=>(h.each j hj).more h1 h2,h.lw.more h1 h2,h.lb.more h1 h2⟩
theorem MdIn.keep {b:Md} {p:PM} (h:MdIn m w lo hi b p) (hk:Kept lo hi w w'):MdIn m w' lo hi b p:=⟨h.n,h.cap,h.blocks.keep hk,fun j hj=>(h.each j hj).keep hk⟩
theorem MdIn.more {b:Md} {p:PM} (h:MdIn m w lo hi b p) (h1:lo'≤lo) (h2:hi≤hi'):MdIn m w lo' hi' b p:=⟨h.n,h.cap,h.blocks.more h1 h2,fun j hj=>(h.each j hj).more h1 h2⟩
theorem BuIn.keep {b:Bu} {p:PU} (h:BuIn m w lo hi b p) (hk:Kept lo hi w w'):BuIn m w' lo hi b p:=⟨h.nums,h.n,h.cap,h.models.keep hk,fun j hj=>(h.each j hj).keep hk⟩
theorem BuIn.more {b:Bu} {p:PU} (h:BuIn m w lo hi b p) (h1:lo'≤lo) (h2:hi≤hi'):BuIn m w lo' hi' b p:=⟨h.nums,h.n,h.cap,h.models.more h1 h2,fun j hj=>(h.each j hj).more h1 h2⟩
end
/-! ### the sizes that are gone through -/
def PB.few (p:PB):Prop:=p.n≤12∧(∀ j,j < p.n→(p.N j).ws.length≤1000∧(p.N j).bs.length≤100)∧p.W.length≤4000∧p.Bs.length≤100
def PM.few (p:PM):Prop:=p.n≤8∧∀ k,k < p.n→(p.K k).few
def PU.few (p:PU):Prop:=p.n≤4∧∀ j,j < p.n→(p.M j).few
def FewBkU (b:Bk):Prop:=b.n≤12∧(∀ i,i < b.n→(b.X i).nW≤1000∧(b.X i).nB≤100)∧b.hd.nW≤4000∧b.hd.nB≤100
def FewMdU (m:Md):Prop:=m.n≤8∧∀ k,k < m.n→FewBkU (m.K k)
def FewBuU (u:Bu):Prop:=u.n≤4∧∀ j,j < u.n→FewMdU (u.M j)
theorem nd_in {w:World} {B:Nat} {x:Nd} (h:NdOk w B x):∃ p,NdIn false w 0 B x p:=by
 obtain⟨zs,a1,a2,a3,a4,a5⟩:=h.ws
 obtain⟨us,b1,b2,b3,b4,b5⟩:=h.bs
 exact⟨⟨x,zs,us⟩,x.like_refl,⟨a1,⟨a2,a3⟩,RdX.of_rd a5⟩,⟨b1,⟨b2,b3⟩,RdX.of_rd b5⟩⟩
theorem bk_in {w:World} {B:Nat} {b:Bk} (h:BkOk w B b):∃ p,BkIn false w 0 B b p:=by
 obtain⟨X,hX⟩:=choose_fnE (⟨nd0,[],[]⟩:PN) (fun j hj=>nd_in (h.each j hj))
 obtain⟨_,⟨zs,a1,a2,a3,a4,a5⟩,⟨us,b1,b2,b3,b4,b5⟩⟩:=h.head
 exact⟨⟨b.n,X,b.ex,b.hd.D,zs,us⟩,rfl,rfl,rfl,h.cap,zab.of_at h.nodes,hX,⟨a1,⟨a2,a3⟩,RdX.of_rd a5⟩,⟨b1,⟨b2,b3⟩,RdX.of_rd b5⟩⟩
theorem md_in {w:World} {B:Nat} {m:Md} (h:MdOk w B m):∃ p,MdIn false w 0 B m p:=by
 obtain⟨X,hX⟩:=choose_fnE (⟨0,fun _=>⟨nd0,[],[]⟩,false,0,[],[]⟩:PB) (fun j hj=>bk_in (h.each j hj))
 exact⟨⟨m.n,X⟩,rfl,h.cap,zab.of_at h.blocks,hX⟩
theorem bu_in {w:World} {B:Nat} {u:Bu} (h:BuOk w B u):∃ p,BuIn false w 0 B u p:=by
 obtain⟨X,hX⟩:=choose_fnE (⟨0,fun _=>⟨0,fun _=>⟨nd0,[],[]⟩,false,0,[],[]⟩⟩:PM) (fun j hj=>md_in (h.each j hj))
 exact⟨⟨u.H,u.W,u.C,u.cl,u.n,X⟩,⟨rfl,rfl,rfl,rfl⟩,rfl,h.cap,zab.of_at h.models,hX⟩
theorem bk_few {m:Bool} {w:World} {lo hi:Nat} {b:Bk} {p:PB} (h:BkIn m w lo hi b p) (hf:FewBkU b):p.few:=by
 refine⟨by rw [← h.n];exact hf.1,fun j hj=>?_,by rw [h.lw.len];exact hf.2.2.1,by rw [h.lb.len];exact hf.2.2.2⟩
 have hj':j < b.n:=by rw [h.n];exact hj
 rw [(h.each j hj').lw.len,(h.each j hj').lb.len]
 exact hf.2.1 j hj'
theorem bu_few {m:Bool} {w:World} {lo hi:Nat} {u:Bu} {p:PU} (h:BuIn m w lo hi u p) (hf:FewBuU u):p.few:=by
 refine⟨by rw [← h.n];exact hf.1,fun j hj=>?_⟩
 have hj':j < u.n:=by rw [h.n];exact hj
 have hm:=h.each j hj'
 refine⟨by rw [← hm.n];exact (hf.2 j hj').1,fun k hk=>?_⟩
 have hk':k < (u.M j).n:=by rw [hm.n];exact hk
 exact bk_few (hm.each k hk') ((hf.2 j hj').2 k hk')
end CBunM
end
end Go.Proofs.YtfgdfignoakkaaaGreatDoor
