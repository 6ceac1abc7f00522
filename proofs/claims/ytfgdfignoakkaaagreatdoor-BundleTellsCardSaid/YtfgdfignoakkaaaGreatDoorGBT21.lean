/- -/
import Derived.Test.YtfgdfignoakkaaaGreatDoorGBT20
open Go.Lib (hid)
open Nat (le_refl lt_of_succ_lt lt_succ_self)
set_option linter.unusedVariables false
set_option linter.unusedSimpArgs false
set_option maxRecDepth 100000
set_option maxHeartbeats 16000000
namespace Go.Proofs.YtfgdfignoakkaaaGreatDoor
namespace CConv
end CConv
namespace CFix
end CFix
namespace CGraph
end CGraph
namespace CKind
end CKind
namespace CLeb
end CLeb
namespace COctet
end COctet
namespace CSat
end CSat
namespace CShape
end CShape
namespace CTensor
end CTensor
namespace Kit
end Kit
open Go Go.ChangeShapes Go.WideShapes Go.ChangeAt Go.RowKit Go.Deep
section
namespace CBunM
open Kit Plain CKind CGraph CBund
def RdX (m:Bool) (w:World) (lo hi:Nat) (A:Option Addr) (xs:List Value):Prop :=
 ∀ (j:Nat) (u:Value),xs[j]?=some u→∃ b o,A=some ⟨b,o,none⟩∧lo≤b∧b < hi∧w.cell? ⟨b,o+j,none⟩=some u∧(m=true→w.frozen? ⟨b,o+j,none⟩=false)
def Kept (lo hi:Nat) (w w':World):Prop:=∀ b o,lo≤b→b < hi→w'.cell? ⟨b,o,none⟩=w.cell? ⟨b,o,none⟩∧w'.frozen? ⟨b,o,none⟩=w.frozen? ⟨b,o,none⟩
theorem Kept.of_below {B lo hi:Nat} {w w':World} (h:Below B w w') (hB:hi≤B):Kept lo hi w w':=fun b o _ h2=>⟨h.cell (p:=⟨b,o,none⟩) (Nat.lt_of_lt_of_le h2 hB),h.frozen (p:=⟨b,o,none⟩) (Nat.lt_of_lt_of_le h2 hB)⟩
theorem RdX.keep {m:Bool} {w w':World} {lo hi:Nat} {A:Option Addr} {xs:List Value} (h:RdX m w lo hi A xs) (hk:Kept lo hi w w'):RdX m w' lo hi A xs:=fun j u hu=>by
 obtain⟨b,o,rfl,h1,h2,h3,h4⟩:=h j u hu
 exact⟨b,o,rfl,h1,h2,(hk _ _ h1 h2).1.trans h3,fun e=>(hk _ _ h1 h2).2.trans (h4 e)⟩
theorem RdX.more {m:Bool} {w:World} {lo hi lo' hi':Nat} {A:Option Addr} {xs:List Value} (h:RdX m w lo hi A xs) (h1:lo'≤lo) (h2:hi≤hi'):RdX m w lo' hi' A xs:=fun j u hu=>by
 obtain⟨b,o,rfl,a1,a2,h3⟩:=h j u hu
 exact⟨b,o,rfl,Nat.le_trans h1 a1,Nat.lt_of_lt_of_le a2 h2,h3⟩
theorem RdX.weak {m:Bool} {w:World} {lo hi:Nat} {A:Option Addr} {xs:List Value} (h:RdX m w lo hi A xs):RdX false w lo hi A xs:=fun j u hu=>by
 obtain⟨b,o,rfl,a1,a2,h3,_⟩:=h j u hu
 exact⟨b,o,rfl,a1,a2,h3,fun e=>by cases e⟩
theorem RdX.rd {m:Bool} {w:World} {lo hi:Nat} {A:Option Addr} {xs:List Value} (h:RdX m w lo hi A xs):Rd w hi A xs:=fun j u hu=>by
 obtain⟨b,o,rfl,a1,a2,h3,_⟩:=h j u hu
 exact⟨_,rfl,a2,by rw [Go.WideShapes.add_plain];exact h3⟩
theorem RdX.of_rd {w:World} {hi:Nat} {A:Option Addr} {xs:List Value} (h:Rd w hi A xs):RdX false w 0 hi A xs:=fun j u hu=>by
 have hn:0 < xs.length:=by have:=(List.getElem?_eq_some_iff.1 hu).1;omega
 obtain⟨b,o,e,hb,hc⟩:=h.plain hn
 exact⟨b,o,e,Nat.zero_le _,hb,hc j u hu,fun e=>by cases e⟩
theorem RdX.of_own {w:World} {base n c:Nat} {A:Option Addr} {e:TypeId} {size:Nat} {xs:List Value} (h:w.ownsRow base e size (.slice A n c) n xs):RdX true w base w.heap.size A xs:=fun j u hu=>by
 rcases h.2 with ⟨h1,h2⟩ | ⟨g,cap,cur,h1,hb,hg,_⟩
 ·have h3:=h.1
  rw [h2,Nat.zero_mul] at h3
  rw [List.eq_nil_of_length_eq_zero h3] at hu
  simp at hu
 ·simp only [Value.slice.injEq] at h1
  obtain⟨rfl,_,_⟩:=h1
  refine⟨g,0,rfl,hb,(Array.getElem?_eq_some_iff.1 hg).1,?_,fun _=>by simp [World.frozen?,hg]⟩
  have:=h.cells (g:=g) rfl j u hu
  rwa [Go.WideShapes.add_plain] at this
def za9 {α:Type} (s:Nat) (val:α→List Value) (m:Bool) (w:World) (lo hi:Nat) (A:Option Addr) (n:Nat) (X:Nat→α):Prop :=
 ∀ j,j < n→∃ b o,A=some ⟨b,o,none⟩∧lo≤b∧b < hi∧w.rangeAt b (o+j * s) (val (X j))∧(m=true→∀ q,q < s→w.frozen? ⟨b,o+j * s+q,none⟩=false)
section
variable {α:Type} {s:Nat} {val:α→List Value} {m:Bool} {w w':World} {lo hi lo' hi' n:Nat} {A:Option Addr} {X:Nat→α}
theorem za9.keep (h:za9 s val m w lo hi A n X) (hk:Kept lo hi w w'):za9 s val m w' lo hi A n X:=fun j hj=>by
 obtain⟨b,o,rfl,h1,h2,hr,h4⟩:=h j hj
 exact⟨b,o,rfl,h1,h2,fun q v hq=>(hk _ _ h1 h2).1.trans (hr q v hq),fun e q hq=>(hk _ _ h1 h2).2.trans (h4 e q hq)⟩
theorem za9.of_at (h:zbk s val w hi A n X):za9 s val false w 0 hi A n X:=fun j hj=>by
 obtain⟨b,o,rfl,a2,hr⟩:=h j hj
 exact⟨b,o,rfl,Nat.zero_le _,a2,hr,fun e=>by cases e⟩
end
def flatE {α:Type} (val:α→List Value) (X:Nat→α):Nat→List Value
 | 0=>[]
 | n+1=>flatE val X n ++ val (X n)
theorem flatE_len {α:Type} {s:Nat} {val:α→List Value} (hl:∀ a,(val a).length=s) (X:Nat→α) (n:Nat):(flatE val X n).length=n * s:=by
 induction n with
 | zero=>simp [flatE]
 | succ n ih=>simp only [flatE,List.length_append,ih,hl,Nat.add_mul,Nat.one_mul]
theorem flatE_get {α:Type} {s:Nat} {val:α→List Value} (hl:∀ a,(val a).length=s) (X:Nat→α) {n j q:Nat} (hj:j < n) (hq:q < s):(flatE val X n)[j * s+q]?=(val (X j))[q]?:=by
 induction n with
 | zero=>omega
 | succ n ih =>
   have hL:=flatE_len hl X n
   simp only [flatE]
   rcases (show j < n∨j=n by omega) with h | rfl
   ·have:j * s+q < n * s:=by
     have:(j+1) * s≤n * s:=Nat.mul_le_mul_right s h
     rw [Nat.add_mul] at this
     omega
    rw [List.getElem?_append_left (by omega)]
    exact ih h
   ·rw [List.getElem?_append_right (by omega),hL]
    congr 1
    omega
theorem flatE_of {α:Type} {s:Nat} {val:α→List Value} (hl:∀ a,(val a).length=s) (hs:0 < s) (X:Nat→α) {n i:Nat} {u:Value} (h:(flatE val X n)[i]?=some u):i / s < n∧(val (X (i / s)))[i % s]?=some u:=by
 have hi:i < n * s:=by have:=(List.getElem?_eq_some_iff.1 h).1;rwa [flatE_len hl] at this
 have h1:i / s < n:=(Nat.div_lt_iff_lt_mul hs).2 hi
 refine⟨h1,?_⟩
 rw [← flatE_get hl X h1 (Nat.mod_lt i hs),Nat.mul_comm,Nat.div_add_mod]
 exact h
theorem flatE_mem {α:Type} {val:α→List Value} {p:Value→Prop} (hp:∀ a,∀ u∈val a,p u) (X:Nat→α) (n:Nat):∀ u∈flatE val X n,p u:=by
 induction n with
 | zero=>intro u hu;simp [flatE] at hu
 | succ n ih =>
   intro u hu
   simp only [flatE,List.mem_append] at hu
   rcases hu with h | h
   ·exact ih u h
   ·exact hp _ u h
theorem za9.rdx {α:Type} {s:Nat} {val:α→List Value} {m:Bool} {w:World} {lo hi n:Nat} {A:Option Addr} {X:Nat→α} (hl:∀ a,(val a).length=s) (hs:0 < s) (h:za9 s val m w lo hi A n X):RdX m w lo hi A (flatE val X n):=fun i u hu=>by
 obtain⟨h1,h2⟩:=flatE_of hl hs X hu
 obtain⟨b,o,rfl,a1,a2,hr,hf⟩:=h _ h1
 have e0:o+i / s * s+i % s=o+i:=by rw [Nat.add_assoc,Nat.mul_comm (i / s) s,Nat.div_add_mod]
 refine⟨b,o,rfl,a1,a2,?_,fun e=>?_⟩
 ·have:=hr _ u h2
  rwa [e0] at this
 ·have:=hf e (i % s) (Nat.mod_lt i hs)
  rwa [e0] at this
theorem za9.of_rdx {α:Type} {s:Nat} {val:α→List Value} {m:Bool} {w:World} {lo hi n:Nat} {A:Option Addr} {X:Nat→α} (hl:∀ a,(val a).length=s) (hs:0 < s) (h:RdX m w lo hi A (flatE val X n)):za9 s val m w lo hi A n X:=fun j hj=>by
 have hg:∀ q,(hq:q < s)→(val (X j))[q]?=some ((val (X j))[q]'(by rw [hl];exact hq)):=fun q hq=>List.getElem?_eq_getElem _
 obtain⟨b,o,e,a1,a2,_⟩:=h (j * s+0) _ ((flatE_get hl X hj hs).trans (hg 0 hs))
 have all:∀ q v,q < s→(val (X j))[q]?=some v→w.cell? ⟨b,o+j * s+q,none⟩=some v∧(m=true→w.frozen? ⟨b,o+j * s+q,none⟩=false):=fun q v hqs hq=>by
  obtain⟨b',o',e',_,_,hc⟩:=h (j * s+q) v ((flatE_get hl X hj hqs).trans hq)
  rw [e] at e'
  simp only [Option.some.injEq,Addr.mk.injEq] at e'
  obtain⟨rfl,rfl,_⟩:=e'
  rw [Nat.add_assoc]
  exact hc
 refine⟨b,o,e,a1,a2,fun q v hq=>?_,fun em q hq=>(all q _ hq (hg q hq)).2 em⟩
 have hqs:q < s:=by have:=(List.getElem?_eq_some_iff.1 hq).1;rwa [hl] at this
 exact (all q v hqs hq).1
/-! ### what a bundle holds -/
structure PN where
 x:Nd
 ws:List Int
 bs:List Int
structure PB where
 n:Nat
 N:Nat→PN
 ex:Bool
 D:Int
 W:List Int
 Bs:List Int
structure PM where
 n:Nat
 K:Nat→PB
structure PU where
 H:Int
 W:Int
 C:Int
 cl:Int
 n:Nat
 M:Nat→PM
structure LsIn (m:Bool) (w:World) (lo hi:Nat) (k:IntKind) (A:Option Addr) (n c:Nat) (zs:List Int):Prop where
 len:zs.length=n
 cap:n≤c∧c≤maxLen
 rd:RdX m w lo hi A (zs.map (.int k))
structure NdIn (m:Bool) (w:World) (lo hi:Nat) (x:Nd) (p:PN):Prop where
 like:x.Like p.x
 lw:LsIn m w lo hi .i8 x.WA x.nW x.cW p.ws
 lb:LsIn m w lo hi .i32 x.BA x.nB x.cB p.bs
def NdsX:=@za9 Nd 19 (fun x:Nd=>x.val.toList)
structure BkIn (m:Bool) (w:World) (lo hi:Nat) (b:Bk) (p:PB):Prop where
 n:b.n=p.n
 ex:b.ex=p.ex
 D:b.hd.D=p.D
 cap:b.n≤b.c∧b.c≤maxLen
 nodes:NdsX m w lo hi b.A b.n b.X
 each:∀ j,j < b.n→NdIn m w lo hi (b.X j) (p.N j)
 lw:LsIn m w lo hi .i8 b.hd.WA b.hd.nW b.hd.cW p.W
 lb:LsIn m w lo hi .i32 b.hd.BA b.hd.nB b.hd.cB p.Bs
def BksX:=@za9 Bk 5 Bk.val
structure MdIn (m:Bool) (w:World) (lo hi:Nat) (d:Md) (p:PM):Prop where
 n:d.n=p.n
 cap:d.n≤d.c∧d.c≤maxLen
 blocks:BksX m w lo hi d.A d.n d.K
 each:∀ j,j < d.n→BkIn m w lo hi (d.K j) (p.K j)
def MdsX:=@za9 Md 1 Md.val
structure BuIn (m:Bool) (w:World) (lo hi:Nat) (u:Bu) (p:PU):Prop where
 nums:u.H=p.H∧u.W=p.W∧u.C=p.C∧u.cl=p.cl
 n:u.n=p.n
 cap:u.n≤u.c∧u.c≤maxLen
 models:MdsX m w lo hi u.A u.n u.M
 each:∀ j,j < u.n→MdIn m w lo hi (u.M j) (p.M j)
section
variable {m:Bool} {w w':World} {lo hi lo' hi':Nat}
theorem LsIn.keep {k:IntKind} {A:Option Addr} {n c:Nat} {zs:List Int} (h:LsIn m w lo hi k A n c zs) (hk:Kept lo hi w w'):LsIn m w' lo hi k A n c zs:=⟨h.len,h.cap,h.rd.keep hk⟩
theorem NdIn.keep {x:Nd} {p:PN} (h:NdIn m w lo hi x p) (hk:Kept lo hi w w'):NdIn m w' lo hi x p:=⟨h.like,h.lw.keep hk,h.lb.keep hk⟩
theorem BkIn.keep {b:Bk} {p:PB} (h:BkIn m w lo hi b p) (hk:Kept lo hi w w'):BkIn m w' lo hi b p:=⟨h.n,h.ex,h.D,h.cap,h.nodes.keep hk,fun j hj=>(h.each j hj).keep hk,h.lw.keep hk,h.lb.keep hk⟩
theorem MdIn.keep {b:Md} {p:PM} (h:MdIn m w lo hi b p) (hk:Kept lo hi w w'):MdIn m w' lo hi b p:=⟨h.n,h.cap,h.blocks.keep hk,fun j hj=>(h.each j hj).keep hk⟩
end
/-! ### the sizes that are gone through -/
def PB.few (p:PB):Prop:=p.n≤12∧(∀ j,j < p.n→(p.N j).ws.length≤1000∧(p.N j).bs.length≤100)∧p.W.length≤4000∧p.Bs.length≤100
def PM.few (p:PM):Prop:=p.n≤8∧∀ k,k < p.n→(p.K k).few
def PU.few (p:PU):Prop:=p.n≤4∧∀ j,j < p.n→(p.M j).few
end CBunM
end
section
namespace CKind
open Plain CSat CShape CTensor CConv
def K32 (zs:List Int):List Value:=zs.map (.int .i32)
theorem kparts {P:Program} {t:TypeId} {z:Option Value} {s b:Nat} (h:(P.info? t).map (fun i=>(i.zero,i.size,i.bytes))=some (z,s,b)):∃ i,P.info? t=some i∧i.zero=z∧i.size=s∧i.bytes=b:=by
 cases hi:P.info? t with
 | none=>rw [hi] at h;cases h
 | some i=>rw [hi] at h;simp at h;exact⟨i,rfl,h.1,h.2.1,h.2.2⟩
theorem info_i32k:(Tryz.prog.info? 21).map (fun i=>(i.zero,i.size,i.bytes))=some (some (.int .i32 0),1,4):=by kernel_rfl
theorem kclone32 (A:Option Addr) (zs:List Int) (n c:Nat) (hn:zs.length=n) (hl:n≤1000000) {B:Nat} (w:World) (hB:B≤w.heap.size) (hr:Kit.Rd w B A (K32 zs)) :
  Calls Tryz.prog 61 #[.slice A n c] w (fun e w'=>∃ v,e=.returned v∧w'.ownsRow w.heap.size 21 1 v n (K32 zs)∧Below w.heap.size w w'):=by
 have HN:=hid hn
 have HR:=hid hr
 have qn:∀ (w:World) (a:Option Addr) (n c n' c':Nat),(binOp .eql 44 (.slice a n c) (.slice none n' c')).run Tryz.prog w=.ok (.bool a.isNone) w:=fun w a n c n' c'=>Lib.run_eql_slice_nil w _ _ a n c n' c' Tryz.underlying44
 cases A with
 | none =>
   have hz:zs=[]:=by
    cases zs with
    | nil=>rfl
    | cons z zs=>obtain⟨b,off,h,_⟩:=hr.plain (by simp [K32]);cases h
   subst hz
   have h0:n=0:=by simpa using hn.symm
   subst h0
   clear hn hr HN HR
   go_enter Tryz.func61,Tryz.ntmps61
   go_wp2
   go_ret
   exact⟨_,rfl,⟨by simp [K32],.inl ⟨rfl,rfl⟩⟩,Below.refl _ _⟩
 | some ad =>
   clear hn hr
   go_enter Tryz.func61,Tryz.ntmps61
   obtain⟨i0,hi0,hi1,hi2,hi3⟩:=kparts info_i32k
   go_wp2_with (at_builtin;refine Kit.zaj _ rfl (.tmp 5) (.tmp 6) _ rfl w.heap.size 21 i0 (.int .i32 0) 1 4 Tryz.underlying44 hi0 hi1 hi2 hi3 rfl (by decide) (.slice (some ⟨_,0,none⟩) 0 0) 0 [] rfl (World.ownsRow_lit _ #[] 0 (le_refl _) (Nat.zero_le _) rfl) _ _ n _ (K32 zs) rfl (by simp [K32,HN.out]) (HR.out.alloc hB _) (Kit.zbh .i32 zs) (by unfold maxLen;omega) (by omega) (by simp) ?_;intro v1 w1 hown1 hg1 hat1;replace hown1:w1.ownsRow w.heap.size 21 1 v1 n (K32 zs):=(by simpa using hown1);have HO:=hid hown1;have HX:=hid (((Below.refl _ w).alloc (le_refl _) (.cells #[] 21)).grown hg1 (by simp) (fun q hq=>by simp [Value.ownBlock] at hq;omega));clear hown1 hg1 hat1)
   go_ret
   exact⟨_,rfl,HO.out,HX.out⟩
end CKind
end
section
namespace CBunM
open Kit Plain CSat CShape CTensor CConv CKind CGraph CBund
def OwnX (w:World) (n:Nat) (xs:List Value) (e:Ending) (w':World):Prop :=
 ∃ A c,e=.returned (.slice A n c)∧n≤c∧c≤maxLen∧RdX true w' w.heap.size w'.heap.size A xs∧Below w.heap.size w w'
theorem own_x {w w':World} {n:Nat} {t:TypeId} {size:Nat} {xs:List Value} {v:Value} (h:w'.ownsRow w.heap.size t size v n xs) (hb:Below w.heap.size w w'):OwnX w n xs (.returned v) w':=by
 have h0:=h
 rcases h.2 with ⟨rfl,rfl⟩ | ⟨g,cap,cur,rfl,h1,h2,h3,h4,_⟩
 ·exact⟨none,0,rfl,le_refl _,Nat.zero_le _,RdX.of_own h0,hb⟩
 ·exact⟨_,_,rfl,h3,h4,RdX.of_own h0,hb⟩
end CBunM
end
section
namespace CBunM
open Kit Plain CKind CGraph CBund
theorem nd_ones (x:Nd):∀ u∈x.val.toList,u.oneCell'=true:=by
 intro u hu
 simp [Nd.val] at hu
 rcases hu with h | h | h | h | h | h | h | h | h | h | h | h | h | h | h | h | h | h | h <;> subst h <;> rfl
theorem bk_ones (x:Bk):∀ u∈x.val,u.oneCell'=true:=by
 intro u hu
 simp [Bk.val] at hu
 rcases hu with h | h | h | h | h <;> subst h <;> rfl
end CBunM
end
section
namespace CCrc
open Go Go.ChangeShapes Go.WideShapes Go.ChangeAt Go.RowKit
open CrcNum
theorem zbq {k:IntKind} {a b:Int} (h:a=b):Ending.returned (.int k a)=.returned (.int k b):=by rw [h]
def U8s (zs:List Int):Prop:=∀ z∈zs,0≤z∧z≤255
theorem take_next {zs:List Int} {k:Nat} (h:k < zs.length):zs.take (k+1)=zs.take k ++ [zs[k]]:=by
 rw [List.take_succ_eq_append_getElem h]
def za5 (w:World):Prop:=∀ n:Nat,n < 16→w.cell? ⟨0,n,none⟩=some (.int .u32 (toI (tab n)))
theorem not_toI (x:R):bits .xor .u32 4294967295 (toI x)=toI (~~~ x):=by
 have e:(4294967295:Int)=toI (BitVec.allOnes 32):=by decide
 rw [e,xor_toI, ← not_xor]
theorem more (v:R) (A:Option Addr) (zs:List Int) (c:Nat) (hl:zs.length≤9223372036854775807) (hz:U8s zs) (w:World) (hT:za5 w) {B:Nat} (hr:Kit.Rd w B A (zs.map (.int .u8))) :
  Calls Tryz.prog 56 #[.int .u32 (toI v),.slice A zs.length c] w fun e w'=>e=.returned (.int .u32 (toI (crcMore v zs)))∧w=w':=by
 have HT:=hid hT
 clear hT
 have hsg:IntKind.u32.signed=false:=rfl
 have hmx:IntKind.u32.max=4294967295:=by decide
 have hnot:=not_toI v
 go_enter Tryz.func56,Tryz.ntmps56
 go_wp2_with fail
 clear hnot
 go_loop [5,12] (fun s i=>∃ (k:Nat) (x:R),k≤zs.length∧i=.int .i64 k∧s=.int .u32 (toI x)∧Hid (run (~~~ v) (zs.take k)=x)) (fun _ i=>zs.length - (intOf i).toNat)
 case atStart=>exact⟨0, ~~~ v,Nat.zero_le _,rfl,rfl,hid rfl⟩
 case round =>
  obtain⟨k,x,hk,rfl,rfl,hs⟩:=hrel
  by_cases hlt:k < zs.length
  ·obtain⟨ad,rfl,_,hc⟩:=hr.int hlt
   obtain⟨hz1,hz2⟩:=hz zs[k] (List.getElem_mem hlt)
   have ht:=take_next hlt
   generalize zs[k]=z at hc hz1 hz2 ht
   have hn:run (~~~ v) (zs.take (k+1))=stn 4 (stn 4 (x ^^^ byteR z)):=by
    rw [ht,run_snoc,hs.out,eat_four]
   have HN:=hid hn
   have h1:=first_step x z hz1 hz2
   clear ht hn hr hsg hmx
   generalize x ^^^ byteR z=y at h1 HN
   obtain⟨n,hn,h2,h3⟩:=half_step y
   obtain⟨m,hm,h4,h5⟩:=half_step (stn 4 y)
   have hc1:=HT.out n hn
   have hc2:=HT.out m hm
   generalize stn 4 (stn 4 y)=y2 at HN h5
   generalize stn 4 y=y1 at h3 h4 h5
   generalize tab n=t1 at hc1 h3
   generalize tab m=t2 at hc2 h5
   obtain⟨hy0,hy1⟩:=toI_bd y
   obtain⟨hy2,hy3⟩:=toI_bd y1
   go_wp2_with fail
   go_round
   case rel=>exact⟨k+1,_,by omega,by go_num,rfl,HN⟩
   case measure=>simp [intOf];omega
  ·have hall:run (~~~ v) zs=x:=by rw [← hs.out,List.take_of_length_le (by omega)]
   have hnot:=not_toI x
   have hfin:toI (~~~ x)=toI (crcMore v zs):=by unfold crcMore;rw [hall]
   have He:=hid hfin
   clear hall hfin
   go_wp2_with fail
   go_ret
   exact⟨zbq He.out,rfl⟩
theorem more_to {n:Int} {v:R} (hn:n=toI v) (A:Option Addr) (zs:List Int) (c:Nat) (hl:zs.length≤9223372036854775807) (hz:U8s zs) (w:World) (hT:za5 w) {B:Nat} (hr:Kit.Rd w B A (zs.map (.int .u8))) :
  Calls Tryz.prog 56 #[.int .u32 n,.slice A zs.length c] w fun e w'=>e=.returned (.int .u32 (toI (crcMore v zs)))∧w=w':=by
 subst hn;exact more v A zs c hl hz w hT hr
theorem of (A:Option Addr) (zs:List Int) (c:Nat) (hl:zs.length≤9223372036854775807) (hz:U8s zs) (w:World) (hT:za5 w) {B:Nat} (hr:Kit.Rd w B A (zs.map (.int .u8))) :
  Calls Tryz.prog 32 #[.slice A zs.length c] w fun e w'=>e=.returned (.int .u32 (toI (crcOf zs)))∧w=w':=by
 have HT:=hid hT
 clear hT
 have he:toI (crcMore 0#32 zs)=toI (crcOf zs):=by rfl
 have HE:=hid he
 clear he
 go_enter Tryz.func32,Tryz.ntmps32
 go_wp2_with (go_at_call 56;(with_reducible refine (more_to (v:=0#32) (by decide) A zs c hl hz _ HT.out hr).mono ?_);rintro e w' ⟨rfl,rfl⟩)
 go_ret
 exact⟨zbq HE.out,rfl⟩
end CCrc
end
section
namespace CPack
open LebNum CLeb COctet
def Byts (base:Nat) (v:Value) (xs:List Int) (w:World):Prop:=w.ownsRow base 5 1 v xs.length (zao xs)
theorem byts_nil (base:Nat) (w:World):Byts base (.slice none 0 0) [] w:=World.ownsRow_nil _ _ _ _
theorem bytesV_app (a b:List Int):zao (a ++ b)=zao a ++ zao b:=by simp [zao]
theorem bytesV_len (a:List Int):(zao a).length=a.length:=by simp [zao]
theorem digZ_le {n:Int} (h0:0≤n) (h:n≤9223372036854775807):(digZ n).length≤10:=(zb5 h0 (by omega)).2
end CPack
end
section
namespace CCost
open Plain CSat CFix CShape CTensor CConv CKind CGraph CBund
def FewIs (b:Bool) (p:Prop):Prop:=b=true→p
end CCost
end
section
namespace CSpan
open Go Go.ChangeShapes Go.WideShapes Go.ChangeAt Go.RowKit
open Plain CSat CFix CShape CTensor CConv
theorem res_2 {fn:Func} {a b:Tmp} (h:fn.results=#[.tmp a,.tmp b]) (tmps:Array Value) (P:Program) (w:World):(results fn tmps).run P w=.ok (.tuple #[tmps.getD a undef,tmps.getD b undef]) w:=by
 simp [results,h]
def dnF (ws:List Int) (lo hi z:Int) (g:Bool) (k:Nat):Int :=
 if g then min (min (ws.getD k 0 * (lo - z)) (ws.getD k 0 * (hi - z))) 0 else min (ws.getD k 0 * (lo - z)) (ws.getD k 0 * (hi - z))
def upF (ws:List Int) (lo hi z:Int) (g:Bool) (k:Nat):Int :=
 if g then max (max (ws.getD k 0 * (lo - z)) (ws.getD k 0 * (hi - z))) 0 else max (ws.getD k 0 * (lo - z)) (ws.getD k 0 * (hi - z))
theorem mul_255 {y v z:Int} (h1 : -128≤y) (h2:y≤127) (h3 : -128≤v) (h4:v≤127) (h5 : -128≤z) (h6:z≤127) : -32640≤y * (v - z)∧y * (v - z)≤32640:=term_bd h3 h4 h1 h2 h5 h6
theorem dnF_bd {ws:List Int} (hw:I8b ws) {lo hi z:Int} (l1 : -128≤lo) (l2:lo≤127) (h1 : -128≤hi) (h2:hi≤127) (z1 : -128≤z) (z2:z≤127) (g:Bool) (k:Nat) : -32640≤dnF ws lo hi z g k∧dnF ws lo hi z g k≤32640:=by
 obtain⟨a,b⟩:=hw k
 have p:=mul_255 a b l1 l2 z1 z2
 have q:=mul_255 a b h1 h2 z1 z2
 unfold dnF
 split <;> omega
theorem upF_bd {ws:List Int} (hw:I8b ws) {lo hi z:Int} (l1 : -128≤lo) (l2:lo≤127) (h1 : -128≤hi) (h2:hi≤127) (z1 : -128≤z) (z2:z≤127) (g:Bool) (k:Nat) : -32640≤upF ws lo hi z g k∧upF ws lo hi z g k≤32640:=by
 obtain⟨a,b⟩:=hw k
 have p:=mul_255 a b l1 l2 z1 z2
 have q:=mul_255 a b h1 h2 z1 z2
 unfold upF
 split <;> omega
def c32 (a:Int):Int:=min (max a (-2147483648)) 2147483647
theorem c32_bd (a:Int) : -2147483648≤c32 a∧c32 a≤2147483647:=by unfold c32;omega
theorem heldZ_bds (a m s z lo hi:Int) (hl1 : -128≤lo) (hl2:lo≤127) (hh1 : -128≤hi) (hh2:hi≤127) : -128≤heldZ a m s z lo hi∧heldZ a m s z lo hi≤127:=by
 unfold heldZ zb1;split <;> (try split) <;> (try split) <;> omega
theorem min_ite (a b:Int):(if b < a then b else a)=min a b:=by split <;> omega
theorem max_ite (a b:Int):(if a < b then b else a)=max a b:=by split <;> omega
end CSpan
end
end Go.Proofs.YtfgdfignoakkaaaGreatDoor
