/- -/
import Derived.Test.YtfgdfignoakkaaaGreatDoorGBT12
open Go.Lib (hid)
open Nat (le_refl lt_of_succ_lt lt_succ_self)
set_option linter.unusedVariables false
set_option linter.unusedSimpArgs false
set_option maxRecDepth 100000
set_option maxHeartbeats 16000000
namespace Go.Proofs.YtfgdfignoakkaaaGreatDoor
namespace CConv
end CConv
namespace CDense
end CDense
namespace CFix
end CFix
namespace CGraph
end CGraph
namespace CKind
end CKind
namespace CSat
end CSat
namespace CShape
end CShape
namespace CTensor
end CTensor
namespace Kit
end Kit
open Go Go.ChangeShapes Go.WideShapes Go.ChangeAt Go.RowKit Go.Deep
section
namespace CBund
open Kit CKind CGraph
def zbk {α:Type} (s:Nat) (val:α→List Value) (w:World) (B:Nat) (A:Option Addr) (n:Nat) (X:Nat→α):Prop :=
 ∀ j,j < n→∃ b o,A=some ⟨b,o,none⟩∧b < B∧w.rangeAt b (o+j * s) (val (X j))
theorem zbk.below {α:Type} {s:Nat} {val:α→List Value} {w w':World} {B:Nat} {A:Option Addr} {n:Nat} {X:Nat→α} (h:zbk s val w B A n X) (hb:Below B w w'):zbk s val w' B A n X:=fun j hj=>by
 obtain⟨b,o,rfl,hB,hr⟩:=h j hj
 exact⟨b,o,rfl,hB,fun q v hq=>(hb.cell (p:=⟨b,_,none⟩) hB).trans (hr q v hq)⟩
theorem zbk.more {α:Type} {s:Nat} {val:α→List Value} {w:World} {B B':Nat} {A:Option Addr} {n:Nat} {X:Nat→α} (h:zbk s val w B A n X) (hb:B≤B'):zbk s val w B' A n X:=fun j hj=>by
 obtain⟨b,o,rfl,hB,hr⟩:=h j hj
 exact⟨b,o,rfl,by omega,hr⟩
section
variable {H:Type} {enc:TypeId × Value→H} {P:Program} {w:World} {base b0:Nat} {spare:Nat→Bool} {held:Bool} {r:Reach}
theorem zbw {α:Type} (d:α) {p:Nat→α→Prop} {n:Nat} (h:∀ j,j < n→∃ x,p j x):∃ X:Nat→α,∀ j,j < n→p j (X j) :=
 ⟨fun j=>if hj:j < n then Classical.choose (h j hj) else d,fun j hj=>by simp only [dif_pos hj];exact Classical.choose_spec (h j hj)⟩
theorem trod_elems {t e:TypeId} {s:Nat} (ht:P.underlying t=some (.slice e)) (hc:P.cellsOf e=s) (hs:0 < s) {α:Type} (d:α) (val:α→List Value) (hlen:∀ a,(val a).length=s) (Ok:α→Prop)
  (hel:∀ {fuel:Nat} {cs:List Value} {x:DataW H × List MemPlace},cs.length=s→DataW.trod enc P w base spare held fuel e cs=some x→∃ a,cs=val a∧Ok a)
  {v:Value} {n:Nat} {x:DataW H × List MemPlace} (h:DataW.trod enc P w base spare held n t [v]=some x) :
  ∃ (A:Option Addr) (X:Nat→α) (n c:Nat),v=.slice A n c∧n≤c∧c≤maxLen∧zbk s val w w.heap.size A n X∧∀ j,j < n→Ok (X j):=by
 rcases DataW.trod_slice ht h with ⟨hcs,_⟩ | ⟨a,len,cap,elems,rest,n,_,hcs,_,hb,hl,hm,hlen2,hel2,hsp,hns⟩
 ·simp at hcs
  subst hcs
  exact⟨none,fun _=>d,0,0,rfl,by simp,by simp,fun j hj=>by omega,fun j hj=>by omega⟩
 ·simp at hcs
  subst hcs
  have each0:∀ j,j < len→∃ nd:α,Ok nd∧∀ q v,(val nd)[q]?=some v→w.cell? ((a.add (j * s)).add q)=some v:=by
   intro j hj
   have h1:=hel2 j hj
   rw [List.getElem?_eq_getElem (by omega),hc,Option.bind_eq_some_iff] at h1
   obtain⟨cs',hcs,hy⟩:=h1
   obtain⟨_,hl3,hcell⟩:=World.cells?_some hcs
   obtain⟨nd,rfl,hok⟩:=hel hl3 hy
   refine⟨nd,hok,fun q v hq=>?_⟩
   have hq2:q < (val nd).length:=(List.getElem?_eq_some_iff.1 hq).1
   have:=hcell q (by rw [hlen] at hq2;exact hq2)
   rw [this,hq]
  have first:∀ j,j < len→∃ u,w.cell? ((a.add (j * s)).add 0)=some u:=fun j hj=>by
   obtain⟨nd,_,h⟩:=each0 j hj
   have hp:0 < (val nd).length:=by rw [hlen];exact hs
   exact⟨_,h 0 _ (List.getElem?_eq_getElem hp)⟩
  have plain:0 < len→∃ b o,a=⟨b,o,none⟩:=by
   intro hpos
   obtain⟨u,hu⟩:=first 0 hpos
   obtain⟨b,o,sp⟩:=a
   have hsn:sp=none:=by
    have h8:=World.cell?_spot hu
    simpa [Addr.add] using h8
   exact⟨b,o,by rw [hsn]⟩
  have each:∀ j,j < len→∃ nd:α,Ok nd∧∃ b o,a=⟨b,o,none⟩∧b < w.heap.size∧w.rangeAt b (o+j * s) (val nd):=by
   intro j hj
   obtain⟨nd,hok,h⟩:=each0 j hj
   obtain⟨b,o,rfl⟩:=plain (by omega)
   have hc0:∀ q v,(val nd)[q]?=some v→w.cell? ⟨b,o+j * s+q,none⟩=some v:=by
    intro q v hq
    have:=h q v hq
    rw [Go.WideShapes.add_plain,Go.WideShapes.add_plain] at this
    exact this
   have hp:0 < (val nd).length:=by rw [hlen];exact hs
   exact⟨nd,hok,b,o,rfl,block_lt (hc0 0 _ (List.getElem?_eq_getElem hp)),hc0⟩
  obtain⟨X,hX⟩:=zbw d each
  refine⟨some a,X,len,cap,rfl,hl,hm,fun j hj=>?_,fun j hj=>(hX j hj).1⟩
  obtain⟨_,b,o,rfl,hb,hr⟩:=hX j hj
  exact⟨b,o,rfl,hb,hr⟩
theorem field_bool {t:TypeId} {fs:Array Field} {fuel:Nat} {cs:List Value} {x:DataW H × List MemPlace} (ht:P.underlying t=some (.struct fs)) (h:DataW.trod enc P w base spare held fuel t cs=some x)
  {j o:Nat} {f:Field} {i:TypeId} {v:Value} (q:fs[j]?=some f) (e:f.type=i∧f.offset=o) (u:P.underlying i=some .bool) (c:P.cellsOf i=1) (hv:(cs.drop o).take 1=[v]):∃ n:Bool,v=.bool n:=by
 obtain⟨xs,n,_,_,_,hlen,hx⟩:=DataW.trod_struct ht h
 have g:=hx j f q
 rw [e.1,e.2,c,List.getElem?_eq_getElem (by rw [hlen];exact (Array.getElem?_eq_some_iff.1 q).1),hv] at g
 obtain⟨X,e0,_⟩:=DataW.trod_bool u g
 simp at e0
 exact⟨X,e0⟩
end
/-! ### blocks -/
def ListOk (w:World) (B:Nat) (k:IntKind) (A:Option Addr) (n c:Nat):Prop :=
 ∃ zs:List Int,zs.length=n∧n≤c∧c≤maxLen∧(∀ z∈zs,(Lit.int k z).wf=true)∧Rd w B A (zs.map (.int k))
structure Hd where
 WA:Option Addr
 nW:Nat
 cW:Nat
 BA:Option Addr
 nB:Nat
 cB:Nat
 D:Int
def HdOk (w:World) (B:Nat) (h:Hd):Prop:=(-2147483648≤h.D∧h.D≤2147483647)∧ListOk w B .i8 h.WA h.nW h.cW∧ListOk w B .i32 h.BA h.nB h.cB
structure Bk where
 A:Option Addr
 n:Nat
 c:Nat
 X:Nat→Nd
 ex:Bool
 hd:Hd
def Bk.val (b:Bk):List Value:=[.slice b.A b.n b.c,.bool b.ex,.slice b.hd.WA b.hd.nW b.hd.cW,.slice b.hd.BA b.hd.nB b.hd.cB,.int .i32 b.hd.D]
structure BkOk (w:World) (B:Nat) (b:Bk):Prop where
 cap:b.n≤b.c∧b.c≤maxLen
 nodes:NodesAt w B b.A b.n b.X
 each:∀ j,j < b.n→NdOk w B (b.X j)
 head:HdOk w B b.hd
def bk0:Bk:=⟨none,0,0,fun _=>nd0,false,⟨none,0,0,none,0,0,0⟩⟩
def BlocksAt:=@zbk Bk 5 Bk.val
section
variable {H:Type} {enc:TypeId × Value→H} {w:World} {base b0:Nat} {spare:Nat→Bool} {held:Bool} {r:Reach}
theorem trod_nodes {v:Value} {n:Nat} {x:DataW H × List MemPlace} (h:DataW.trod enc Tryz.prog w base spare held n 47 [v]=some x) :
  ∃ (A:Option Addr) (X:Nat→Nd) (n c:Nat),v=.slice A n c∧n≤c∧c≤maxLen∧NodesAt w w.heap.size A n X∧∀ j,j < n→NdOk w w.heap.size (X j):=by
 obtain⟨A,X,n,c,h1,h2,h3,h4,h5⟩:=trod_elems Tryz.underlying47 (by kernel_rfl) (s:=19) (by decide) nd0 (fun x:Nd=>x.val.toList) (fun _=>rfl) (fun x=>NdOk w w.heap.size x) (fun hl h=>trod_node hl h) h
 exact⟨A,X,n,c,h1,h2,h3,h4,h5⟩
theorem field_nodes {t:TypeId} {fs:Array Field} {fuel:Nat} {cs:List Value} {x:DataW H × List MemPlace} (ht:Tryz.prog.underlying t=some (.struct fs)) (h:DataW.trod enc Tryz.prog w base spare held fuel t cs=some x)
  {j o:Nat} {f:Field} {v:Value} (q:fs[j]?=some f) (e:f.type=47∧f.offset=o) (hv:(cs.drop o).take 1=[v]) :
  ∃ (A:Option Addr) (X:Nat→Nd) (n c:Nat),v=.slice A n c∧n≤c∧c≤maxLen∧NodesAt w w.heap.size A n X∧∀ j,j < n→NdOk w w.heap.size (X j):=by
 obtain⟨n,y,g⟩:=za4 ht h q e (m:=1) (by kernel_rfl) hv
 exact trod_nodes g
theorem list_5 {cs:List Value} (h:cs.length=5):∃ a0 a1 a2 a3 a4,cs=[a0,a1,a2,a3,a4]:=by
 match cs,h with
 | [a0,a1,a2,a3,a4],_=>exact⟨a0,a1,a2,a3,a4,rfl⟩
theorem trod_block {fuel:Nat} {cs:List Value} {x:DataW H × List MemPlace} (hl:cs.length=5) (h:DataW.trod enc Tryz.prog w base spare held fuel 49 cs=some x):∃ b:Bk,cs=b.val∧BkOk w w.heap.size b:=by
 obtain⟨a0,a1,a2,a3,a4,rfl⟩:=list_5 hl
 obtain⟨A,X,n,c,rfl,c1,c2,hN,hE⟩:=field_nodes Tryz.underlying49 h (j:=0) (o:=0) rfl ⟨rfl,rfl⟩ rfl
 obtain⟨ex,rfl⟩:=field_bool Tryz.underlying49 h (j:=1) (o:=1) rfl ⟨rfl,rfl⟩ Tryz.underlying4 (by kernel_rfl) rfl
 obtain⟨_,_,g1⟩:=za4 Tryz.underlying49 h (j:=2) (o:=2) (m:=3) (vs:=[a2,a3,a4]) rfl ⟨rfl,rfl⟩ (by kernel_rfl) rfl
 obtain⟨WA,ws,cW,rfl,p1,p2,p3,p4⟩:=field_list Tryz.underlying46 g1 (j:=0) (o:=0) rfl ⟨rfl,rfl⟩ Tryz.underlying43 (by kernel_rfl) Tryz.underlying50 (by kernel_rfl) rfl
 obtain⟨BA,bs,cB,rfl,p5,p6,p7,p8⟩:=field_list Tryz.underlying46 g1 (j:=1) (o:=1) rfl ⟨rfl,rfl⟩ Tryz.underlying44 (by kernel_rfl) Tryz.underlying21 (by kernel_rfl) rfl
 obtain⟨D,rfl,wD⟩:=zan Tryz.underlying46 g1 (j:=2) (o:=2) rfl ⟨rfl,rfl⟩ Tryz.underlying21 (by kernel_rfl) rfl
 exact⟨⟨A,n,c,X,ex,⟨WA,ws.length,cW,BA,bs.length,cB,D⟩⟩,rfl,⟨⟨c1,c2⟩,hN,hE,wf32 wD,⟨ws,rfl,p1,p2,p3,p4⟩,⟨bs,rfl,p5,p6,p7,p8⟩⟩⟩
end
/-! ### models and bundles -/
section
variable {H:Type} {enc:TypeId × Value→H} {w:World} {base b0:Nat} {spare:Nat→Bool} {held:Bool} {r:Reach}
structure Md where
 A:Option Addr
 n:Nat
 c:Nat
 K:Nat→Bk
def Md.val (m:Md):List Value:=[.slice m.A m.n m.c]
structure MdOk (w:World) (B:Nat) (m:Md):Prop where
 cap:m.n≤m.c∧m.c≤maxLen
 blocks:BlocksAt w B m.A m.n m.K
 each:∀ j,j < m.n→BkOk w B (m.K j)
def md0:Md:=⟨none,0,0,fun _=>bk0⟩
def ModelsAt:=@zbk Md 1 Md.val
theorem list_1 {cs:List Value} (h:cs.length=1):∃ a0,cs=[a0]:=by
 match cs,h with
 | [a0],_=>exact⟨a0,rfl⟩
theorem trod_model {fuel:Nat} {cs:List Value} {x:DataW H × List MemPlace} (hl:cs.length=1) (h:DataW.trod enc Tryz.prog w base spare held fuel 42 cs=some x):∃ m:Md,cs=m.val∧MdOk w w.heap.size m:=by
 obtain⟨a0,rfl⟩:=list_1 hl
 obtain⟨_,_,g⟩:=za4 Tryz.underlying42 h (j:=0) (o:=0) (m:=1) (vs:=[a0]) rfl ⟨rfl,rfl⟩ (by kernel_rfl) rfl
 obtain⟨A,X,n,c,rfl,c1,c2,h4,h5⟩:=trod_elems Tryz.underlying40 (by kernel_rfl) (s:=5) (by decide) bk0 Bk.val (fun _=>rfl) (fun b=>BkOk w w.heap.size b) (fun hl h=>trod_block hl h) g
 exact⟨⟨A,n,c,X⟩,rfl,⟨c1,c2⟩,h4,h5⟩
structure Bu where
 H:Int
 W:Int
 C:Int
 cl:Int
 A:Option Addr
 n:Nat
 c:Nat
 M:Nat→Md
def Bu.val (u:Bu):List Value:=[.int .i64 u.H,.int .i64 u.W,.int .i64 u.C,.int .i64 u.cl,.slice u.A u.n u.c]
structure BuOk (w:World) (B:Nat) (u:Bu):Prop where
 nums:(Lit.int .i64 u.H).wf=true∧(Lit.int .i64 u.W).wf=true∧(Lit.int .i64 u.C).wf=true∧(Lit.int .i64 u.cl).wf=true
 cap:u.n≤u.c∧u.c≤maxLen
 models:ModelsAt w B u.A u.n u.M
 each:∀ j,j < u.n→MdOk w B (u.M j)
theorem open_bundle {v:Value} {d:DataW H} {ps:List MemPlace} (hval:Value.okWide Tryz.prog w r b0 26 v) (hd:DataW.Trod enc Tryz.prog w base spare held 26 v d ps) :
  ∃ u:Bu,v=.agg u.val.toArray∧BuOk w w.heap.size u:=by
 obtain⟨cs,rfl,hsz⟩:=okWide_struct Tryz.underlying26 hval
 obtain⟨fuel,hf⟩:=hd
 have hc:Tryz.prog.cellsOf 26=5:=by kernel_rfl
 obtain⟨a0,a1,a2,a3,a4,he⟩:=list_5 (cs:=cs.toList) (by rw [Array.length_toList,hsz,hc])
 have h:DataW.trod enc Tryz.prog w base spare held fuel 26 cs.toList=some (d,ps):=hf
 rw [he] at h
 obtain⟨_,_,g1⟩:=za4 Tryz.underlying26 h (j:=0) (o:=0) (m:=3) (vs:=[a0,a1,a2]) rfl ⟨rfl,rfl⟩ (by kernel_rfl) rfl
 obtain⟨H0,rfl,w0⟩:=zan Tryz.underlying23 g1 (j:=0) (o:=0) rfl ⟨rfl,rfl⟩ Tryz.underlying3 (by kernel_rfl) rfl
 obtain⟨W0,rfl,w1⟩:=zan Tryz.underlying23 g1 (j:=1) (o:=1) rfl ⟨rfl,rfl⟩ Tryz.underlying3 (by kernel_rfl) rfl
 obtain⟨C0,rfl,w2⟩:=zan Tryz.underlying23 g1 (j:=2) (o:=2) rfl ⟨rfl,rfl⟩ Tryz.underlying3 (by kernel_rfl) rfl
 obtain⟨cl,rfl,w3⟩:=zan Tryz.underlying26 h (j:=1) (o:=3) rfl ⟨rfl,rfl⟩ Tryz.underlying3 (by kernel_rfl) rfl
 obtain⟨_,_,g2⟩:=za4 Tryz.underlying26 h (j:=2) (o:=4) (m:=1) (vs:=[a4]) rfl ⟨rfl,rfl⟩ (by kernel_rfl) rfl
 obtain⟨A,X,n,c,rfl,c1,c2,h4,h5⟩:=trod_elems Tryz.underlying24 (by kernel_rfl) (s:=1) (by decide) md0 Md.val (fun _=>rfl) (fun m=>MdOk w w.heap.size m) (fun hl h=>trod_model hl h) g2
 refine⟨⟨H0,W0,C0,cl,A,n,c,X⟩,?_,⟨w0,w1,w2,w3⟩,⟨c1,c2⟩,h4,h5⟩
 obtain⟨l⟩:=cs
 exact congrArg Value.agg (congrArg List.toArray he)
end
end CBund
end
section
namespace CGraph
open Plain CSat CFix CShape CTensor CConv CDense CDepth CKind
abbrev Tri:=Int × Int × Int
def triA (a:Array Value):Tri:=(intOf (a.getD 0 undef),intOf (a.getD 1 undef),intOf (a.getD 2 undef))
def sndZ (x:Nd):Int:=if x.kd=6 then x.nb else x.na
def zb2 (x:Nd) (many:Nat):Bool:=decide (0≤x.na∧x.na < many∧(x.kd=6→0≤x.nb∧x.nb < many))
def tri0:Tri:=(0,0,0)
def nextE (x:Nd) (l:List Tri):Int :=
 x.shE (l.getD x.na.toNat tri0).1 (l.getD x.na.toNat tri0).2.1 (l.getD x.na.toNat tri0).2.2 (l.getD (sndZ x).toNat tri0).1 (l.getD (sndZ x).toNat tri0).2.1 (l.getD (sndZ x).toNat tri0).2.2
def nextT (x:Nd) (l:List Tri):Tri :=
 triA (x.shV (l.getD x.na.toNat tri0).1 (l.getD x.na.toNat tri0).2.1 (l.getD x.na.toNat tri0).2.2 (l.getD (sndZ x).toNat tri0).1 (l.getD (sndZ x).toNat tri0).2.1 (l.getD (sndZ x).toNat tri0).2.2)
def stopZ (x:Nd) (l:List Tri):Int:=if x.checkZ≠0 then x.checkZ else if zb2 x l.length=false then 8 else nextE x l
def shL (X:Nat→Nd) (t0:Tri):Nat→List Tri
 | 0=>[t0]
 | k+1=>shL X t0 k ++ [nextT (X k) (shL X t0 k)]
theorem shL_len (X:Nat→Nd) (t0:Tri) (k:Nat):(shL X t0 k).length=k+1:=by
 induction k with
 | zero=>rfl
 | succ k ih=>simp [shL,ih]
def zbl (X:Nat→Nd) (t0:Tri):Nat→Option (Nat × Int)
 | 0=>none
 | k+1=>match zbl X t0 k with
   | some r=>some r
   | none=>if stopZ (X k) (shL X t0 k)=0 then none else some (k,stopZ (X k) (shL X t0 k))
theorem stopAt_go {X:Nat→Nd} {t0:Tri} {k:Nat} (h:zbl X t0 k=none) (hz:stopZ (X k) (shL X t0 k)=0):zbl X t0 (k+1)=none:=by
 simp [zbl,h,hz]
theorem stopAt_end {X:Nat→Nd} {t0:Tri} {k n:Nat} (hk:k < n) (h:zbl X t0 k=none) (hz:stopZ (X k) (shL X t0 k)≠0):zbl X t0 n=some (k,stopZ (X k) (shL X t0 k)):=by
 obtain⟨d,rfl⟩:∃ d,n=k+1+d:=⟨n - (k+1),by omega⟩
 clear hk
 induction d with
 | zero=>simp [zbl,h,hz]
 | succ d ih=>rw [show k+1+(d+1)=(k+1+d)+1 by omega,zbl,ih]
theorem check_nb {x:Nd} (h:x.checkZ=0) (hk:x.kd≠6):x.nb=0:=by
 have h1:x.moreB=false:=by
  unfold Nd.checkZ at h
  by_cases a:x.kd < 1∨9 < x.kd
  ·rw [if_pos a] at h;omega
  ·rw [if_neg a] at h
   cases e:x.moreB with
   | false=>rfl
   | true=>rw [e] at h;simp at h
 unfold Nd.moreB at h1
 simp only [Bool.or_eq_false_iff,Bool.and_eq_false_iff] at h1
 have h2:=h1.1.1.1.2
 rcases h2 with h2 | h2
 ·exact absurd (by simpa using h2) hk
 ·simpa using h2.1.1.1
theorem sh_indep (x:Nd) (hk:x.kd≠6) (H W C a b c a' b' c':Int):x.shE H W C a b c=x.shE H W C a' b' c'∧x.shV H W C a b c=x.shV H W C a' b' c':=by
 have e:x.shE H W C a b c=x.shE H W C a' b' c':=by
  unfold Nd.shE
  simp only [hk,false_and,if_false]
 refine⟨e,?_⟩
 unfold Nd.shV
 rw [e]
def opL (x:Nd):List Int:=if x.kd=6 then [x.na,x.nb] else [x.na]
def earB:List Int→Int→Bool
 | [],_=>true
 | v :: r,m=>decide (0≤v∧v < m) && earB r m
theorem ear_there (x:Nd) (many:Nat):earB (opL x) many=zb2 x many:=by
 unfold opL zb2
 by_cases h:x.kd=6
 ·rw [if_pos h];simp [earB,h];rw [Bool.eq_iff_iff];simp;omega
 ·rw [if_neg h];simp [earB,h]
def tvV:List Tri→List Value
 | []=>[]
 | a :: r=>.int .i64 a.1 :: .int .i64 a.2.1 :: .int .i64 a.2.2 :: tvV r
theorem tvV_len:∀ L,(tvV L).length=L.length * 3
 | []=>rfl
 | a :: r=>by simp [tvV,tvV_len r];omega
theorem tvV_append:∀ L M,tvV (L ++ M)=tvV L ++ tvV M
 | [],M=>rfl
 | a :: r,M=>by simp [tvV,tvV_append r M]
theorem tvV_get:∀ (L:List Tri) (k:Nat) (a:Tri),L[k]?=some a→(tvV L)[k * 3]?=some (.int .i64 a.1)∧(tvV L)[k * 3+1]?=some (.int .i64 a.2.1)∧(tvV L)[k * 3+2]?=some (.int .i64 a.2.2)
 | [],k,a,h=>by simp at h
 | b :: r,0,a,h=>by simp at h;subst h;simp [tvV]
 | b :: r,k+1,a,h=>by
   obtain⟨h1,h2,h3⟩:=tvV_get r k a (by simpa using h)
   rw [show (k+1) * 3=k * 3+1+1+1 by omega,tvV]
   refine⟨?_,?_,?_⟩
   ·simpa using h1
   ·rw [show k * 3+1+1+1+1=(k * 3+1)+1+1+1 by omega];simpa using h2
   ·rw [show k * 3+1+1+1+2=(k * 3+2)+1+1+1 by omega];simpa using h3
theorem tv_cells {w:World} {B:Nat} {A:Option Addr} {L:List Tri} (h:Kit.Rd w B A (tvV L)) (hn:0 < L.length) :
  ∃ b o,A=some ⟨b,o,none⟩∧b < B∧∀ k a,L[k]?=some a→w.rangeAt b (o+k * 3) [.int .i64 a.1,.int .i64 a.2.1,.int .i64 a.2.2]:=by
 obtain⟨b,o,e,hb,hc⟩:=h.plain (by rw [tvV_len];omega)
 refine⟨b,o,e,hb,fun k a hk q v hq=>?_⟩
 obtain⟨h1,h2,h3⟩:=tvV_get L k a hk
 match q,hq with
 | 0,hq=>simp at hq;subst hq;exact hc (k * 3) _ h1
 | 1,hq=>simp at hq;subst hq;rw [Nat.add_assoc];exact hc (k * 3+1) _ h2
 | 2,hq=>simp at hq;subst hq;rw [Nat.add_assoc];exact hc (k * 3+2) _ h3
theorem NodesAt.below {w w':World} {B:Nat} {A:Option Addr} {n:Nat} {X:Nat→Nd} (h:NodesAt w B A n X) (hb:Below B w w'):NodesAt w' B A n X:=fun j hj=>by
 obtain⟨b,o,e,h1,h2⟩:=h j hj
 exact⟨b,o,e,h1,fun q v hq=>(hb.cell (p:=⟨b,o+j * 19+q,none⟩) h1).trans (h2 q v hq)⟩
theorem NodesAt.more {w:World} {B B':Nat} {A:Option Addr} {n:Nat} {X:Nat→Nd} (h:NodesAt w B A n X) (hb:B≤B'):NodesAt w B' A n X:=fun j hj=>by
 obtain⟨b,o,e,h1,h2⟩:=h j hj
 exact⟨b,o,e,Nat.lt_of_lt_of_le h1 hb,h2⟩
end CGraph
end
section
namespace CKind
open Plain CSat CShape CTensor CConv
def Nd.Small (x:Nd):Prop:=(-128≤x.Z∧x.Z≤127)∧(-128≤x.Y∧x.Y≤127)∧(-128≤x.lo∧x.lo≤127)∧(-128≤x.hi∧x.hi≤127)
def Nd.nine (x:Nd):Array Value:=#[.int .i64 x.nb,.int .i64 x.K,.int .i64 x.S,.int .i64 x.P,.int .i64 x.O,.int .i64 x.Z,.int .i64 x.Y,.int .i64 x.lo,.int .i64 x.hi]
theorem there_new9 (w:World) {cs:Array Value} (T:TypeId) {n:Nat} (h:cs.size=n):(w.alloc (.cells cs T)).there w.heap.size 0 n:=fun j hj=>by
 rw [Nat.zero_add]
 constructor
 ·rw [Kit.zab]
  simp [h,hj]
 ·unfold World.frozen?;rw [heap_alloc_new];rfl
theorem setCells_below {g B:Nat} (hg:B≤g):∀ (vs:List Value) (o:Nat) (w:World),Below B w (w.setCells g o vs)
 | [],_,w=>Below.refl _ _
 | v :: vs,o,w=>((Below.refl B w).setCell (p:=⟨g,o,none⟩) hg v).trans (setCells_below hg vs (o+1) _)
theorem zbx (x:Nd) (hx:x.Small) (w:World) :
  Calls Tryz.prog 174 #[.agg x.val] w fun e w'=>e=.returned (.agg x.nine)∧Below w.heap.size w w':=by
 obtain⟨⟨z0,z1⟩,⟨y0,y1⟩,⟨l0,l1⟩,⟨h0,h1⟩⟩:=hx
 have i7:IntKind.i64.wrap x.Z=x.Z:=IntWalk.i64_in _ (by omega)
 have i8:IntKind.i64.wrap x.Y=x.Y:=IntWalk.i64_in _ (by omega)
 have i17:IntKind.i64.wrap x.lo=x.lo:=IntWalk.i64_in _ (by omega)
 have i18:IntKind.i64.wrap x.hi=x.hi:=IntWalk.i64_in _ (by omega)
 clear z0 z1 y0 y1 l0 l1 h0 h1
 have TN:=hid (NdAt.new x 54 w)
 go_enter Tryz.func174,Tryz.ntmps174
 go_upto_region 1 with fail
 have hth:=there_new9 (w.alloc (.cells x.val 54)) (cs:=#[.int .i64 0,.int .i64 0,.int .i64 0,.int .i64 0,.int .i64 0,.int .i64 0,.int .i64 0,.int .i64 0,.int .i64 0]) 266 (n:=9) rfl
 rw [World.size_alloc] at hth
 have HT:=hid hth
 clear hth
 replace TN:=hid (TN.out.below (B:=w.heap.size+1) (lt_succ_self _) ((Below.refl _ _).alloc (by simp) (.cells #[.int .i64 0,.int .i64 0,.int .i64 0,.int .i64 0,.int .i64 0,.int .i64 0,.int .i64 0,.int .i64 0,.int .i64 0] 266)))
 have HB:=hid (((Below.refl w.heap.size w).alloc (le_refl _) (.cells x.val 54)).alloc (by simp) (.cells #[.int .i64 0,.int .i64 0,.int .i64 0,.int .i64 0,.int .i64 0,.int .i64 0,.int .i64 0,.int .i64 0,.int .i64 0] 266))
 generalize (w.alloc (.cells x.val 54)).alloc (.cells #[.int .i64 0,.int .i64 0,.int .i64 0,.int .i64 0,.int .i64 0,.int .i64 0,.int .i64 0,.int .i64 0,.int .i64 0] 266)=W0 at TN HT HB ⊢
 have n2:=TN.out.at 2 (.int .i64 x.nb) rfl
 have n3:=TN.out.at 3 (.int .i64 x.K) rfl
 have n4:=TN.out.at 4 (.int .i64 x.S) rfl
 have n5:=TN.out.at 5 (.int .i64 x.P) rfl
 have n6:=TN.out.at 6 (.int .i64 x.O) rfl
 have n7:=TN.out.at 7 (.int .i8 x.Z) rfl
 have n8:=TN.out.at 8 (.int .i8 x.Y) rfl
 have n17:=TN.out.at 17 (.int .i8 x.lo) rfl
 have n18:=TN.out.at 18 (.int .i8 x.hi) rfl
 go_wp2_with (refine wpList_store_mid rfl 266 (.tmp 2) (.tmp 25) rfl (w.heap.size+1) 0 x.nine rfl rfl HT.out (by kernel_rfl) (by simp [Nd.nine,Value.oneCell']) ?_;have HQ:=hid (World.rangeAt_setCells_same W0 (w.heap.size+1) 0 x.nine.toList HT.out);have HZ:Hid (Below w.heap.size W0 (W0.setCells (w.heap.size+1) 0 x.nine.toList)):=hid (setCells_below (Nat.le_succ _) _ _ _);generalize W0.setCells (w.heap.size+1) 0 x.nine.toList=W1 at HQ HZ ⊢)
 refine bodyPost_ret (Kit.zau rfl _ _ (w.heap.size+1) 0 x.nine.toList _ rfl HQ.out Tryz.underlying266 rfl (by kernel_rfl)) rfl ?_
 exact⟨rfl,HB.out.trans HZ.out⟩
def nineB (x y:Nd):Bool:=x.nb == y.nb && x.K == y.K && x.S == y.S && x.P == y.P && x.O == y.O && x.Z == y.Z && x.Y == y.Y && x.lo == y.lo && x.hi == y.hi
theorem eqNine (x y:Nd) (b:Bool) (hb:nineB x y=b) (w:World):(Op.equalIn 10000 266 (.agg x.nine) (.agg y.nine)).run Tryz.prog w=.ok b w:=by
 subst hb
 have u3:=Tryz.underlying3
 have a3:=Tryz.isAgg3
 have z3:=Tryz.sizeOf3
 unfold Nd.nine nineB
 rw [show (10000:Nat)=9999+1 from rfl,Op.equalIn]
 simp only [Sem.run_bind,run_underlying Tryz.underlying266,Result.andThen_ok]
 simp only [Std.Legacy.Range.forIn_eq_forIn_range',Std.Legacy.Range.size,Nat.sub_zero,Nat.add_sub_cancel,Nat.div_one,List.range'_succ,List.range'_zero,List.forIn_cons,List.forIn_nil]
 go_simp
 by_cases h0:x.nb=y.nb
 rotate_left
 ·simp [h0]
 by_cases h1:x.K=y.K
 rotate_left
 ·simp [h0,h1]
 by_cases h2:x.S=y.S
 rotate_left
 ·simp [h0,h1,h2]
 by_cases h3:x.P=y.P
 rotate_left
 ·simp [h0,h1,h2,h3]
 by_cases h4:x.O=y.O
 rotate_left
 ·simp [h0,h1,h2,h3,h4]
 by_cases h5:x.Z=y.Z
 rotate_left
 ·simp [h0,h1,h2,h3,h4,h5]
 by_cases h6:x.Y=y.Y
 rotate_left
 ·simp [h0,h1,h2,h3,h4,h5,h6]
 by_cases h7:x.lo=y.lo
 rotate_left
 ·simp [h0,h1,h2,h3,h4,h5,h6,h7]
 by_cases h8:x.hi=y.hi
 rotate_left
 ·simp [h0,h1,h2,h3,h4,h5,h6,h7,h8]
 simp [h0,h1,h2,h3,h4,h5,h6,h7,h8]
end CKind
end
end Go.Proofs.YtfgdfignoakkaaaGreatDoor
