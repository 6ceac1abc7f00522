/- -/
import Derived.Test.YtfgdfignoakkaaaGreatDoorGBC5
open Nat (le_refl lt_of_succ_lt lt_succ_self)
set_option linter.unusedVariables false
set_option linter.unusedSimpArgs false
set_option maxRecDepth 100000
set_option maxHeartbeats 16000000
namespace Go.Proofs.YtfgdfignoakkaaaGreatDoor
namespace CGraph
end CGraph
namespace CKind
end CKind
namespace Kit
end Kit
open Go Go.ChangeShapes Go.WideShapes Go.ChangeAt Go.RowKit Go.Deep
section
namespace CBund
open Kit CKind CGraph
def zaf {α:Type} (s:Nat) (val:α→List Value) (w:World) (B:Nat) (A:Option Addr) (n:Nat) (X:Nat→α):Prop :=
 ∀ j,j < n→∃ b o,A=some ⟨b,o,none⟩∧b < B∧w.rangeAt b (o+j * s) (val (X j))
theorem zaf.below {α:Type} {s:Nat} {val:α→List Value} {w w':World} {B:Nat} {A:Option Addr} {n:Nat} {X:Nat→α} (h:zaf s val w B A n X) (hb:Below B w w'):zaf s val w' B A n X:=fun j hj=>by
 obtain⟨b,o,rfl,hB,hr⟩:=h j hj
 exact⟨b,o,rfl,hB,fun q v hq=>(hb.cell (p:=⟨b,_,none⟩) hB).trans (hr q v hq)⟩
theorem zaf.more {α:Type} {s:Nat} {val:α→List Value} {w:World} {B B':Nat} {A:Option Addr} {n:Nat} {X:Nat→α} (h:zaf s val w B A n X) (hb:B≤B'):zaf s val w B' A n X:=fun j hj=>by
 obtain⟨b,o,rfl,hB,hr⟩:=h j hj
 exact⟨b,o,rfl,by omega,hr⟩
section
variable {H:Type} {enc:TypeId × Value→H} {P:Program} {w:World} {base b0:Nat} {spare:Nat→Bool} {held:Bool} {r:Reach}
theorem choose_fnE {α:Type} (d:α) {p:Nat→α→Prop} {n:Nat} (h:∀ j,j < n→∃ x,p j x):∃ X:Nat→α,∀ j,j < n→p j (X j) :=
 ⟨fun j=>if hj:j < n then Classical.choose (h j hj) else d,fun j hj=>by simp only [dif_pos hj];exact Classical.choose_spec (h j hj)⟩
theorem trod_elems {t e:TypeId} {s:Nat} (ht:P.underlying t=some (.slice e)) (hc:P.cellsOf e=s) (hs:0 < s) {α:Type} (d:α) (val:α→List Value) (hlen:∀ a,(val a).length=s) (Ok:α→Prop)
  (hel:∀ {fuel:Nat} {cs:List Value} {x:DataW H × List MemPlace},cs.length=s→DataW.trod enc P w base spare held fuel e cs=some x→∃ a,cs=val a∧Ok a)
  {v:Value} {n:Nat} {x:DataW H × List MemPlace} (h:DataW.trod enc P w base spare held n t [v]=some x) :
  ∃ (A:Option Addr) (X:Nat→α) (n c:Nat),v=.slice A n c∧n≤c∧c≤maxLen∧zaf s val w w.heap.size A n X∧∀ j,j < n→Ok (X j):=by
 rcases DataW.trod_slice ht h with ⟨hcs,_⟩ | ⟨a,len,cap,elems,rest,n,_,hcs,_,hb,hl,hm,hlen2,hel2,hsp,hns⟩
 ·simp at hcs
  subst hcs
  exact⟨none,fun _=>d,0,0,rfl,by simp,by simp,fun j hj=>by omega,fun j hj=>by omega⟩
 ·simp at hcs
  subst hcs
  have each0:∀ j,j < len→∃ nd:α,Ok nd∧∀ q v,(val nd)[q]?=some v→w.cell? ((a.add (j * s)).add q)=some v:=by
   intro j hj
   have h1:=hel2 j hj
   rw [List.getElem?_eq_getElem (by omega),hc,Option.bind_eq_some_iff] at h1
   obtain⟨cs',hcs,hy⟩:=h1
   obtain⟨_,hl3,hcell⟩:=World.cells?_some hcs
   obtain⟨nd,rfl,hok⟩:=hel hl3 hy
   refine⟨nd,hok,fun q v hq=>?_⟩
   have hq2:q < (val nd).length:=(List.getElem?_eq_some_iff.1 hq).1
   have:=hcell q (by rw [hlen] at hq2;exact hq2)
   rw [this,hq]
  have first:∀ j,j < len→∃ u,w.cell? ((a.add (j * s)).add 0)=some u:=fun j hj=>by
   obtain⟨nd,_,h⟩:=each0 j hj
   have hp:0 < (val nd).length:=by rw [hlen];exact hs
   exact⟨_,h 0 _ (List.getElem?_eq_getElem hp)⟩
  have plain:0 < len→∃ b o,a=⟨b,o,none⟩:=by
   intro hpos
   obtain⟨u,hu⟩:=first 0 hpos
   obtain⟨b,o,sp⟩:=a
   have hsn:sp=none:=by
    have h8:=World.cell?_spot hu
    simpa [Addr.add] using h8
   exact⟨b,o,by rw [hsn]⟩
  have each:∀ j,j < len→∃ nd:α,Ok nd∧∃ b o,a=⟨b,o,none⟩∧b < w.heap.size∧w.rangeAt b (o+j * s) (val nd):=by
   intro j hj
   obtain⟨nd,hok,h⟩:=each0 j hj
   obtain⟨b,o,rfl⟩:=plain (by omega)
   have hc0:∀ q v,(val nd)[q]?=some v→w.cell? ⟨b,o+j * s+q,none⟩=some v:=by
    intro q v hq
    have:=h q v hq
    rw [Go.WideShapes.add_plain,Go.WideShapes.add_plain] at this
    exact this
   have hp:0 < (val nd).length:=by rw [hlen];exact hs
   exact⟨nd,hok,b,o,rfl,block_lt (hc0 0 _ (List.getElem?_eq_getElem hp)),hc0⟩
  obtain⟨X,hX⟩:=choose_fnE d each
  refine⟨some a,X,len,cap,rfl,hl,hm,fun j hj=>?_,fun j hj=>(hX j hj).1⟩
  obtain⟨_,b,o,rfl,hb,hr⟩:=hX j hj
  exact⟨b,o,rfl,hb,hr⟩
theorem field_bool {t:TypeId} {fs:Array Field} {fuel:Nat} {cs:List Value} {x:DataW H × List MemPlace} (ht:P.underlying t=some (.struct fs)) (h:DataW.trod enc P w base spare held fuel t cs=some x)
  {j o:Nat} {f:Field} {i:TypeId} {v:Value} (q:fs[j]?=some f) (e:f.type=i∧f.offset=o) (u:P.underlying i=some .bool) (c:P.cellsOf i=1) (hv:(cs.drop o).take 1=[v]):∃ n:Bool,v=.bool n:=by
 obtain⟨xs,n,_,_,_,hlen,hx⟩:=DataW.trod_struct ht h
 have g:=hx j f q
 rw [e.1,e.2,c,List.getElem?_eq_getElem (by rw [hlen];exact (Array.getElem?_eq_some_iff.1 q).1),hv] at g
 obtain⟨X,e0,_⟩:=DataW.trod_bool u g
 simp at e0
 exact⟨X,e0⟩
end
/-! ### blocks -/
def ListOk (w:World) (B:Nat) (k:IntKind) (A:Option Addr) (n c:Nat):Prop :=
 ∃ zs:List Int,zs.length=n∧n≤c∧c≤maxLen∧(∀ z∈zs,(Lit.int k z).wf=true)∧Rd w B A (zs.map (.int k))
structure Hd where
 WA:Option Addr
 nW:Nat
 cW:Nat
 BA:Option Addr
 nB:Nat
 cB:Nat
 D:Int
def HdOk (w:World) (B:Nat) (h:Hd):Prop:=(-2147483648≤h.D∧h.D≤2147483647)∧ListOk w B .i8 h.WA h.nW h.cW∧ListOk w B .i32 h.BA h.nB h.cB
structure Bk where
 A:Option Addr
 n:Nat
 c:Nat
 X:Nat→Nd
 ex:Bool
 hd:Hd
def Bk.val (b:Bk):List Value:=[.slice b.A b.n b.c,.bool b.ex,.slice b.hd.WA b.hd.nW b.hd.cW,.slice b.hd.BA b.hd.nB b.hd.cB,.int .i32 b.hd.D]
structure BkOk (w:World) (B:Nat) (b:Bk):Prop where
 cap:b.n≤b.c∧b.c≤maxLen
 nodes:NodesAt w B b.A b.n b.X
 each:∀ j,j < b.n→NdOk w B (b.X j)
 head:HdOk w B b.hd
def bk0:Bk:=⟨none,0,0,fun _=>nd0,false,⟨none,0,0,none,0,0,0⟩⟩
def BlocksAt:=@zaf Bk 5 Bk.val
section
variable {H:Type} {enc:TypeId × Value→H} {w:World} {base b0:Nat} {spare:Nat→Bool} {held:Bool} {r:Reach}
theorem trod_nodes {v:Value} {n:Nat} {x:DataW H × List MemPlace} (h:DataW.trod enc Tryz.prog w base spare held n 47 [v]=some x) :
  ∃ (A:Option Addr) (X:Nat→Nd) (n c:Nat),v=.slice A n c∧n≤c∧c≤maxLen∧NodesAt w w.heap.size A n X∧∀ j,j < n→NdOk w w.heap.size (X j):=by
 obtain⟨A,X,n,c,h1,h2,h3,h4,h5⟩:=trod_elems Tryz.underlying47 (by kernel_rfl) (s:=19) (by decide) nd0 (fun x:Nd=>x.val.toList) (fun _=>rfl) (fun x=>NdOk w w.heap.size x) (fun hl h=>trod_node hl h) h
 exact⟨A,X,n,c,h1,h2,h3,h4,h5⟩
theorem field_nodes {t:TypeId} {fs:Array Field} {fuel:Nat} {cs:List Value} {x:DataW H × List MemPlace} (ht:Tryz.prog.underlying t=some (.struct fs)) (h:DataW.trod enc Tryz.prog w base spare held fuel t cs=some x)
  {j o:Nat} {f:Field} {v:Value} (q:fs[j]?=some f) (e:f.type=47∧f.offset=o) (hv:(cs.drop o).take 1=[v]) :
  ∃ (A:Option Addr) (X:Nat→Nd) (n c:Nat),v=.slice A n c∧n≤c∧c≤maxLen∧NodesAt w w.heap.size A n X∧∀ j,j < n→NdOk w w.heap.size (X j):=by
 obtain⟨n,y,g⟩:=zad ht h q e (m:=1) (by kernel_rfl) hv
 exact trod_nodes g
theorem list_5 {cs:List Value} (h:cs.length=5):∃ a0 a1 a2 a3 a4,cs=[a0,a1,a2,a3,a4]:=by
 match cs,h with
 | [a0,a1,a2,a3,a4],_=>exact⟨a0,a1,a2,a3,a4,rfl⟩
theorem trod_block {fuel:Nat} {cs:List Value} {x:DataW H × List MemPlace} (hl:cs.length=5) (h:DataW.trod enc Tryz.prog w base spare held fuel 49 cs=some x):∃ b:Bk,cs=b.val∧BkOk w w.heap.size b:=by
 obtain⟨a0,a1,a2,a3,a4,rfl⟩:=list_5 hl
 obtain⟨A,X,n,c,rfl,c1,c2,hN,hE⟩:=field_nodes Tryz.underlying49 h (j:=0) (o:=0) rfl ⟨rfl,rfl⟩ rfl
 obtain⟨ex,rfl⟩:=field_bool Tryz.underlying49 h (j:=1) (o:=1) rfl ⟨rfl,rfl⟩ Tryz.underlying4 (by kernel_rfl) rfl
 obtain⟨_,_,g1⟩:=zad Tryz.underlying49 h (j:=2) (o:=2) (m:=3) (vs:=[a2,a3,a4]) rfl ⟨rfl,rfl⟩ (by kernel_rfl) rfl
 obtain⟨WA,ws,cW,rfl,p1,p2,p3,p4⟩:=field_list Tryz.underlying46 g1 (j:=0) (o:=0) rfl ⟨rfl,rfl⟩ Tryz.underlying43 (by kernel_rfl) Tryz.underlying50 (by kernel_rfl) rfl
 obtain⟨BA,bs,cB,rfl,p5,p6,p7,p8⟩:=field_list Tryz.underlying46 g1 (j:=1) (o:=1) rfl ⟨rfl,rfl⟩ Tryz.underlying44 (by kernel_rfl) Tryz.underlying21 (by kernel_rfl) rfl
 obtain⟨D,rfl,wD⟩:=zaa Tryz.underlying46 g1 (j:=2) (o:=2) rfl ⟨rfl,rfl⟩ Tryz.underlying21 (by kernel_rfl) rfl
 exact⟨⟨A,n,c,X,ex,⟨WA,ws.length,cW,BA,bs.length,cB,D⟩⟩,rfl,⟨⟨c1,c2⟩,hN,hE,wf32 wD,⟨ws,rfl,p1,p2,p3,p4⟩,⟨bs,rfl,p5,p6,p7,p8⟩⟩⟩
end
/-! ### models and bundles -/
section
variable {H:Type} {enc:TypeId × Value→H} {w:World} {base b0:Nat} {spare:Nat→Bool} {held:Bool} {r:Reach}
structure Md where
 A:Option Addr
 n:Nat
 c:Nat
 K:Nat→Bk
def Md.val (m:Md):List Value:=[.slice m.A m.n m.c]
structure MdOk (w:World) (B:Nat) (m:Md):Prop where
 cap:m.n≤m.c∧m.c≤maxLen
 blocks:BlocksAt w B m.A m.n m.K
 each:∀ j,j < m.n→BkOk w B (m.K j)
def md0:Md:=⟨none,0,0,fun _=>bk0⟩
def ModelsAt:=@zaf Md 1 Md.val
theorem list_1 {cs:List Value} (h:cs.length=1):∃ a0,cs=[a0]:=by
 match cs,h with
 | [a0],_=>exact⟨a0,rfl⟩
theorem trod_model {fuel:Nat} {cs:List Value} {x:DataW H × List MemPlace} (hl:cs.length=1) (h:DataW.trod enc Tryz.prog w base spare held fuel 42 cs=some x):∃ m:Md,cs=m.val∧MdOk w w.heap.size m:=by
 obtain⟨a0,rfl⟩:=list_1 hl
 obtain⟨_,_,g⟩:=zad Tryz.underlying42 h (j:=0) (o:=0) (m:=1) (vs:=[a0]) rfl ⟨rfl,rfl⟩ (by kernel_rfl) rfl
 obtain⟨A,X,n,c,rfl,c1,c2,h4,h5⟩:=trod_elems Tryz.underlying40 (by kernel_rfl) (s:=5) (by decide) bk0 Bk.val (fun _=>rfl) (fun b=>BkOk w w.heap.size b) (fun hl h=>trod_block hl h) g
 exact⟨⟨A,n,c,X⟩,rfl,⟨c1,c2⟩,h4,h5⟩
structure Bu where
 H:Int
 W:Int
 C:Int
 cl:Int
 A:Option Addr
 n:Nat
 c:Nat
 M:Nat→Md
def Bu.val (u:Bu):List Value:=[.int .i64 u.H,.int .i64 u.W,.int .i64 u.C,.int .i64 u.cl,.slice u.A u.n u.c]
structure BuOk (w:World) (B:Nat) (u:Bu):Prop where
 nums:(Lit.int .i64 u.H).wf=true∧(Lit.int .i64 u.W).wf=true∧(Lit.int .i64 u.C).wf=true∧(Lit.int .i64 u.cl).wf=true
 cap:u.n≤u.c∧u.c≤maxLen
 models:ModelsAt w B u.A u.n u.M
 each:∀ j,j < u.n→MdOk w B (u.M j)
theorem open_bundle {v:Value} {d:DataW H} {ps:List MemPlace} (hval:Value.okWide Tryz.prog w r b0 26 v) (hd:DataW.Trod enc Tryz.prog w base spare held 26 v d ps) :
  ∃ u:Bu,v=.agg u.val.toArray∧BuOk w w.heap.size u:=by
 obtain⟨cs,rfl,hsz⟩:=okWide_struct Tryz.underlying26 hval
 obtain⟨fuel,hf⟩:=hd
 have hc:Tryz.prog.cellsOf 26=5:=by kernel_rfl
 obtain⟨a0,a1,a2,a3,a4,he⟩:=list_5 (cs:=cs.toList) (by rw [Array.length_toList,hsz,hc])
 have h:DataW.trod enc Tryz.prog w base spare held fuel 26 cs.toList=some (d,ps):=hf
 rw [he] at h
 obtain⟨_,_,g1⟩:=zad Tryz.underlying26 h (j:=0) (o:=0) (m:=3) (vs:=[a0,a1,a2]) rfl ⟨rfl,rfl⟩ (by kernel_rfl) rfl
 obtain⟨H0,rfl,w0⟩:=zaa Tryz.underlying23 g1 (j:=0) (o:=0) rfl ⟨rfl,rfl⟩ Tryz.underlying3 (by kernel_rfl) rfl
 obtain⟨W0,rfl,w1⟩:=zaa Tryz.underlying23 g1 (j:=1) (o:=1) rfl ⟨rfl,rfl⟩ Tryz.underlying3 (by kernel_rfl) rfl
 obtain⟨C0,rfl,w2⟩:=zaa Tryz.underlying23 g1 (j:=2) (o:=2) rfl ⟨rfl,rfl⟩ Tryz.underlying3 (by kernel_rfl) rfl
 obtain⟨cl,rfl,w3⟩:=zaa Tryz.underlying26 h (j:=1) (o:=3) rfl ⟨rfl,rfl⟩ Tryz.underlying3 (by kernel_rfl) rfl
 obtain⟨_,_,g2⟩:=zad Tryz.underlying26 h (j:=2) (o:=4) (m:=1) (vs:=[a4]) rfl ⟨rfl,rfl⟩ (by kernel_rfl) rfl
 obtain⟨A,X,n,c,rfl,c1,c2,h4,h5⟩:=trod_elems Tryz.underlying24 (by kernel_rfl) (s:=1) (by decide) md0 Md.val (fun _=>rfl) (fun m=>MdOk w w.heap.size m) (fun hl h=>trod_model hl h) g2
 refine⟨⟨H0,W0,C0,cl,A,n,c,X⟩,?_,⟨w0,w1,w2,w3⟩,⟨c1,c2⟩,h4,h5⟩
 obtain⟨l⟩:=cs
 exact congrArg Value.agg (congrArg List.toArray he)
end
end CBund
end
end Go.Proofs.YtfgdfignoakkaaaGreatDoor
