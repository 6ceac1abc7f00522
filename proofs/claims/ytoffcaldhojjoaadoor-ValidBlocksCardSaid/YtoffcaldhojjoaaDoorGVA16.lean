/- -/
import Derived.Test.YtoffcaldhojjoaaDoorGVA11
open Go.Lib (hid)
open Nat (le_refl lt_of_succ_lt lt_succ_self)
set_option linter.unusedVariables false
set_option linter.unusedSimpArgs false
set_option maxRecDepth 100000
set_option maxHeartbeats 16000000
namespace Go.Proofs.YtoffcaldhojjoaaDoor
namespace CConv
end CConv
namespace CFix
end CFix
namespace CGraph
end CGraph
namespace CKind
end CKind
namespace CSat
end CSat
namespace CTensor
end CTensor
namespace Kit
end Kit
open Go Go.ChangeShapes Go.WideShapes Go.ChangeAt Go.RowKit Go.Deep
section
namespace CKind
open Plain CSat CFix CShape CTensor CConv
theorem rks4 (H W C H2 W2 C2 na nb K S P O Z Y:Int) (WA:Option Addr) (nW cW:Nat) (BA:Option Addr) (nB cB:Nat) (m1 s1 z1 m2 s2 z2 lo hi:Int) (e u0 u1 u2:Int) (he:zaz H W C K S P C=e) (hv:zav H W C K S P C=#[.int .i64 u0,.int .i64 u1,.int .i64 u2]) (w:World) :
  Calls Tryd.prog 25 #[.agg #[.int .i64 4,.int .i64 na,.int .i64 nb,.int .i64 K,.int .i64 S,.int .i64 P,.int .i64 O,.int .i8 Z,.int .i8 Y,.slice WA nW cW,.slice BA nB cB,.int .i32 m1,.int .i64 s1,.int .i8 z1,.int .i32 m2,.int .i64 s2,.int .i8 z2,.int .i8 lo,.int .i8 hi],.agg #[.int .i64 H,.int .i64 W,.int .i64 C],.agg #[.int .i64 H2,.int .i64 W2,.int .i64 C2]] w fun r w'=>r=.returned (.tuple #[.agg #[.int .i64 u0,.int .i64 u1,.int .i64 u2],.int .i64 e])∧Below w.heap.size w w':=by
 have HE:=hid he
 have HV:=hid hv
 clear he hv
 go_enter Tryd.func25,Tryd.ntmps25
 go_wp2_with (go_at_call 46;(with_reducible refine (za7 H W C K S P C e _ HE.out HV.out _).mono ?_);rintro e1 w1 ⟨rfl,hb⟩;obtain⟨hcc,hff⟩:=Kit.bcell hb;have hz:w.heap.size+4≤w1.heap.size:=(by have:=hb.size;simp at this;omega);have hz3:w.heap.size+3 < w1.heap.size:=(by omega);have hz2:w.heap.size+2 < w1.heap.size:=(by omega);have hz1:w.heap.size+1 < w1.heap.size:=(by omega);have hz0:w.heap.size < w1.heap.size:=(by omega);have HB:=hid hb;clear hb)
 refine bodyPost_ret (Kit.zaa rfl _ _ (w.heap.size+3) 0 [.int .i64 u0,.int .i64 u1,.int .i64 u2] _ rfl (Kit.zaj (by go_cell) (by go_cell) (by go_cell)) Tryd.underlying30 rfl (by kernel_rfl)) rfl ?_
 have hB1:Below w.heap.size w w1:=Below.trans (((((Below.refl _ _).alloc (by first | exact le_refl _ | (simp;done) | (simp;omega) | omega) _).alloc (by first | exact le_refl _ | (simp;done) | (simp;omega) | omega) _).alloc (by first | exact le_refl _ | (simp;done) | (simp;omega) | omega) _).alloc (by first | exact le_refl _ | (simp;done) | (simp;omega) | omega) _) (HB.out.mono (by first | exact le_refl _ | (simp;done) | (simp;omega) | omega))
 exact⟨rfl,(((hB1.setCell (p:=⟨w.heap.size+3,0,none⟩) (Nat.le_add_right _ _) _).setCell (p:=⟨w.heap.size+3,1,none⟩) (Nat.le_add_right _ _) _).setCell (p:=⟨w.heap.size+3,2,none⟩) (Nat.le_add_right _ _) _)⟩
theorem rks5 (H W C H2 W2 C2 na nb K S P O Z Y:Int) (WA:Option Addr) (nW cW:Nat) (BA:Option Addr) (nB cB:Nat) (m1 s1 z1 m2 s2 z2 lo hi:Int) (e u0 u1 u2:Int) (he:zaz H W C K S P C=e) (hv:zav H W C K S P C=#[.int .i64 u0,.int .i64 u1,.int .i64 u2]) (w:World) :
  Calls Tryd.prog 25 #[.agg #[.int .i64 5,.int .i64 na,.int .i64 nb,.int .i64 K,.int .i64 S,.int .i64 P,.int .i64 O,.int .i8 Z,.int .i8 Y,.slice WA nW cW,.slice BA nB cB,.int .i32 m1,.int .i64 s1,.int .i8 z1,.int .i32 m2,.int .i64 s2,.int .i8 z2,.int .i8 lo,.int .i8 hi],.agg #[.int .i64 H,.int .i64 W,.int .i64 C],.agg #[.int .i64 H2,.int .i64 W2,.int .i64 C2]] w fun r w'=>r=.returned (.tuple #[.agg #[.int .i64 u0,.int .i64 u1,.int .i64 u2],.int .i64 e])∧Below w.heap.size w w':=by
 have HE:=hid he
 have HV:=hid hv
 clear he hv
 go_enter Tryd.func25,Tryd.ntmps25
 go_wp2_with (go_at_call 46;(with_reducible refine (za7 H W C K S P C e _ HE.out HV.out _).mono ?_);rintro e1 w1 ⟨rfl,hb⟩;obtain⟨hcc,hff⟩:=Kit.bcell hb;have hz:w.heap.size+4≤w1.heap.size:=(by have:=hb.size;simp at this;omega);have hz3:w.heap.size+3 < w1.heap.size:=(by omega);have hz2:w.heap.size+2 < w1.heap.size:=(by omega);have hz1:w.heap.size+1 < w1.heap.size:=(by omega);have hz0:w.heap.size < w1.heap.size:=(by omega);have HB:=hid hb;clear hb)
 refine bodyPost_ret (Kit.zaa rfl _ _ (w.heap.size+3) 0 [.int .i64 u0,.int .i64 u1,.int .i64 u2] _ rfl (Kit.zaj (by go_cell) (by go_cell) (by go_cell)) Tryd.underlying30 rfl (by kernel_rfl)) rfl ?_
 have hB1:Below w.heap.size w w1:=Below.trans (((((Below.refl _ _).alloc (by first | exact le_refl _ | (simp;done) | (simp;omega) | omega) _).alloc (by first | exact le_refl _ | (simp;done) | (simp;omega) | omega) _).alloc (by first | exact le_refl _ | (simp;done) | (simp;omega) | omega) _).alloc (by first | exact le_refl _ | (simp;done) | (simp;omega) | omega) _) (HB.out.mono (by first | exact le_refl _ | (simp;done) | (simp;omega) | omega))
 exact⟨rfl,(((hB1.setCell (p:=⟨w.heap.size+3,0,none⟩) (Nat.le_add_right _ _) _).setCell (p:=⟨w.heap.size+3,1,none⟩) (Nat.le_add_right _ _) _).setCell (p:=⟨w.heap.size+3,2,none⟩) (Nat.le_add_right _ _) _)⟩
theorem rks_lo (H W C H2 W2 C2 na nb K S P O Z Y:Int) (WA:Option Addr) (nW cW:Nat) (BA:Option Addr) (nB cB:Nat) (m1 s1 z1 m2 s2 z2 lo hi:Int) (kd:Int) (hk:kd < 1) (w:World) :
  Calls Tryd.prog 25 #[.agg #[.int .i64 kd,.int .i64 na,.int .i64 nb,.int .i64 K,.int .i64 S,.int .i64 P,.int .i64 O,.int .i8 Z,.int .i8 Y,.slice WA nW cW,.slice BA nB cB,.int .i32 m1,.int .i64 s1,.int .i8 z1,.int .i32 m2,.int .i64 s2,.int .i8 z2,.int .i8 lo,.int .i8 hi],.agg #[.int .i64 H,.int .i64 W,.int .i64 C],.agg #[.int .i64 H2,.int .i64 W2,.int .i64 C2]] w fun r w'=>r=.returned (.tuple #[.agg #[.int .i64 0,.int .i64 0,.int .i64 0],.int .i64 6])∧Below w.heap.size w w':=by
 have k1:(kd == 1)=false:=by simp;omega
 have k2:(kd == 2)=false:=by simp;omega
 have k3:(kd == 3)=false:=by simp;omega
 have k4:(kd == 4)=false:=by simp;omega
 have k5:(kd == 5)=false:=by simp;omega
 have kl:decide (kd < 1)=true:=by simpa using hk
 have HK:=hid hk
 clear hk
 go_enter Tryd.func25,Tryd.ntmps25
 go_wp2_with fail
 refine bodyPost_ret (Kit.zaa rfl _ _ (w.heap.size+3) 0 [.int .i64 0,.int .i64 0,.int .i64 0] _ rfl (Kit.zaj (by go_cell) (by go_cell) (by go_cell)) Tryd.underlying30 rfl (by kernel_rfl)) rfl ?_
 have hB1:Below w.heap.size w ((((w.alloc (.cells #[.int .i64 kd,.int .i64 na,.int .i64 nb,.int .i64 K,.int .i64 S,.int .i64 P,.int .i64 O,.int .i8 Z,.int .i8 Y,.slice WA nW cW,.slice BA nB cB,.int .i32 m1,.int .i64 s1,.int .i8 z1,.int .i32 m2,.int .i64 s2,.int .i8 z2,.int .i8 lo,.int .i8 hi] 67)).alloc (.cells #[.int .i64 H,.int .i64 W,.int .i64 C] 30)).alloc (.cells #[.int .i64 H2,.int .i64 W2,.int .i64 C2] 30)).alloc (.cells #[.int .i64 0,.int .i64 0,.int .i64 0] 30)):=((((Below.refl _ _).alloc (by first | exact le_refl _ | (simp;done) | (simp;omega) | omega) _).alloc (by first | exact le_refl _ | (simp;done) | (simp;omega) | omega) _).alloc (by first | exact le_refl _ | (simp;done) | (simp;omega) | omega) _).alloc (by first | exact le_refl _ | (simp;done) | (simp;omega) | omega) _
 exact⟨rfl,hB1⟩
theorem rks_hi (H W C H2 W2 C2 na nb K S P O Z Y:Int) (WA:Option Addr) (nW cW:Nat) (BA:Option Addr) (nB cB:Nat) (m1 s1 z1 m2 s2 z2 lo hi:Int) (kd:Int) (hk:9 < kd) (w:World) :
  Calls Tryd.prog 25 #[.agg #[.int .i64 kd,.int .i64 na,.int .i64 nb,.int .i64 K,.int .i64 S,.int .i64 P,.int .i64 O,.int .i8 Z,.int .i8 Y,.slice WA nW cW,.slice BA nB cB,.int .i32 m1,.int .i64 s1,.int .i8 z1,.int .i32 m2,.int .i64 s2,.int .i8 z2,.int .i8 lo,.int .i8 hi],.agg #[.int .i64 H,.int .i64 W,.int .i64 C],.agg #[.int .i64 H2,.int .i64 W2,.int .i64 C2]] w fun r w'=>r=.returned (.tuple #[.agg #[.int .i64 0,.int .i64 0,.int .i64 0],.int .i64 6])∧Below w.heap.size w w':=by
 have k1:(kd == 1)=false:=by simp;omega
 have k2:(kd == 2)=false:=by simp;omega
 have k3:(kd == 3)=false:=by simp;omega
 have k4:(kd == 4)=false:=by simp;omega
 have k5:(kd == 5)=false:=by simp;omega
 have kl:decide (kd < 1)=false:=by simp;omega
 have kh:decide (9 < kd)=true:=by simpa using hk
 have HK:=hid hk
 clear hk
 go_enter Tryd.func25,Tryd.ntmps25
 go_wp2_with fail
 refine bodyPost_ret (Kit.zaa rfl _ _ (w.heap.size+3) 0 [.int .i64 0,.int .i64 0,.int .i64 0] _ rfl (Kit.zaj (by go_cell) (by go_cell) (by go_cell)) Tryd.underlying30 rfl (by kernel_rfl)) rfl ?_
 have hB1:Below w.heap.size w ((((w.alloc (.cells #[.int .i64 kd,.int .i64 na,.int .i64 nb,.int .i64 K,.int .i64 S,.int .i64 P,.int .i64 O,.int .i8 Z,.int .i8 Y,.slice WA nW cW,.slice BA nB cB,.int .i32 m1,.int .i64 s1,.int .i8 z1,.int .i32 m2,.int .i64 s2,.int .i8 z2,.int .i8 lo,.int .i8 hi] 67)).alloc (.cells #[.int .i64 H,.int .i64 W,.int .i64 C] 30)).alloc (.cells #[.int .i64 H2,.int .i64 W2,.int .i64 C2] 30)).alloc (.cells #[.int .i64 0,.int .i64 0,.int .i64 0] 30)):=((((Below.refl _ _).alloc (by first | exact le_refl _ | (simp;done) | (simp;omega) | omega) _).alloc (by first | exact le_refl _ | (simp;done) | (simp;omega) | omega) _).alloc (by first | exact le_refl _ | (simp;done) | (simp;omega) | omega) _).alloc (by first | exact le_refl _ | (simp;done) | (simp;omega) | omega) _
 exact⟨rfl,hB1⟩
end CKind
end
section
namespace CBund
open Kit CKind CGraph
def zbz {α:Type} (s:Nat) (val:α→List Value) (w:World) (B:Nat) (A:Option Addr) (n:Nat) (X:Nat→α):Prop :=
 ∀ j,j < n→∃ b o,A=some ⟨b,o,none⟩∧b < B∧w.rangeAt b (o+j * s) (val (X j))
theorem zbz.below {α:Type} {s:Nat} {val:α→List Value} {w w':World} {B:Nat} {A:Option Addr} {n:Nat} {X:Nat→α} (h:zbz s val w B A n X) (hb:Below B w w'):zbz s val w' B A n X:=fun j hj=>by
 obtain⟨b,o,rfl,hB,hr⟩:=h j hj
 exact⟨b,o,rfl,hB,fun q v hq=>(hb.cell (p:=⟨b,_,none⟩) hB).trans (hr q v hq)⟩
theorem zbz.more {α:Type} {s:Nat} {val:α→List Value} {w:World} {B B':Nat} {A:Option Addr} {n:Nat} {X:Nat→α} (h:zbz s val w B A n X) (hb:B≤B'):zbz s val w B' A n X:=fun j hj=>by
 obtain⟨b,o,rfl,hB,hr⟩:=h j hj
 exact⟨b,o,rfl,by omega,hr⟩
section
variable {H:Type} {enc:TypeId × Value→H} {P:Program} {w:World} {base b0:Nat} {spare:Nat→Bool} {held:Bool} {r:Reach}
theorem choose_fnE {α:Type} (d:α) {p:Nat→α→Prop} {n:Nat} (h:∀ j,j < n→∃ x,p j x):∃ X:Nat→α,∀ j,j < n→p j (X j) :=
 ⟨fun j=>if hj:j < n then Classical.choose (h j hj) else d,fun j hj=>by simp only [dif_pos hj];exact Classical.choose_spec (h j hj)⟩
theorem trod_elems {t e:TypeId} {s:Nat} (ht:P.underlying t=some (.slice e)) (hc:P.cellsOf e=s) (hs:0 < s) {α:Type} (d:α) (val:α→List Value) (hlen:∀ a,(val a).length=s) (Ok:α→Prop)
  (hel:∀ {fuel:Nat} {cs:List Value} {x:DataW H × List MemPlace},cs.length=s→DataW.trod enc P w base spare held fuel e cs=some x→∃ a,cs=val a∧Ok a)
  {v:Value} {n:Nat} {x:DataW H × List MemPlace} (h:DataW.trod enc P w base spare held n t [v]=some x) :
  ∃ (A:Option Addr) (X:Nat→α) (n c:Nat),v=.slice A n c∧n≤c∧c≤maxLen∧zbz s val w w.heap.size A n X∧∀ j,j < n→Ok (X j):=by
 rcases DataW.trod_slice ht h with ⟨hcs,_⟩ | ⟨a,len,cap,elems,rest,n,_,hcs,_,hb,hl,hm,hlen2,hel2,hsp,hns⟩
 ·simp at hcs
  subst hcs
  exact⟨none,fun _=>d,0,0,rfl,by simp,by simp,fun j hj=>by omega,fun j hj=>by omega⟩
 ·simp at hcs
  subst hcs
  have each0:∀ j,j < len→∃ nd:α,Ok nd∧∀ q v,(val nd)[q]?=some v→w.cell? ((a.add (j * s)).add q)=some v:=by
   intro j hj
   have h1:=hel2 j hj
   rw [List.getElem?_eq_getElem (by omega),hc,Option.bind_eq_some_iff] at h1
   obtain⟨cs',hcs,hy⟩:=h1
   obtain⟨_,hl3,hcell⟩:=World.cells?_some hcs
   obtain⟨nd,rfl,hok⟩:=hel hl3 hy
   refine⟨nd,hok,fun q v hq=>?_⟩
   have hq2:q < (val nd).length:=(List.getElem?_eq_some_iff.1 hq).1
   have:=hcell q (by rw [hlen] at hq2;exact hq2)
   rw [this,hq]
  have first:∀ j,j < len→∃ u,w.cell? ((a.add (j * s)).add 0)=some u:=fun j hj=>by
   obtain⟨nd,_,h⟩:=each0 j hj
   have hp:0 < (val nd).length:=by rw [hlen];exact hs
   exact⟨_,h 0 _ (List.getElem?_eq_getElem hp)⟩
  have plain:0 < len→∃ b o,a=⟨b,o,none⟩:=by
   intro hpos
   obtain⟨u,hu⟩:=first 0 hpos
   obtain⟨b,o,sp⟩:=a
   have hsn:sp=none:=by
    have h8:=World.cell?_spot hu
    simpa [Addr.add] using h8
   exact⟨b,o,by rw [hsn]⟩
  have each:∀ j,j < len→∃ nd:α,Ok nd∧∃ b o,a=⟨b,o,none⟩∧b < w.heap.size∧w.rangeAt b (o+j * s) (val nd):=by
   intro j hj
   obtain⟨nd,hok,h⟩:=each0 j hj
   obtain⟨b,o,rfl⟩:=plain (by omega)
   have hc0:∀ q v,(val nd)[q]?=some v→w.cell? ⟨b,o+j * s+q,none⟩=some v:=by
    intro q v hq
    have:=h q v hq
    rw [Go.WideShapes.add_plain,Go.WideShapes.add_plain] at this
    exact this
   have hp:0 < (val nd).length:=by rw [hlen];exact hs
   exact⟨nd,hok,b,o,rfl,block_lt (hc0 0 _ (List.getElem?_eq_getElem hp)),hc0⟩
  obtain⟨X,hX⟩:=choose_fnE d each
  refine⟨some a,X,len,cap,rfl,hl,hm,fun j hj=>?_,fun j hj=>(hX j hj).1⟩
  obtain⟨_,b,o,rfl,hb,hr⟩:=hX j hj
  exact⟨b,o,rfl,hb,hr⟩
theorem field_bool {t:TypeId} {fs:Array Field} {fuel:Nat} {cs:List Value} {x:DataW H × List MemPlace} (ht:P.underlying t=some (.struct fs)) (h:DataW.trod enc P w base spare held fuel t cs=some x)
  {j o:Nat} {f:Field} {i:TypeId} {v:Value} (q:fs[j]?=some f) (e:f.type=i∧f.offset=o) (u:P.underlying i=some .bool) (c:P.cellsOf i=1) (hv:(cs.drop o).take 1=[v]):∃ n:Bool,v=.bool n:=by
 obtain⟨xs,n,_,_,_,hlen,hx⟩:=DataW.trod_struct ht h
 have g:=hx j f q
 rw [e.1,e.2,c,List.getElem?_eq_getElem (by rw [hlen];exact (Array.getElem?_eq_some_iff.1 q).1),hv] at g
 obtain⟨X,e0,_⟩:=DataW.trod_bool u g
 simp at e0
 exact⟨X,e0⟩
end
/-! ### blocks -/
def ListOk (w:World) (B:Nat) (k:IntKind) (A:Option Addr) (n c:Nat):Prop :=
 ∃ zs:List Int,zs.length=n∧n≤c∧c≤maxLen∧(∀ z∈zs,(Lit.int k z).wf=true)∧Rd w B A (zs.map (.int k))
structure Hd where
 WA:Option Addr
 nW:Nat
 cW:Nat
 BA:Option Addr
 nB:Nat
 cB:Nat
 D:Int
def HdOk (w:World) (B:Nat) (h:Hd):Prop:=(-2147483648≤h.D∧h.D≤2147483647)∧ListOk w B .i8 h.WA h.nW h.cW∧ListOk w B .i32 h.BA h.nB h.cB
structure Bk where
 A:Option Addr
 n:Nat
 c:Nat
 X:Nat→Nd
 ex:Bool
 hd:Hd
def Bk.val (b:Bk):List Value:=[.slice b.A b.n b.c,.bool b.ex,.slice b.hd.WA b.hd.nW b.hd.cW,.slice b.hd.BA b.hd.nB b.hd.cB,.int .i32 b.hd.D]
structure BkOk (w:World) (B:Nat) (b:Bk):Prop where
 cap:b.n≤b.c∧b.c≤maxLen
 nodes:NodesAt w B b.A b.n b.X
 each:∀ j,j < b.n→NdOk w B (b.X j)
 head:HdOk w B b.hd
def bk0:Bk:=⟨none,0,0,fun _=>nd0,false,⟨none,0,0,none,0,0,0⟩⟩
def BlocksAt:=@zbz Bk 5 Bk.val
section
variable {H:Type} {enc:TypeId × Value→H} {w:World} {base b0:Nat} {spare:Nat→Bool} {held:Bool} {r:Reach}
theorem trod_nodes {v:Value} {n:Nat} {x:DataW H × List MemPlace} (h:DataW.trod enc Tryd.prog w base spare held n 22 [v]=some x) :
  ∃ (A:Option Addr) (X:Nat→Nd) (n c:Nat),v=.slice A n c∧n≤c∧c≤maxLen∧NodesAt w w.heap.size A n X∧∀ j,j < n→NdOk w w.heap.size (X j):=by
 obtain⟨A,X,n,c,h1,h2,h3,h4,h5⟩:=trod_elems Tryd.underlying22 (by kernel_rfl) (s:=19) (by decide) nd0 (fun x:Nd=>x.val.toList) (fun _=>rfl) (fun x=>NdOk w w.heap.size x) (fun hl h=>trod_node hl h) h
 exact⟨A,X,n,c,h1,h2,h3,h4,h5⟩
theorem field_nodes {t:TypeId} {fs:Array Field} {fuel:Nat} {cs:List Value} {x:DataW H × List MemPlace} (ht:Tryd.prog.underlying t=some (.struct fs)) (h:DataW.trod enc Tryd.prog w base spare held fuel t cs=some x)
  {j o:Nat} {f:Field} {v:Value} (q:fs[j]?=some f) (e:f.type=22∧f.offset=o) (hv:(cs.drop o).take 1=[v]) :
  ∃ (A:Option Addr) (X:Nat→Nd) (n c:Nat),v=.slice A n c∧n≤c∧c≤maxLen∧NodesAt w w.heap.size A n X∧∀ j,j < n→NdOk w w.heap.size (X j):=by
 obtain⟨n,y,g⟩:=zca ht h q e (m:=1) (by kernel_rfl) hv
 exact trod_nodes g
theorem list_5 {cs:List Value} (h:cs.length=5):∃ a0 a1 a2 a3 a4,cs=[a0,a1,a2,a3,a4]:=by
 match cs,h with
 | [a0,a1,a2,a3,a4],_=>exact⟨a0,a1,a2,a3,a4,rfl⟩
theorem trod_block {fuel:Nat} {cs:List Value} {x:DataW H × List MemPlace} (hl:cs.length=5) (h:DataW.trod enc Tryd.prog w base spare held fuel 28 cs=some x):∃ b:Bk,cs=b.val∧BkOk w w.heap.size b:=by
 obtain⟨a0,a1,a2,a3,a4,rfl⟩:=list_5 hl
 obtain⟨A,X,n,c,rfl,c1,c2,hN,hE⟩:=field_nodes Tryd.underlying28 h (j:=0) (o:=0) rfl ⟨rfl,rfl⟩ rfl
 obtain⟨ex,rfl⟩:=field_bool Tryd.underlying28 h (j:=1) (o:=1) rfl ⟨rfl,rfl⟩ Tryd.underlying4 (by kernel_rfl) rfl
 obtain⟨_,_,g1⟩:=zca Tryd.underlying28 h (j:=2) (o:=2) (m:=3) (vs:=[a2,a3,a4]) rfl ⟨rfl,rfl⟩ (by kernel_rfl) rfl
 obtain⟨WA,ws,cW,rfl,p1,p2,p3,p4⟩:=field_list Tryd.underlying26 g1 (j:=0) (o:=0) rfl ⟨rfl,rfl⟩ Tryd.underlying23 (by kernel_rfl) Tryd.underlying59 (by kernel_rfl) rfl
 obtain⟨BA,bs,cB,rfl,p5,p6,p7,p8⟩:=field_list Tryd.underlying26 g1 (j:=1) (o:=1) rfl ⟨rfl,rfl⟩ Tryd.underlying24 (by kernel_rfl) Tryd.underlying21 (by kernel_rfl) rfl
 obtain⟨D,rfl,wD⟩:=za6 Tryd.underlying26 g1 (j:=2) (o:=2) rfl ⟨rfl,rfl⟩ Tryd.underlying21 (by kernel_rfl) rfl
 exact⟨⟨A,n,c,X,ex,⟨WA,ws.length,cW,BA,bs.length,cB,D⟩⟩,rfl,⟨⟨c1,c2⟩,hN,hE,wf32 wD,⟨ws,rfl,p1,p2,p3,p4⟩,⟨bs,rfl,p5,p6,p7,p8⟩⟩⟩
theorem open_block {v:Value} {d:DataW H} {ps:List MemPlace} (hval:Value.okWide Tryd.prog w r b0 28 v) (hd:DataW.Trod enc Tryd.prog w base spare held 28 v d ps) :
  ∃ b:Bk,v=.agg b.val.toArray∧BkOk w w.heap.size b:=by
 obtain⟨cs,rfl,hsz⟩:=okWide_struct Tryd.underlying28 hval
 obtain⟨fuel,hf⟩:=hd
 have hc:Tryd.prog.cellsOf 28=5:=by kernel_rfl
 obtain⟨b,hb,hok⟩:=trod_block (cs:=cs.toList) (by rw [Array.length_toList,hsz,hc]) hf
 exact⟨b,by rw [← hb],hok⟩
end
/-! ### models and bundles -/
section
variable {H:Type} {enc:TypeId × Value→H} {w:World} {base b0:Nat} {spare:Nat→Bool} {held:Bool} {r:Reach}
structure Md where
 A:Option Addr
 n:Nat
 c:Nat
 K:Nat→Bk
def Md.val (m:Md):List Value:=[.slice m.A m.n m.c]
structure MdOk (w:World) (B:Nat) (m:Md):Prop where
 cap:m.n≤m.c∧m.c≤maxLen
 blocks:BlocksAt w B m.A m.n m.K
 each:∀ j,j < m.n→BkOk w B (m.K j)
def md0:Md:=⟨none,0,0,fun _=>bk0⟩
def ModelsAt:=@zbz Md 1 Md.val
structure Bu where
 H:Int
 W:Int
 C:Int
 cl:Int
 A:Option Addr
 n:Nat
 c:Nat
 M:Nat→Md
def Bu.val (u:Bu):List Value:=[.int .i64 u.H,.int .i64 u.W,.int .i64 u.C,.int .i64 u.cl,.slice u.A u.n u.c]
structure BuOk (w:World) (B:Nat) (u:Bu):Prop where
 nums:(Lit.int .i64 u.H).wf=true∧(Lit.int .i64 u.W).wf=true∧(Lit.int .i64 u.C).wf=true∧(Lit.int .i64 u.cl).wf=true
 cap:u.n≤u.c∧u.c≤maxLen
 models:ModelsAt w B u.A u.n u.M
 each:∀ j,j < u.n→MdOk w B (u.M j)
end
end CBund
end
end Go.Proofs.YtoffcaldhojjoaaDoor
