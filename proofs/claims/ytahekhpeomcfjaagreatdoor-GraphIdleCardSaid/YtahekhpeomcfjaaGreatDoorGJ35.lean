/- -/
import Derived.Test.YtahekhpeomcfjaaGreatDoorGJ32
import Derived.Test.YtahekhpeomcfjaaGreatDoorGJ34
open Go.Lib (hid)
open Nat (le_refl lt_of_succ_lt lt_succ_self)
set_option linter.unusedVariables false
set_option linter.unusedSimpArgs false
set_option maxRecDepth 100000
set_option maxHeartbeats 16000000
namespace Go.Proofs.YtahekhpeomcfjaaGreatDoor
namespace CConv
end CConv
namespace CDense
end CDense
namespace CDepth
end CDepth
namespace CFix
end CFix
namespace CKind
end CKind
namespace CSat
end CSat
namespace CShape
end CShape
namespace CTensor
end CTensor
namespace Kit
end Kit
open Go Go.ChangeShapes Go.WideShapes Go.ChangeAt Go.RowKit Go.Deep
section
namespace CGraph
open Kit CKind
structure NdOk (w:World) (B:Nat) (x:Nd):Prop where
 z : -128≤x.Z∧x.Z≤127
 a : -9223372036854775808≤x.na∧x.na≤9223372036854775807
 b : -9223372036854775808≤x.nb∧x.nb≤9223372036854775807
 ks:(-9223372036854775808≤x.K∧x.K≤9223372036854775807)∧(-9223372036854775808≤x.S∧x.S≤9223372036854775807)∧(-9223372036854775808≤x.P∧x.P≤9223372036854775807)∧(-9223372036854775808≤x.O∧x.O≤9223372036854775807)
 q:(-2147483648≤x.m1∧x.m1≤2147483647)∧(-2147483648≤x.m2∧x.m2≤2147483647)∧(-128≤x.z1∧x.z1≤127)∧(-128≤x.z2∧x.z2≤127)∧(-128≤x.lo∧x.lo≤127)∧(-128≤x.hi∧x.hi≤127)∧(-128≤x.Y∧x.Y≤127)
 s:(-9223372036854775808≤x.s1∧x.s1≤9223372036854775807)∧(-9223372036854775808≤x.s2∧x.s2≤9223372036854775807)∧(-9223372036854775808≤x.kd∧x.kd≤9223372036854775807)
 ws:∃ zs:List Int,zs.length=x.nW∧x.nW≤x.cW∧x.cW≤maxLen∧(∀ n∈zs,(Lit.int .i8 n).wf=true)∧Rd w B x.WA (zs.map (.int .i8))
 bs:∃ zs:List Int,zs.length=x.nB∧x.nB≤x.cB∧x.cB≤maxLen∧(∀ n∈zs,(Lit.int .i32 n).wf=true)∧Rd w B x.BA (zs.map (.int .i32))
def NodesAt (w:World) (B:Nat) (A:Option Addr) (n:Nat) (X:Nat→Nd):Prop :=
 ∀ j,j < n→∃ b o,A=some ⟨b,o,none⟩∧b < B∧w.rangeAt b (o+j * 19) (X j).val.toList
section
variable {H:Type} {enc:TypeId × Value→H} {P:Program} {w:World} {base b0:Nat} {spare:Nat→Bool} {held:Bool} {r:Reach}
theorem wf64 {n:Int} (h:(Lit.int .i64 n).wf=true) : -9223372036854775808≤n∧n≤9223372036854775807:=by simpa [Lit.wf,IntKind.min,IntKind.max,IntKind.signed,IntKind.bits] using h
theorem wf32 {n:Int} (h:(Lit.int .i32 n).wf=true) : -2147483648≤n∧n≤2147483647:=by simpa [Lit.wf,IntKind.min,IntKind.max,IntKind.signed,IntKind.bits] using h
theorem wf8 {n:Int} (h:(Lit.int .i8 n).wf=true) : -128≤n∧n≤127:=by simpa [Lit.wf,IntKind.min,IntKind.max,IntKind.signed,IntKind.bits] using h
theorem list_19 {cs:List Value} (h:cs.length=19):∃ a0 a1 a2 a3 a4 a5 a6 a7 a8 a9 a10 a11 a12 a13 a14 a15 a16 a17 a18,cs=[a0,a1,a2,a3,a4,a5,a6,a7,a8,a9,a10,a11,a12,a13,a14,a15,a16,a17,a18]:=by
 match cs,h with
 | [a0,a1,a2,a3,a4,a5,a6,a7,a8,a9,a10,a11,a12,a13,a14,a15,a16,a17,a18],_=>exact⟨a0,a1,a2,a3,a4,a5,a6,a7,a8,a9,a10,a11,a12,a13,a14,a15,a16,a17,a18,rfl⟩
theorem zbb {t:TypeId} {fs:Array Field} {fuel:Nat} {cs:List Value} {x:DataW H × List MemPlace} (ht:P.underlying t=some (.struct fs)) (h:DataW.trod enc P w base spare held fuel t cs=some x)
  {j o:Nat} {f:Field} {i:TypeId} {k:IntKind} {v:Value} (q:fs[j]?=some f) (e:f.type=i∧f.offset=o) (u:P.underlying i=some (.int k)) (c:P.cellsOf i=1) (hv:(cs.drop o).take 1=[v]):∃ n:Int,v=.int k n∧(Lit.int k n).wf=true:=by
 obtain⟨xs,n,_,_,_,hlen,hx⟩:=DataW.trod_struct ht h
 have g:=hx j f q
 rw [e.1,e.2,c,List.getElem?_eq_getElem (by rw [hlen];exact (Array.getElem?_eq_some_iff.1 q).1),hv] at g
 obtain⟨X,e0,_,w0⟩:=DataW.trod_int u g
 simp at e0
 exact⟨X,e0,w0⟩
theorem field_list {t:TypeId} {fs:Array Field} {fuel:Nat} {cs:List Value} {x:DataW H × List MemPlace} (ht:P.underlying t=some (.struct fs)) (h:DataW.trod enc P w base spare held fuel t cs=some x)
  {j o:Nat} {f:Field} {d i:TypeId} {k:IntKind} {v:Value} (q:fs[j]?=some f) (e:f.type=d∧f.offset=o) (ud:P.underlying d=some (.slice i)) (cd:P.cellsOf d=1) (u:P.underlying i=some (.int k)) (c:P.cellsOf i=1) (hv:(cs.drop o).take 1=[v]) :
  ∃ (A:Option Addr) (zs:List Int) (c:Nat),v=.slice A zs.length c∧zs.length≤c∧c≤maxLen∧(∀ n∈zs,(Lit.int k n).wf=true)∧Rd w w.heap.size A (zs.map (.int k)):=by
 obtain⟨xs,n,_,_,_,hlen,hx⟩:=DataW.trod_struct ht h
 have g:=hx j f q
 rw [e.1,e.2,cd,List.getElem?_eq_getElem (by rw [hlen];exact (Array.getElem?_eq_some_iff.1 q).1),hv] at g
 exact trod_islice_n ud u c g
theorem field_struct {t:TypeId} {fs:Array Field} {fuel:Nat} {cs:List Value} {x:DataW H × List MemPlace} (ht:P.underlying t=some (.struct fs)) (h:DataW.trod enc P w base spare held fuel t cs=some x)
  {j o m:Nat} {f:Field} {d:TypeId} {vs:List Value} (q:fs[j]?=some f) (e:f.type=d∧f.offset=o) (cd:P.cellsOf d=m) (hv:(cs.drop o).take m=vs):∃ n y,DataW.trod enc P w base spare held n d vs=some y:=by
 obtain⟨xs,n,_,_,_,hlen,hx⟩:=DataW.trod_struct ht h
 have g:=hx j f q
 rw [e.1,e.2,cd,List.getElem?_eq_getElem (by rw [hlen];exact (Array.getElem?_eq_some_iff.1 q).1),hv] at g
 exact⟨n,_,g⟩
end
section
variable {H:Type} {enc:TypeId × Value→H} {w:World} {base b0:Nat} {spare:Nat→Bool} {held:Bool} {r:Reach}
theorem trod_node {fuel:Nat} {cs:List Value} {x:DataW H × List MemPlace} (hl:cs.length=19) (h:DataW.trod enc Tryz.prog w base spare held fuel 44 cs=some x):∃ nd:Nd,cs=nd.val.toList∧NdOk w w.heap.size nd:=by
 obtain⟨a0,a1,a2,a3,a4,a5,a6,a7,a8,a9,a10,a11,a12,a13,a14,a15,a16,a17,a18,rfl⟩:=list_19 hl
 obtain⟨kd,rfl,wkd⟩:=zbb Tryz.underlying44 h (j:=0) (o:=0) rfl ⟨rfl,rfl⟩ Tryz.underlying3 (by kernel_rfl) rfl
 obtain⟨na,rfl,wna⟩:=zbb Tryz.underlying44 h (j:=1) (o:=1) rfl ⟨rfl,rfl⟩ Tryz.underlying3 (by kernel_rfl) rfl
 obtain⟨nb,rfl,wnb⟩:=zbb Tryz.underlying44 h (j:=2) (o:=2) rfl ⟨rfl,rfl⟩ Tryz.underlying3 (by kernel_rfl) rfl
 obtain⟨K,rfl,wK⟩:=zbb Tryz.underlying44 h (j:=3) (o:=3) rfl ⟨rfl,rfl⟩ Tryz.underlying3 (by kernel_rfl) rfl
 obtain⟨S,rfl,wS⟩:=zbb Tryz.underlying44 h (j:=4) (o:=4) rfl ⟨rfl,rfl⟩ Tryz.underlying3 (by kernel_rfl) rfl
 obtain⟨P,rfl,wP⟩:=zbb Tryz.underlying44 h (j:=5) (o:=5) rfl ⟨rfl,rfl⟩ Tryz.underlying3 (by kernel_rfl) rfl
 obtain⟨O,rfl,wO⟩:=zbb Tryz.underlying44 h (j:=6) (o:=6) rfl ⟨rfl,rfl⟩ Tryz.underlying3 (by kernel_rfl) rfl
 obtain⟨Z,rfl,wZ⟩:=zbb Tryz.underlying44 h (j:=7) (o:=7) rfl ⟨rfl,rfl⟩ Tryz.underlying39 (by kernel_rfl) rfl
 obtain⟨Y,rfl,wY⟩:=zbb Tryz.underlying44 h (j:=8) (o:=8) rfl ⟨rfl,rfl⟩ Tryz.underlying39 (by kernel_rfl) rfl
 obtain⟨WA,ws,cW,rfl,p1,p2,p3,p4⟩:=field_list Tryz.underlying44 h (j:=9) (o:=9) rfl ⟨rfl,rfl⟩ Tryz.underlying25 (by kernel_rfl) Tryz.underlying39 (by kernel_rfl) rfl
 obtain⟨BA,bs,cB,rfl,p5,p6,p7,p8⟩:=field_list Tryz.underlying44 h (j:=10) (o:=10) rfl ⟨rfl,rfl⟩ Tryz.underlying40 (by kernel_rfl) Tryz.underlying21 (by kernel_rfl) rfl
 obtain⟨_,_,g1⟩:=field_struct Tryz.underlying44 h (j:=11) (o:=11) (m:=3) (vs:=[a11,a12,a13]) rfl ⟨rfl,rfl⟩ (by kernel_rfl) rfl
 obtain⟨m1,rfl,wm1⟩:=zbb Tryz.underlying42 g1 (j:=0) (o:=0) rfl ⟨rfl,rfl⟩ Tryz.underlying21 (by kernel_rfl) rfl
 obtain⟨s1,rfl,ws1⟩:=zbb Tryz.underlying42 g1 (j:=1) (o:=1) rfl ⟨rfl,rfl⟩ Tryz.underlying3 (by kernel_rfl) rfl
 obtain⟨z1,rfl,wz1⟩:=zbb Tryz.underlying42 g1 (j:=2) (o:=2) rfl ⟨rfl,rfl⟩ Tryz.underlying39 (by kernel_rfl) rfl
 obtain⟨_,_,g2⟩:=field_struct Tryz.underlying44 h (j:=12) (o:=14) (m:=3) (vs:=[a14,a15,a16]) rfl ⟨rfl,rfl⟩ (by kernel_rfl) rfl
 obtain⟨m2,rfl,wm2⟩:=zbb Tryz.underlying42 g2 (j:=0) (o:=0) rfl ⟨rfl,rfl⟩ Tryz.underlying21 (by kernel_rfl) rfl
 obtain⟨s2,rfl,ws2⟩:=zbb Tryz.underlying42 g2 (j:=1) (o:=1) rfl ⟨rfl,rfl⟩ Tryz.underlying3 (by kernel_rfl) rfl
 obtain⟨z2,rfl,wz2⟩:=zbb Tryz.underlying42 g2 (j:=2) (o:=2) rfl ⟨rfl,rfl⟩ Tryz.underlying39 (by kernel_rfl) rfl
 obtain⟨lo,rfl,wlo⟩:=zbb Tryz.underlying44 h (j:=13) (o:=17) rfl ⟨rfl,rfl⟩ Tryz.underlying39 (by kernel_rfl) rfl
 obtain⟨hi,rfl,whi⟩:=zbb Tryz.underlying44 h (j:=14) (o:=18) rfl ⟨rfl,rfl⟩ Tryz.underlying39 (by kernel_rfl) rfl
 exact⟨⟨kd,na,nb,K,S,P,O,Z,Y,WA,ws.length,cW,BA,bs.length,cB,m1,s1,z1,m2,s2,z2,lo,hi⟩,rfl,⟨wf8 wZ,wf64 wna,wf64 wnb,⟨wf64 wK,wf64 wS,wf64 wP,wf64 wO⟩,⟨wf32 wm1,wf32 wm2,wf8 wz1,wf8 wz2,wf8 wlo,wf8 whi,wf8 wY⟩,⟨wf64 ws1,wf64 ws2,wf64 wkd⟩,⟨ws,rfl,p1,p2,p3,p4⟩,⟨bs,rfl,p5,p6,p7,p8⟩⟩⟩
def nd0:Nd:=⟨0,0,0,0,0,0,0,0,0,none,0,0,none,0,0,0,0,0,0,0,0,0,0⟩
theorem choose_fn {p:Nat→Nd→Prop} {n:Nat} (h:∀ j,j < n→∃ x,p j x):∃ X:Nat→Nd,∀ j,j < n→p j (X j) :=
 ⟨fun j=>if hj:j < n then Classical.choose (h j hj) else nd0,fun j hj=>by simp only [dif_pos hj];exact Classical.choose_spec (h j hj)⟩
theorem open_nodes {v:Value} {d:DataW H} {ps:List MemPlace} (hval:Value.okWide Tryz.prog w r b0 22 v) (hd:DataW.Trod enc Tryz.prog w base spare held 22 v d ps) :
  ∃ (A:Option Addr) (X:Nat→Nd) (n c:Nat),v=.slice A n c∧n≤c∧c≤maxLen∧NodesAt w w.heap.size A n X∧∀ j,j < n→NdOk w w.heap.size (X j):=by
 have ht:=Tryz.underlying22
 have hc:Tryz.prog.cellsOf 44=19:=by kernel_rfl
 obtain⟨a0,len,cap,rfl⟩:=okWide_slice ht hval
 obtain⟨fuel,hf⟩:=hd
 rcases DataW.trod_slice ht hf with ⟨hcs,_⟩ | ⟨a,len',cap',elems,rest,n,_,hcs,_,hb,hl,hm,hlen,hel,hsp,hns⟩
 ·simp [Value.cells] at hcs
  obtain⟨rfl,rfl,rfl⟩:=hcs
  exact⟨none,fun _=>nd0,0,0,rfl,by simp,by simp,fun j hj=>by omega,fun j hj=>by omega⟩
 ·simp [Value.cells] at hcs
  obtain⟨rfl,rfl,rfl⟩:=hcs
  have each0:∀ j,j < len→∃ nd:Nd,NdOk w w.heap.size nd∧∀ q v,nd.val.toList[q]?=some v→w.cell? ((a.add (j * 19)).add q)=some v:=by
   intro j hj
   have h1:=hel j hj
   rw [List.getElem?_eq_getElem (by omega),hc,Option.bind_eq_some_iff] at h1
   obtain⟨cs',hcs,hy⟩:=h1
   obtain⟨_,hl3,hcell⟩:=World.cells?_some hcs
   obtain⟨nd,rfl,hok⟩:=trod_node hl3 hy
   refine⟨nd,hok,fun q v hq=>?_⟩
   have hq2:q < nd.val.toList.length:=(List.getElem?_eq_some_iff.1 hq).1
   have:=hcell q (by omega)
   rw [this,hq]
  have plain:0 < len→∃ b o,a=⟨b,o,none⟩:=by
   intro hpos
   obtain⟨nd,_,h⟩:=each0 0 hpos
   have hc0:=h 0 _ rfl
   obtain⟨b,o,s⟩:=a
   have hs:s=none:=by
    have h8:=World.cell?_spot (show w.cell? (((⟨b,o,s⟩:Addr).add (0 * 19)).add 0)=some (Value.int .i64 nd.kd) from hc0)
    simpa [Addr.add] using h8
   exact⟨b,o,by rw [hs]⟩
  have each:∀ j,j < len→∃ nd:Nd,NdOk w w.heap.size nd∧∃ b o,a=⟨b,o,none⟩∧b < w.heap.size∧w.rangeAt b (o+j * 19) nd.val.toList:=by
   intro j hj
   obtain⟨nd,hok,h⟩:=each0 j hj
   obtain⟨b,o,rfl⟩:=plain (by omega)
   have hc0:∀ q v,nd.val.toList[q]?=some v→w.cell? ⟨b,o+j * 19+q,none⟩=some v:=by
    intro q v hq
    have:=h q v hq
    rw [Go.WideShapes.add_plain,Go.WideShapes.add_plain] at this
    exact this
   exact⟨nd,hok,b,o,rfl,block_lt (hc0 0 _ rfl),hc0⟩
  obtain⟨X,hX⟩:=choose_fn each
  refine⟨some a,X,len,cap,rfl,hl,hm,fun j hj=>?_,fun j hj=>(hX j hj).1⟩
  obtain⟨_,b,o,rfl,hb,hr⟩:=hX j hj
  exact⟨b,o,rfl,hb,hr⟩
end
end CGraph
end
section
namespace CKind
open Plain CSat CFix CShape CTensor CConv CDense CDepth
def Nd.shE (x:Nd) (H W C H2 W2 C2:Int):Int :=
 if x.kd=1 then convE H W C x.K x.S x.P x.O x.nW x.nB else if x.kd=2 then depthE H W C x.K x.S x.P x.nW x.nB else if x.kd=3 then denseE H W C x.O x.nW x.nB else if x.kd=4∨x.kd=5 then zaz H W C x.K x.S x.P C
 else if x.kd < 1∨9 < x.kd then 6 else if zad H W C=false then 5 else if x.kd=6∧(H == H2 && (W == W2 && C == C2))=false then 5 else if x.kd=8 then (if x.P < 0∨4 < x.P then 2 else if zad (H+2 * x.P) (W+2 * x.P) C=false then 5 else 0) else 0
def Nd.shV (x:Nd) (H W C H2 W2 C2:Int):Array Value :=
 if x.kd=1 then convS H W C x.K x.S x.P x.O x.nW x.nB else if x.kd=2 then depthS H W C x.K x.S x.P x.nW x.nB else if x.kd=3 then denseS H W C x.O x.nW x.nB else if x.kd=4∨x.kd=5 then za8 H W C x.K x.S x.P C
 else if x.shE H W C H2 W2 C2≠0 then #[.int .i64 0,.int .i64 0,.int .i64 0] else if x.kd=9 then #[.int .i64 1,.int .i64 1,.int .i64 (zay H W C)] else if x.kd=8 then #[.int .i64 (H+2 * x.P),.int .i64 (W+2 * x.P),.int .i64 C] else #[.int .i64 H,.int .i64 W,.int .i64 C]
theorem Nd.sh_three (x:Nd) (H W C H2 W2 C2:Int):∃ u0 u1 u2,x.shV H W C H2 W2 C2=#[.int .i64 u0,.int .i64 u1,.int .i64 u2]:=by
 unfold Nd.shV convS depthS denseS za8
 repeat' split
 all_goals exact⟨_,_,_,rfl⟩
def ShapeIs (f:FuncId) (x:Nd):Prop:=∀ (H W C H2 W2 C2 e u0 u1 u2:Int) (_:x.shE H W C H2 W2 C2=e) (_:x.shV H W C H2 W2 C2=#[.int .i64 u0,.int .i64 u1,.int .i64 u2]) (w:World),
 Calls Tryz.prog f #[.agg x.val,.agg #[.int .i64 H,.int .i64 W,.int .i64 C],.agg #[.int .i64 H2,.int .i64 W2,.int .i64 C2]] w fun r w'=>r=.returned (.tuple #[.agg #[.int .i64 u0,.int .i64 u1,.int .i64 u2],.int .i64 e])∧Below w.heap.size w w'
theorem three_inj {a b c d e f:Int} (h:(#[.int .i64 a,.int .i64 b,.int .i64 c]:Array Value)=#[.int .i64 d,.int .i64 e,.int .i64 f]):a=d∧b=e∧c=f:=by simpa using h
end CKind
end
section
namespace CDepth
open Go Go.ChangeShapes Go.WideShapes Go.ChangeAt Go.RowKit
open Plain CSat CShape CTensor CConv
theorem dep_letters {H W C K S P:Int} {nW nB:Nat} (he:depthE H W C K S P nW nB=0) :
  ∃ a b d kk:Nat,zae H K S P=(a:Int)∧zae W K S P=(b:Int)∧C=(d:Int)∧K=(kk:Int)∧a * b * d≤1024:=by
 obtain⟨hsl,hnW,hn16,hnB⟩:=depthE_ok he
 obtain⟨hs0,har1,har2, -, -,hsr⟩:=za9 hsl
 obtain⟨q1,q2,q3,q4,q5,q6,q7⟩:=zab hsr
 obtain⟨-, -,k1,k2, -⟩:=za7 har1
 obtain⟨a,ha⟩:∃ a:Nat,zae H K S P=(a:Int):=⟨(zae H K S P).toNat,by omega⟩
 obtain⟨b,hb⟩:∃ b:Nat,zae W K S P=(b:Int):=⟨(zae W K S P).toNat,by omega⟩
 obtain⟨d,hd⟩:∃ d:Nat,C=(d:Int):=⟨C.toNat,by omega⟩
 obtain⟨kk,hk⟩:∃ kk:Nat,K=(kk:Int):=⟨K.toNat,by omega⟩
 have hN:((a * b * d:Nat):Int)≤1024:=by
  have:((a * b * d:Nat):Int)=zae H K S P * zae W K S P * C:=by rw [ha,hb,hd];simp
  omega
 exact⟨a,b,d,kk,ha,hb,hd,hk,by omega⟩
end CDepth
end
section
namespace CPool
open Go Go.ChangeShapes Go.WideShapes Go.ChangeAt Go.RowKit
open Plain CSat CShape CTensor CConv
def meanF (zs:List Int) (H W C S P:Int) (kk:Nat) (h v o:Nat):Int:=meanZ (windowL zs H W C ((h:Int) * S - P) ((v:Int) * S - P) kk o)
theorem rowL_succ8 (F:Nat→Int) (k:Nat) (x:Int) (h:F k=x):I8s (rowL F k) ++ [.int .i8 x]=I8s (rowL F (k+1)):=by
 simp [I8s,rowL,List.range_succ,h]
theorem near_to (s m:Int) (s1 : -4611686018427387904≤s) (s2:s≤4611686018427387904) (m2:m≤9223372036854775807) (R:Int) (hR:nearZ s m=R) (w:World) :
  Calls Tryz.prog 84 #[.int .i64 s,.int .i64 m] w fun e w'=>e=.returned (.int .i64 R)∧∃ q,w'=w.drewN q:=by
 by_cases hm:m < 1
 ·have h0:R=0:=by rw [← hR];unfold nearZ;rw [if_pos hm]
  subst h0
  clear hR
  go_enter Tryz.func84,Tryz.ntmps84
  go_wp2_with fail
  go_ret
  exact⟨rfl,0,rfl⟩
 ·have hm1:1≤m:=by omega
  have hm9:¬ m=0:=by omega
  by_cases hs:s < 0
  ·obtain⟨z,hz⟩:∃ z,z = -s:=⟨_,rfl⟩
   have hz0:0≤z∧z≤4611686018427387904:=by omega
   have hzr:(2 * z+m) / (2 * m)=if m - z % m≤z % m then z / m+1 else z / m:=near_way hm1 hz0.1
   have hRz:R = -((2 * z+m) / (2 * m)):=by
    rw [← hR,hz];unfold nearZ;rw [if_neg hm,if_pos hs]
   rw [hzr] at hRz
   have r1:0≤z % m:=Int.emod_nonneg _ (by omega)
   have r2:z % m < m:=Int.emod_lt_of_pos _ (by omega)
   have q1:0≤z / m:=Int.ediv_nonneg hz0.1 (by omega)
   have q2:z / m≤z:=Int.ediv_le_self _ hz0.1
   have e:s = -z:=by omega
   have d1:s.tdiv m = -(z / m):=by rw [e,Int.neg_tdiv,Int.tdiv_eq_ediv_of_nonneg hz0.1]
   have d2:s.tmod m = -(z % m):=by rw [e,Int.neg_tmod,Int.tmod_eq_emod_of_nonneg hz0.1]
   generalize z / m=q at hRz q1 q2 d1
   generalize z % m=r at hRz r1 r2 d2
   obtain⟨q',hq'⟩:∃ q', -q=q':=⟨_,rfl⟩
   obtain⟨r',hr'⟩:∃ r', -r=r':=⟨_,rfl⟩
   rw [hq'] at d1
   rw [hr'] at d2
   have w1:IntKind.i64.wrap q'=q':=IntWalk.i64_in _ (by omega)
   have w2:IntKind.i64.wrap r'=r':=IntWalk.i64_in _ (by omega)
   have w3:IntKind.i64.wrap (m+r')=m+r':=IntWalk.i64_in _ (by omega)
   have w4:IntKind.i64.wrap (q' - 1)=q' - 1:=IntWalk.i64_in _ (by omega)
   have w5:IntKind.i64.wrap (-r') = -r':=IntWalk.i64_in _ (by omega)
   have w6:¬ r' > 0:=by omega
   clear hR hzr hz0
   by_cases hr:m - r≤r
   ·have hRq:R=q' - 1:=by rw [hRz,if_pos hr];omega
    have t1:r' < 0:=by omega
    have t2 : -r' ≥ m+r':=by omega
    subst hRq
    clear hRz hq' hr' hz e hr r1 r2 q1 q2
    go_enter Tryz.func84,Tryz.ntmps84
    go_wp2_with fail
    go_quiet (fail)
    go_wp2_with fail
    go_ret
    exact⟨rfl,_,rfl⟩
   ·have hRq:R=q':=by rw [hRz,if_neg hr];omega
    subst hRq
    by_cases t1:r' < 0
    ·have t2:¬ -r' ≥ m+r':=by omega
     clear hRz hr' hz e hr r1 r2 q1 q2
     go_enter Tryz.func84,Tryz.ntmps84
     go_wp2_with fail
     go_quiet (fail)
     go_wp2_with fail
     go_ret
     exact⟨rfl,_,rfl⟩
    ·clear hRz hr' hz e hr r1 r2 q1 q2
     go_enter Tryz.func84,Tryz.ntmps84
     go_wp2_with fail
     go_quiet (fail)
     go_wp2_with fail
     go_ret
     exact⟨rfl,_,rfl⟩
  ·have hz0:0≤s:=by omega
   have hzr:(2 * s+m) / (2 * m)=if m - s % m≤s % m then s / m+1 else s / m:=near_way hm1 hz0
   have hRz:R=(2 * s+m) / (2 * m):=by
    rw [← hR];unfold nearZ;rw [if_neg hm,if_neg hs]
   rw [hzr] at hRz
   have r1:0≤s % m:=Int.emod_nonneg _ (by omega)
   have r2:s % m < m:=Int.emod_lt_of_pos _ (by omega)
   have q1:0≤s / m:=Int.ediv_nonneg hz0 (by omega)
   have q2:s / m≤s:=Int.ediv_le_self _ hz0
   have d1:s.tdiv m=s / m:=Int.tdiv_eq_ediv_of_nonneg hz0
   have d2:s.tmod m=s % m:=Int.tmod_eq_emod_of_nonneg hz0
   generalize s / m=q at hRz q1 q2 d1
   generalize s % m=r at hRz r1 r2 d2
   have w1:IntKind.i64.wrap q=q:=IntWalk.i64_in _ (by omega)
   have w2:IntKind.i64.wrap r=r:=IntWalk.i64_in _ (by omega)
   have w3:IntKind.i64.wrap (m - r)=m - r:=IntWalk.i64_in _ (by omega)
   have w4:IntKind.i64.wrap (q+1)=q+1:=IntWalk.i64_in _ (by omega)
   have w6:¬ r < 0:=by omega
   clear hR hzr
   by_cases hr:m - r≤r
   ·have hRq:R=q+1:=by rw [hRz,if_pos hr]
    have t1:r > 0:=by omega
    have t2:r ≥ m - r:=by omega
    subst hRq
    clear hRz hr r1 r2 q1 q2 hz0
    go_enter Tryz.func84,Tryz.ntmps84
    go_wp2_with fail
    go_quiet (fail)
    go_wp2_with fail
    go_ret
    exact⟨rfl,_,rfl⟩
   ·have hRq:R=q:=by rw [hRz,if_neg hr]
    subst hRq
    by_cases t1:r > 0
    ·have t2:¬ r ≥ m - r:=by omega
     clear hRz hr r1 r2 q1 q2 hz0
     go_enter Tryz.func84,Tryz.ntmps84
     go_wp2_with fail
     go_quiet (fail)
     go_wp2_with fail
     go_ret
     exact⟨rfl,_,rfl⟩
    ·clear hRz hr r1 r2 q1 q2 hz0
     go_enter Tryz.func84,Tryz.ntmps84
     go_wp2_with fail
     go_quiet (fail)
     go_wp2_with fail
     go_ret
     exact⟨rfl,_,rfl⟩
end CPool
end
section
namespace CJoin
open Plain CSat CFix CShape CTensor CConv
theorem tens_pos {H W C:Int} {n:Nat} (h:tensB H W C n=true):1≤n:=by
 obtain⟨hs,hn⟩:zad H W C=true∧(n:Int)=H * W * C:=by simpa [tensB] using h
 obtain⟨g1,g2,g3,g4,g5,g6,g7⟩:=zab hs
 have:0 < H * W * C:=Int.mul_pos (Int.mul_pos (by omega) (by omega)) (by omega)
 omega
end CJoin
end
end Go.Proofs.YtahekhpeomcfjaaGreatDoor
