/- -/
import Derived.Test.YtfgdfignoakkaaaGreatDoorGBC2
import Derived.Test.YtfgdfignoakkaaaGreatDoorGBC4
open Nat (le_refl lt_of_succ_lt lt_succ_self)
set_option linter.unusedVariables false
set_option linter.unusedSimpArgs false
set_option maxRecDepth 100000
set_option maxHeartbeats 16000000
namespace Go.Proofs.YtfgdfignoakkaaaGreatDoor
namespace CKind
end CKind
namespace Kit
end Kit
open Go Go.ChangeShapes Go.WideShapes Go.ChangeAt Go.RowKit Go.Deep
section
namespace CGraph
open Kit CKind
structure NdOk (w:World) (B:Nat) (x:Nd):Prop where
 z : -128≤x.Z∧x.Z≤127
 a : -9223372036854775808≤x.na∧x.na≤9223372036854775807
 b : -9223372036854775808≤x.nb∧x.nb≤9223372036854775807
 ks:(-9223372036854775808≤x.K∧x.K≤9223372036854775807)∧(-9223372036854775808≤x.S∧x.S≤9223372036854775807)∧(-9223372036854775808≤x.P∧x.P≤9223372036854775807)∧(-9223372036854775808≤x.O∧x.O≤9223372036854775807)
 q:(-2147483648≤x.m1∧x.m1≤2147483647)∧(-2147483648≤x.m2∧x.m2≤2147483647)∧(-128≤x.z1∧x.z1≤127)∧(-128≤x.z2∧x.z2≤127)∧(-128≤x.lo∧x.lo≤127)∧(-128≤x.hi∧x.hi≤127)∧(-128≤x.Y∧x.Y≤127)
 s:(-9223372036854775808≤x.s1∧x.s1≤9223372036854775807)∧(-9223372036854775808≤x.s2∧x.s2≤9223372036854775807)∧(-9223372036854775808≤x.kd∧x.kd≤9223372036854775807)
 ws:∃ zs:List Int,zs.length=x.nW∧x.nW≤x.cW∧x.cW≤maxLen∧(∀ n∈zs,(Lit.int .i8 n).wf=true)∧Rd w B x.WA (zs.map (.int .i8))
 bs:∃ zs:List Int,zs.length=x.nB∧x.nB≤x.cB∧x.cB≤maxLen∧(∀ n∈zs,(Lit.int .i32 n).wf=true)∧Rd w B x.BA (zs.map (.int .i32))
def NodesAt (w:World) (B:Nat) (A:Option Addr) (n:Nat) (X:Nat→Nd):Prop :=
 ∀ j,j < n→∃ b o,A=some ⟨b,o,none⟩∧b < B∧w.rangeAt b (o+j * 19) (X j).val.toList
section
variable {H:Type} {enc:TypeId × Value→H} {P:Program} {w:World} {base b0:Nat} {spare:Nat→Bool} {held:Bool} {r:Reach}
theorem wf64 {n:Int} (h:(Lit.int .i64 n).wf=true) : -9223372036854775808≤n∧n≤9223372036854775807:=by simpa [Lit.wf,IntKind.min,IntKind.max,IntKind.signed,IntKind.bits] using h
theorem wf32 {n:Int} (h:(Lit.int .i32 n).wf=true) : -2147483648≤n∧n≤2147483647:=by simpa [Lit.wf,IntKind.min,IntKind.max,IntKind.signed,IntKind.bits] using h
theorem wf8 {n:Int} (h:(Lit.int .i8 n).wf=true) : -128≤n∧n≤127:=by simpa [Lit.wf,IntKind.min,IntKind.max,IntKind.signed,IntKind.bits] using h
theorem list_19 {cs:List Value} (h:cs.length=19):∃ a0 a1 a2 a3 a4 a5 a6 a7 a8 a9 a10 a11 a12 a13 a14 a15 a16 a17 a18,cs=[a0,a1,a2,a3,a4,a5,a6,a7,a8,a9,a10,a11,a12,a13,a14,a15,a16,a17,a18]:=by
 match cs,h with
 | [a0,a1,a2,a3,a4,a5,a6,a7,a8,a9,a10,a11,a12,a13,a14,a15,a16,a17,a18],_=>exact⟨a0,a1,a2,a3,a4,a5,a6,a7,a8,a9,a10,a11,a12,a13,a14,a15,a16,a17,a18,rfl⟩
theorem zaa {t:TypeId} {fs:Array Field} {fuel:Nat} {cs:List Value} {x:DataW H × List MemPlace} (ht:P.underlying t=some (.struct fs)) (h:DataW.trod enc P w base spare held fuel t cs=some x)
  {j o:Nat} {f:Field} {i:TypeId} {k:IntKind} {v:Value} (q:fs[j]?=some f) (e:f.type=i∧f.offset=o) (u:P.underlying i=some (.int k)) (c:P.cellsOf i=1) (hv:(cs.drop o).take 1=[v]):∃ n:Int,v=.int k n∧(Lit.int k n).wf=true:=by
 obtain⟨xs,n,_,_,_,hlen,hx⟩:=DataW.trod_struct ht h
 have g:=hx j f q
 rw [e.1,e.2,c,List.getElem?_eq_getElem (by rw [hlen];exact (Array.getElem?_eq_some_iff.1 q).1),hv] at g
 obtain⟨X,e0,_,w0⟩:=DataW.trod_int u g
 simp at e0
 exact⟨X,e0,w0⟩
theorem field_list {t:TypeId} {fs:Array Field} {fuel:Nat} {cs:List Value} {x:DataW H × List MemPlace} (ht:P.underlying t=some (.struct fs)) (h:DataW.trod enc P w base spare held fuel t cs=some x)
  {j o:Nat} {f:Field} {d i:TypeId} {k:IntKind} {v:Value} (q:fs[j]?=some f) (e:f.type=d∧f.offset=o) (ud:P.underlying d=some (.slice i)) (cd:P.cellsOf d=1) (u:P.underlying i=some (.int k)) (c:P.cellsOf i=1) (hv:(cs.drop o).take 1=[v]) :
  ∃ (A:Option Addr) (zs:List Int) (c:Nat),v=.slice A zs.length c∧zs.length≤c∧c≤maxLen∧(∀ n∈zs,(Lit.int k n).wf=true)∧Rd w w.heap.size A (zs.map (.int k)):=by
 obtain⟨xs,n,_,_,_,hlen,hx⟩:=DataW.trod_struct ht h
 have g:=hx j f q
 rw [e.1,e.2,cd,List.getElem?_eq_getElem (by rw [hlen];exact (Array.getElem?_eq_some_iff.1 q).1),hv] at g
 exact trod_islice_n ud u c g
theorem zad {t:TypeId} {fs:Array Field} {fuel:Nat} {cs:List Value} {x:DataW H × List MemPlace} (ht:P.underlying t=some (.struct fs)) (h:DataW.trod enc P w base spare held fuel t cs=some x)
  {j o m:Nat} {f:Field} {d:TypeId} {vs:List Value} (q:fs[j]?=some f) (e:f.type=d∧f.offset=o) (cd:P.cellsOf d=m) (hv:(cs.drop o).take m=vs):∃ n y,DataW.trod enc P w base spare held n d vs=some y:=by
 obtain⟨xs,n,_,_,_,hlen,hx⟩:=DataW.trod_struct ht h
 have g:=hx j f q
 rw [e.1,e.2,cd,List.getElem?_eq_getElem (by rw [hlen];exact (Array.getElem?_eq_some_iff.1 q).1),hv] at g
 exact⟨n,_,g⟩
end
section
variable {H:Type} {enc:TypeId × Value→H} {w:World} {base b0:Nat} {spare:Nat→Bool} {held:Bool} {r:Reach}
theorem trod_node {fuel:Nat} {cs:List Value} {x:DataW H × List MemPlace} (hl:cs.length=19) (h:DataW.trod enc Tryz.prog w base spare held fuel 54 cs=some x):∃ nd:Nd,cs=nd.val.toList∧NdOk w w.heap.size nd:=by
 obtain⟨a0,a1,a2,a3,a4,a5,a6,a7,a8,a9,a10,a11,a12,a13,a14,a15,a16,a17,a18,rfl⟩:=list_19 hl
 obtain⟨kd,rfl,wkd⟩:=zaa Tryz.underlying54 h (j:=0) (o:=0) rfl ⟨rfl,rfl⟩ Tryz.underlying3 (by kernel_rfl) rfl
 obtain⟨na,rfl,wna⟩:=zaa Tryz.underlying54 h (j:=1) (o:=1) rfl ⟨rfl,rfl⟩ Tryz.underlying3 (by kernel_rfl) rfl
 obtain⟨nb,rfl,wnb⟩:=zaa Tryz.underlying54 h (j:=2) (o:=2) rfl ⟨rfl,rfl⟩ Tryz.underlying3 (by kernel_rfl) rfl
 obtain⟨K,rfl,wK⟩:=zaa Tryz.underlying54 h (j:=3) (o:=3) rfl ⟨rfl,rfl⟩ Tryz.underlying3 (by kernel_rfl) rfl
 obtain⟨S,rfl,wS⟩:=zaa Tryz.underlying54 h (j:=4) (o:=4) rfl ⟨rfl,rfl⟩ Tryz.underlying3 (by kernel_rfl) rfl
 obtain⟨P,rfl,wP⟩:=zaa Tryz.underlying54 h (j:=5) (o:=5) rfl ⟨rfl,rfl⟩ Tryz.underlying3 (by kernel_rfl) rfl
 obtain⟨O,rfl,wO⟩:=zaa Tryz.underlying54 h (j:=6) (o:=6) rfl ⟨rfl,rfl⟩ Tryz.underlying3 (by kernel_rfl) rfl
 obtain⟨Z,rfl,wZ⟩:=zaa Tryz.underlying54 h (j:=7) (o:=7) rfl ⟨rfl,rfl⟩ Tryz.underlying50 (by kernel_rfl) rfl
 obtain⟨Y,rfl,wY⟩:=zaa Tryz.underlying54 h (j:=8) (o:=8) rfl ⟨rfl,rfl⟩ Tryz.underlying50 (by kernel_rfl) rfl
 obtain⟨WA,ws,cW,rfl,p1,p2,p3,p4⟩:=field_list Tryz.underlying54 h (j:=9) (o:=9) rfl ⟨rfl,rfl⟩ Tryz.underlying43 (by kernel_rfl) Tryz.underlying50 (by kernel_rfl) rfl
 obtain⟨BA,bs,cB,rfl,p5,p6,p7,p8⟩:=field_list Tryz.underlying54 h (j:=10) (o:=10) rfl ⟨rfl,rfl⟩ Tryz.underlying44 (by kernel_rfl) Tryz.underlying21 (by kernel_rfl) rfl
 obtain⟨_,_,g1⟩:=zad Tryz.underlying54 h (j:=11) (o:=11) (m:=3) (vs:=[a11,a12,a13]) rfl ⟨rfl,rfl⟩ (by kernel_rfl) rfl
 obtain⟨m1,rfl,wm1⟩:=zaa Tryz.underlying52 g1 (j:=0) (o:=0) rfl ⟨rfl,rfl⟩ Tryz.underlying21 (by kernel_rfl) rfl
 obtain⟨s1,rfl,ws1⟩:=zaa Tryz.underlying52 g1 (j:=1) (o:=1) rfl ⟨rfl,rfl⟩ Tryz.underlying3 (by kernel_rfl) rfl
 obtain⟨z1,rfl,wz1⟩:=zaa Tryz.underlying52 g1 (j:=2) (o:=2) rfl ⟨rfl,rfl⟩ Tryz.underlying50 (by kernel_rfl) rfl
 obtain⟨_,_,g2⟩:=zad Tryz.underlying54 h (j:=12) (o:=14) (m:=3) (vs:=[a14,a15,a16]) rfl ⟨rfl,rfl⟩ (by kernel_rfl) rfl
 obtain⟨m2,rfl,wm2⟩:=zaa Tryz.underlying52 g2 (j:=0) (o:=0) rfl ⟨rfl,rfl⟩ Tryz.underlying21 (by kernel_rfl) rfl
 obtain⟨s2,rfl,ws2⟩:=zaa Tryz.underlying52 g2 (j:=1) (o:=1) rfl ⟨rfl,rfl⟩ Tryz.underlying3 (by kernel_rfl) rfl
 obtain⟨z2,rfl,wz2⟩:=zaa Tryz.underlying52 g2 (j:=2) (o:=2) rfl ⟨rfl,rfl⟩ Tryz.underlying50 (by kernel_rfl) rfl
 obtain⟨lo,rfl,wlo⟩:=zaa Tryz.underlying54 h (j:=13) (o:=17) rfl ⟨rfl,rfl⟩ Tryz.underlying50 (by kernel_rfl) rfl
 obtain⟨hi,rfl,whi⟩:=zaa Tryz.underlying54 h (j:=14) (o:=18) rfl ⟨rfl,rfl⟩ Tryz.underlying50 (by kernel_rfl) rfl
 exact⟨⟨kd,na,nb,K,S,P,O,Z,Y,WA,ws.length,cW,BA,bs.length,cB,m1,s1,z1,m2,s2,z2,lo,hi⟩,rfl,⟨wf8 wZ,wf64 wna,wf64 wnb,⟨wf64 wK,wf64 wS,wf64 wP,wf64 wO⟩,⟨wf32 wm1,wf32 wm2,wf8 wz1,wf8 wz2,wf8 wlo,wf8 whi,wf8 wY⟩,⟨wf64 ws1,wf64 ws2,wf64 wkd⟩,⟨ws,rfl,p1,p2,p3,p4⟩,⟨bs,rfl,p5,p6,p7,p8⟩⟩⟩
def nd0:Nd:=⟨0,0,0,0,0,0,0,0,0,none,0,0,none,0,0,0,0,0,0,0,0,0,0⟩
end
end CGraph
end
end Go.Proofs.YtfgdfignoakkaaaGreatDoor
