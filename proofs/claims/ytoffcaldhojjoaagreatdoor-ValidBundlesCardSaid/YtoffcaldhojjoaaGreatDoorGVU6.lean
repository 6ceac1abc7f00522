/- -/
import Derived.Deep.CutRange
import Derived.Test.YtoffcaldhojjoaaGreatDoorGVU5
open Go.Lib (hid)
open Nat (le_refl lt_of_succ_lt lt_succ_self)
set_option linter.unusedVariables false
set_option linter.unusedSimpArgs false
set_option maxRecDepth 100000
set_option maxHeartbeats 16000000
namespace Go.Proofs.YtoffcaldhojjoaaGreatDoor
namespace CConv
end CConv
namespace CKind
end CKind
namespace CSat
end CSat
namespace CTensor
end CTensor
namespace Kit
end Kit
open Go Go.ChangeShapes Go.WideShapes Go.ChangeAt Go.RowKit Go.Deep
section
namespace CConv
open Go Go.ChangeShapes Go.WideShapes Go.ChangeAt Go.RowKit
open Plain CSat CShape CTensor
def psum (G:Nat→Int):Nat→Int
 | 0=>0
 | n+1=>psum G n+G n
theorem psum_bd {G:Nat→Int} {b:Int} {n:Nat} (h:∀ k,k < n → -b≤G k∧G k≤b) : -(b * n)≤psum G n∧psum G n≤b * n:=by
 induction n with
 | zero=>simp [psum]
 | succ n ih =>
   have h1:=ih (fun k hk=>h k (by omega))
   have h2:=h n (by omega)
   have e:b * ((n+1:Nat):Int)=b * (n:Int)+b:=by rw [show ((n+1:Nat):Int)=(n:Int)+1 by omega,Int.mul_add,Int.mul_one]
   rw [e]
   simp only [psum]
   omega
theorem term_bd {x y z:Int} (x1 : -128≤x) (x2:x≤127) (y1 : -128≤y) (y2:y≤127) (z1 : -128≤z) (z2:z≤127) : -32640≤y * (x - z)∧y * (x - z)≤32640:=by
 have h1 : -255≤x - z:=by omega
 have h2:x - z≤255:=by omega
 generalize x - z=u at h1 h2
 have a1:0≤(128+y) * (255 - u):=Int.mul_nonneg (by omega) (by omega)
 have a2:0≤(128+y) * (255+u):=Int.mul_nonneg (by omega) (by omega)
 have a3:0≤(127 - y) * (255 - u):=Int.mul_nonneg (by omega) (by omega)
 have a4:0≤(127 - y) * (255+u):=Int.mul_nonneg (by omega) (by omega)
 simp only [Int.add_mul,Int.sub_mul,Int.mul_sub,Int.mul_add] at a1 a2 a3 a4
 omega
def I8b (zs:List Int):Prop:=∀ q, -128≤zs.getD q 0∧zs.getD q 0≤127
theorem zb3 {w:World} {B:Nat} {A:Option Addr} {k:IntKind} {zs:List Int} (h:Kit.Rd w B A (zs.map (.int k))) {j:Nat} (hj:j < zs.length) :
  ∃ b off,A=some ⟨b,off,none⟩∧b < B∧∀ i,i < zs.length→w.cell? ⟨b,off+i,none⟩=some (.int k (zs.getD i 0)):=by
 obtain⟨b,off,e,hb,hc⟩:=h.plain (by simp;omega)
 exact⟨b,off,e,hb,fun i hi=>hc i _ (by simp [List.getD_eq_getElem?_getD,List.getElem?_eq_getElem hi])⟩
def zay (B:Nat) (x0 x1 x2 x8 x11 x12 x13 x14 x15 x16 x17 x18:Value) (K S P O Z:Int) (WA BA:Option Addr) (nW cW nB cB:Nat) (wd:World):Prop:=wd.rangeAt B 0 [x0,x1,x2,.int .i64 K,.int .i64 S,.int .i64 P,.int .i64 O,.int .i8 Z,x8,.slice WA nW cW,.slice BA nB cB,x11,x12,x13,x14,x15,x16,x17,x18]
theorem zay.new (x0 x1 x2 x8 x11 x12 x13 x14 x15 x16 x17 x18:Value) (K S P O Z:Int) (WA BA:Option Addr) (nW cW nB cB:Nat) (T:TypeId) (w:World):zay w.heap.size x0 x1 x2 x8 x11 x12 x13 x14 x15 x16 x17 x18 K S P O Z WA BA nW cW nB cB (w.alloc (.cells #[x0,x1,x2,.int .i64 K,.int .i64 S,.int .i64 P,.int .i64 O,.int .i8 Z,x8,.slice WA nW cW,.slice BA nB cB,x11,x12,x13,x14,x15,x16,x17,x18] T)):=fun j v hj=>by
 rw [Nat.zero_add,Kit.zal]
 simpa using hj
theorem zay.below {B B':Nat} {x0 x1 x2 x8 x11 x12 x13 x14 x15 x16 x17 x18:Value} {K S P O Z:Int} {WA BA:Option Addr} {nW cW nB cB:Nat} {w w':World} (h:zay B x0 x1 x2 x8 x11 x12 x13 x14 x15 x16 x17 x18 K S P O Z WA BA nW cW nB cB w) (hB:B < B') (hb:Below B' w w'):zay B x0 x1 x2 x8 x11 x12 x13 x14 x15 x16 x17 x18 K S P O Z WA BA nW cW nB cB w':=fun j v hj =>
 (hb.cell (p:=⟨B,0+j,none⟩) hB).trans (h j v hj)
theorem zay.at {B:Nat} {x0 x1 x2 x8 x11 x12 x13 x14 x15 x16 x17 x18:Value} {K S P O Z:Int} {WA BA:Option Addr} {nW cW nB cB:Nat} {w:World} (h:zay B x0 x1 x2 x8 x11 x12 x13 x14 x15 x16 x17 x18 K S P O Z WA BA nW cW nB cB w) (i:Nat) (v:Value) (hi:([x0,x1,x2,.int .i64 K,.int .i64 S,.int .i64 P,.int .i64 O,.int .i8 Z,x8,.slice WA nW cW,.slice BA nB cB,x11,x12,x13,x14,x15,x16,x17,x18]:List Value)[i]?=some v):w.cell? ⟨B,i,none⟩=some v:=by
 have:=h i v hi
 rwa [Nat.zero_add] at this
end CConv
end
section
namespace CKind
open Plain CSat CShape CTensor CConv
structure Nd where
 (kd na nb K S P O Z Y:Int)
 (WA:Option Addr)
 (nW cW:Nat)
 (BA:Option Addr)
 (nB cB:Nat)
 (m1 s1 z1 m2 s2 z2 lo hi:Int)
def Nd.val (x:Nd):Array Value:=#[.int .i64 x.kd,.int .i64 x.na,.int .i64 x.nb,.int .i64 x.K,.int .i64 x.S,.int .i64 x.P,.int .i64 x.O,.int .i8 x.Z,.int .i8 x.Y,.slice x.WA x.nW x.cW,.slice x.BA x.nB x.cB,.int .i32 x.m1,.int .i64 x.s1,.int .i8 x.z1,.int .i32 x.m2,.int .i64 x.s2,.int .i8 x.z2,.int .i8 x.lo,.int .i8 x.hi]
def zad (k:Int):Bool:=k == 1 || k == 2 || k == 3 || k == 6 || k == 7
def sumsB (k:Int):Bool:=k == 1 || k == 2 || k == 3
def zai (k:Int):Bool:=k == 1 || k == 2 || k == 4 || k == 5
def Nd.moreB (x:Nd):Bool :=
 (!sumsB x.kd && (decide (0 < x.nW) || decide (0 < x.nB))) || (x.kd != 1 && x.kd != 3 && x.O != 0) || (!zai x.kd && (x.K != 0 || x.S != 0)) || (!zai x.kd && x.kd != 8 && x.P != 0) ||
 (x.kd != 6 && (x.nb != 0 || x.Y != 0 || x.m2 != 0 || x.s2 != 0)) || x.z2 != 0 || (!zad x.kd && (x.m1 != 0 || x.s1 != 0 || x.z1 != 0 || x.lo != 0 || x.hi != 0)) || (!zad x.kd && x.kd != 8 && x.Z != 0)
theorem zab (k:Int) (w:World):Calls Tryz.prog 35 #[.int .i64 k] w fun e w'=>e=.returned (.bool (zad k))∧w=w':=by
 go_enter Tryz.func35,Tryz.ntmps35
 go_wp2_with fail
 all_goals go_ret
 all_goals exact⟨by simp_all [zad],rfl⟩
def MoreIs (x:Nd):Prop:=∀ w:World,Calls Tryz.prog 34 #[.agg x.val] w fun e w'=>e=.returned (.bool x.moreB)∧Below w.heap.size w w'
def NdAt (g:Nat) (x:Nd) (w:World):Prop:=w.rangeAt g 0 x.val.toList
theorem NdAt.at {g:Nat} {x:Nd} {w:World} (h:NdAt g x w) (i:Nat) (v:Value) (hi:x.val.toList[i]?=some v):w.cell? ⟨g,i,none⟩=some v:=by
 have:=h i v hi
 rwa [Nat.zero_add] at this
theorem NdAt.below {g B:Nat} {x:Nd} {w w':World} (h:NdAt g x w) (hB:g < B) (hb:Below B w w'):NdAt g x w':=fun j v hj=>(hb.cell (p:=⟨g,0+j,none⟩) hB).trans (h j v hj)
theorem NdAt.new (x:Nd) (T:TypeId) (w:World):NdAt w.heap.size x (w.alloc (.cells x.val T)):=fun j v hj=>by
 rw [Nat.zero_add,Kit.zal]
 simpa using hj
end CKind
end
section
namespace CGraph
open Kit CKind
structure NdOk (w:World) (B:Nat) (x:Nd):Prop where
 z : -128≤x.Z∧x.Z≤127
 a : -9223372036854775808≤x.na∧x.na≤9223372036854775807
 b : -9223372036854775808≤x.nb∧x.nb≤9223372036854775807
 ks:(-9223372036854775808≤x.K∧x.K≤9223372036854775807)∧(-9223372036854775808≤x.S∧x.S≤9223372036854775807)∧(-9223372036854775808≤x.P∧x.P≤9223372036854775807)∧(-9223372036854775808≤x.O∧x.O≤9223372036854775807)
 q:(-2147483648≤x.m1∧x.m1≤2147483647)∧(-2147483648≤x.m2∧x.m2≤2147483647)∧(-128≤x.z1∧x.z1≤127)∧(-128≤x.z2∧x.z2≤127)∧(-128≤x.lo∧x.lo≤127)∧(-128≤x.hi∧x.hi≤127)∧(-128≤x.Y∧x.Y≤127)
 s:(-9223372036854775808≤x.s1∧x.s1≤9223372036854775807)∧(-9223372036854775808≤x.s2∧x.s2≤9223372036854775807)∧(-9223372036854775808≤x.kd∧x.kd≤9223372036854775807)
 ws:∃ zs:List Int,zs.length=x.nW∧x.nW≤x.cW∧x.cW≤maxLen∧(∀ n∈zs,(Lit.int .i8 n).wf=true)∧Rd w B x.WA (zs.map (.int .i8))
 bs:∃ zs:List Int,zs.length=x.nB∧x.nB≤x.cB∧x.cB≤maxLen∧(∀ n∈zs,(Lit.int .i32 n).wf=true)∧Rd w B x.BA (zs.map (.int .i32))
def NodesAt (w:World) (B:Nat) (A:Option Addr) (n:Nat) (X:Nat→Nd):Prop :=
 ∀ j,j < n→∃ b o,A=some ⟨b,o,none⟩∧b < B∧w.rangeAt b (o+j * 19) (X j).val.toList
section
variable {H:Type} {enc:TypeId × Value→H} {P:Program} {w:World} {base b0:Nat} {spare:Nat→Bool} {held:Bool} {r:Reach}
theorem wf64 {n:Int} (h:(Lit.int .i64 n).wf=true) : -9223372036854775808≤n∧n≤9223372036854775807:=by simpa [Lit.wf,IntKind.min,IntKind.max,IntKind.signed,IntKind.bits] using h
theorem wf32 {n:Int} (h:(Lit.int .i32 n).wf=true) : -2147483648≤n∧n≤2147483647:=by simpa [Lit.wf,IntKind.min,IntKind.max,IntKind.signed,IntKind.bits] using h
theorem wf8 {n:Int} (h:(Lit.int .i8 n).wf=true) : -128≤n∧n≤127:=by simpa [Lit.wf,IntKind.min,IntKind.max,IntKind.signed,IntKind.bits] using h
theorem list_19 {cs:List Value} (h:cs.length=19):∃ a0 a1 a2 a3 a4 a5 a6 a7 a8 a9 a10 a11 a12 a13 a14 a15 a16 a17 a18,cs=[a0,a1,a2,a3,a4,a5,a6,a7,a8,a9,a10,a11,a12,a13,a14,a15,a16,a17,a18]:=by
 match cs,h with
 | [a0,a1,a2,a3,a4,a5,a6,a7,a8,a9,a10,a11,a12,a13,a14,a15,a16,a17,a18],_=>exact⟨a0,a1,a2,a3,a4,a5,a6,a7,a8,a9,a10,a11,a12,a13,a14,a15,a16,a17,a18,rfl⟩
theorem zaz {t:TypeId} {fs:Array Field} {fuel:Nat} {cs:List Value} {x:DataW H × List MemPlace} (ht:P.underlying t=some (.struct fs)) (h:DataW.trod enc P w base spare held fuel t cs=some x)
  {j o:Nat} {f:Field} {i:TypeId} {k:IntKind} {v:Value} (q:fs[j]?=some f) (e:f.type=i∧f.offset=o) (u:P.underlying i=some (.int k)) (c:P.cellsOf i=1) (hv:(cs.drop o).take 1=[v]):∃ n:Int,v=.int k n∧(Lit.int k n).wf=true:=by
 obtain⟨xs,n,_,_,_,hlen,hx⟩:=DataW.trod_struct ht h
 have g:=hx j f q
 rw [e.1,e.2,c,List.getElem?_eq_getElem (by rw [hlen];exact (Array.getElem?_eq_some_iff.1 q).1),hv] at g
 obtain⟨X,e0,_,w0⟩:=DataW.trod_int u g
 simp at e0
 exact⟨X,e0,w0⟩
theorem field_list {t:TypeId} {fs:Array Field} {fuel:Nat} {cs:List Value} {x:DataW H × List MemPlace} (ht:P.underlying t=some (.struct fs)) (h:DataW.trod enc P w base spare held fuel t cs=some x)
  {j o:Nat} {f:Field} {d i:TypeId} {k:IntKind} {v:Value} (q:fs[j]?=some f) (e:f.type=d∧f.offset=o) (ud:P.underlying d=some (.slice i)) (cd:P.cellsOf d=1) (u:P.underlying i=some (.int k)) (c:P.cellsOf i=1) (hv:(cs.drop o).take 1=[v]) :
  ∃ (A:Option Addr) (zs:List Int) (c:Nat),v=.slice A zs.length c∧zs.length≤c∧c≤maxLen∧(∀ n∈zs,(Lit.int k n).wf=true)∧Rd w w.heap.size A (zs.map (.int k)):=by
 obtain⟨xs,n,_,_,_,hlen,hx⟩:=DataW.trod_struct ht h
 have g:=hx j f q
 rw [e.1,e.2,cd,List.getElem?_eq_getElem (by rw [hlen];exact (Array.getElem?_eq_some_iff.1 q).1),hv] at g
 exact trod_islice_n ud u c g
theorem zbl {t:TypeId} {fs:Array Field} {fuel:Nat} {cs:List Value} {x:DataW H × List MemPlace} (ht:P.underlying t=some (.struct fs)) (h:DataW.trod enc P w base spare held fuel t cs=some x)
  {j o m:Nat} {f:Field} {d:TypeId} {vs:List Value} (q:fs[j]?=some f) (e:f.type=d∧f.offset=o) (cd:P.cellsOf d=m) (hv:(cs.drop o).take m=vs):∃ n y,DataW.trod enc P w base spare held n d vs=some y:=by
 obtain⟨xs,n,_,_,_,hlen,hx⟩:=DataW.trod_struct ht h
 have g:=hx j f q
 rw [e.1,e.2,cd,List.getElem?_eq_getElem (by rw [hlen];exact (Array.getElem?_eq_some_iff.1 q).1),hv] at g
 exact⟨n,_,g⟩
end
section
variable {H:Type} {enc:TypeId × Value→H} {w:World} {base b0:Nat} {spare:Nat→Bool} {held:Bool} {r:Reach}
theorem trod_node {fuel:Nat} {cs:List Value} {x:DataW H × List MemPlace} (hl:cs.length=19) (h:DataW.trod enc Tryz.prog w base spare held fuel 61 cs=some x):∃ nd:Nd,cs=nd.val.toList∧NdOk w w.heap.size nd:=by
 obtain⟨a0,a1,a2,a3,a4,a5,a6,a7,a8,a9,a10,a11,a12,a13,a14,a15,a16,a17,a18,rfl⟩:=list_19 hl
 obtain⟨kd,rfl,wkd⟩:=zaz Tryz.underlying61 h (j:=0) (o:=0) rfl ⟨rfl,rfl⟩ Tryz.underlying3 (by kernel_rfl) rfl
 obtain⟨na,rfl,wna⟩:=zaz Tryz.underlying61 h (j:=1) (o:=1) rfl ⟨rfl,rfl⟩ Tryz.underlying3 (by kernel_rfl) rfl
 obtain⟨nb,rfl,wnb⟩:=zaz Tryz.underlying61 h (j:=2) (o:=2) rfl ⟨rfl,rfl⟩ Tryz.underlying3 (by kernel_rfl) rfl
 obtain⟨K,rfl,wK⟩:=zaz Tryz.underlying61 h (j:=3) (o:=3) rfl ⟨rfl,rfl⟩ Tryz.underlying3 (by kernel_rfl) rfl
 obtain⟨S,rfl,wS⟩:=zaz Tryz.underlying61 h (j:=4) (o:=4) rfl ⟨rfl,rfl⟩ Tryz.underlying3 (by kernel_rfl) rfl
 obtain⟨P,rfl,wP⟩:=zaz Tryz.underlying61 h (j:=5) (o:=5) rfl ⟨rfl,rfl⟩ Tryz.underlying3 (by kernel_rfl) rfl
 obtain⟨O,rfl,wO⟩:=zaz Tryz.underlying61 h (j:=6) (o:=6) rfl ⟨rfl,rfl⟩ Tryz.underlying3 (by kernel_rfl) rfl
 obtain⟨Z,rfl,wZ⟩:=zaz Tryz.underlying61 h (j:=7) (o:=7) rfl ⟨rfl,rfl⟩ Tryz.underlying57 (by kernel_rfl) rfl
 obtain⟨Y,rfl,wY⟩:=zaz Tryz.underlying61 h (j:=8) (o:=8) rfl ⟨rfl,rfl⟩ Tryz.underlying57 (by kernel_rfl) rfl
 obtain⟨WA,ws,cW,rfl,p1,p2,p3,p4⟩:=field_list Tryz.underlying61 h (j:=9) (o:=9) rfl ⟨rfl,rfl⟩ Tryz.underlying41 (by kernel_rfl) Tryz.underlying57 (by kernel_rfl) rfl
 obtain⟨BA,bs,cB,rfl,p5,p6,p7,p8⟩:=field_list Tryz.underlying61 h (j:=10) (o:=10) rfl ⟨rfl,rfl⟩ Tryz.underlying42 (by kernel_rfl) Tryz.underlying21 (by kernel_rfl) rfl
 obtain⟨_,_,g1⟩:=zbl Tryz.underlying61 h (j:=11) (o:=11) (m:=3) (vs:=[a11,a12,a13]) rfl ⟨rfl,rfl⟩ (by kernel_rfl) rfl
 obtain⟨m1,rfl,wm1⟩:=zaz Tryz.underlying59 g1 (j:=0) (o:=0) rfl ⟨rfl,rfl⟩ Tryz.underlying21 (by kernel_rfl) rfl
 obtain⟨s1,rfl,ws1⟩:=zaz Tryz.underlying59 g1 (j:=1) (o:=1) rfl ⟨rfl,rfl⟩ Tryz.underlying3 (by kernel_rfl) rfl
 obtain⟨z1,rfl,wz1⟩:=zaz Tryz.underlying59 g1 (j:=2) (o:=2) rfl ⟨rfl,rfl⟩ Tryz.underlying57 (by kernel_rfl) rfl
 obtain⟨_,_,g2⟩:=zbl Tryz.underlying61 h (j:=12) (o:=14) (m:=3) (vs:=[a14,a15,a16]) rfl ⟨rfl,rfl⟩ (by kernel_rfl) rfl
 obtain⟨m2,rfl,wm2⟩:=zaz Tryz.underlying59 g2 (j:=0) (o:=0) rfl ⟨rfl,rfl⟩ Tryz.underlying21 (by kernel_rfl) rfl
 obtain⟨s2,rfl,ws2⟩:=zaz Tryz.underlying59 g2 (j:=1) (o:=1) rfl ⟨rfl,rfl⟩ Tryz.underlying3 (by kernel_rfl) rfl
 obtain⟨z2,rfl,wz2⟩:=zaz Tryz.underlying59 g2 (j:=2) (o:=2) rfl ⟨rfl,rfl⟩ Tryz.underlying57 (by kernel_rfl) rfl
 obtain⟨lo,rfl,wlo⟩:=zaz Tryz.underlying61 h (j:=13) (o:=17) rfl ⟨rfl,rfl⟩ Tryz.underlying57 (by kernel_rfl) rfl
 obtain⟨hi,rfl,whi⟩:=zaz Tryz.underlying61 h (j:=14) (o:=18) rfl ⟨rfl,rfl⟩ Tryz.underlying57 (by kernel_rfl) rfl
 exact⟨⟨kd,na,nb,K,S,P,O,Z,Y,WA,ws.length,cW,BA,bs.length,cB,m1,s1,z1,m2,s2,z2,lo,hi⟩,rfl,⟨wf8 wZ,wf64 wna,wf64 wnb,⟨wf64 wK,wf64 wS,wf64 wP,wf64 wO⟩,⟨wf32 wm1,wf32 wm2,wf8 wz1,wf8 wz2,wf8 wlo,wf8 whi,wf8 wY⟩,⟨wf64 ws1,wf64 ws2,wf64 wkd⟩,⟨ws,rfl,p1,p2,p3,p4⟩,⟨bs,rfl,p5,p6,p7,p8⟩⟩⟩
def nd0:Nd:=⟨0,0,0,0,0,0,0,0,0,none,0,0,none,0,0,0,0,0,0,0,0,0,0⟩
end
end CGraph
end
section
namespace CKind
open Plain CSat CShape CTensor CConv
theorem more_1 (x:Nd) (hk:x.kd=1):MoreIs x:=fun w=>by
 have TN:=hid (NdAt.new x 61 w)
 have HB:=hid ((Below.refl w.heap.size w).alloc (le_refl _) (.cells x.val 61))
 have HK:=hid hk
 clear hk
 unfold Nd.val at *
 go_enter Tryz.func34,Tryz.ntmps34
 go_upto_region 1 with fail
 generalize w.alloc (.cells #[.int .i64 x.kd,.int .i64 x.na,.int .i64 x.nb,.int .i64 x.K,.int .i64 x.S,.int .i64 x.P,.int .i64 x.O,.int .i8 x.Z,.int .i8 x.Y,.slice x.WA x.nW x.cW,.slice x.BA x.nB x.cB,.int .i32 x.m1,.int .i64 x.s1,.int .i8 x.z1,.int .i32 x.m2,.int .i64 x.s2,.int .i8 x.z2,.int .i8 x.lo,.int .i8 x.hi] 61)=W0 at TN HB ⊢
 have n0:=TN.out.at 0 _ rfl
 have n2:=TN.out.at 2 _ rfl
 have n8:=TN.out.at 8 _ rfl
 have n14:=TN.out.at 14 _ rfl
 have n15:=TN.out.at 15 _ rfl
 have n16:=TN.out.at 16 _ rfl
 have hk:=HK.out
 rw [hk] at n0
 have hsc:zad 1=true:=by decide
 go_upto_region 6 with (go_at_call 35;(refine (zab _ _).mono ?_);rintro e w1 ⟨rfl,rfl⟩)
 go_upto_region 8 with (go_at_call 35;(refine (zab _ _).mono ?_);rintro e w1 ⟨rfl,rfl⟩)
 by_cases c10:x.nb=0∧x.Y=0∧x.m2=0∧x.s2=0∧x.z2=0
 rotate_left
 ·rcases (show (¬ x.nb=0)∨(x.nb=0∧¬ x.Y=0)∨(x.nb=0∧x.Y=0∧¬ x.m2=0)∨(x.nb=0∧x.Y=0∧x.m2=0∧¬ x.s2=0)∨(x.nb=0∧x.Y=0∧x.m2=0∧x.s2=0∧¬ x.z2=0) by omega) with c10_0 | ⟨c10_0,c10_1⟩ | ⟨c10_0,c10_1,c10_2⟩ | ⟨c10_0,c10_1,c10_2,c10_3⟩ | ⟨c10_0,c10_1,c10_2,c10_3,c10_4⟩
  all_goals (go_wp2_with (go_at_call 35;(refine (zab _ _).mono ?_);rintro e w1 ⟨rfl,rfl⟩);go_ret;exact⟨by first | (simp [Nd.moreB,sumsB,zai,zad, *];done) | (simp [Nd.moreB,sumsB,zai,zad, *];omega),HB.out⟩)
 obtain⟨d2,d8,d14,d15,d16⟩:=c10
 go_upto_region 10 with (go_at_call 35;(refine (zab _ _).mono ?_);rintro e w1 ⟨rfl,rfl⟩)
 go_upto_region 12 with (go_at_call 35;(refine (zab _ _).mono ?_);rintro e w1 ⟨rfl,rfl⟩)
 go_wp2_with (go_at_call 35;(refine (zab _ _).mono ?_);rintro e w1 ⟨rfl,rfl⟩)
 go_ret
 exact⟨by first | (simp [Nd.moreB,sumsB,zai,zad, *];done) | (simp [Nd.moreB,sumsB,zai,zad, *];omega),HB.out⟩
theorem more_2 (x:Nd) (hk:x.kd=2):MoreIs x:=fun w=>by
 have TN:=hid (NdAt.new x 61 w)
 have HB:=hid ((Below.refl w.heap.size w).alloc (le_refl _) (.cells x.val 61))
 have HK:=hid hk
 clear hk
 unfold Nd.val at *
 go_enter Tryz.func34,Tryz.ntmps34
 go_upto_region 1 with fail
 generalize w.alloc (.cells #[.int .i64 x.kd,.int .i64 x.na,.int .i64 x.nb,.int .i64 x.K,.int .i64 x.S,.int .i64 x.P,.int .i64 x.O,.int .i8 x.Z,.int .i8 x.Y,.slice x.WA x.nW x.cW,.slice x.BA x.nB x.cB,.int .i32 x.m1,.int .i64 x.s1,.int .i8 x.z1,.int .i32 x.m2,.int .i64 x.s2,.int .i8 x.z2,.int .i8 x.lo,.int .i8 x.hi] 61)=W0 at TN HB ⊢
 have n0:=TN.out.at 0 _ rfl
 have n2:=TN.out.at 2 _ rfl
 have n6:=TN.out.at 6 _ rfl
 have n8:=TN.out.at 8 _ rfl
 have n14:=TN.out.at 14 _ rfl
 have n15:=TN.out.at 15 _ rfl
 have n16:=TN.out.at 16 _ rfl
 have hk:=HK.out
 rw [hk] at n0
 have hsc:zad 2=true:=by decide
 by_cases c6:x.O=0
 rotate_left
 ·rcases (show (¬ x.O=0) by omega) with c6_0
  all_goals (go_wp2_with (go_at_call 35;(refine (zab _ _).mono ?_);rintro e w1 ⟨rfl,rfl⟩);go_ret;exact⟨by first | (simp [Nd.moreB,sumsB,zai,zad, *];done) | (simp [Nd.moreB,sumsB,zai,zad, *];omega),HB.out⟩)
 have d6:=c6
 go_upto_region 6 with (go_at_call 35;(refine (zab _ _).mono ?_);rintro e w1 ⟨rfl,rfl⟩)
 go_upto_region 8 with (go_at_call 35;(refine (zab _ _).mono ?_);rintro e w1 ⟨rfl,rfl⟩)
 by_cases c10:x.nb=0∧x.Y=0∧x.m2=0∧x.s2=0∧x.z2=0
 rotate_left
 ·rcases (show (¬ x.nb=0)∨(x.nb=0∧¬ x.Y=0)∨(x.nb=0∧x.Y=0∧¬ x.m2=0)∨(x.nb=0∧x.Y=0∧x.m2=0∧¬ x.s2=0)∨(x.nb=0∧x.Y=0∧x.m2=0∧x.s2=0∧¬ x.z2=0) by omega) with c10_0 | ⟨c10_0,c10_1⟩ | ⟨c10_0,c10_1,c10_2⟩ | ⟨c10_0,c10_1,c10_2,c10_3⟩ | ⟨c10_0,c10_1,c10_2,c10_3,c10_4⟩
  all_goals (go_wp2_with (go_at_call 35;(refine (zab _ _).mono ?_);rintro e w1 ⟨rfl,rfl⟩);go_ret;exact⟨by first | (simp [Nd.moreB,sumsB,zai,zad, *];done) | (simp [Nd.moreB,sumsB,zai,zad, *];omega),HB.out⟩)
 obtain⟨d2,d8,d14,d15,d16⟩:=c10
 go_upto_region 10 with (go_at_call 35;(refine (zab _ _).mono ?_);rintro e w1 ⟨rfl,rfl⟩)
 go_upto_region 12 with (go_at_call 35;(refine (zab _ _).mono ?_);rintro e w1 ⟨rfl,rfl⟩)
 go_wp2_with (go_at_call 35;(refine (zab _ _).mono ?_);rintro e w1 ⟨rfl,rfl⟩)
 go_ret
 exact⟨by first | (simp [Nd.moreB,sumsB,zai,zad, *];done) | (simp [Nd.moreB,sumsB,zai,zad, *];omega),HB.out⟩
theorem more_3 (x:Nd) (hk:x.kd=3):MoreIs x:=fun w=>by
 have TN:=hid (NdAt.new x 61 w)
 have HB:=hid ((Below.refl w.heap.size w).alloc (le_refl _) (.cells x.val 61))
 have HK:=hid hk
 clear hk
 unfold Nd.val at *
 go_enter Tryz.func34,Tryz.ntmps34
 go_upto_region 1 with fail
 generalize w.alloc (.cells #[.int .i64 x.kd,.int .i64 x.na,.int .i64 x.nb,.int .i64 x.K,.int .i64 x.S,.int .i64 x.P,.int .i64 x.O,.int .i8 x.Z,.int .i8 x.Y,.slice x.WA x.nW x.cW,.slice x.BA x.nB x.cB,.int .i32 x.m1,.int .i64 x.s1,.int .i8 x.z1,.int .i32 x.m2,.int .i64 x.s2,.int .i8 x.z2,.int .i8 x.lo,.int .i8 x.hi] 61)=W0 at TN HB ⊢
 have n0:=TN.out.at 0 _ rfl
 have n2:=TN.out.at 2 _ rfl
 have n3:=TN.out.at 3 _ rfl
 have n4:=TN.out.at 4 _ rfl
 have n5:=TN.out.at 5 _ rfl
 have n8:=TN.out.at 8 _ rfl
 have n14:=TN.out.at 14 _ rfl
 have n15:=TN.out.at 15 _ rfl
 have n16:=TN.out.at 16 _ rfl
 have hk:=HK.out
 rw [hk] at n0
 have hsc:zad 3=true:=by decide
 go_upto_region 6 with (go_at_call 35;(refine (zab _ _).mono ?_);rintro e w1 ⟨rfl,rfl⟩)
 by_cases c8:x.K=0∧x.S=0∧x.P=0
 rotate_left
 ·rcases (show (¬ x.K=0)∨(x.K=0∧¬ x.S=0)∨(x.K=0∧x.S=0∧¬ x.P=0) by omega) with c8_0 | ⟨c8_0,c8_1⟩ | ⟨c8_0,c8_1,c8_2⟩
  all_goals (go_wp2_with (go_at_call 35;(refine (zab _ _).mono ?_);rintro e w1 ⟨rfl,rfl⟩);go_ret;exact⟨by first | (simp [Nd.moreB,sumsB,zai,zad, *];done) | (simp [Nd.moreB,sumsB,zai,zad, *];omega),HB.out⟩)
 obtain⟨d3,d4,d5⟩:=c8
 go_upto_region 8 with (go_at_call 35;(refine (zab _ _).mono ?_);rintro e w1 ⟨rfl,rfl⟩)
 by_cases c10:x.nb=0∧x.Y=0∧x.m2=0∧x.s2=0∧x.z2=0
 rotate_left
 ·rcases (show (¬ x.nb=0)∨(x.nb=0∧¬ x.Y=0)∨(x.nb=0∧x.Y=0∧¬ x.m2=0)∨(x.nb=0∧x.Y=0∧x.m2=0∧¬ x.s2=0)∨(x.nb=0∧x.Y=0∧x.m2=0∧x.s2=0∧¬ x.z2=0) by omega) with c10_0 | ⟨c10_0,c10_1⟩ | ⟨c10_0,c10_1,c10_2⟩ | ⟨c10_0,c10_1,c10_2,c10_3⟩ | ⟨c10_0,c10_1,c10_2,c10_3,c10_4⟩
  all_goals (go_wp2_with (go_at_call 35;(refine (zab _ _).mono ?_);rintro e w1 ⟨rfl,rfl⟩);go_ret;exact⟨by first | (simp [Nd.moreB,sumsB,zai,zad, *];done) | (simp [Nd.moreB,sumsB,zai,zad, *];omega),HB.out⟩)
 obtain⟨d2,d8,d14,d15,d16⟩:=c10
 go_upto_region 10 with (go_at_call 35;(refine (zab _ _).mono ?_);rintro e w1 ⟨rfl,rfl⟩)
 go_upto_region 12 with (go_at_call 35;(refine (zab _ _).mono ?_);rintro e w1 ⟨rfl,rfl⟩)
 go_wp2_with (go_at_call 35;(refine (zab _ _).mono ?_);rintro e w1 ⟨rfl,rfl⟩)
 go_ret
 exact⟨by first | (simp [Nd.moreB,sumsB,zai,zad, *];done) | (simp [Nd.moreB,sumsB,zai,zad, *];omega),HB.out⟩
theorem more_4 (x:Nd) (hk:x.kd=4):MoreIs x:=fun w=>by
 have TN:=hid (NdAt.new x 61 w)
 have HB:=hid ((Below.refl w.heap.size w).alloc (le_refl _) (.cells x.val 61))
 have HK:=hid hk
 clear hk
 unfold Nd.val at *
 go_enter Tryz.func34,Tryz.ntmps34
 go_upto_region 1 with fail
 generalize w.alloc (.cells #[.int .i64 x.kd,.int .i64 x.na,.int .i64 x.nb,.int .i64 x.K,.int .i64 x.S,.int .i64 x.P,.int .i64 x.O,.int .i8 x.Z,.int .i8 x.Y,.slice x.WA x.nW x.cW,.slice x.BA x.nB x.cB,.int .i32 x.m1,.int .i64 x.s1,.int .i8 x.z1,.int .i32 x.m2,.int .i64 x.s2,.int .i8 x.z2,.int .i8 x.lo,.int .i8 x.hi] 61)=W0 at TN HB ⊢
 have n0:=TN.out.at 0 _ rfl
 have n2:=TN.out.at 2 _ rfl
 have n6:=TN.out.at 6 _ rfl
 have n7:=TN.out.at 7 _ rfl
 have n8:=TN.out.at 8 _ rfl
 have n9:=TN.out.at 9 _ rfl
 have n10:=TN.out.at 10 _ rfl
 have n11:=TN.out.at 11 _ rfl
 have n12:=TN.out.at 12 _ rfl
 have n13:=TN.out.at 13 _ rfl
 have n14:=TN.out.at 14 _ rfl
 have n15:=TN.out.at 15 _ rfl
 have n16:=TN.out.at 16 _ rfl
 have n17:=TN.out.at 17 _ rfl
 have n18:=TN.out.at 18 _ rfl
 have hk:=HK.out
 rw [hk] at n0
 have hsc:zad 4=false:=by decide
 by_cases c6:x.nW=0∧x.nB=0∧x.O=0
 rotate_left
 ·rcases (show (¬ x.nW=0)∨(x.nW=0∧¬ x.nB=0)∨(x.nW=0∧x.nB=0∧¬ x.O=0) by omega) with c6_0 | ⟨c6_0,c6_1⟩ | ⟨c6_0,c6_1,c6_2⟩
  all_goals (go_wp2_with (go_at_call 35;(refine (zab _ _).mono ?_);rintro e w1 ⟨rfl,rfl⟩);go_ret;exact⟨by first | (simp [Nd.moreB,sumsB,zai,zad, *];done) | (simp [Nd.moreB,sumsB,zai,zad, *];omega),HB.out⟩)
 obtain⟨d9,d10,d6⟩:=c6
 go_upto_region 6 with (go_at_call 35;(refine (zab _ _).mono ?_);rintro e w1 ⟨rfl,rfl⟩)
 go_upto_region 8 with (go_at_call 35;(refine (zab _ _).mono ?_);rintro e w1 ⟨rfl,rfl⟩)
 by_cases c10:x.nb=0∧x.Y=0∧x.m2=0∧x.s2=0∧x.z2=0
 rotate_left
 ·rcases (show (¬ x.nb=0)∨(x.nb=0∧¬ x.Y=0)∨(x.nb=0∧x.Y=0∧¬ x.m2=0)∨(x.nb=0∧x.Y=0∧x.m2=0∧¬ x.s2=0)∨(x.nb=0∧x.Y=0∧x.m2=0∧x.s2=0∧¬ x.z2=0) by omega) with c10_0 | ⟨c10_0,c10_1⟩ | ⟨c10_0,c10_1,c10_2⟩ | ⟨c10_0,c10_1,c10_2,c10_3⟩ | ⟨c10_0,c10_1,c10_2,c10_3,c10_4⟩
  all_goals (go_wp2_with (go_at_call 35;(refine (zab _ _).mono ?_);rintro e w1 ⟨rfl,rfl⟩);go_ret;exact⟨by first | (simp [Nd.moreB,sumsB,zai,zad, *];done) | (simp [Nd.moreB,sumsB,zai,zad, *];omega),HB.out⟩)
 obtain⟨d2,d8,d14,d15,d16⟩:=c10
 go_upto_region 10 with (go_at_call 35;(refine (zab _ _).mono ?_);rintro e w1 ⟨rfl,rfl⟩)
 by_cases c12:x.m1=0∧x.s1=0∧x.z1=0∧x.lo=0∧x.hi=0
 rotate_left
 ·rcases (show (¬ x.m1=0)∨(x.m1=0∧¬ x.s1=0)∨(x.m1=0∧x.s1=0∧¬ x.z1=0)∨(x.m1=0∧x.s1=0∧x.z1=0∧¬ x.lo=0)∨(x.m1=0∧x.s1=0∧x.z1=0∧x.lo=0∧¬ x.hi=0) by omega) with c12_0 | ⟨c12_0,c12_1⟩ | ⟨c12_0,c12_1,c12_2⟩ | ⟨c12_0,c12_1,c12_2,c12_3⟩ | ⟨c12_0,c12_1,c12_2,c12_3,c12_4⟩
  all_goals (go_wp2_with (go_at_call 35;(refine (zab _ _).mono ?_);rintro e w1 ⟨rfl,rfl⟩);go_ret;exact⟨by first | (simp [Nd.moreB,sumsB,zai,zad, *];done) | (simp [Nd.moreB,sumsB,zai,zad, *];omega),HB.out⟩)
 obtain⟨d11,d12,d13,d17,d18⟩:=c12
 go_upto_region 12 with (go_at_call 35;(refine (zab _ _).mono ?_);rintro e w1 ⟨rfl,rfl⟩)
 by_cases c99:x.Z=0
 rotate_left
 ·rcases (show (¬ x.Z=0) by omega) with c99_0
  all_goals (go_wp2_with (go_at_call 35;(refine (zab _ _).mono ?_);rintro e w1 ⟨rfl,rfl⟩);go_ret;exact⟨by first | (simp [Nd.moreB,sumsB,zai,zad, *];done) | (simp [Nd.moreB,sumsB,zai,zad, *];omega),HB.out⟩)
 have d7:=c99
 go_wp2_with (go_at_call 35;(refine (zab _ _).mono ?_);rintro e w1 ⟨rfl,rfl⟩)
 go_ret
 exact⟨by first | (simp [Nd.moreB,sumsB,zai,zad, *];done) | (simp [Nd.moreB,sumsB,zai,zad, *];omega),HB.out⟩
theorem more_5 (x:Nd) (hk:x.kd=5):MoreIs x:=fun w=>by
 have TN:=hid (NdAt.new x 61 w)
 have HB:=hid ((Below.refl w.heap.size w).alloc (le_refl _) (.cells x.val 61))
 have HK:=hid hk
 clear hk
 unfold Nd.val at *
 go_enter Tryz.func34,Tryz.ntmps34
 go_upto_region 1 with fail
 generalize w.alloc (.cells #[.int .i64 x.kd,.int .i64 x.na,.int .i64 x.nb,.int .i64 x.K,.int .i64 x.S,.int .i64 x.P,.int .i64 x.O,.int .i8 x.Z,.int .i8 x.Y,.slice x.WA x.nW x.cW,.slice x.BA x.nB x.cB,.int .i32 x.m1,.int .i64 x.s1,.int .i8 x.z1,.int .i32 x.m2,.int .i64 x.s2,.int .i8 x.z2,.int .i8 x.lo,.int .i8 x.hi] 61)=W0 at TN HB ⊢
 have n0:=TN.out.at 0 _ rfl
 have n2:=TN.out.at 2 _ rfl
 have n6:=TN.out.at 6 _ rfl
 have n7:=TN.out.at 7 _ rfl
 have n8:=TN.out.at 8 _ rfl
 have n9:=TN.out.at 9 _ rfl
 have n10:=TN.out.at 10 _ rfl
 have n11:=TN.out.at 11 _ rfl
 have n12:=TN.out.at 12 _ rfl
 have n13:=TN.out.at 13 _ rfl
 have n14:=TN.out.at 14 _ rfl
 have n15:=TN.out.at 15 _ rfl
 have n16:=TN.out.at 16 _ rfl
 have n17:=TN.out.at 17 _ rfl
 have n18:=TN.out.at 18 _ rfl
 have hk:=HK.out
 rw [hk] at n0
 have hsc:zad 5=false:=by decide
 by_cases c6:x.nW=0∧x.nB=0∧x.O=0
 rotate_left
 ·rcases (show (¬ x.nW=0)∨(x.nW=0∧¬ x.nB=0)∨(x.nW=0∧x.nB=0∧¬ x.O=0) by omega) with c6_0 | ⟨c6_0,c6_1⟩ | ⟨c6_0,c6_1,c6_2⟩
  all_goals (go_wp2_with (go_at_call 35;(refine (zab _ _).mono ?_);rintro e w1 ⟨rfl,rfl⟩);go_ret;exact⟨by first | (simp [Nd.moreB,sumsB,zai,zad, *];done) | (simp [Nd.moreB,sumsB,zai,zad, *];omega),HB.out⟩)
 obtain⟨d9,d10,d6⟩:=c6
 go_upto_region 6 with (go_at_call 35;(refine (zab _ _).mono ?_);rintro e w1 ⟨rfl,rfl⟩)
 go_upto_region 8 with (go_at_call 35;(refine (zab _ _).mono ?_);rintro e w1 ⟨rfl,rfl⟩)
 by_cases c10:x.nb=0∧x.Y=0∧x.m2=0∧x.s2=0∧x.z2=0
 rotate_left
 ·rcases (show (¬ x.nb=0)∨(x.nb=0∧¬ x.Y=0)∨(x.nb=0∧x.Y=0∧¬ x.m2=0)∨(x.nb=0∧x.Y=0∧x.m2=0∧¬ x.s2=0)∨(x.nb=0∧x.Y=0∧x.m2=0∧x.s2=0∧¬ x.z2=0) by omega) with c10_0 | ⟨c10_0,c10_1⟩ | ⟨c10_0,c10_1,c10_2⟩ | ⟨c10_0,c10_1,c10_2,c10_3⟩ | ⟨c10_0,c10_1,c10_2,c10_3,c10_4⟩
  all_goals (go_wp2_with (go_at_call 35;(refine (zab _ _).mono ?_);rintro e w1 ⟨rfl,rfl⟩);go_ret;exact⟨by first | (simp [Nd.moreB,sumsB,zai,zad, *];done) | (simp [Nd.moreB,sumsB,zai,zad, *];omega),HB.out⟩)
 obtain⟨d2,d8,d14,d15,d16⟩:=c10
 go_upto_region 10 with (go_at_call 35;(refine (zab _ _).mono ?_);rintro e w1 ⟨rfl,rfl⟩)
 by_cases c12:x.m1=0∧x.s1=0∧x.z1=0∧x.lo=0∧x.hi=0
 rotate_left
 ·rcases (show (¬ x.m1=0)∨(x.m1=0∧¬ x.s1=0)∨(x.m1=0∧x.s1=0∧¬ x.z1=0)∨(x.m1=0∧x.s1=0∧x.z1=0∧¬ x.lo=0)∨(x.m1=0∧x.s1=0∧x.z1=0∧x.lo=0∧¬ x.hi=0) by omega) with c12_0 | ⟨c12_0,c12_1⟩ | ⟨c12_0,c12_1,c12_2⟩ | ⟨c12_0,c12_1,c12_2,c12_3⟩ | ⟨c12_0,c12_1,c12_2,c12_3,c12_4⟩
  all_goals (go_wp2_with (go_at_call 35;(refine (zab _ _).mono ?_);rintro e w1 ⟨rfl,rfl⟩);go_ret;exact⟨by first | (simp [Nd.moreB,sumsB,zai,zad, *];done) | (simp [Nd.moreB,sumsB,zai,zad, *];omega),HB.out⟩)
 obtain⟨d11,d12,d13,d17,d18⟩:=c12
 go_upto_region 12 with (go_at_call 35;(refine (zab _ _).mono ?_);rintro e w1 ⟨rfl,rfl⟩)
 by_cases c99:x.Z=0
 rotate_left
 ·rcases (show (¬ x.Z=0) by omega) with c99_0
  all_goals (go_wp2_with (go_at_call 35;(refine (zab _ _).mono ?_);rintro e w1 ⟨rfl,rfl⟩);go_ret;exact⟨by first | (simp [Nd.moreB,sumsB,zai,zad, *];done) | (simp [Nd.moreB,sumsB,zai,zad, *];omega),HB.out⟩)
 have d7:=c99
 go_wp2_with (go_at_call 35;(refine (zab _ _).mono ?_);rintro e w1 ⟨rfl,rfl⟩)
 go_ret
 exact⟨by first | (simp [Nd.moreB,sumsB,zai,zad, *];done) | (simp [Nd.moreB,sumsB,zai,zad, *];omega),HB.out⟩
end CKind
end
end Go.Proofs.YtoffcaldhojjoaaGreatDoor
