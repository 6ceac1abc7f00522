/- -/
import Derived.Test.YtfgdfignoakkaaaGreatDoorGBT8
import Derived.Test.YtfgdfignoakkaaaGreatDoorGBT9
open Go.Lib (hid)
open Nat (le_refl lt_of_succ_lt lt_succ_self)
set_option linter.unusedVariables false
set_option linter.unusedSimpArgs false
set_option maxRecDepth 100000
set_option maxHeartbeats 16000000
namespace Go.Proofs.YtfgdfignoakkaaaGreatDoor
namespace CConv
end CConv
namespace CKind
end CKind
namespace CSat
end CSat
namespace CShape
end CShape
namespace CTensor
end CTensor
namespace Kit
end Kit
open Go Go.ChangeShapes Go.WideShapes Go.ChangeAt Go.RowKit Go.Deep
section
namespace CGraph
open Kit CKind
structure NdOk (w:World) (B:Nat) (x:Nd):Prop where
 z : -128≤x.Z∧x.Z≤127
 a : -9223372036854775808≤x.na∧x.na≤9223372036854775807
 b : -9223372036854775808≤x.nb∧x.nb≤9223372036854775807
 ks:(-9223372036854775808≤x.K∧x.K≤9223372036854775807)∧(-9223372036854775808≤x.S∧x.S≤9223372036854775807)∧(-9223372036854775808≤x.P∧x.P≤9223372036854775807)∧(-9223372036854775808≤x.O∧x.O≤9223372036854775807)
 q:(-2147483648≤x.m1∧x.m1≤2147483647)∧(-2147483648≤x.m2∧x.m2≤2147483647)∧(-128≤x.z1∧x.z1≤127)∧(-128≤x.z2∧x.z2≤127)∧(-128≤x.lo∧x.lo≤127)∧(-128≤x.hi∧x.hi≤127)∧(-128≤x.Y∧x.Y≤127)
 s:(-9223372036854775808≤x.s1∧x.s1≤9223372036854775807)∧(-9223372036854775808≤x.s2∧x.s2≤9223372036854775807)∧(-9223372036854775808≤x.kd∧x.kd≤9223372036854775807)
 ws:∃ zs:List Int,zs.length=x.nW∧x.nW≤x.cW∧x.cW≤maxLen∧(∀ n∈zs,(Lit.int .i8 n).wf=true)∧Rd w B x.WA (zs.map (.int .i8))
 bs:∃ zs:List Int,zs.length=x.nB∧x.nB≤x.cB∧x.cB≤maxLen∧(∀ n∈zs,(Lit.int .i32 n).wf=true)∧Rd w B x.BA (zs.map (.int .i32))
def NodesAt (w:World) (B:Nat) (A:Option Addr) (n:Nat) (X:Nat→Nd):Prop :=
 ∀ j,j < n→∃ b o,A=some ⟨b,o,none⟩∧b < B∧w.rangeAt b (o+j * 19) (X j).val.toList
section
variable {H:Type} {enc:TypeId × Value→H} {P:Program} {w:World} {base b0:Nat} {spare:Nat→Bool} {held:Bool} {r:Reach}
theorem wf64 {n:Int} (h:(Lit.int .i64 n).wf=true) : -9223372036854775808≤n∧n≤9223372036854775807:=by simpa [Lit.wf,IntKind.min,IntKind.max,IntKind.signed,IntKind.bits] using h
theorem wf32 {n:Int} (h:(Lit.int .i32 n).wf=true) : -2147483648≤n∧n≤2147483647:=by simpa [Lit.wf,IntKind.min,IntKind.max,IntKind.signed,IntKind.bits] using h
theorem wf8 {n:Int} (h:(Lit.int .i8 n).wf=true) : -128≤n∧n≤127:=by simpa [Lit.wf,IntKind.min,IntKind.max,IntKind.signed,IntKind.bits] using h
theorem list_19 {cs:List Value} (h:cs.length=19):∃ a0 a1 a2 a3 a4 a5 a6 a7 a8 a9 a10 a11 a12 a13 a14 a15 a16 a17 a18,cs=[a0,a1,a2,a3,a4,a5,a6,a7,a8,a9,a10,a11,a12,a13,a14,a15,a16,a17,a18]:=by
 match cs,h with
 | [a0,a1,a2,a3,a4,a5,a6,a7,a8,a9,a10,a11,a12,a13,a14,a15,a16,a17,a18],_=>exact⟨a0,a1,a2,a3,a4,a5,a6,a7,a8,a9,a10,a11,a12,a13,a14,a15,a16,a17,a18,rfl⟩
theorem zan {t:TypeId} {fs:Array Field} {fuel:Nat} {cs:List Value} {x:DataW H × List MemPlace} (ht:P.underlying t=some (.struct fs)) (h:DataW.trod enc P w base spare held fuel t cs=some x)
  {j o:Nat} {f:Field} {i:TypeId} {k:IntKind} {v:Value} (q:fs[j]?=some f) (e:f.type=i∧f.offset=o) (u:P.underlying i=some (.int k)) (c:P.cellsOf i=1) (hv:(cs.drop o).take 1=[v]):∃ n:Int,v=.int k n∧(Lit.int k n).wf=true:=by
 obtain⟨xs,n,_,_,_,hlen,hx⟩:=DataW.trod_struct ht h
 have g:=hx j f q
 rw [e.1,e.2,c,List.getElem?_eq_getElem (by rw [hlen];exact (Array.getElem?_eq_some_iff.1 q).1),hv] at g
 obtain⟨X,e0,_,w0⟩:=DataW.trod_int u g
 simp at e0
 exact⟨X,e0,w0⟩
theorem field_list {t:TypeId} {fs:Array Field} {fuel:Nat} {cs:List Value} {x:DataW H × List MemPlace} (ht:P.underlying t=some (.struct fs)) (h:DataW.trod enc P w base spare held fuel t cs=some x)
  {j o:Nat} {f:Field} {d i:TypeId} {k:IntKind} {v:Value} (q:fs[j]?=some f) (e:f.type=d∧f.offset=o) (ud:P.underlying d=some (.slice i)) (cd:P.cellsOf d=1) (u:P.underlying i=some (.int k)) (c:P.cellsOf i=1) (hv:(cs.drop o).take 1=[v]) :
  ∃ (A:Option Addr) (zs:List Int) (c:Nat),v=.slice A zs.length c∧zs.length≤c∧c≤maxLen∧(∀ n∈zs,(Lit.int k n).wf=true)∧Rd w w.heap.size A (zs.map (.int k)):=by
 obtain⟨xs,n,_,_,_,hlen,hx⟩:=DataW.trod_struct ht h
 have g:=hx j f q
 rw [e.1,e.2,cd,List.getElem?_eq_getElem (by rw [hlen];exact (Array.getElem?_eq_some_iff.1 q).1),hv] at g
 exact trod_islice_n ud u c g
theorem za4 {t:TypeId} {fs:Array Field} {fuel:Nat} {cs:List Value} {x:DataW H × List MemPlace} (ht:P.underlying t=some (.struct fs)) (h:DataW.trod enc P w base spare held fuel t cs=some x)
  {j o m:Nat} {f:Field} {d:TypeId} {vs:List Value} (q:fs[j]?=some f) (e:f.type=d∧f.offset=o) (cd:P.cellsOf d=m) (hv:(cs.drop o).take m=vs):∃ n y,DataW.trod enc P w base spare held n d vs=some y:=by
 obtain⟨xs,n,_,_,_,hlen,hx⟩:=DataW.trod_struct ht h
 have g:=hx j f q
 rw [e.1,e.2,cd,List.getElem?_eq_getElem (by rw [hlen];exact (Array.getElem?_eq_some_iff.1 q).1),hv] at g
 exact⟨n,_,g⟩
end
section
variable {H:Type} {enc:TypeId × Value→H} {w:World} {base b0:Nat} {spare:Nat→Bool} {held:Bool} {r:Reach}
theorem trod_node {fuel:Nat} {cs:List Value} {x:DataW H × List MemPlace} (hl:cs.length=19) (h:DataW.trod enc Tryz.prog w base spare held fuel 54 cs=some x):∃ nd:Nd,cs=nd.val.toList∧NdOk w w.heap.size nd:=by
 obtain⟨a0,a1,a2,a3,a4,a5,a6,a7,a8,a9,a10,a11,a12,a13,a14,a15,a16,a17,a18,rfl⟩:=list_19 hl
 obtain⟨kd,rfl,wkd⟩:=zan Tryz.underlying54 h (j:=0) (o:=0) rfl ⟨rfl,rfl⟩ Tryz.underlying3 (by kernel_rfl) rfl
 obtain⟨na,rfl,wna⟩:=zan Tryz.underlying54 h (j:=1) (o:=1) rfl ⟨rfl,rfl⟩ Tryz.underlying3 (by kernel_rfl) rfl
 obtain⟨nb,rfl,wnb⟩:=zan Tryz.underlying54 h (j:=2) (o:=2) rfl ⟨rfl,rfl⟩ Tryz.underlying3 (by kernel_rfl) rfl
 obtain⟨K,rfl,wK⟩:=zan Tryz.underlying54 h (j:=3) (o:=3) rfl ⟨rfl,rfl⟩ Tryz.underlying3 (by kernel_rfl) rfl
 obtain⟨S,rfl,wS⟩:=zan Tryz.underlying54 h (j:=4) (o:=4) rfl ⟨rfl,rfl⟩ Tryz.underlying3 (by kernel_rfl) rfl
 obtain⟨P,rfl,wP⟩:=zan Tryz.underlying54 h (j:=5) (o:=5) rfl ⟨rfl,rfl⟩ Tryz.underlying3 (by kernel_rfl) rfl
 obtain⟨O,rfl,wO⟩:=zan Tryz.underlying54 h (j:=6) (o:=6) rfl ⟨rfl,rfl⟩ Tryz.underlying3 (by kernel_rfl) rfl
 obtain⟨Z,rfl,wZ⟩:=zan Tryz.underlying54 h (j:=7) (o:=7) rfl ⟨rfl,rfl⟩ Tryz.underlying50 (by kernel_rfl) rfl
 obtain⟨Y,rfl,wY⟩:=zan Tryz.underlying54 h (j:=8) (o:=8) rfl ⟨rfl,rfl⟩ Tryz.underlying50 (by kernel_rfl) rfl
 obtain⟨WA,ws,cW,rfl,p1,p2,p3,p4⟩:=field_list Tryz.underlying54 h (j:=9) (o:=9) rfl ⟨rfl,rfl⟩ Tryz.underlying43 (by kernel_rfl) Tryz.underlying50 (by kernel_rfl) rfl
 obtain⟨BA,bs,cB,rfl,p5,p6,p7,p8⟩:=field_list Tryz.underlying54 h (j:=10) (o:=10) rfl ⟨rfl,rfl⟩ Tryz.underlying44 (by kernel_rfl) Tryz.underlying21 (by kernel_rfl) rfl
 obtain⟨_,_,g1⟩:=za4 Tryz.underlying54 h (j:=11) (o:=11) (m:=3) (vs:=[a11,a12,a13]) rfl ⟨rfl,rfl⟩ (by kernel_rfl) rfl
 obtain⟨m1,rfl,wm1⟩:=zan Tryz.underlying52 g1 (j:=0) (o:=0) rfl ⟨rfl,rfl⟩ Tryz.underlying21 (by kernel_rfl) rfl
 obtain⟨s1,rfl,ws1⟩:=zan Tryz.underlying52 g1 (j:=1) (o:=1) rfl ⟨rfl,rfl⟩ Tryz.underlying3 (by kernel_rfl) rfl
 obtain⟨z1,rfl,wz1⟩:=zan Tryz.underlying52 g1 (j:=2) (o:=2) rfl ⟨rfl,rfl⟩ Tryz.underlying50 (by kernel_rfl) rfl
 obtain⟨_,_,g2⟩:=za4 Tryz.underlying54 h (j:=12) (o:=14) (m:=3) (vs:=[a14,a15,a16]) rfl ⟨rfl,rfl⟩ (by kernel_rfl) rfl
 obtain⟨m2,rfl,wm2⟩:=zan Tryz.underlying52 g2 (j:=0) (o:=0) rfl ⟨rfl,rfl⟩ Tryz.underlying21 (by kernel_rfl) rfl
 obtain⟨s2,rfl,ws2⟩:=zan Tryz.underlying52 g2 (j:=1) (o:=1) rfl ⟨rfl,rfl⟩ Tryz.underlying3 (by kernel_rfl) rfl
 obtain⟨z2,rfl,wz2⟩:=zan Tryz.underlying52 g2 (j:=2) (o:=2) rfl ⟨rfl,rfl⟩ Tryz.underlying50 (by kernel_rfl) rfl
 obtain⟨lo,rfl,wlo⟩:=zan Tryz.underlying54 h (j:=13) (o:=17) rfl ⟨rfl,rfl⟩ Tryz.underlying50 (by kernel_rfl) rfl
 obtain⟨hi,rfl,whi⟩:=zan Tryz.underlying54 h (j:=14) (o:=18) rfl ⟨rfl,rfl⟩ Tryz.underlying50 (by kernel_rfl) rfl
 exact⟨⟨kd,na,nb,K,S,P,O,Z,Y,WA,ws.length,cW,BA,bs.length,cB,m1,s1,z1,m2,s2,z2,lo,hi⟩,rfl,⟨wf8 wZ,wf64 wna,wf64 wnb,⟨wf64 wK,wf64 wS,wf64 wP,wf64 wO⟩,⟨wf32 wm1,wf32 wm2,wf8 wz1,wf8 wz2,wf8 wlo,wf8 whi,wf8 wY⟩,⟨wf64 ws1,wf64 ws2,wf64 wkd⟩,⟨ws,rfl,p1,p2,p3,p4⟩,⟨bs,rfl,p5,p6,p7,p8⟩⟩⟩
def nd0:Nd:=⟨0,0,0,0,0,0,0,0,0,none,0,0,none,0,0,0,0,0,0,0,0,0,0⟩
end
end CGraph
end
section
namespace CTensor
open Go Go.ChangeShapes Go.WideShapes Go.ChangeAt Go.RowKit
open Plain CSat CShape
theorem eqShape (a b c x y z:Int) (w:World):(Op.equalIn 10000 23 (.agg #[.int .i64 a,.int .i64 b,.int .i64 c]) (.agg #[.int .i64 x,.int .i64 y,.int .i64 z])).run Tryz.prog w=.ok (a == x && (b == y && c == z)) w:=by
 have u3:=Tryz.underlying3
 have a3:=Tryz.isAgg3
 have z3:=Tryz.sizeOf3
 have hS:Tryz.prog.underlying 23=some (.struct (Tryz.prog.fieldsOf 23)):=by kernel_rfl
 rw [show (10000:Nat)=9999+1 from rfl,run_equalIn_agg w 9999 23 _ _ hS Tryz.stoodInHeld23]
 simp only [Program.fieldsOf,Tryz.underlying23]
 go_simp
 by_cases h1:a=x <;> by_cases h2:b=y <;> by_cases h3:c=z <;> simp [h1,h2,h3]
end CTensor
end
section
namespace CKind
open Plain CSat CShape CTensor CConv
theorem nsame_yes (x y:Nd) (w:World) {zs us:List Int} {B1 B2 B3 B4:Nat} (e0:x.kd=y.kd) (e1:x.na=y.na) (e2:x.nb=y.nb) (e3:x.K=y.K) (e4:x.S=y.S) (e5:x.P=y.P) (e6:x.O=y.O) (e10:x.Z=y.Z) (e11:x.Y=y.Y) (e12:x.lo=y.lo) (e13:x.hi=y.hi) (eq0:(x.m1 == y.m1 && (x.s1 == y.s1 && x.z1 == y.z1))=true) (eq1:(x.m2 == y.m2 && (x.s2 == y.s2 && x.z2 == y.z2))=true) (hw:x.nW=y.nW) (hz:x.nW=zs.length) (hl:x.nW≤1000000) (ha:Kit.Rd w B1 x.WA (zs.map (.int .i8))) (hb:Kit.Rd w B2 y.WA (zs.map (.int .i8))) (hB1:B1≤w.heap.size) (hB2:B2≤w.heap.size) (hu:x.nB=y.nB) (hv:x.nB=us.length) (hk:x.nB≤1000000) (hc:Kit.Rd w B3 x.BA (us.map (.int .i32))) (hd:Kit.Rd w B4 y.BA (us.map (.int .i32))) (hB3:B3≤w.heap.size) (hB4:B4≤w.heap.size) :
  Calls Tryz.prog 88 #[.agg x.val,.agg y.val] w fun e w'=>e=.returned (.bool true)∧Below w.heap.size w w':=by
 have b0:(x.kd != y.kd)=false:=by simpa using e0
 have c0:(x.kd == y.kd)=true:=by simpa using e0
 have b1:(x.na != y.na)=false:=by simpa using e1
 have c1:(x.na == y.na)=true:=by simpa using e1
 have b2:(x.nb != y.nb)=false:=by simpa using e2
 have c2:(x.nb == y.nb)=true:=by simpa using e2
 have b3:(x.K != y.K)=false:=by simpa using e3
 have c3:(x.K == y.K)=true:=by simpa using e3
 have b4:(x.S != y.S)=false:=by simpa using e4
 have c4:(x.S == y.S)=true:=by simpa using e4
 have b5:(x.P != y.P)=false:=by simpa using e5
 have c5:(x.P == y.P)=true:=by simpa using e5
 have b6:(x.O != y.O)=false:=by simpa using e6
 have c6:(x.O == y.O)=true:=by simpa using e6
 have b10:(x.Z != y.Z)=false:=by simpa using e10
 have c10:(x.Z == y.Z)=true:=by simpa using e10
 have b11:(x.Y != y.Y)=false:=by simpa using e11
 have c11:(x.Y == y.Y)=true:=by simpa using e11
 have b12:(x.lo != y.lo)=false:=by simpa using e12
 have c12:(x.lo == y.lo)=true:=by simpa using e12
 have b13:(x.hi != y.hi)=false:=by simpa using e13
 have c13:(x.hi == y.hi)=true:=by simpa using e13
 have HQ0:=zbs x.m1 x.s1 x.z1 y.m1 y.s1 y.z1
 rw [eq0] at HQ0
 have hgq0:=Tryz.eqGuardType52
 have HQ1:=zbs x.m2 x.s2 x.z2 y.m2 y.s2 y.z2
 rw [eq1] at HQ1
 have hgq1:=Tryz.eqGuardType52
 clear e0 e1 e2 e3 e4 e5 e6 e10 e11 e12 e13 eq0 eq1
 have HV:=hid hv
 have HK:=hid hk
 have HC:=hid hc
 have HD:=hid hd
 have HB3:=hid hB3
 have HB4:=hid hB4
 clear hv hk hc hd hB3 hB4
 have HZ:=hid hz
 have HL:=hid hl
 have HA:=hid ha
 have HB:=hid hb
 have HB1:=hid hB1
 have HB2:=hid hB2
 obtain⟨kd,na,nb,K,S,P,O,Z,Y,WA,nW,cW,BA,nB,cB,m1,s1,z1,m2,s2,z2,lo,hi⟩:=x
 obtain⟨kd',na',nb',K',S',P',O',Z',Y',WA',nW',cW',BA',nB',cB',m1',s1',z1',m2',s2',z2',lo',hi'⟩:=y
 simp only at *
 subst hw
 subst hu
 clear hz hl ha hb hB1 hB2
 unfold Nd.val
 go_enter Tryz.func88,Tryz.ntmps88
 go_wp2_with (first
  | (go_at_call 86;(with_reducible refine (ksame_yes _ _ zs _ _ _ HZ.out HL.out _ (HA.out.below ((((Below.refl _ _).alloc (le_refl _) _).alloc (by simp) _).mono HB1.out)) (HB.out.below ((((Below.refl _ _).alloc (le_refl _) _).alloc (by simp) _).mono HB2.out))).mono ?_);rintro e1 w1 ⟨rfl,m1,rfl⟩)
  | (go_at_call 87;(with_reducible refine (ksame32_yes _ _ us _ _ _ HV.out HK.out _ ((HC.out.below ((((Below.refl _ _).alloc (le_refl _) _).alloc (by simp) _).mono HB3.out)).drewN _) ((HD.out.below ((((Below.refl _ _).alloc (le_refl _) _).alloc (by simp) _).mono HB4.out)).drewN _)).mono ?_);rintro e2 w2 ⟨rfl,m2,rfl⟩))
 go_ret
 exact⟨rfl,Kit.below_drewN (((Below.refl _ _).alloc (le_refl _) _).alloc (by simp) _) _⟩
def Nd.Like (x y:Nd):Prop :=
 x.kd=y.kd∧x.na=y.na∧x.nb=y.nb∧x.K=y.K∧x.S=y.S∧x.P=y.P∧x.O=y.O∧x.Z=y.Z∧x.Y=y.Y∧x.lo=y.lo∧x.hi=y.hi∧x.m1=y.m1∧x.s1=y.s1∧x.z1=y.z1∧x.m2=y.m2∧x.s2=y.s2∧x.z2=y.z2
theorem refNSame_yes (x y:Nd) (h:x.Like y) (w:World) {zs us:List Int} {B1 B2 B3 B4:Nat} (hw:x.nW=y.nW) (hz:x.nW=zs.length) (hl:x.nW≤1000000) (ha:Kit.Rd w B1 x.WA (zs.map (.int .i8))) (hb:Kit.Rd w B2 y.WA (zs.map (.int .i8))) (hB1:B1≤w.heap.size) (hB2:B2≤w.heap.size) (hu:x.nB=y.nB) (hv:x.nB=us.length) (hk:x.nB≤1000000) (hc:Kit.Rd w B3 x.BA (us.map (.int .i32))) (hd:Kit.Rd w B4 y.BA (us.map (.int .i32))) (hB3:B3≤w.heap.size) (hB4:B4≤w.heap.size) :
  Calls Tryz.prog 88 #[.agg x.val,.agg y.val] w fun e w'=>e=.returned (.bool true)∧Below w.heap.size w w':=by
 obtain⟨e0,e1,e2,e3,e4,e5,e6,e10,e11,e12,e13,q1,q2,q3,q4,q5,q6⟩:=h
 exact nsame_yes x y w (zs:=zs) (us:=us) (B1:=B1) (B2:=B2) (B3:=B3) (B4:=B4) e0 e1 e2 e3 e4 e5 e6 e10 e11 e12 e13 (by simp [q1,q2,q3]) (by simp [q4,q5,q6]) hw hz hl ha hb hB1 hB2 hu hv hk hc hd hB3 hB4
theorem own_to (x:Nd) (h:1≤x.kd∧x.kd≤9) (w:World) :
  Calls Tryz.prog 160 #[.agg x.val] w fun e w'=>e=.returned (.agg (x.ownK x.kd).val)∧Below w.heap.size w w':=by
 have:x.kd=1∨x.kd=2∨x.kd=3∨x.kd=4∨x.kd=5∨x.kd=6∨x.kd=7∨x.kd=8∨x.kd=9:=by omega
 rcases this with h | h | h | h | h | h | h | h | h
 ·rw [h];exact own_1 x h w
 ·rw [h];exact own_2 x h w
 ·rw [h];exact own_3 x h w
 ·rw [h];exact own_4 x h w
 ·rw [h];exact own_5 x h w
 ·rw [h];exact own_6 x h w
 ·rw [h];exact own_7 x h w
 ·rw [h];exact own_8 x h w
 ·rw [h];exact own_9 x h w
end CKind
end
end Go.Proofs.YtfgdfignoakkaaaGreatDoor
