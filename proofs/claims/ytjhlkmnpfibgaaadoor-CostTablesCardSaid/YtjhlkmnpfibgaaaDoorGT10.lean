/- -/
import Derived.Deep.CutRange
import Derived.Test.YtjhlkmnpfibgaaaDoorGT9
open Nat (le_refl lt_of_succ_lt lt_succ_self)
set_option linter.unusedVariables false
set_option linter.unusedSimpArgs false
set_option maxRecDepth 100000
set_option maxHeartbeats 16000000
namespace Go.Proofs.YtjhlkmnpfibgaaaDoor
namespace CConv
end CConv
namespace CSat
end CSat
namespace CTensor
end CTensor
namespace Kit
end Kit
open Go Go.ChangeShapes Go.WideShapes Go.ChangeAt Go.RowKit Go.Deep
section
namespace CKind
open Plain CSat CShape CTensor CConv
structure Nd where
 (kd na nb K S P O Z Y:Int)
 (WA:Option Addr)
 (nW cW:Nat)
 (BA:Option Addr)
 (nB cB:Nat)
 (m1 s1 z1 m2 s2 z2 lo hi:Int)
def Nd.val (x:Nd):Array Value:=#[.int .i64 x.kd,.int .i64 x.na,.int .i64 x.nb,.int .i64 x.K,.int .i64 x.S,.int .i64 x.P,.int .i64 x.O,.int .i8 x.Z,.int .i8 x.Y,.slice x.WA x.nW x.cW,.slice x.BA x.nB x.cB,.int .i32 x.m1,.int .i64 x.s1,.int .i8 x.z1,.int .i32 x.m2,.int .i64 x.s2,.int .i8 x.z2,.int .i8 x.lo,.int .i8 x.hi]
def zac (k:Int):Bool:=k == 1 || k == 2 || k == 3 || k == 6 || k == 7
def sumsB (k:Int):Bool:=k == 1 || k == 2 || k == 3
def zaf (k:Int):Bool:=k == 1 || k == 2 || k == 4 || k == 5
def Nd.moreB (x:Nd):Bool :=
 (!sumsB x.kd && (decide (0 < x.nW) || decide (0 < x.nB))) || (x.kd != 1 && x.kd != 3 && x.O != 0) || (!zaf x.kd && (x.K != 0 || x.S != 0)) || (!zaf x.kd && x.kd != 8 && x.P != 0) ||
 (x.kd != 6 && (x.nb != 0 || x.Y != 0 || x.m2 != 0 || x.s2 != 0)) || x.z2 != 0 || (!zac x.kd && (x.m1 != 0 || x.s1 != 0 || x.z1 != 0 || x.lo != 0 || x.hi != 0)) || (!zac x.kd && x.kd != 8 && x.Z != 0)
theorem zaa (k:Int) (w:World):Calls Tryd.prog 51 #[.int .i64 k] w fun e w'=>e=.returned (.bool (zac k))∧w=w':=by
 go_enter Tryd.func51,Tryd.ntmps51
 go_wp2_with fail
 all_goals go_ret
 all_goals exact⟨by simp_all [zac],rfl⟩
def MoreIs (x:Nd):Prop:=∀ w:World,Calls Tryd.prog 50 #[.agg x.val] w fun e w'=>e=.returned (.bool x.moreB)∧Below w.heap.size w w'
def NdAt (g:Nat) (x:Nd) (w:World):Prop:=w.rangeAt g 0 x.val.toList
theorem NdAt.at {g:Nat} {x:Nd} {w:World} (h:NdAt g x w) (i:Nat) (v:Value) (hi:x.val.toList[i]?=some v):w.cell? ⟨g,i,none⟩=some v:=by
 have:=h i v hi
 rwa [Nat.zero_add] at this
theorem NdAt.below {g B:Nat} {x:Nd} {w w':World} (h:NdAt g x w) (hB:g < B) (hb:Below B w w'):NdAt g x w':=fun j v hj=>(hb.cell (p:=⟨g,0+j,none⟩) hB).trans (h j v hj)
theorem NdAt.new (x:Nd) (T:TypeId) (w:World):NdAt w.heap.size x (w.alloc (.cells x.val T)):=fun j v hj=>by
 rw [Nat.zero_add,Kit.zak]
 simpa using hj
end CKind
end
section
namespace CGraph
open Kit CKind
structure NdOk (w:World) (B:Nat) (x:Nd):Prop where
 z : -128≤x.Z∧x.Z≤127
 a : -9223372036854775808≤x.na∧x.na≤9223372036854775807
 b : -9223372036854775808≤x.nb∧x.nb≤9223372036854775807
 ks:(-9223372036854775808≤x.K∧x.K≤9223372036854775807)∧(-9223372036854775808≤x.S∧x.S≤9223372036854775807)∧(-9223372036854775808≤x.P∧x.P≤9223372036854775807)∧(-9223372036854775808≤x.O∧x.O≤9223372036854775807)
 q:(-2147483648≤x.m1∧x.m1≤2147483647)∧(-2147483648≤x.m2∧x.m2≤2147483647)∧(-128≤x.z1∧x.z1≤127)∧(-128≤x.z2∧x.z2≤127)∧(-128≤x.lo∧x.lo≤127)∧(-128≤x.hi∧x.hi≤127)∧(-128≤x.Y∧x.Y≤127)
 s:(-9223372036854775808≤x.s1∧x.s1≤9223372036854775807)∧(-9223372036854775808≤x.s2∧x.s2≤9223372036854775807)∧(-9223372036854775808≤x.kd∧x.kd≤9223372036854775807)
 ws:∃ zs:List Int,zs.length=x.nW∧x.nW≤x.cW∧x.cW≤maxLen∧(∀ n∈zs,(Lit.int .i8 n).wf=true)∧Rd w B x.WA (zs.map (.int .i8))
 bs:∃ zs:List Int,zs.length=x.nB∧x.nB≤x.cB∧x.cB≤maxLen∧(∀ n∈zs,(Lit.int .i32 n).wf=true)∧Rd w B x.BA (zs.map (.int .i32))
def NodesAt (w:World) (B:Nat) (A:Option Addr) (n:Nat) (X:Nat→Nd):Prop :=
 ∀ j,j < n→∃ b o,A=some ⟨b,o,none⟩∧b < B∧w.rangeAt b (o+j * 19) (X j).val.toList
section
variable {H:Type} {enc:TypeId × Value→H} {P:Program} {w:World} {base b0:Nat} {spare:Nat→Bool} {held:Bool} {r:Reach}
theorem wf64 {n:Int} (h:(Lit.int .i64 n).wf=true) : -9223372036854775808≤n∧n≤9223372036854775807:=by simpa [Lit.wf,IntKind.min,IntKind.max,IntKind.signed,IntKind.bits] using h
theorem wf32 {n:Int} (h:(Lit.int .i32 n).wf=true) : -2147483648≤n∧n≤2147483647:=by simpa [Lit.wf,IntKind.min,IntKind.max,IntKind.signed,IntKind.bits] using h
theorem wf8 {n:Int} (h:(Lit.int .i8 n).wf=true) : -128≤n∧n≤127:=by simpa [Lit.wf,IntKind.min,IntKind.max,IntKind.signed,IntKind.bits] using h
theorem list_19 {cs:List Value} (h:cs.length=19):∃ a0 a1 a2 a3 a4 a5 a6 a7 a8 a9 a10 a11 a12 a13 a14 a15 a16 a17 a18,cs=[a0,a1,a2,a3,a4,a5,a6,a7,a8,a9,a10,a11,a12,a13,a14,a15,a16,a17,a18]:=by
 match cs,h with
 | [a0,a1,a2,a3,a4,a5,a6,a7,a8,a9,a10,a11,a12,a13,a14,a15,a16,a17,a18],_=>exact⟨a0,a1,a2,a3,a4,a5,a6,a7,a8,a9,a10,a11,a12,a13,a14,a15,a16,a17,a18,rfl⟩
theorem zat {t:TypeId} {fs:Array Field} {fuel:Nat} {cs:List Value} {x:DataW H × List MemPlace} (ht:P.underlying t=some (.struct fs)) (h:DataW.trod enc P w base spare held fuel t cs=some x)
  {j o:Nat} {f:Field} {i:TypeId} {k:IntKind} {v:Value} (q:fs[j]?=some f) (e:f.type=i∧f.offset=o) (u:P.underlying i=some (.int k)) (c:P.cellsOf i=1) (hv:(cs.drop o).take 1=[v]):∃ n:Int,v=.int k n∧(Lit.int k n).wf=true:=by
 obtain⟨xs,n,_,_,_,hlen,hx⟩:=DataW.trod_struct ht h
 have g:=hx j f q
 rw [e.1,e.2,c,List.getElem?_eq_getElem (by rw [hlen];exact (Array.getElem?_eq_some_iff.1 q).1),hv] at g
 obtain⟨X,e0,_,w0⟩:=DataW.trod_int u g
 simp at e0
 exact⟨X,e0,w0⟩
theorem field_list {t:TypeId} {fs:Array Field} {fuel:Nat} {cs:List Value} {x:DataW H × List MemPlace} (ht:P.underlying t=some (.struct fs)) (h:DataW.trod enc P w base spare held fuel t cs=some x)
  {j o:Nat} {f:Field} {d i:TypeId} {k:IntKind} {v:Value} (q:fs[j]?=some f) (e:f.type=d∧f.offset=o) (ud:P.underlying d=some (.slice i)) (cd:P.cellsOf d=1) (u:P.underlying i=some (.int k)) (c:P.cellsOf i=1) (hv:(cs.drop o).take 1=[v]) :
  ∃ (A:Option Addr) (zs:List Int) (c:Nat),v=.slice A zs.length c∧zs.length≤c∧c≤maxLen∧(∀ n∈zs,(Lit.int k n).wf=true)∧Rd w w.heap.size A (zs.map (.int k)):=by
 obtain⟨xs,n,_,_,_,hlen,hx⟩:=DataW.trod_struct ht h
 have g:=hx j f q
 rw [e.1,e.2,cd,List.getElem?_eq_getElem (by rw [hlen];exact (Array.getElem?_eq_some_iff.1 q).1),hv] at g
 exact trod_islice_n ud u c g
theorem zbf {t:TypeId} {fs:Array Field} {fuel:Nat} {cs:List Value} {x:DataW H × List MemPlace} (ht:P.underlying t=some (.struct fs)) (h:DataW.trod enc P w base spare held fuel t cs=some x)
  {j o m:Nat} {f:Field} {d:TypeId} {vs:List Value} (q:fs[j]?=some f) (e:f.type=d∧f.offset=o) (cd:P.cellsOf d=m) (hv:(cs.drop o).take m=vs):∃ n y,DataW.trod enc P w base spare held n d vs=some y:=by
 obtain⟨xs,n,_,_,_,hlen,hx⟩:=DataW.trod_struct ht h
 have g:=hx j f q
 rw [e.1,e.2,cd,List.getElem?_eq_getElem (by rw [hlen];exact (Array.getElem?_eq_some_iff.1 q).1),hv] at g
 exact⟨n,_,g⟩
end
section
variable {H:Type} {enc:TypeId × Value→H} {w:World} {base b0:Nat} {spare:Nat→Bool} {held:Bool} {r:Reach}
theorem trod_node {fuel:Nat} {cs:List Value} {x:DataW H × List MemPlace} (hl:cs.length=19) (h:DataW.trod enc Tryd.prog w base spare held fuel 35 cs=some x):∃ nd:Nd,cs=nd.val.toList∧NdOk w w.heap.size nd:=by
 obtain⟨a0,a1,a2,a3,a4,a5,a6,a7,a8,a9,a10,a11,a12,a13,a14,a15,a16,a17,a18,rfl⟩:=list_19 hl
 obtain⟨kd,rfl,wkd⟩:=zat Tryd.underlying35 h (j:=0) (o:=0) rfl ⟨rfl,rfl⟩ Tryd.underlying3 (by kernel_rfl) rfl
 obtain⟨na,rfl,wna⟩:=zat Tryd.underlying35 h (j:=1) (o:=1) rfl ⟨rfl,rfl⟩ Tryd.underlying3 (by kernel_rfl) rfl
 obtain⟨nb,rfl,wnb⟩:=zat Tryd.underlying35 h (j:=2) (o:=2) rfl ⟨rfl,rfl⟩ Tryd.underlying3 (by kernel_rfl) rfl
 obtain⟨K,rfl,wK⟩:=zat Tryd.underlying35 h (j:=3) (o:=3) rfl ⟨rfl,rfl⟩ Tryd.underlying3 (by kernel_rfl) rfl
 obtain⟨S,rfl,wS⟩:=zat Tryd.underlying35 h (j:=4) (o:=4) rfl ⟨rfl,rfl⟩ Tryd.underlying3 (by kernel_rfl) rfl
 obtain⟨P,rfl,wP⟩:=zat Tryd.underlying35 h (j:=5) (o:=5) rfl ⟨rfl,rfl⟩ Tryd.underlying3 (by kernel_rfl) rfl
 obtain⟨O,rfl,wO⟩:=zat Tryd.underlying35 h (j:=6) (o:=6) rfl ⟨rfl,rfl⟩ Tryd.underlying3 (by kernel_rfl) rfl
 obtain⟨Z,rfl,wZ⟩:=zat Tryd.underlying35 h (j:=7) (o:=7) rfl ⟨rfl,rfl⟩ Tryd.underlying31 (by kernel_rfl) rfl
 obtain⟨Y,rfl,wY⟩:=zat Tryd.underlying35 h (j:=8) (o:=8) rfl ⟨rfl,rfl⟩ Tryd.underlying31 (by kernel_rfl) rfl
 obtain⟨WA,ws,cW,rfl,p1,p2,p3,p4⟩:=field_list Tryd.underlying35 h (j:=9) (o:=9) rfl ⟨rfl,rfl⟩ Tryd.underlying23 (by kernel_rfl) Tryd.underlying31 (by kernel_rfl) rfl
 obtain⟨BA,bs,cB,rfl,p5,p6,p7,p8⟩:=field_list Tryd.underlying35 h (j:=10) (o:=10) rfl ⟨rfl,rfl⟩ Tryd.underlying24 (by kernel_rfl) Tryd.underlying21 (by kernel_rfl) rfl
 obtain⟨_,_,g1⟩:=zbf Tryd.underlying35 h (j:=11) (o:=11) (m:=3) (vs:=[a11,a12,a13]) rfl ⟨rfl,rfl⟩ (by kernel_rfl) rfl
 obtain⟨m1,rfl,wm1⟩:=zat Tryd.underlying33 g1 (j:=0) (o:=0) rfl ⟨rfl,rfl⟩ Tryd.underlying21 (by kernel_rfl) rfl
 obtain⟨s1,rfl,ws1⟩:=zat Tryd.underlying33 g1 (j:=1) (o:=1) rfl ⟨rfl,rfl⟩ Tryd.underlying3 (by kernel_rfl) rfl
 obtain⟨z1,rfl,wz1⟩:=zat Tryd.underlying33 g1 (j:=2) (o:=2) rfl ⟨rfl,rfl⟩ Tryd.underlying31 (by kernel_rfl) rfl
 obtain⟨_,_,g2⟩:=zbf Tryd.underlying35 h (j:=12) (o:=14) (m:=3) (vs:=[a14,a15,a16]) rfl ⟨rfl,rfl⟩ (by kernel_rfl) rfl
 obtain⟨m2,rfl,wm2⟩:=zat Tryd.underlying33 g2 (j:=0) (o:=0) rfl ⟨rfl,rfl⟩ Tryd.underlying21 (by kernel_rfl) rfl
 obtain⟨s2,rfl,ws2⟩:=zat Tryd.underlying33 g2 (j:=1) (o:=1) rfl ⟨rfl,rfl⟩ Tryd.underlying3 (by kernel_rfl) rfl
 obtain⟨z2,rfl,wz2⟩:=zat Tryd.underlying33 g2 (j:=2) (o:=2) rfl ⟨rfl,rfl⟩ Tryd.underlying31 (by kernel_rfl) rfl
 obtain⟨lo,rfl,wlo⟩:=zat Tryd.underlying35 h (j:=13) (o:=17) rfl ⟨rfl,rfl⟩ Tryd.underlying31 (by kernel_rfl) rfl
 obtain⟨hi,rfl,whi⟩:=zat Tryd.underlying35 h (j:=14) (o:=18) rfl ⟨rfl,rfl⟩ Tryd.underlying31 (by kernel_rfl) rfl
 exact⟨⟨kd,na,nb,K,S,P,O,Z,Y,WA,ws.length,cW,BA,bs.length,cB,m1,s1,z1,m2,s2,z2,lo,hi⟩,rfl,⟨wf8 wZ,wf64 wna,wf64 wnb,⟨wf64 wK,wf64 wS,wf64 wP,wf64 wO⟩,⟨wf32 wm1,wf32 wm2,wf8 wz1,wf8 wz2,wf8 wlo,wf8 whi,wf8 wY⟩,⟨wf64 ws1,wf64 ws2,wf64 wkd⟩,⟨ws,rfl,p1,p2,p3,p4⟩,⟨bs,rfl,p5,p6,p7,p8⟩⟩⟩
def nd0:Nd:=⟨0,0,0,0,0,0,0,0,0,none,0,0,none,0,0,0,0,0,0,0,0,0,0⟩
end
end CGraph
end
section
namespace CKind
open Plain CSat CShape CTensor CConv
def NdBox (b:Nat) (x:Nd) (w:World):Prop:=NdAt b x w∧w.there b 0 19
theorem NdBox.new (x:Nd) (T:TypeId) (w:World):NdBox w.heap.size x (w.alloc (.cells x.val T)):=by
 refine⟨NdAt.new x T w,fun j hj=>?_⟩
 rw [Nat.zero_add]
 constructor
 ·rw [Kit.zak]
  have:j < x.val.size:=hj
  simp [this]
 ·unfold World.frozen?;rw [heap_alloc_new];rfl
theorem NdBox.below {b B:Nat} {x:Nd} {w w':World} (h:NdBox b x w) (hB:b < B) (hb:Below B w w'):NdBox b x w' :=
 ⟨h.1.below hB hb,fun j hj=>⟨by rw [hb.cell (p:=⟨b,0+j,none⟩) hB];exact (h.2 j hj).1,by rw [hb.frozen (p:=⟨b,0+j,none⟩) hB];exact (h.2 j hj).2⟩⟩
theorem NdBox.set {b:Nat} {x y:Nd} {w:World} (h:NdBox b x w) (i:Nat) (v:Value) (hi:i < 19) (hy:x.val.toList.set i v=y.val.toList):NdBox b y (w.setCell ⟨b,i,none⟩ v):=by
 have hc:=(h.2 i hi).1
 rw [Nat.zero_add] at hc
 refine⟨fun j u hj=>?_,fun j hj=>⟨?_,?_⟩⟩
 ·rw [Nat.zero_add]
  rw [← hy,List.getElem?_set] at hj
  by_cases e:i=j
  ·subst e
   rw [if_pos rfl,if_pos (show i < x.val.toList.length from hi)] at hj
   cases hj
   exact World.cell?_setCell_same' _ _ _ hc
  ·rw [if_neg e] at hj
   rw [World.cell?_setCell_other _ _ _ _ (fun hh=>e (by injection hh))]
   have:=h.1 j u hj
   rwa [Nat.zero_add] at this
 ·rw [Nat.zero_add]
  by_cases e:i=j
  ·subst e
   rw [World.cell?_setCell_same' _ _ _ hc];rfl
  ·rw [World.cell?_setCell_other _ _ _ _ (fun hh=>e (by injection hh))]
   have:=(h.2 j hj).1
   rwa [Nat.zero_add] at this
 ·rw [World.frozen?_setCell];exact (h.2 j hj).2
theorem NdBox.fr {b:Nat} {x:Nd} {w:World} (h:NdBox b x w) (i:Nat) (hi:i < 19):w.frozen? ⟨b,i,none⟩=false:=by
 have:=(h.2 i hi).2
 rwa [Nat.zero_add] at this
theorem info_node:(Tryd.prog.info? 35).map (·.size)=some 19:=by kernel_rfl
theorem nd_one (x:Nd):x.val.all (·.oneCell')=true:=by simp [Nd.val,Value.oneCell']
theorem zaw {ops:Array Oper} {rest:List Oper} {op:Oper} {a:Act} {w:World} {Q:Exit→Act→World→Prop} (hgd:op.guard=none) (x y:Operand) (ho:op.op=.store 35 x y)
  (b:Nat) (u v:Nd) (hx:a.eval x=.pointer (some ⟨b,0,none⟩)) (hy:a.eval y=.agg v.val) (hb:NdBox b u w)
  (h:∀ w',NdBox b v w'→Below b w w'→w'.heap.size=w.heap.size→wpList Tryd.prog ops Q rest (a.put op.dst undef) w'):wpList Tryd.prog ops Q (op :: rest) a w:=by
 refine wpList_store_mid hgd 35 x y ho b 0 v.val hx hy hb.2 info_node (nd_one v) ?_
 have go:∀ (vs:List Value) (o:Nat) (w:World),Below b w (w.setCells b o vs)∧(w.setCells b o vs).heap.size=w.heap.size:=by
  intro vs
  induction vs with
  | nil=>intro o w;exact⟨Below.refl _ _,rfl⟩
  | cons v vs ih=>intro o w;exact⟨((Below.refl b w).setCell (p:=⟨b,o,none⟩) (le_refl _) v).trans (ih (o+1) _).1,(ih (o+1) (w.setCell ⟨b,o,none⟩ v)).2.trans (by simp [World.setCell])⟩
 exact h _ ⟨World.rangeAt_setCells_same _ _ _ _ hb.2,World.there_setCells hb.2 _ _ _⟩ (go _ _ _).1 (go _ _ _).2
theorem zal {ops:Array Oper} {rest:List Oper} {op:Oper} {a:Act} {w:World} {Q:Exit→Act→World→Prop} (hgd:op.guard=none) (x:Operand) (ho:op.op=.load 35 x)
  (b:Nat) (u:Nd) (hx:a.eval x=.pointer (some ⟨b,0,none⟩)) (hb:NdAt b u w)
  (h:wpList Tryd.prog ops Q rest (a.put op.dst (.agg u.val)) w):wpList Tryd.prog ops Q (op :: rest) a w :=
 wpList_load_mid hgd 35 x ho b 0 hx u.val.toList _ hb Tryd.underlying35 rfl (by kernel_rfl) h
theorem zbo {fn:Func} {p:Tmp} (h:fn.results=#[.cell p 35]) (tmps:Array Value) (w:World) (b:Nat) (x:Nd) (hp:tmps.getD p undef=.pointer (some ⟨b,0,none⟩)) (hb:NdAt b x w) :
  (results fn tmps).run Tryd.prog w=.ok (.agg x.val) w :=
 Kit.results_c h tmps w b 0 x.val.toList _ hp hb Tryd.underlying35 rfl (by kernel_rfl)
end CKind
end
end Go.Proofs.YtjhlkmnpfibgaaaDoor
