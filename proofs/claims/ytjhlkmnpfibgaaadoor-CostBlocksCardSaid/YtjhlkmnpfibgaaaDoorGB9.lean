/- -/
import Derived.Lib.SmallJoins
import Derived.Test.YtjhlkmnpfibgaaaDoorGB8
open Nat (le_refl lt_of_succ_lt lt_succ_self)
set_option linter.unusedVariables false
set_option linter.unusedSimpArgs false
set_option maxRecDepth 100000
set_option maxHeartbeats 16000000
namespace Go.Proofs.YtjhlkmnpfibgaaaDoor
namespace CSat
end CSat
namespace CTensor
end CTensor
open Go Go.ChangeShapes Go.WideShapes Go.ChangeAt Go.RowKit Go.Deep
section
namespace Kit
section
variable {H:Type} {enc:TypeId × Value→H} {P:Program} {w:World} {base b0:Nat} {spare:Nat→Bool} {held:Bool} {r:Reach}
theorem size_19 {cs:Array Value} (h:cs.size=19):∃ a0 a1 a2 a3 a4 a5 a6 a7 a8 a9 a10 a11 a12 a13 a14 a15 a16 a17 a18,cs=#[a0,a1,a2,a3,a4,a5,a6,a7,a8,a9,a10,a11,a12,a13,a14,a15,a16,a17,a18]:=by
 obtain⟨l⟩:=cs
 match l,h with
 | [a0,a1,a2,a3,a4,a5,a6,a7,a8,a9,a10,a11,a12,a13,a14,a15,a16,a17,a18],_=>exact⟨a0,a1,a2,a3,a4,a5,a6,a7,a8,a9,a10,a11,a12,a13,a14,a15,a16,a17,a18,rfl⟩
theorem zbs {d e:TypeId} {k:IntKind} {c3:Value} {n:Nat} {x:DataW H × List MemPlace} (hd:P.underlying d=some (.slice e)) (he:P.underlying e=some (.int k)) (hce:P.cellsOf e=1) (h1:DataW.trod enc P w base spare held n d [c3]=some x) :
  ∃ (A:Option Addr) (zs:List Int) (c:Nat),c3=.slice A zs.length c∧zs.length≤c∧c≤maxLen∧(∀ n∈zs,(Lit.int k n).wf=true)∧Rd w w.heap.size A (zs.map (.int k)):=by
 obtain⟨a3,len,cap,e3⟩:=Go.Joins.slice_form hd h1
 simp at e3
 subst e3
 rcases open_ints hd he hce h1 with ⟨hcs,_⟩ | ⟨a,len',cap',zs,hcs,_,hl,hm,hz,_,hcell,hwz⟩
 ·simp at hcs
  obtain⟨rfl,rfl,rfl⟩:=hcs
  exact⟨none,[],0,rfl,by simp,by simp,by simp,Rd.nil⟩
 ·simp at hcs
  obtain⟨rfl,rfl,rfl⟩:=hcs
  have hlz:len≤zs.length:=by rw [hz];split <;> omega
  refine⟨some a,zs.take len,cap,?_,?_,hm,fun n hn=>hwz n (List.mem_of_mem_take hn),fun j u hu=>?_⟩
  ·rw [List.length_take,Nat.min_eq_left hlz]
  ·rw [List.length_take,Nat.min_eq_left hlz];exact hl
  ·rw [List.getElem?_map,List.getElem?_take] at hu
   split at hu
   ·rename_i hj
    have hjz:j < zs.length:=by omega
    rw [List.getElem?_eq_getElem hjz] at hu
    simp only [Option.map_some,Option.some.injEq] at hu
    subst hu
    have h9:=hcell j hjz
    rw [List.getD_eq_getElem?_getD,List.getElem?_eq_getElem hjz,Option.getD_some] at h9
    exact⟨a,rfl,by have:=block_lt h9;rwa [add_block] at this,h9⟩
   ·simp at hu
theorem open_node {t i b8 d e d2 e2:TypeId} {fs:Array Field} {f3 f4 f5 f6 f7 f9 f10:Field} {v:Value} {D:DataW H} {ps:List MemPlace}
  (ht:P.underlying t=some (.struct fs)) (hct:P.cellsOf t=19) (hi:P.underlying i=some (.int .i64)) (hci:P.cellsOf i=1) (hb:P.underlying b8=some (.int .i8)) (hcb:P.cellsOf b8=1)
  (hd:P.underlying d=some (.slice e)) (he:P.underlying e=some (.int .i8)) (hce:P.cellsOf e=1) (hcd:P.cellsOf d=1) (hd2:P.underlying d2=some (.slice e2)) (he2:P.underlying e2=some (.int .i32)) (hce2:P.cellsOf e2=1) (hcd2:P.cellsOf d2=1)
  (q3:fs[3]?=some f3) (q4:fs[4]?=some f4) (q5:fs[5]?=some f5) (q6:fs[6]?=some f6) (q7:fs[7]?=some f7) (q9:fs[9]?=some f9) (q10:fs[10]?=some f10)
  (o3:f3.type=i∧f3.offset=3) (o4:f4.type=i∧f4.offset=4) (o5:f5.type=i∧f5.offset=5) (o6:f6.type=i∧f6.offset=6) (o7:f7.type=b8∧f7.offset=7) (o9:f9.type=d∧f9.offset=9) (o10:f10.type=d2∧f10.offset=10)
  (hv:Value.okWide P w r b0 t v) (h:DataW.Trod enc P w base spare held t v D ps) :
  ∃ (a0 a1 a2 a8 a11 a12 a13 a14 a15 a16 a17 a18:Value) (K S Q O Z:Int) (A:Option Addr) (ws:List Int) (c:Nat) (B:Option Addr) (bs:List Int) (c2:Nat),
   v=.agg #[a0,a1,a2,.int .i64 K,.int .i64 S,.int .i64 Q,.int .i64 O,.int .i8 Z,a8,.slice A ws.length c,.slice B bs.length c2,a11,a12,a13,a14,a15,a16,a17,a18]∧(Lit.int .i8 Z).wf=true ∧
   ws.length≤c∧c≤maxLen∧(∀ n∈ws,(Lit.int .i8 n).wf=true)∧Rd w w.heap.size A (ws.map (.int .i8)) ∧
   bs.length≤c2∧c2≤maxLen∧(∀ n∈bs,(Lit.int .i32 n).wf=true)∧Rd w w.heap.size B (bs.map (.int .i32)):=by
 obtain⟨cs,rfl,hsz⟩:=okWide_struct ht hv
 rw [hct] at hsz
 obtain⟨a0,a1,a2,a3,a4,a5,a6,a7,a8,a9,a10,a11,a12,a13,a14,a15,a16,a17,a18,rfl⟩:=size_19 hsz
 obtain⟨fuel,hfu⟩:=h
 obtain⟨xs,n,_,_,_,hlen,hx⟩:=DataW.trod_struct ht hfu
 have hl:∀ (j:Nat) (f:Field),fs[j]?=some f→j < xs.length:=fun j f hj=>by rw [hlen];exact (Array.getElem?_eq_some_iff.1 hj).1
 have g3:=hx 3 f3 q3
 rw [o3.1,o3.2,hci,List.getElem?_eq_getElem (hl 3 f3 q3)] at g3
 rw [show ((Value.agg #[a0,a1,a2,a3,a4,a5,a6,a7,a8,a9,a10,a11,a12,a13,a14,a15,a16,a17,a18]).cells.toList.drop 3).take 1=[a3] from rfl] at g3
 have g4:=hx 4 f4 q4
 rw [o4.1,o4.2,hci,List.getElem?_eq_getElem (hl 4 f4 q4)] at g4
 rw [show ((Value.agg #[a0,a1,a2,a3,a4,a5,a6,a7,a8,a9,a10,a11,a12,a13,a14,a15,a16,a17,a18]).cells.toList.drop 4).take 1=[a4] from rfl] at g4
 have g5:=hx 5 f5 q5
 rw [o5.1,o5.2,hci,List.getElem?_eq_getElem (hl 5 f5 q5)] at g5
 rw [show ((Value.agg #[a0,a1,a2,a3,a4,a5,a6,a7,a8,a9,a10,a11,a12,a13,a14,a15,a16,a17,a18]).cells.toList.drop 5).take 1=[a5] from rfl] at g5
 have g6:=hx 6 f6 q6
 rw [o6.1,o6.2,hci,List.getElem?_eq_getElem (hl 6 f6 q6)] at g6
 rw [show ((Value.agg #[a0,a1,a2,a3,a4,a5,a6,a7,a8,a9,a10,a11,a12,a13,a14,a15,a16,a17,a18]).cells.toList.drop 6).take 1=[a6] from rfl] at g6
 have g7:=hx 7 f7 q7
 rw [o7.1,o7.2,hcb,List.getElem?_eq_getElem (hl 7 f7 q7)] at g7
 rw [show ((Value.agg #[a0,a1,a2,a3,a4,a5,a6,a7,a8,a9,a10,a11,a12,a13,a14,a15,a16,a17,a18]).cells.toList.drop 7).take 1=[a7] from rfl] at g7
 have g9:=hx 9 f9 q9
 rw [o9.1,o9.2,hcd,List.getElem?_eq_getElem (hl 9 f9 q9)] at g9
 rw [show ((Value.agg #[a0,a1,a2,a3,a4,a5,a6,a7,a8,a9,a10,a11,a12,a13,a14,a15,a16,a17,a18]).cells.toList.drop 9).take 1=[a9] from rfl] at g9
 have g10:=hx 10 f10 q10
 rw [o10.1,o10.2,hcd2,List.getElem?_eq_getElem (hl 10 f10 q10)] at g10
 rw [show ((Value.agg #[a0,a1,a2,a3,a4,a5,a6,a7,a8,a9,a10,a11,a12,a13,a14,a15,a16,a17,a18]).cells.toList.drop 10).take 1=[a10] from rfl] at g10
 obtain⟨K,eK,_,_⟩:=DataW.trod_int hi g3
 obtain⟨S,eS,_,_⟩:=DataW.trod_int hi g4
 obtain⟨Q,eQ,_,_⟩:=DataW.trod_int hi g5
 obtain⟨O,eO,_,_⟩:=DataW.trod_int hi g6
 obtain⟨Z,eZ,_,wZ⟩:=DataW.trod_int hb g7
 simp at eK eS eQ eO eZ
 subst eK eS eQ eO eZ
 obtain⟨A,ws,c,rfl,p1,p2,p3,p4⟩:=zbs hd he hce g9
 obtain⟨B,bs,c2,rfl,p5,p6,p7,p8⟩:=zbs hd2 he2 hce2 g10
 exact⟨a0,a1,a2,a8,a11,a12,a13,a14,a15,a16,a17,a18,K,S,Q,O,Z,A,ws,c,B,bs,c2,rfl,wZ,p1,p2,p3,p4,p5,p6,p7,p8⟩
end
end Kit
end
section
namespace CConv
open Go Go.ChangeShapes Go.WideShapes Go.ChangeAt Go.RowKit
open Plain CSat CShape CTensor
def zba (B:Nat) (x0 x1 x2 x8 x11 x12 x13 x14 x15 x16 x17 x18:Value) (K S P O Z:Int) (WA BA:Option Addr) (nW cW nB cB:Nat) (wd:World):Prop:=wd.rangeAt B 0 [x0,x1,x2,.int .i64 K,.int .i64 S,.int .i64 P,.int .i64 O,.int .i8 Z,x8,.slice WA nW cW,.slice BA nB cB,x11,x12,x13,x14,x15,x16,x17,x18]
theorem zba.new (x0 x1 x2 x8 x11 x12 x13 x14 x15 x16 x17 x18:Value) (K S P O Z:Int) (WA BA:Option Addr) (nW cW nB cB:Nat) (T:TypeId) (w:World):zba w.heap.size x0 x1 x2 x8 x11 x12 x13 x14 x15 x16 x17 x18 K S P O Z WA BA nW cW nB cB (w.alloc (.cells #[x0,x1,x2,.int .i64 K,.int .i64 S,.int .i64 P,.int .i64 O,.int .i8 Z,x8,.slice WA nW cW,.slice BA nB cB,x11,x12,x13,x14,x15,x16,x17,x18] T)):=fun j v hj=>by
 rw [Nat.zero_add,Kit.zam]
 simpa using hj
theorem zba.below {B B':Nat} {x0 x1 x2 x8 x11 x12 x13 x14 x15 x16 x17 x18:Value} {K S P O Z:Int} {WA BA:Option Addr} {nW cW nB cB:Nat} {w w':World} (h:zba B x0 x1 x2 x8 x11 x12 x13 x14 x15 x16 x17 x18 K S P O Z WA BA nW cW nB cB w) (hB:B < B') (hb:Below B' w w'):zba B x0 x1 x2 x8 x11 x12 x13 x14 x15 x16 x17 x18 K S P O Z WA BA nW cW nB cB w':=fun j v hj =>
 (hb.cell (p:=⟨B,0+j,none⟩) hB).trans (h j v hj)
theorem zba.at {B:Nat} {x0 x1 x2 x8 x11 x12 x13 x14 x15 x16 x17 x18:Value} {K S P O Z:Int} {WA BA:Option Addr} {nW cW nB cB:Nat} {w:World} (h:zba B x0 x1 x2 x8 x11 x12 x13 x14 x15 x16 x17 x18 K S P O Z WA BA nW cW nB cB w) (i:Nat) (v:Value) (hi:([x0,x1,x2,.int .i64 K,.int .i64 S,.int .i64 P,.int .i64 O,.int .i8 Z,x8,.slice WA nW cW,.slice BA nB cB,x11,x12,x13,x14,x15,x16,x17,x18]:List Value)[i]?=some v):w.cell? ⟨B,i,none⟩=some v:=by
 have:=h i v hi
 rwa [Nat.zero_add] at this
end CConv
end
section
namespace CFix
open Go Go.ChangeShapes Go.WideShapes Go.ChangeAt Go.RowKit
open Plain CSat
theorem right_yes (s:Int) (h1:0≤s) (h2:s≤62) (w:World) :
  Calls Tryd.prog 66 #[.int .i64 s] w fun e w'=>e=.returned (.bool true)∧w=w':=by
 go_enter Tryd.func66,Tryd.ntmps66
 go_wp2
 go_ret
 exact⟨rfl,rfl⟩
theorem right_no (s:Int) (h:s < 0∨62 < s) (w:World) :
  Calls Tryd.prog 66 #[.int .i64 s] w fun e w'=>e=.returned (.bool false)∧w=w':=by
 rcases h with h | h
 ·go_enter Tryd.func66,Tryd.ntmps66
  go_wp2
  go_ret
  exact⟨rfl,rfl⟩
 ·by_cases h0:0≤s
  ·have hd:decide (s≤62)=false:=by simp;omega
   go_enter Tryd.func66,Tryd.ntmps66
   go_wp2
   go_ret
   exact⟨rfl,rfl⟩
  ·go_enter Tryd.func66,Tryd.ntmps66
   go_wp2
   go_ret
   exact⟨rfl,rfl⟩
def zbl (m s:Int):Bool:=decide (0 < m∧0≤s∧s≤62)
theorem isRight_yes (m s z:Int) (h:zbl m s=true) (w:World) :
  Calls Tryd.prog 60 #[.agg #[.int .i32 m,.int .i64 s,.int .i8 z]] w fun e w'=>e=.returned (.bool true)∧Below w.heap.size w w':=by
 obtain⟨h1,h2,h3⟩:0 < m∧0≤s∧s≤62:=by simpa [zbl] using h
 clear h
 go_enter Tryd.func60,Tryd.ntmps60
 go_wp2_with (go_at_call 66;refine (right_yes _ (by omega) (by omega) _).mono ?_;rintro e w' ⟨rfl,rfl⟩)
 go_ret
 exact⟨rfl,(Below.refl _ _).alloc (le_refl _) _⟩
theorem isRight_no (m s z:Int) (h:zbl m s=false) (w:World) :
  Calls Tryd.prog 60 #[.agg #[.int .i32 m,.int .i64 s,.int .i8 z]] w fun e w'=>e=.returned (.bool false)∧Below w.heap.size w w':=by
 have h0:¬ (0 < m∧0≤s∧s≤62):=by simpa [zbl] using h
 clear h
 by_cases h1:0 < m
 ·have h2:s < 0∨62 < s:=by omega
  clear h0
  go_enter Tryd.func60,Tryd.ntmps60
  go_wp2_with (go_at_call 66;refine (right_no _ h2 _).mono ?_;rintro e w' ⟨rfl,rfl⟩)
  go_ret
  exact⟨rfl,(Below.refl _ _).alloc (le_refl _) _⟩
 ·have hd:decide (0 < m)=false:=by simpa using h1
  clear h0
  go_enter Tryd.func60,Tryd.ntmps60
  go_wp2_with fail
  go_ret
  exact⟨rfl,(Below.refl _ _).alloc (le_refl _) _⟩
end CFix
end
end Go.Proofs.YtjhlkmnpfibgaaaDoor
