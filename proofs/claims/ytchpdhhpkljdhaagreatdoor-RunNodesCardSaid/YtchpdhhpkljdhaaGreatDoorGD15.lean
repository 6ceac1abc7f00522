/- -/
import Derived.Test.YtchpdhhpkljdhaaGreatDoorGD14
open Go.Value renaming int→Jj
open Go.IntKind renaming i64→Jq
open Go.Lib (hid)
open Nat (le_refl lt_of_succ_lt lt_succ_self)
set_option linter.unusedVariables false
set_option linter.unusedSimpArgs false
set_option maxRecDepth 100000
set_option maxHeartbeats 16000000
namespace Go.Proofs.YtchpdhhpkljdhaaGreatDoor
namespace CConv
end CConv
namespace CSat
end CSat
open Go Go.ChangeShapes Go.WideShapes Go.ChangeAt Go.RowKit Go.Deep
section
namespace CFix
open Go Go.ChangeShapes Go.WideShapes Go.ChangeAt Go.RowKit
open Plain CSat
def Owned (w:World) (T size n:Nat) (xs:List Value) (e:Ending) (w':World):Prop :=
 ∃ v,e=.returned v∧w'.ownsRow w.heap.size T size v n xs∧Below w.heap.size w w'
def I32s (zs:List Int):Prop:=∀ z∈zs, -2147483648≤z∧z≤2147483647
theorem info8:(Tryz.prog.info? 22).map (fun i=>(i.zero,i.size,i.bytes))=some (some (.int .i8 0),1,1):=by kernel_rfl
theorem all_yes (A:Option Addr) (zs:List Int) (c:Nat) (m s z lo hi:Int) (hr:zau m s=true) (hlen:zs.length≤1000000) (hzs:I32s zs) (hm1 : -2147483648≤m) (hm2:m≤2147483647) (hz1 : -128≤z) (hz2:z≤127)
  (hl1 : -128≤lo) (hl2:lo≤127) (hh1 : -128≤hi) (hh2:hi≤127) (L:List Value) (hL:L=(zs.map fun a=>heldZ a m s z lo hi).map (Value.int .i8)) (w:World) (hrd:Kit.Rd w w.heap.size A (zs.map (.int .i32))) :
  Calls Tryz.prog 109 #[.slice A zs.length c,.agg #[.int .i32 m,Jj Jq s,.int .i8 z],.int .i8 lo,.int .i8 hi] w
   (Owned w 22 1 zs.length L):=by
 have hLl:L.length=zs.length:=by rw [hL];simp
 have HL:=hid hL
 have HLL:=hid hLl
 have HR:=hid hr
 clear hr hL hLl
 go_enter Tryz.func109,Tryz.ntmps109
 obtain⟨i0,hi0,hi1,hi2,hi3⟩:=info_parts info8
 go_wp2_with (first
  | (go_at_call 42;refine (zcu _ _ _ HR.out _).mono ?_;rintro e w1 ⟨rfl,hb⟩)
  | (at_make;refine wpList_make_full _ rfl (.tmp 15) (.tmp 15) _ rfl (w.heap.size+1) 22 i0 (.int .i8 0) 1 Tryz.underlying23 hi0 hi1 hi2 .i64 .i64 _ _ zs.length rfl rfl rfl rfl Zbq (by unfold maxLen;omega) (by have:=hb.size;simpa using this) ?_;intro w2 hown hg2))
 have hB2:Below (w.heap.size+1) (w.alloc (.cells #[.int .i32 m,Jj Jq s,.int .i8 z] 26)) w2 :=
  (by simpa using hb:Below (w.heap.size+1) _ w1).grown hg2 (by simpa using hb.size) (fun q hq=>by cases hq)
 have hgs:w.heap.size < w1.heap.size:=by have:=hb.size;simp at this;omega
 rw [show (madeCells (Value.int IntKind.i8 0).cells (zs.length * 1)).toList=List.replicate zs.length (.int .i8 0) by rw [Nat.mul_one];exact toList_madeCells_one _ _] at hown
 generalize w1.heap.size=g at *
 have hown0:w2.ownsRow (w.heap.size+1) 22 1 (.slice (some ⟨g,0,none⟩) zs.length zs.length) zs.length (Kit.filled L (.int .i8 0) 0):=by rw [Kit.filled_zero,HLL.out];exact hown
 have HOWN:=hid hown0
 have HB2:=hid hB2
 have HRD:=hid hrd
 clear hb hg2 hB2 hrd hown hown0
 go_loopw [19] (fun i wr=>∃ k:Nat,k≤zs.length∧i=Jj Jq k∧Hid (wr.ownsRow (w.heap.size+1) 22 1 (.slice (some ⟨g,0,none⟩) zs.length zs.length) zs.length (Kit.filled L (.int .i8 0) k))∧Hid (Below (w.heap.size+1) w2 wr)) (fun i _=>zs.length - (intOf i).toNat)
 case atStart=>exact Z2u
 case round =>
  obtain⟨k,hk,rfl,hown1,hb1⟩:=hrel
  by_cases hlt:k < zs.length
  ·obtain⟨b,off,rfl,hbw,hx⟩:=HRD.out.ints hlt
   obtain⟨hx1,hx2⟩:=hzs zs[k] (List.getElem_mem hlt)
   have hbt:=HB2.out.trans hb1.out
   have hszt:w.heap.size+1≤wr.heap.size:=by have:=hbt.size;simpa using this
   have hga:g < wr.heap.size:=Kit.zbd hown1.out
   have cx:wr.cell? ⟨b,off+k,none⟩=some (.int .i32 zs[k]):=by rw [hbt.cell (p:=⟨b,off+k,none⟩) Zba,World.cell?_alloc_lt _ _ _ hbw];exact hx
   have c0:wr.cell? ⟨w.heap.size,0,none⟩=some (.int .i32 m):=(hbt.cell (p:=⟨w.heap.size,0,none⟩) Zb7).trans (Kit.zan _ _ _ _)
   have c1:wr.cell? ⟨w.heap.size,1,none⟩=some (Jj Jq s):=(hbt.cell (p:=⟨w.heap.size,1,none⟩) Zb7).trans (Kit.zan _ _ _ _)
   have c2:wr.cell? ⟨w.heap.size,2,none⟩=some (.int .i8 z):=(hbt.cell (p:=⟨w.heap.size,2,none⟩) Zb7).trans (Kit.zan _ _ _ _)
   have cd:wr.cell? ⟨g,k,none⟩=some (.int .i8 0):=by
    rw [hown1.out.cellAt k Zb3]
    exact Kit.filled_at L _ (by rw [HLL.out];exact hlt)
   have fd:wr.frozen? ⟨g,k,none⟩=false:=hown1.out.frozenAt k
   have lw:w.heap.size < wr.heap.size:=by omega
   have lb:b < wr.heap.size:=by omega
   have nb:g≠b:=by omega
   have nw:g≠w.heap.size:=by omega
   generalize hxe:zs[k]=x at *
   have HX:=hid hxe
   have HBT:=hid hbt
   clear hxe hbt hx
   go_wp2_with fail
   go_region_held3 (fun w'=>w'.cell? ⟨b,off+k,none⟩=some (.int .i32 x)∧w'.cell? ⟨w.heap.size,0,none⟩=some (.int .i32 m)∧w'.cell? ⟨w.heap.size,1,none⟩=some (Jj Jq s)∧w'.cell? ⟨w.heap.size,2,none⟩=some (.int .i8 z)) (first | go_keep | exact⟨(World.cell?_setCell_far _ _ _ _ nb).trans e0,(World.cell?_setCell_far _ _ _ _ nw).trans e1,(World.cell?_setCell_far _ _ _ _ nw).trans e2,(World.cell?_setCell_far _ _ _ _ nw).trans e3⟩) ((first
    | (go_at_call 103;refine (held _ _ _ _ _ _ hx1 hx2 hm1 hm2 hz1 hz2 hl1 hl2 hh1 hh2 _).mono ?_;rintro e w3 ⟨rfl,hb3⟩;obtain⟨hc3,hf3⟩:=Kit.bcell hb3;have e0:=(hc3 _ _ lb).trans cx;have e1:=(hc3 _ _ lw).trans c0;have e2:=(hc3 _ _ lw).trans c1;have e3:=(hc3 _ _ lw).trans c2;have ed:=(hc3 _ _ hga).trans cd;have ef:=(hf3 _ _ hga).trans fd;clear hc3 hf3)))
   have hn3:=((Kit.own_below hown1.out ((Below.refl _ _).drew.trans hb3)).stored k (.int .i8 (heldZ x m s z lo hi))).1
   have hval:Value.int .i8 (heldZ x m s z lo hi)=L[k]'(by rw [HLL.out];exact hlt):=by
    have hLo:=HL.out
    subst hLo
    simp [HX.out]
   have hn4:(w3.setCell ⟨g,k,none⟩ (.int .i8 (heldZ x m s z lo hi))).ownsRow (w.heap.size+1) 22 1 (.slice (some ⟨g,0,none⟩) zs.length zs.length) zs.length (Kit.filled L (.int .i8 0) (k+1)):=by
    rw [← Kit.filled_set L _ (by rw [HLL.out];exact hlt), ← hval];exact hn3
   have hbn:Below (w.heap.size+1) w2 (w3.setCell ⟨g,k,none⟩ (.int .i8 (heldZ x m s z lo hi))) :=
    (hb1.out.trans (((Below.refl _ _).drew.trans hb3).mono hszt)).setCell Zba _
   have HN4:=hid hn4
   have HBN:=hid hbn
   clear hn3 hval hn4 hbn hb3 e0 e1 e2 e3 ed ef cx c0 c1 c2 cd fd
   go_wp2
   go_roundw
   case rel=>exact⟨k+1,by omega,by go_num,HN4,HBN⟩
   case measure=>simp [intOf];omega
  ·have hke:k=zs.length:=by omega
   have hfin:wr.ownsRow (w.heap.size+1) 22 1 (.slice (some ⟨g,0,none⟩) zs.length zs.length) zs.length L:=by
    have:=hown1.out
    rwa [Kit.filled_all L _ (by rw [HLL.out];omega)] at this
   have HF:=hid hfin
   clear hke hfin
   go_wp2_with fail
   go_ret
   exact⟨_,rfl,Kit.zah HF.out Zb3,((Below.refl w.heap.size w).alloc (le_refl _) _).trans ((HB2.out.trans hb1.out).mono Zb3)⟩
end CFix
end
section
namespace Kit
section
variable {H:Type} {enc:TypeId × Value→H} {P:Program} {w:World} {base b0:Nat} {spare:Nat→Bool} {held:Bool} {r:Reach}
theorem size_19 {cs:Array Value} (h:cs.size=19):∃ a0 a1 a2 a3 a4 a5 a6 a7 a8 a9 a10 a11 a12 a13 a14 a15 a16 a17 a18,cs=#[a0,a1,a2,a3,a4,a5,a6,a7,a8,a9,a10,a11,a12,a13,a14,a15,a16,a17,a18]:=by
 obtain⟨l⟩:=cs
 match l,h with
 | [a0,a1,a2,a3,a4,a5,a6,a7,a8,a9,a10,a11,a12,a13,a14,a15,a16,a17,a18],_=>exact⟨a0,a1,a2,a3,a4,a5,a6,a7,a8,a9,a10,a11,a12,a13,a14,a15,a16,a17,a18,rfl⟩
theorem trod_islice_n {d e:TypeId} {k:IntKind} {c3:Value} {n:Nat} {x:DataW H × List MemPlace} (hd:P.underlying d=some (.slice e)) (he:P.underlying e=some (.int k)) (hce:P.cellsOf e=1) (h1:DataW.trod enc P w base spare held n d [c3]=some x) :
  ∃ (A:Option Addr) (zs:List Int) (c:Nat),c3=.slice A zs.length c∧zs.length≤c∧c≤maxLen∧(∀ n∈zs,(Lit.int k n).wf=true)∧Rd w w.heap.size A (zs.map (.int k)):=by
 obtain⟨a3,len,cap,e3⟩:=Go.Joins.slice_form hd h1
 simp at e3
 subst e3
 rcases open_ints hd he hce h1 with ⟨hcs,_⟩ | ⟨a,len',cap',zs,hcs,_,hl,hm,hz,_,hcell,hwz⟩
 ·simp at hcs
  obtain⟨rfl,rfl,rfl⟩:=hcs
  exact⟨none,[],0,rfl,by simp,by simp,by simp,Rd.nil⟩
 ·simp at hcs
  obtain⟨rfl,rfl,rfl⟩:=hcs
  have hlz:len≤zs.length:=by rw [hz];split <;> omega
  refine⟨some a,zs.take len,cap,?_,?_,hm,fun n hn=>hwz n (List.mem_of_mem_take hn),fun j u hu=>?_⟩
  ·rw [List.length_take,Nat.min_eq_left hlz]
  ·rw [List.length_take,Nat.min_eq_left hlz];exact hl
  ·exact Z1l
theorem open_node {t i b8 d e d2 e2:TypeId} {fs:Array Field} {f3 f4 f5 f6 f7 f9 f10:Field} {v:Value} {D:DataW H} {ps:List MemPlace}
  (ht:P.underlying t=some (.struct fs)) (hct:P.cellsOf t=19) (hi:P.underlying i=some (.int .i64)) (hci:P.cellsOf i=1) (hb:P.underlying b8=some (.int .i8)) (hcb:P.cellsOf b8=1)
  (hd:P.underlying d=some (.slice e)) (he:P.underlying e=some (.int .i8)) (hce:P.cellsOf e=1) (hcd:P.cellsOf d=1) (hd2:P.underlying d2=some (.slice e2)) (he2:P.underlying e2=some (.int .i32)) (hce2:P.cellsOf e2=1) (hcd2:P.cellsOf d2=1)
  (q3:fs[3]?=some f3) (q4:fs[4]?=some f4) (q5:fs[5]?=some f5) (q6:fs[6]?=some f6) (q7:fs[7]?=some f7) (q9:fs[9]?=some f9) (q10:fs[10]?=some f10)
  (o3:f3.type=i∧f3.offset=3) (o4:f4.type=i∧f4.offset=4) (o5:f5.type=i∧f5.offset=5) (o6:f6.type=i∧f6.offset=6) (o7:f7.type=b8∧f7.offset=7) (o9:f9.type=d∧f9.offset=9) (o10:f10.type=d2∧f10.offset=10)
  (hv:Value.okWide P w r b0 t v) (h:DataW.Trod enc P w base spare held t v D ps) :
  ∃ (a0 a1 a2 a8 a11 a12 a13 a14 a15 a16 a17 a18:Value) (K S Q O Z:Int) (A:Option Addr) (ws:List Int) (c:Nat) (B:Option Addr) (bs:List Int) (c2:Nat),
   v=.agg #[a0,a1,a2,Jj Jq K,Jj Jq S,Jj Jq Q,Jj Jq O,.int .i8 Z,a8,.slice A ws.length c,.slice B bs.length c2,a11,a12,a13,a14,a15,a16,a17,a18]∧(Lit.int .i8 Z).wf=true ∧
   ws.length≤c∧c≤maxLen∧(∀ n∈ws,(Lit.int .i8 n).wf=true)∧Rd w w.heap.size A (ws.map (.int .i8)) ∧
   bs.length≤c2∧c2≤maxLen∧(∀ n∈bs,(Lit.int .i32 n).wf=true)∧Rd w w.heap.size B (bs.map (.int .i32)):=by
 obtain⟨cs,rfl,hsz⟩:=okWide_struct ht hv
 rw [hct] at hsz
 obtain⟨a0,a1,a2,a3,a4,a5,a6,a7,a8,a9,a10,a11,a12,a13,a14,a15,a16,a17,a18,rfl⟩:=size_19 hsz
 obtain⟨fuel,hfu⟩:=h
 obtain⟨xs,n,_,_,_,hlen,hx⟩:=DataW.trod_struct ht hfu
 have hl:∀ (j:Nat) (f:Field),fs[j]?=some f→j < xs.length:=fun j f hj=>by rw [hlen];exact (Array.getElem?_eq_some_iff.1 hj).1
 have g3:=hx 3 f3 q3
 rw [o3.1,o3.2,hci,List.getElem?_eq_getElem (hl 3 f3 q3)] at g3
 rw [show ((Value.agg #[a0,a1,a2,a3,a4,a5,a6,a7,a8,a9,a10,a11,a12,a13,a14,a15,a16,a17,a18]).cells.toList.drop 3).take 1=[a3] from rfl] at g3
 have g4:=hx 4 f4 q4
 rw [o4.1,o4.2,hci,List.getElem?_eq_getElem (hl 4 f4 q4)] at g4
 rw [show ((Value.agg #[a0,a1,a2,a3,a4,a5,a6,a7,a8,a9,a10,a11,a12,a13,a14,a15,a16,a17,a18]).cells.toList.drop 4).take 1=[a4] from rfl] at g4
 have g5:=hx 5 f5 q5
 rw [o5.1,o5.2,hci,List.getElem?_eq_getElem (hl 5 f5 q5)] at g5
 rw [show ((Value.agg #[a0,a1,a2,a3,a4,a5,a6,a7,a8,a9,a10,a11,a12,a13,a14,a15,a16,a17,a18]).cells.toList.drop 5).take 1=[a5] from rfl] at g5
 have g6:=hx 6 f6 q6
 rw [o6.1,o6.2,hci,List.getElem?_eq_getElem (hl 6 f6 q6)] at g6
 rw [show ((Value.agg #[a0,a1,a2,a3,a4,a5,a6,a7,a8,a9,a10,a11,a12,a13,a14,a15,a16,a17,a18]).cells.toList.drop 6).take 1=[a6] from rfl] at g6
 have g7:=hx 7 f7 q7
 rw [o7.1,o7.2,hcb,List.getElem?_eq_getElem (hl 7 f7 q7)] at g7
 rw [show ((Value.agg #[a0,a1,a2,a3,a4,a5,a6,a7,a8,a9,a10,a11,a12,a13,a14,a15,a16,a17,a18]).cells.toList.drop 7).take 1=[a7] from rfl] at g7
 have g9:=hx 9 f9 q9
 rw [o9.1,o9.2,hcd,List.getElem?_eq_getElem (hl 9 f9 q9)] at g9
 rw [show ((Value.agg #[a0,a1,a2,a3,a4,a5,a6,a7,a8,a9,a10,a11,a12,a13,a14,a15,a16,a17,a18]).cells.toList.drop 9).take 1=[a9] from rfl] at g9
 have g10:=hx 10 f10 q10
 rw [o10.1,o10.2,hcd2,List.getElem?_eq_getElem (hl 10 f10 q10)] at g10
 rw [show ((Value.agg #[a0,a1,a2,a3,a4,a5,a6,a7,a8,a9,a10,a11,a12,a13,a14,a15,a16,a17,a18]).cells.toList.drop 10).take 1=[a10] from rfl] at g10
 obtain⟨K,eK,_,_⟩:=DataW.trod_int hi g3
 obtain⟨S,eS,_,_⟩:=DataW.trod_int hi g4
 obtain⟨Q,eQ,_,_⟩:=DataW.trod_int hi g5
 obtain⟨O,eO,_,_⟩:=DataW.trod_int hi g6
 obtain⟨Z,eZ,_,wZ⟩:=DataW.trod_int hb g7
 simp at eK eS eQ eO eZ
 subst eK eS eQ eO eZ
 obtain⟨A,ws,c,rfl,p1,p2,p3,p4⟩:=trod_islice_n hd he hce g9
 obtain⟨B,bs,c2,rfl,p5,p6,p7,p8⟩:=trod_islice_n hd2 he2 hce2 g10
 exact⟨a0,a1,a2,a8,a11,a12,a13,a14,a15,a16,a17,a18,K,S,Q,O,Z,A,ws,c,B,bs,c2,rfl,wZ,p1,p2,p3,p4,p5,p6,p7,p8⟩
end
end Kit
end
section
namespace CPatch
open Go Go.ChangeShapes Go.WideShapes Go.ChangeAt Go.RowKit
open Plain CSat CShape CTensor CConv
def I16v (zs:List Int):List Value:=zs.map (.int .i16)
def upto (F:Nat→Int) (m t:Nat):Int:=if t < m then F t else 0
def listF (F:Nat→Int) (N:Nat):List Int:=(List.range N).map F
theorem zcn (F:Nat→Int) (N:Nat):(listF F N).length=N:=by simp [listF]
theorem zdj (F:Nat→Int) {N i:Nat} (h:i < N):(listF F N)[i]?=some (F i):=by simp [listF,h]
theorem listF_congr {F G:Nat→Int} {n:Nat} (h:∀ i,i < n→F i=G i):listF F n=listF G n:=by
 apply List.ext_getElem?
 intro i
 by_cases hi:i < n
 ·rw [zdj F hi,zdj G hi,h i hi]
 ·rw [List.getElem?_eq_none Zbv,List.getElem?_eq_none Zbv]
theorem listF_set (F:Nat→Int) {N m:Nat} (x:Int) (hx:F m=x):(listF (upto F m) N).set m x=listF (upto F (m+1)) N:=by
 apply List.ext_getElem?
 intro i
 rw [List.getElem?_set]
 by_cases hi:i < N
 ·by_cases e:m=i
  ·subst e
   rw [if_pos rfl,if_pos (by rw [zcn];exact hi),zdj _ hi]
   simp [upto,hx]
  ·rw [if_neg e,zdj _ hi,zdj _ hi]
   simp only [upto]
   by_cases h1:i < m
   ·rw [if_pos h1,if_pos Zb3]
   ·rw [if_neg h1,if_neg Zb3]
 ·have e1:(listF (upto F (m+1)) N)[i]?=none:=List.getElem?_eq_none Zbv
  have e2:(listF (upto F m) N)[i]?=none:=List.getElem?_eq_none Zbv
  rw [e1,e2]
  by_cases e:m=i
  ·rw [if_pos e,if_neg Zbv]
  ·rw [if_neg e]
theorem I16v_set (ys:List Int) (i:Nat) (x:Int):(I16v ys).set i (.int .i16 x)=I16v (ys.set i x):=by simp [I16v,List.map_set]
def zb4 (B:Nat) (M Wd:Int) (gd N:Nat) (w:World):Prop :=
 w.cell? ⟨B,0,none⟩=some (Jj Jq M)∧w.cell? ⟨B,1,none⟩=some (Jj Jq Wd)∧w.cell? ⟨B,2,none⟩=some (.slice (some ⟨gd,0,none⟩) N N)
theorem BoxAt_grown {B gd:Nat} {H W C:Int} {A:Option Addr} {n c:Nat} {w w':World} (h:BoxAt B H W C A n c w) (hg:w.grownBy w' (some gd)) (hne:gd≠B):BoxAt B H W C A n c w':=by
 have hB:B < w.heap.size:=Kit.block_lt h.1
 exact⟨(hg.cell_far ⟨B,0,none⟩ hB Zba).trans h.1,(hg.cell_far ⟨B,1,none⟩ hB Zba).trans h.2.1,(hg.cell_far ⟨B,2,none⟩ hB Zba).trans h.2.2.1,(hg.cell_far ⟨B,3,none⟩ hB Zba).trans h.2.2.2⟩
theorem RowsAt_grown {B gd N gr:Nat} {M Wd:Int} {w w':World} (h:zb4 B M Wd gd N w) (hg:w.grownBy w' (some gr)) (hne:gr≠B):zb4 B M Wd gd N w':=by
 have hB:B < w.heap.size:=Kit.block_lt h.1
 exact⟨(hg.cell_far ⟨B,0,none⟩ hB Zba).trans h.1,(hg.cell_far ⟨B,1,none⟩ hB Zba).trans h.2.1,(hg.cell_far ⟨B,2,none⟩ hB Zba).trans h.2.2⟩
theorem NodeAt_size {B:Nat} {x0 x1 x2 x8 x11 x12 x13 x14 x15 x16 x17 x18:Value} {K S P O Z:Int} {WA BA:Option Addr} {nW cW nB cB:Nat} {w:World} (h:zae B x0 x1 x2 x8 x11 x12 x13 x14 x15 x16 x17 x18 K S P O Z WA BA nW cW nB cB w):B < w.heap.size:=Kit.block_lt (h.at 0 _ rfl)
theorem Rd_grown {w w':World} {B gd:Nat} {A:Option Addr} {xs:List Value} (h:Kit.Rd w B A xs) (hg:w.grownBy w' (some gd)) (hB:B≤w.heap.size) (hgd:B≤gd):Kit.Rd w' B A xs :=
 h.keep fun p hp=>hg.cell_far p Zb3 Zba
theorem grown_set (w:World) (g o:Nat) (v:Value):w.grownBy (w.setCell ⟨g,o,none⟩ v) (some g):=⟨rfl,rfl,rfl,by simp,fun k _ hk=>Below.heap_setCell _ _ _ k (fun e=>hk (by rw [e]))⟩
def OfAt (pt pn pr gd B0:Nat) (H W C:Int) (A:Option Addr) (n c:Nat) (x0 x1 x2 x8 x11 x12 x13 x14 x15 x16 x17 x18:Value) (K S P O Z:Int) (WA BA:Option Addr) (nW cW nB cB:Nat) (M Wd:Int) (N:Nat) (zs:List Int) (F:Nat→Int) (d k:Nat) (v:World):Prop :=
 BoxAt pt H W C A n c v∧zae pn x0 x1 x2 x8 x11 x12 x13 x14 x15 x16 x17 x18 K S P O Z WA BA nW cW nB cB v∧zb4 pr M Wd gd N v∧v.ownsRow B0 157 1 (.slice (some ⟨gd,0,none⟩) N N) N (I16v (listF (upto F (k * d)) N))∧Kit.Rd v B0 A (I8s zs)∧B0≤v.heap.size
theorem OfAt.stay {pt pn pr gd B0:Nat} {H W C:Int} {A:Option Addr} {n c:Nat} {x0 x1 x2 x8 x11 x12 x13 x14 x15 x16 x17 x18:Value} {K S P O Z:Int} {WA BA:Option Addr} {nW cW nB cB:Nat} {M Wd:Int} {N:Nat} {zs:List Int} {F:Nat→Int} {d k:Nat} {v v':World}
  (h:OfAt pt pn pr gd B0 H W C A n c x0 x1 x2 x8 x11 x12 x13 x14 x15 x16 x17 x18 K S P O Z WA BA nW cW nB cB M Wd N zs F d k v) (hb:Below v.heap.size v v'):OfAt pt pn pr gd B0 H W C A n c x0 x1 x2 x8 x11 x12 x13 x14 x15 x16 x17 x18 K S P O Z WA BA nW cW nB cB M Wd N zs F d k v':=by
 obtain⟨h1,h2,h3,h4,h5,h6⟩:=h
 have z3:pr < v.heap.size:=Kit.block_lt h3.1
 exact⟨h1.below (B':=v.heap.size) (Kit.block_lt h1.1) hb,h2.below (B':=v.heap.size) (NodeAt_size h2) hb,
  ⟨(hb.cell (p:=⟨pr,0,none⟩) z3).trans h3.1,(hb.cell (p:=⟨pr,1,none⟩) z3).trans h3.2.1,(hb.cell (p:=⟨pr,2,none⟩) z3).trans h3.2.2⟩,Kit.own_below h4 hb,h5.below (hb.mono h6),Nat.le_trans h6 hb.size⟩
theorem visit_of (pt pn pr gd B0:Nat) (n1:gd≠pt) (n2:gd≠pn) (n3:gd≠pr) (hgB:B0≤gd) (H W C:Int) (bz oz n c:Nat) (x0 x1 x2 x8 x11 x12 x13 x14 x15 x16 x17 x18:Value) (K S P O Z:Int) (WA BA:Option Addr) (nW cW nB cB:Nat) (M Wd:Int) (N:Nat) (zs:List Int) (F:Nat→Int) (d k at_ pos:Nat) (hd:C=(d:Int)) (hn:zs.length=n) (hz:I8b zs) (z1 : -128≤Z) (z2:Z≤127)
  (hat:k * d=at_) (hN:at_+d≤N) (hN1:N≤30000000) (hpos:pos+d≤n) (hn1:n≤1024) (hF:∀ q,q < d→F (at_+q)=zs.getD (pos+q) 0 - Z) (v:World) (hI:OfAt pt pn pr gd B0 H W C (some ⟨bz,oz,none⟩) n c x0 x1 x2 x8 x11 x12 x13 x14 x15 x16 x17 x18 K S P O Z WA BA nW cW nB cB M Wd N zs F d k v) :
  Calls Tryz.prog 123 #[Jj Jq (at_:Int),Jj Jq (pos:Int),.pointer (some ⟨pt,0,none⟩),.pointer (some ⟨pn,0,none⟩),.pointer (some ⟨pr,0,none⟩)] v fun e v'=>(∃ u,e=.returned u)∧OfAt pt pn pr gd B0 H W C (some ⟨bz,oz,none⟩) n c x0 x1 x2 x8 x11 x12 x13 x14 x15 x16 x17 x18 K S P O Z WA BA nW cW nB cB M Wd N zs F d (k+1) v'∧v.grownBy v' (some gd):=by
 obtain⟨h1,h2,h3,h4,h5,h6⟩:=hI
 have T1:=hid h1
 have T2:=hid h2
 have T3:=hid h3
 rw [hat] at h4
 have HO:=hid h4
 have HR:=hid h5
 have HG:Hid (v.grownBy v (some gd)):=hid (World.grownBy.refl v _)
 have HAT:=hid hat
 have HF:=hid hF
 have HZ:=hid hz
 have HN:=hid hn
 have hz6:=h6
 subst hd
 obtain⟨tb0,tb1,tb2,tb3⟩:=T1.out
 clear h1 h2 h3 h4 h5 h6 hat hF hz hn
 go_enter Tryz.func123,Tryz.ntmps123
 go_wp2_with fail
 clear tb0 tb1 tb2 tb3
 go_loopw [11] (fun u wr=>∃ q:Nat,q≤d∧u=Jj Jq q∧Hid (BoxAt pt H W (d:Int) (some ⟨bz,oz,none⟩) n c wr)∧Hid (zae pn x0 x1 x2 x8 x11 x12 x13 x14 x15 x16 x17 x18 K S P O Z WA BA nW cW nB cB wr)∧Hid (zb4 pr M Wd gd N wr)∧Hid (wr.ownsRow B0 157 1 (.slice (some ⟨gd,0,none⟩) N N) N (I16v (listF (upto F (at_+q)) N)))∧Hid (Kit.Rd wr B0 (some ⟨bz,oz,none⟩) (I8s zs))∧Hid (v.grownBy wr (some gd))∧B0≤wr.heap.size) (fun u _=>d - (intOf u).toNat)
 case atStart=>exact⟨0,Nat.zero_le _,rfl,T1,T2,T3,HO,HR,HG,hz6⟩
 case round =>
  clear T1 T2 T3 HO HR HG hz6
  obtain⟨q,hq,rfl,T1,T2,T3,HO,HR,HG,hz6⟩:=hrel
  by_cases hlt:q < d
  ·have hqI:(q:Int) < (d:Int):=by omega
   obtain⟨tb0,tb1,tb2,tb3⟩:=T1.out
   obtain⟨tr0,tr1,tr2⟩:=T3.out
   have n7:=T2.out.at 7 _ rfl
   obtain⟨a1,ha1⟩:∃ a1,at_+q=a1:=⟨_,rfl⟩
   obtain⟨p1,hp1⟩:∃ p1,pos+q=p1:=⟨_,rfl⟩
   have f1:IntKind.i64.wrap ((at_:Int)+(q:Int))=(a1:Int):=by rw [IntWalk.i64_in _ Zb3];omega
   have f2:IntKind.i64.wrap ((pos:Int)+(q:Int))=(p1:Int):=by rw [IntWalk.i64_in _ Zb3];omega
   have s1:(0:Int)≤(a1:Int):=by omega
   have s2:(a1:Int) < (N:Int):=by omega
   have s3:(0:Int)≤(p1:Int):=by omega
   have s4:(p1:Int) < (n:Int):=by omega
   obtain⟨b',o',hbo,hbz,hcz⟩:=zax HR.out (j:=0) Zbe
   cases hbo
   have hcx:=hcz p1 Zbe
   have hFq:=HF.out q hlt
   rw [ha1,hp1] at hFq
   obtain⟨x1,x2⟩:=HZ.out p1
   generalize zs.getD p1 0=x at hcx hFq x1 x2
   have k1:IntKind.i16.wrap x=x:=IntWalk.i16_in _ Zb3
   have k2:IntKind.i16.wrap Z=Z:=IntWalk.i16_in _ Zb3
   have k3:IntKind.i16.wrap (x - Z)=x - Z:=IntWalk.i16_in _ Zb3
   have hfr:wr.frozen? ⟨gd,a1,none⟩=false:=HO.out.frozenAt a1
   have hcl:∃ u,wr.cell? ⟨gd,a1,none⟩=some u:=⟨_,(HO.out.cellAt a1 Zb3).trans (List.getElem?_eq_getElem (by simp [I16v,listF];omega))⟩
   obtain⟨vold,hcl⟩:=hcl
   have hbg:gd≠bz:=by omega
   have HFQ:=hid hFq
   have HA1:=hid ha1
   clear hcz hFq ha1 hp1
   go_wp2_with fail
   refine wp_region_held_drew (S:=fun w'=>w'.cell? ⟨pr,2,none⟩=some (.slice (some ⟨gd,0,none⟩) N N)∧w'.cell? ⟨pt,3,none⟩=some (.slice (some ⟨bz,oz,none⟩) n c)∧w'.cell? ⟨bz,oz+p1,none⟩=some (.int .i8 x)∧w'.cell? ⟨pn,7,none⟩=some (.int .i8 Z)) Zb5 ⟨tr2,tb3,hcx,n7⟩ (fun hHeld=>?_)
   clear tb0 tb1 tb2 tb3 tr0 tr1 tr2 n7 hcx
   refine Z8l ?_
   refine Z5y ?_
   refine Tk.y 1 (v:=?_) rfl ?_ ?_
   rotate_left
   ·exact Z55
   refine Z5y ?_
   refine Z8w ?_
   refine Z5y ?_
   refine Z94 ?_
   refine Z5y ?_
   refine Z9b ?_
   refine Z5y ?_
   refine Za1 ?_
   refine Z5y ?_
   refine Tk.y 6 (v:=?_) rfl ?_ ?_
   rotate_left
   ·exact Z55
   refine Z5y ?_
   refine Z9w ?_
   refine Z5y ?_
   refine Z9f ?_
   refine Z5y ?_
   refine Zan ?_
   refine Z5y ?_
   refine Z9o ?_
   refine Z5y ?_
   refine Tk.y 11 (v:=?_) rfl ?_ ?_
   rotate_left
   ·exact Z55
   refine Z5y ?_
   refine Zag ?_
   refine Z5y ?_
   refine Za6 ?_
   refine Z5y ?_
   refine Tk.y 14 (v:=?_) rfl ?_ ?_
   rotate_left
   ·exact Z55
   refine Z5y ?_
   refine Tk.x 15 rfl ?_
   refine Z5y ?_
   refine Zak ?_
   refine Z5y ?_
   refine Tk.x 17 rfl ?_
   refine Z5y ?_
   refine Tk.s 18 rfl (fun Kq hK=>?_)
   go_simp
   refine hK.out _ _ ?_ (fun hHeld=>?_)
   ·exact⟨((World.cell?_setCell_far _ _ _ _ n3).trans hHeld.1),((World.cell?_setCell_far _ _ _ _ n1).trans hHeld.2.1),((World.cell?_setCell_far _ _ _ _ hbg).trans hHeld.2.2.1),((World.cell?_setCell_far _ _ _ _ n2).trans hHeld.2.2.2)⟩
   clear hK Kq
   refine Z5y ?_
   refine Z6y ?_
   have hgr:wr.grownBy (wr.drew.setCell ⟨gd,a1,none⟩ (.int .i16 (x - Z))) (some gd):=(Kit.zbh (Below.refl _ _).drew (some gd)).trans (grown_set _ _ _ _)
   have HO4:=hid ((Kit.own_below HO.out (Below.refl wr.heap.size wr).drew).stored a1 (.int .i16 (x - Z))).1
   rw [I16v_set,HA1.out,listF_set F _ HFQ.out] at HO4
   have T1':=hid (BoxAt_grown T1.out hgr n1)
   have T2':=hid (NodeAt_grown T2.out hgr (NodeAt_size T2.out) n2)
   have T3':=hid (RowsAt_grown T3.out hgr n3)
   have HR':=hid (Rd_grown HR.out hgr hz6 hgB)
   have HG':=hid (HG.out.trans hgr)
   have hz7:=Nat.le_trans hz6 hgr.size
   clear hHeld T1 T2 T3 HO HR HG hgr hfr hcl
   rw [show a1+1=at_+(q+1) by have:=HA1.out;omega] at HO4
   go_wp2_with fail
   go_roundw
   case rel=>exact⟨q+1,by omega,by go_num,T1',T2',T3',HO4,HR',HG',hz7⟩
   case measure=>simp [intOf];omega
  ·obtain rfl:q=d:=by omega
   go_wp2_with fail
   go_end0
   exact⟨⟨_,rfl⟩,⟨T1.out,T2.out,T3.out,by rw [Nat.add_mul,Nat.one_mul,HAT.out];exact HO.out,HR.out,hz6⟩,HG.out⟩
theorem each_of (H W C:Int) (hs:zam H W C=true) (x0 x1 x2 x8 x11 x12 x13 x14 x15 x16 x17 x18:Value) (K S P O Z:Int) (WA BA:Option Addr) (nW cW nB cB:Nat) (a b kk k2 d:Nat) (hk:K=(kk:Int)) (hk1:1≤kk) (hk5:kk≤5) (hk2:kk * kk=k2) (hb0:0 < b) (ha16:a≤1024) (hb16:b≤1024) (hd:C=(d:Int)) (s1:1≤S) (s4:S≤4) (p0:0≤P) (p4:P≤4)
  (M Wd:Int) (xD:Value) (wd:Nat) (hwd:Wd=(wd:Int)) (hwd2:k2 * d=wd) (N1:Nat) (hN1:a * b=N1) (hN1b:N1≤1024) (pt pn pr gd:Nat) (I:Nat→World→Prop) (w:World) (hgd:gd < w.heap.size)
  (hstay:∀ (k:Nat) (v v':World),I k v→Below v.heap.size v v'→I k v')
  (hin:∀ (i q:Nat) (y x pos:Int),i < N1→q < k2→y=((i / b:Nat):Int) * S - P+((q / kk:Nat):Int)→x=((i % b:Nat):Int) * S - P+((q % kk:Nat):Int)→0≤y→y < H→0≤x→x < W→(y * W+x) * C=pos→∀ v:World,I (i * k2+q) v →
    Calls Tryz.prog 123 #[Jj Jq ((i * wd+q * d:Nat):Int),Jj Jq pos,.pointer (some ⟨pt,0,none⟩),.pointer (some ⟨pn,0,none⟩),.pointer (some ⟨pr,0,none⟩)] v fun e v'=>(∃ u,e=.returned u)∧I (i * k2+(q+1)) v'∧v.grownBy v' (some gd))
  (hskip:∀ (i q:Nat) (y x:Int),i < N1→q < k2→y=((i / b:Nat):Int) * S - P+((q / kk:Nat):Int)→x=((i % b:Nat):Int) * S - P+((q % kk:Nat):Int)→¬ (0≤y∧y < H∧0≤x∧x < W)→∀ v:World,I (i * k2+q) v→I (i * k2+(q+1)) v)
  (h0:I 0 w) :
  Calls Tryz.prog 121 #[.agg #[Jj Jq H,Jj Jq W,Jj Jq C],.agg #[Jj Jq (a:Int),Jj Jq (b:Int),Jj Jq 1],.agg #[x0,x1,x2,Jj Jq K,Jj Jq S,Jj Jq P,Jj Jq O,.int .i8 Z,x8,.slice WA nW cW,.slice BA nB cB,x11,x12,x13,x14,x15,x16,x17,x18],.func (.func 122) #[.agg #[Jj Jq M,Jj Jq Wd,xD]] #[],.func (.func 123) #[] #[.pointer (some ⟨pt,0,none⟩),.pointer (some ⟨pn,0,none⟩),.pointer (some ⟨pr,0,none⟩)]] w fun e w'=>(∃ u,e=.returned u)∧I (N1 * k2) w'∧w.grownBy w' (some gd):=by
 obtain⟨g1,g2,g3,g4,g5,g6,g7⟩:=zac hs
 have hk25:k2≤25:=by rw [← hk2];exact Nat.le_trans (Nat.mul_le_mul hk5 hk5) Zb3
 have hd1:d≤1024:=by omega
 have hwdb:wd≤25600:=by rw [← hwd2];exact Nat.le_trans (Nat.mul_le_mul hk25 hd1) Zb3
 have e1:IntKind.i64.wrap ((a:Int) * (b:Int))=(N1:Int):=by rw [← Int.natCast_mul,hN1];exact IntWalk.i64_in _ Zb3
 have e2:IntKind.i64.wrap ((kk:Int) * (kk:Int))=(k2:Int):=by rw [← Int.natCast_mul,hk2];exact IntWalk.i64_in _ Zb3
 have HS:=hid hs
 have HSTAY:=hid hstay
 have HIN:=hid hin
 have HSKIP:=hid hskip
 have H0:=hid h0
 have HK2:=hid hk2
 have HN1:=hid hN1
 have HD:=hid hd
 have HWD2:=hid hwd2
 subst hk hwd
 clear hs hstay hin hskip h0 hk2 hN1 hd hwd2 g7
 go_enter Tryz.func121,Tryz.ntmps121
 go_wp2_with fail
 have hbel:Below w.heap.size w (((w.alloc (.cells #[Jj Jq H,Jj Jq W,Jj Jq C] 30)).alloc (.cells #[Jj Jq (a:Int),Jj Jq (b:Int),Jj Jq 1] 30)).alloc (.cells #[x0,x1,x2,Jj Jq (kk:Int),Jj Jq S,Jj Jq P,Jj Jq O,.int .i8 Z,x8,.slice WA nW cW,.slice BA nB cB,x11,x12,x13,x14,x15,x16,x17,x18] 28)):=(((Below.refl _ _).alloc (le_refl _) _).alloc Zb7 _).alloc Zba _
 have T1:Hid (zbg w.heap.size H W C (((w.alloc (.cells #[Jj Jq H,Jj Jq W,Jj Jq C] 30)).alloc (.cells #[Jj Jq (a:Int),Jj Jq (b:Int),Jj Jq 1] 30)).alloc (.cells #[x0,x1,x2,Jj Jq (kk:Int),Jj Jq S,Jj Jq P,Jj Jq O,.int .i8 Z,x8,.slice WA nW cW,.slice BA nB cB,x11,x12,x13,x14,x15,x16,x17,x18] 28))) :=
  hid ((za2 H W C 30 w).below (B':=w.heap.size+1) Zb3 (((Below.refl _ _).alloc Zb7 _).alloc Zb7 _))
 have hq2:=za2 (a:Int) (b:Int) 1 30 (w.alloc (.cells #[Jj Jq H,Jj Jq W,Jj Jq C] 30))
 rw [World.size_alloc] at hq2
 have T2:=hid (hq2.below (B':=w.heap.size+2) Zb3 ((Below.refl _ _).alloc Zb7 (.cells #[x0,x1,x2,Jj Jq (kk:Int),Jj Jq S,Jj Jq P,Jj Jq O,.int .i8 Z,x8,.slice WA nW cW,.slice BA nB cB,x11,x12,x13,x14,x15,x16,x17,x18] 28)))
 have hq3:=zae.new x0 x1 x2 x8 x11 x12 x13 x14 x15 x16 x17 x18 (kk:Int) S P O Z WA BA nW cW nB cB 28 ((w.alloc (.cells #[Jj Jq H,Jj Jq W,Jj Jq C] 30)).alloc (.cells #[Jj Jq (a:Int),Jj Jq (b:Int),Jj Jq 1] 30))
 rw [World.size_alloc,World.size_alloc] at hq3
 have T3:=hid hq3
 have HG:Hid (w.grownBy _ (some gd)):=hid (Kit.zbh hbel (some gd))
 have HI:=hid (HSTAY.out 0 _ _ H0.out hbel)
 have hz:w.heap.size+3≤(((w.alloc (.cells #[Jj Jq H,Jj Jq W,Jj Jq C] 30)).alloc (.cells #[Jj Jq (a:Int),Jj Jq (b:Int),Jj Jq 1] 30)).alloc (.cells #[x0,x1,x2,Jj Jq (kk:Int),Jj Jq S,Jj Jq P,Jj Jq O,.int .i8 Z,x8,.slice WA nW cW,.slice BA nB cB,x11,x12,x13,x14,x15,x16,x17,x18] 28)).heap.size:=by simp
 clear hq2 hq3 hbel
 generalize ((w.alloc (.cells #[Jj Jq H,Jj Jq W,Jj Jq C] 30)).alloc (.cells #[Jj Jq (a:Int),Jj Jq (b:Int),Jj Jq 1] 30)).alloc (.cells #[x0,x1,x2,Jj Jq (kk:Int),Jj Jq S,Jj Jq P,Jj Jq O,.int .i8 Z,x8,.slice WA nW cW,.slice BA nB cB,x11,x12,x13,x14,x15,x16,x17,x18] 28)=W0 at T1 T2 T3 HG HI hz ⊢
 go_loopw [22] (fun u wr=>∃ i:Nat,i≤N1∧u=Jj Jq i∧Hid (I (i * k2) wr)∧Hid (zbg w.heap.size H W C wr)∧Hid (zbg (w.heap.size+1) (a:Int) (b:Int) 1 wr)∧Hid (zae (w.heap.size+2) x0 x1 x2 x8 x11 x12 x13 x14 x15 x16 x17 x18 (kk:Int) S P O Z WA BA nW cW nB cB wr)∧Hid (w.grownBy wr (some gd))∧w.heap.size+3≤wr.heap.size) (fun u _=>N1 - (intOf u).toNat)
 case atStart=>exact⟨0,Nat.zero_le _,rfl,by rw [Nat.zero_mul];exact HI,T1,T2,T3,HG,hz⟩
 case round =>
  clear T1 T2 T3 HG HI hz
  obtain⟨i,hi,rfl,HI,T1,T2,T3,HG,hz⟩:=hrel
  by_cases hlt:i < N1
  ·have hiI:(i:Int) < (N1:Int):=by omega
   obtain⟨h,hh⟩:∃ h,i / b=h:=⟨_,rfl⟩
   obtain⟨v,hv⟩:∃ v,i % b=v:=⟨_,rfl⟩
   have hvb:v < b:=by rw [← hv];exact Nat.mod_lt _ hb0
   have hha:h < a:=by rw [← hh];exact Nat.div_lt_of_lt_mul (by rw [Nat.mul_comm,HN1.out];exact hlt)
   have b9:¬ b=0:=by omega
   have d1:(i:Int).tdiv (b:Int)=(h:Int):=by rw [Int.tdiv_eq_ediv_of_nonneg Zb3, ← hh];simp
   have d2:(i:Int).tmod (b:Int)=(v:Int):=by rw [Int.tmod_eq_emod_of_nonneg Zb3, ← hv];simp
   have d3:IntKind.i64.wrap (h:Int)=(h:Int):=IntWalk.i64_in _ Zb3
   have d4:IntKind.i64.wrap (v:Int)=(v:Int):=IntWalk.i64_in _ Zb3
   obtain⟨hs0,hhs⟩:∃ hs,(h:Int) * S=hs:=⟨_,rfl⟩
   obtain⟨vs0,hvs⟩:∃ vs,(v:Int) * S=vs:=⟨_,rfl⟩
   have b1:0≤hs0∧hs0≤4096:=by
    rw [← hhs]
    exact⟨Int.mul_nonneg Zb3 Zb3,Int.le_trans (Int.mul_le_mul (show (h:Int)≤1024 by omega) s4 Zb3 Zb3) Zb3⟩
   have b2:0≤vs0∧vs0≤4096:=by
    rw [← hvs]
    exact⟨Int.mul_nonneg Zb3 Zb3,Int.le_trans (Int.mul_le_mul (show (v:Int)≤1024 by omega) s4 Zb3 Zb3) Zb3⟩
   obtain⟨b3,b4⟩:=b1
   obtain⟨b5,b6⟩:=b2
   obtain⟨top,htop⟩:∃ top,hs0 - P=top:=⟨_,rfl⟩
   obtain⟨left,hleft⟩:∃ left,vs0 - P=left:=⟨_,rfl⟩
   have f1:IntKind.i64.wrap ((h:Int) * S)=hs0:=by rw [hhs];exact IntWalk.i64_in _ Zb3
   have f2:IntKind.i64.wrap ((v:Int) * S)=vs0:=by rw [hvs];exact IntWalk.i64_in _ Zb3
   have f3:IntKind.i64.wrap (hs0 - P)=top:=by rw [htop];exact IntWalk.i64_in _ Zb3
   have f4:IntKind.i64.wrap (vs0 - P)=left:=by rw [hleft];exact IntWalk.i64_in _ Zb3
   obtain⟨bg,hbg⟩:∃ bg,i * wd=bg:=⟨_,rfl⟩
   have hbgb:bg≤26214400:=by rw [← hbg];exact Nat.le_trans (Nat.mul_le_mul (show i≤1024 by omega) hwdb) Zb3
   have f5:IntKind.i64.wrap ((i:Int) * (wd:Int))=(bg:Int):=by rw [← Int.natCast_mul,hbg];exact IntWalk.i64_in _ Zb3
   have HTOP:Hid (((i / b:Nat):Int) * S - P=top):=hid (by rw [hh,hhs];exact htop)
   have HLEFT:Hid (((i % b:Nat):Int) * S - P=left):=hid (by rw [hv,hvs];exact hleft)
   have HBG:=hid hbg
   have tb1 : -4≤top:=by omega
   have tb2:top≤4096:=by omega
   have lb1 : -4≤left:=by omega
   have lb2:left≤4096:=by omega
   clear hh hv hhs hvs htop hleft hbg
   go_wp2_with fail
   refine wp_region_held_drew (S:=fun w'=>zbg (w.heap.size+1) (a:Int) (b:Int) 1 w'∧zae (w.heap.size+2) x0 x1 x2 x8 x11 x12 x13 x14 x15 x16 x17 x18 (kk:Int) S P O Z WA BA nW cW nB cB w') Zb5 ⟨T2.out,T3.out⟩ (fun hHeld=>?_)
   refine Z8l ?_
   refine Z5y ?_
   refine Tk.x 1 rfl ?_
   refine Z5y ?_
   refine Tk.y 2 (v:=?_) rfl ?_ ?_
   rotate_left
   ·exact Z4o
   refine Z5y ?_
   refine Z94 ?_
   refine Z5y ?_
   refine Z9b ?_
   refine Z5y ?_
   refine Tk.y 5 (v:=?_) rfl ?_ ?_
   rotate_left
   ·intro wS hSw
    obtain⟨hq1,hq2⟩:=hSw
    exact Z5b
   refine Z5y ?_
   refine Z9e ?_
   refine Z5y ?_
   refine Z9w ?_
   refine Z5y ?_
   refine Tk.y 8 (v:=?_) rfl ?_ ?_
   rotate_left
   ·intro wS hSw
    obtain⟨hq1,hq2⟩:=hSw
    exact Z5c
   refine Z5y ?_
   refine Zan ?_
   refine Z5y ?_
   refine Z9o ?_
   refine Z5y ?_
   refine Za5 ?_
   refine Z5y ?_
   refine Tk.y 12 (v:=?_) rfl ?_ ?_
   rotate_left
   ·exact Z4o
   refine Z5y ?_
   refine Za6 ?_
   refine Z5y ?_
   refine Tk.x 14 rfl ?_
   refine Z5y ?_
   refine Tk.y 15 (v:=?_) rfl ?_ ?_
   rotate_left
   ·intro wS hSw
    obtain⟨hq1,hq2⟩:=hSw
    exact Z5b
   refine Z5y ?_
   refine Zak ?_
   refine Z5y ?_
   refine Tk.x 17 rfl ?_
   refine Z5y ?_
   refine Tk.y 18 (v:=?_) rfl ?_ ?_
   rotate_left
   ·intro wS hSw
    obtain⟨hq1,hq2⟩:=hSw
    exact Z5c
   refine Z5y ?_
   refine Tk.x 19 rfl ?_
   refine Z5y ?_
   refine Tk.x 20 rfl ?_
   refine Z5y ?_
   refine Tk.x 21 rfl ?_
   refine Z5y ?_
   refine Tk.s 22 rfl (fun Kq hK=>?_)
   go_simp
   go_at_call 122
   refine (begin_to M (wd:Int) xD (i:Int) (bg:Int) f5 _).mono ?_
   rintro e w1 ⟨rfl,hb1⟩
   refine Z7v ?_;try clear HI T1 T2 T3 HG hz;clear hb1 hHeld;intro HI T1 T2 T3 HG hz
   refine hK.out _ _ ?_ (fun hHeld=>?_)
   ·exact⟨T2.out,T3.out⟩
   clear hK Kq
   refine Z5y ?_
   refine Tk.x 23 rfl ?_
   refine Z5y ?_
   refine Tk.x 24 rfl ?_
   refine Z5y ?_
   refine Tk.x 25 rfl ?_
   refine Z5y ?_
   refine Z6y ?_
   clear hHeld d1 d2 d3 d4 f1 f2 f3 f4 f5
   have n3:=T3.out.at 3 _ rfl
   go_wp2_with fail
   clear n3
   go_loopw [53] (fun u wr=>∃ q:Nat,q≤k2∧u=Jj Jq q∧Hid (I (i * k2+q) wr)∧Hid (zbg w.heap.size H W C wr)∧Hid (zbg (w.heap.size+1) (a:Int) (b:Int) 1 wr)∧Hid (zae (w.heap.size+2) x0 x1 x2 x8 x11 x12 x13 x14 x15 x16 x17 x18 (kk:Int) S P O Z WA BA nW cW nB cB wr)∧Hid (w.grownBy wr (some gd))∧w.heap.size+3≤wr.heap.size) (fun u _=>k2 - (intOf u).toNat)
   case atStart=>exact⟨0,Nat.zero_le _,rfl,by rw [Nat.add_zero];exact HI,T1,T2,T3,HG,hz⟩
   case round =>
    clear T1 T2 T3 HG HI hz
    obtain⟨q,hq,rfl,HI,T1,T2,T3,HG,hz⟩:=hrel
    by_cases hltq:q < k2
    ·have hqI:(q:Int) < (k2:Int):=by omega
     obtain⟨qi,hqi⟩:∃ x,q / kk=x:=⟨_,rfl⟩
     obtain⟨qj,hqj⟩:∃ x,q % kk=x:=⟨_,rfl⟩
     have hqj5:qj < kk:=by rw [← hqj];exact Nat.mod_lt _ Zb3
     have hqi5:qi < kk:=by rw [← hqi];exact Nat.div_lt_of_lt_mul (by rw [HK2.out];exact hltq)
     obtain⟨y,hy⟩:∃ y,top+(qi:Int)=y:=⟨_,rfl⟩
     obtain⟨x,hx⟩:∃ x,left+(qj:Int)=x:=⟨_,rfl⟩
     have kk9:¬ kk=0:=by omega
     have d1:(q:Int).tdiv (kk:Int)=(qi:Int):=by rw [Int.tdiv_eq_ediv_of_nonneg Zb3, ← hqi];simp
     have d2:(q:Int).tmod (kk:Int)=(qj:Int):=by rw [Int.tmod_eq_emod_of_nonneg Zb3, ← hqj];simp
     have d3:IntKind.i64.wrap (qi:Int)=(qi:Int):=IntWalk.i64_in _ Zb3
     have d4:IntKind.i64.wrap (qj:Int)=(qj:Int):=IntWalk.i64_in _ Zb3
     have f1:IntKind.i64.wrap (top+(qi:Int))=y:=by rw [hy];exact IntWalk.i64_in _ Zb3
     have f2:IntKind.i64.wrap (left+(qj:Int))=x:=by rw [hx];exact IntWalk.i64_in _ Zb3
     have HYE:Hid (y=((i / b:Nat):Int) * S - P+((q / kk:Nat):Int)):=hid (by rw [HTOP.out,hqi];exact hy.symm)
     have HXE:Hid (x=((i % b:Nat):Int) * S - P+((q % kk:Nat):Int)):=hid (by rw [HLEFT.out,hqj];exact hx.symm)
     clear hqi hqj hy hx
     by_cases hin:0≤y∧y < H∧0≤x∧x < W
     ·obtain⟨i1,i2,i3,i4⟩:=hin
      obtain⟨pos,hpos⟩:∃ pos,(y * W+x) * C=pos:=⟨_,rfl⟩
      obtain⟨o1,ho1⟩:∃ o1,q * d=o1:=⟨_,rfl⟩
      have ho1b:o1≤25600:=by rw [← ho1];exact Nat.le_trans (Nat.mul_le_mul (show q≤25 by omega) hd1) Zb3
      obtain⟨o2,ho2⟩:∃ o2,bg+o1=o2:=⟨_,rfl⟩
      have f3:IntKind.i64.wrap ((q:Int) * C)=(o1:Int):=by rw [HD.out, ← Int.natCast_mul,ho1];exact IntWalk.i64_in _ Zb3
      have f4:IntKind.i64.wrap ((bg:Int)+(o1:Int))=(o2:Int):=by rw [← Int.natCast_add,ho2];exact IntWalk.i64_in _ Zb3
      have HV:Hid (∀ v:World,I (i * k2+q) v→Calls Tryz.prog 123 #[Jj Jq (o2:Int),Jj Jq pos,.pointer (some ⟨pt,0,none⟩),.pointer (some ⟨pn,0,none⟩),.pointer (some ⟨pr,0,none⟩)] v fun e v'=>(∃ u,e=.returned u)∧I (i * k2+(q+1)) v'∧v.grownBy v' (some gd)):=hid (by
       have:=HIN.out i q y x pos hlt hltq HYE.out HXE.out i1 i2 i3 i4 hpos
       rwa [HBG.out,ho1,ho2] at this)
      have HPOS:Hid ((y * W+x) * C+0=pos):=hid (by rw [Int.add_zero];exact hpos)
      clear hpos ho1 ho2
      go_wp2_with fail
      refine wp_region_held_drew (S:=fun w'=>zbg w.heap.size H W C w'∧zae (w.heap.size+2) x0 x1 x2 x8 x11 x12 x13 x14 x15 x16 x17 x18 (kk:Int) S P O Z WA BA nW cW nB cB w') Zb5 ⟨T1.out,T3.out⟩ (fun hHeld=>?_)
      refine Tk.y 0 (v:=?_) rfl ?_ ?_
      rotate_left
      ·exact Z4o
      refine Z5y ?_
      refine Tk.x 1 rfl ?_
      refine Z5y ?_
      refine Z8w ?_
      refine Z5y ?_
      refine Z94 ?_
      refine Z5y ?_
      refine Tk.y 4 (v:=?_) rfl ?_ ?_
      rotate_left
      ·exact Z5t
      refine Z5y ?_
      refine Za1 ?_
      refine Z5y ?_
      refine Z9e ?_
      refine Z5y ?_
      refine Z9w ?_
      refine Z5y ?_
      refine Z9f ?_
      refine Z5y ?_
      refine Zan ?_
      refine Z5y ?_
      refine Tk.y 10 (v:=?_) rfl ?_ ?_
      rotate_left
      ·exact Z5t
      refine Z5y ?_
      refine Za5 ?_
      refine Z5y ?_
      refine Zag ?_
      refine Z5y ?_
      refine Tk.s 13 rfl (fun Kq hK=>?_)
      go_simp
      go_at_call 130
      refine (index_yes H W C y x 0 pos HS.out i1 i2 i3 i4 (Int.le_refl _) Zb3 HPOS.out _).mono ?_
      rintro e w1 ⟨rfl,hb1⟩
      refine Z7v ?_;try clear HI T1 T2 T3 HG hz;clear hb1 hHeld;intro HI T1 T2 T3 HG hz
      refine hK.out _ _ ?_ (fun hHeld=>?_)
      ·exact⟨T1.out,T3.out⟩
      clear hK Kq
      refine Z5y ?_
      refine Tk.x 14 rfl ?_
      refine Z5y ?_
      refine Tk.x 15 rfl ?_
      refine Z5y ?_
      refine Zak ?_
      refine Z5y ?_
      refine Tk.x 17 rfl ?_
      refine Z5y ?_
      refine Tk.x 18 rfl ?_
      refine Z5y ?_
      refine Z6y ?_
      clear hHeld d1 d2 d3 d4 f1 f2
      obtain⟨c1,c2,c3⟩:=T1.out
      go_wp2_with (go_at_call 123;(refine (HV.out _ HI.out).mono ?_);rintro e w2 ⟨⟨u,rfl⟩,hi2,hg2⟩)
      replace HI:=hid hi2
      replace T1:=hid (zdi T1.out hg2 Zb3 Zb3)
      replace T2:=hid (zdi T2.out hg2 Zb3 Zb3)
      replace T3:=hid (NodeAt_grown T3.out hg2 Zb3 Zb3)
      replace HG:=hid (HG.out.trans hg2)
      replace hz:=Nat.le_trans hz hg2.size
      clear hi2 hg2
      go_roundw
      case rel=>exact⟨q+1,by omega,by go_num,HI,T1,T2,T3,HG,hz⟩
      case measure=>simp [intOf];omega
     ·have HNI:Hid (inB H W C y x 0=false):=hid (by
       simp only [inB,Bool.and_eq_false_iff,decide_eq_false_iff_not]
       right;intro hc;exact hin ⟨hc.1,hc.2.1,hc.2.2.1,hc.2.2.2.1⟩)
      have HNX:=hid (HSKIP.out i q y x hlt hltq HYE.out HXE.out hin)
      clear hin
      go_wp2_with fail
      refine wp_region_held_drew (S:=fun w'=>zbg w.heap.size H W C w'∧zae (w.heap.size+2) x0 x1 x2 x8 x11 x12 x13 x14 x15 x16 x17 x18 (kk:Int) S P O Z WA BA nW cW nB cB w') Zb5 ⟨T1.out,T3.out⟩ (fun hHeld=>?_)
      refine Tk.y 0 (v:=?_) rfl ?_ ?_
      rotate_left
      ·exact Z4o
      refine Z5y ?_
      refine Tk.x 1 rfl ?_
      refine Z5y ?_
      refine Z8w ?_
      refine Z5y ?_
      refine Z94 ?_
      refine Z5y ?_
      refine Tk.y 4 (v:=?_) rfl ?_ ?_
      rotate_left
      ·exact Z5t
      refine Z5y ?_
      refine Za1 ?_
      refine Z5y ?_
      refine Z9e ?_
      refine Z5y ?_
      refine Z9w ?_
      refine Z5y ?_
      refine Z9f ?_
      refine Z5y ?_
      refine Zan ?_
      refine Z5y ?_
      refine Tk.y 10 (v:=?_) rfl ?_ ?_
      rotate_left
      ·exact Z5t
      refine Z5y ?_
      refine Za5 ?_
      refine Z5y ?_
      refine Zag ?_
      refine Z5y ?_
      refine Tk.s 13 rfl (fun Kq hK=>?_)
      go_simp
      go_at_call 130
      refine (index_no H W C y x 0 HNI.out _).mono ?_
      rintro e w1 ⟨rfl,hb1⟩
      refine Z7v ?_;try clear HI T1 T2 T3 HG hz;clear hb1 hHeld;intro HI T1 T2 T3 HG hz
      refine hK.out _ _ ?_ (fun hHeld=>?_)
      ·exact⟨T1.out,T3.out⟩
      clear hK Kq
      refine Z5y ?_
      refine Tk.x 14 rfl ?_
      refine Z5y ?_
      refine Tk.x 15 rfl ?_
      refine Z5y ?_
      refine Zak ?_
      refine Z5y ?_
      refine Tk.x 17 rfl ?_
      refine Z5y ?_
      refine Tk.x 18 rfl ?_
      refine Z5y ?_
      refine Z6y ?_
      clear hHeld d1 d2 d3 d4 f1 f2
      go_wp2_with fail
      go_roundw
      case rel=>exact⟨q+1,by omega,by go_num,hid (HNX.out _ HI.out),T1,T2,T3,HG,hz⟩
      case measure=>simp [intOf];omega
    ·obtain rfl:q=k2:=by omega
     go_wp2_with fail
     go_roundw
     case rel=>exact⟨i+1,by omega,by go_num,by rw [Nat.add_mul,Nat.one_mul];exact HI,T1,T2,T3,HG,hz⟩
     case measure=>simp [intOf];omega
  ·obtain rfl:i=N1:=by omega
   go_wp2_with fail
   go_end0
   exact⟨⟨_,rfl⟩,HI.out,HG.out⟩
end CPatch
end
end Go.Proofs.YtchpdhhpkljdhaaGreatDoor
