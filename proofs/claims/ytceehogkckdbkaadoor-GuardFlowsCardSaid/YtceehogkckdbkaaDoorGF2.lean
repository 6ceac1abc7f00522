/- -/
import Derived.Test.YtceehogkckdbkaaDoorRows
import Derived.Deep.RegionHeld3
import Derived.Lib.SliceRun
import Derived.Lib.SmallJoins
import Derived.Test.YtceehogkckdbkaaDoorGF1
open Nat (le_refl lt_of_succ_lt lt_succ_self)
set_option linter.unusedVariables false
set_option linter.unusedSimpArgs false
set_option maxRecDepth 100000
set_option maxHeartbeats 16000000
namespace Go.Proofs.YtceehogkckdbkaaDoor
namespace CSat
end CSat
namespace CShape
end CShape
open Go Go.ChangeShapes Go.WideShapes Go.ChangeAt Go.RowKit Go.Deep
section
namespace Tk
open Go
section
variable {P:Program} {ops:Array Oper} {Q:Exit→Act→World→Prop} {md:Region.Mode} {S:World→Prop}
theorem at_ {i:Nat} {o:Oper} {l:List Oper} (h:ops.toList.drop i=o :: l):ops[i]?=some o:=by
 have h1:(ops.toList.drop i)[0]?=some o:=by rw [h];rfl
 rw [List.getElem?_drop,Nat.add_zero,Array.getElem?_toList] at h1
 exact h1
theorem t (i:Nat) {oi:Oper} {l:List Oper} {v:Value} {fuel:Nat} {listed:Array Bool} {a:Act} {w:World} (hi:ops.toList.drop i=oi :: l)
  (hy:YieldsIf P ops S oi v a) (hS:S w) (h:wpAnyH P md ops Q S fuel (listed.setIfInBounds i true) (a.put oi.dst v) w)
  (hs:Region.noSelect ops=true:=by kernel_rfl) (hf:Region.free md ops listed i=true:=by kernel_rfl) (hr:(Region.ready md ops listed).contains i=true:=by kernel_rfl)
  (hQ:∀ c a w,Q (.panic c) (a.put oi.dst v) w→Q (.panic c) a w:=by exact fun _ _ _ h=>h):wpAnyH P md ops Q S (fuel+1) listed a w :=
 wpAnyH_take (at_ hi) hs hf hr hQ hy hS h
theorem y (i:Nat) {oi:Oper} {l:List Oper} {v:Value} {fuel:Nat} {listed:Array Bool} {a:Act} {w:World} (hi:ops.toList.drop i=oi :: l)
  (hy:∀ w,S w→(execOp a.eval oi).run P w=.ok (.value v) w) (h:wpAnyH P md ops Q S fuel (listed.setIfInBounds i true) (a.put oi.dst v) w)
  (hS:S w:=by assumption) (hw:Region.wanted oi (yielded ops a.tmps)=true:=by rfl) (hs:Region.noSelect ops=true:=by kernel_rfl) (hf:Region.free md ops listed i=true:=by kernel_rfl) (hr:(Region.ready md ops listed).contains i=true:=by kernel_rfl)
  (hQ:∀ c a w,Q (.panic c) (a.put oi.dst v) w→Q (.panic c) a w:=by exact fun _ _ _ h=>h):wpAnyH P md ops Q S (fuel+1) listed a w :=
 wpAnyH_take (at_ hi) hs hf hr hQ (Or.inl ⟨hw,hy⟩) hS h
theorem x (i:Nat) {oi:Oper} {l:List Oper} {v:Value} {fuel:Nat} {listed:Array Bool} {a:Act} {w:World} (hi:ops.toList.drop i=oi :: l)
  (h:wpAnyH P md ops Q S fuel (listed.setIfInBounds i true) (a.put oi.dst v) w)
  (hy:∀ w,S w→(execOp a.eval oi).run P w=.ok (.value v) w:=by intro wS hSw;first | (go_simp;done) | (go_simp;with_reducible rfl))
  (hS:S w:=by assumption) (hw:Region.wanted oi (yielded ops a.tmps)=true:=by rfl) (hs:Region.noSelect ops=true:=by kernel_rfl) (hf:Region.free md ops listed i=true:=by kernel_rfl) (hr:(Region.ready md ops listed).contains i=true:=by kernel_rfl)
  (hQ:∀ c a w,Q (.panic c) (a.put oi.dst v) w→Q (.panic c) a w:=by exact fun _ _ _ h=>h):wpAnyH P md ops Q S (fuel+1) listed a w :=
 wpAnyH_take (at_ hi) hs hf hr hQ (Or.inl ⟨hw,hy⟩) hS h
theorem put:(∀ (a:Act) (v:Value),a.put none v=a)∧(∀ (a:Act) (t:Tmp) (v:Value),a.put (some t) v = { a with tmps:=a.tmps.setIfInBounds t v }) ∧
  (∀ (l:List Value) (i:Nat) (v:Value),l.toArray.setIfInBounds i v=(l.set i v).toArray)∧(∀ (x v:Value) (l:List Value),(x :: l).set 0 v=v :: l)∧(∀ (x v:Value) (l:List Value) (i:Nat),(x :: l).set (i+1) v=x :: l.set i v) ∧
  (∀ (l:List Bool) (i:Nat) (v:Bool),l.toArray.setIfInBounds i v=(l.set i v).toArray)∧(∀ (x v:Bool) (l:List Bool),(x :: l).set 0 v=v :: l)∧(∀ (x v:Bool) (l:List Bool) (i:Nat),(x :: l).set (i+1) v=x :: l.set i v) :=
 ⟨fun _ _=>rfl,fun _ _ _=>rfl,fun _ _ _=>by simp,fun _ _ _=>rfl,fun _ _ _ _=>rfl,fun _ _ _=>by simp,fun _ _ _=>rfl,fun _ _ _ _=>rfl⟩
theorem c {fuel:Nat} {listed:Array Bool} {a:Act} {w:World} {i:Nat} {o:Oper} {l:List Oper} {rs:List Nat} (ho:ops.toList.drop i=o :: l)
  (h:∀ K':Act→World→Prop,Shut (∀ a w,S w→(S w→wpAnyH P md ops Q S fuel (listed.setIfInBounds i true) a w)→K' a w)→if Region.wanted o (yielded ops a.tmps)=true then Oper.wp P o a w K' Q else K' (a.put o.dst undef) w)
  (hs:AllReadyH P md ops Q S fuel listed a w rs):AllReadyH P md ops Q S fuel listed a w (i :: rs):=AllReadyH.cons (at_ ho) h hs
theorem s (i:Nat) {fuel:Nat} {listed:Array Bool} {a:Act} {w:World} {o:Oper} {l:List Oper} (ho:ops.toList.drop i=o :: l)
  (h:∀ K':Act→World→Prop,Shut (∀ a w,S w→(S w→wpAnyH P md ops Q S fuel (listed.setIfInBounds i true) a w)→K' a w)→if Region.wanted o (yielded ops a.tmps)=true then Oper.wp P o a w K' Q else K' (a.put o.dst undef) w)
  (hr:Region.ready md ops listed=[i]:=by kernel_rfl):wpAnyH P md ops Q S (fuel+1) listed a w :=
 wpAnyH_ready (rs:=[i]) hr (by simp) (AllReadyH.cons (at_ ho) h AllReadyH.nil)
end
end Tk
end
section
namespace Plain
open Go Go.RowKit
def zay (v lo hi:Int):Int:=if v < lo then lo else if v > hi then hi else v
theorem clampZ_lo {v lo hi:Int} (h:v < lo):lo=zay v lo hi:=by unfold zay;rw [if_pos h]
theorem clampZ_hi {v lo hi:Int} (h:lo≤v) (h2:hi < v):hi=zay v lo hi:=by unfold zay;rw [if_neg (by omega),if_pos h2]
theorem clampZ_in {v lo hi:Int} (h:lo≤v) (h2:v≤hi):v=zay v lo hi:=by unfold zay;rw [if_neg (by omega),if_neg (by omega)]
end Plain
end
section
namespace CSat
open Go.ChangeShapes Go.WideShapes Go.ChangeAt Go.RowKit
open Plain
theorem za2 {k:IntKind} {a b:Int} (h:a=b):Ending.returned (.int k a)=.returned (.int k b):=by rw [h]
theorem clamp (v lo hi:Int) (hl1 : -128≤lo) (hl2:lo≤127) (hh1 : -128≤hi) (hh2:hi≤127) (w:World) :
  Calls Tryd.prog 86 #[.int .i64 v,.int .i8 lo,.int .i8 hi] w fun e w'=>e=.returned (.int .i8 (zay v lo hi))∧w=w':=by
 by_cases h1:v < lo
 ·go_enter Tryd.func86,Tryd.ntmps86
  go_wp2
  go_ret
  exact⟨za2 (by exact clampZ_lo (by omega)),rfl⟩
 ·by_cases h2:v > hi
  ·go_enter Tryd.func86,Tryd.ntmps86
   go_wp2
   go_ret
   exact⟨za2 (by exact clampZ_hi (by omega) (by omega)),rfl⟩
  ·go_enter Tryd.func86,Tryd.ntmps86
   go_wp2
   go_ret
   exact⟨za2 (by exact clampZ_in (by omega) (by omega)),rfl⟩
theorem mul_bd (a b:Int) (ha1 : -2147483648≤a) (ha2:a≤2147483647) (hb1 : -2147483648≤b) (hb2:b≤2147483647) : -4611686018427387904≤a * b∧a * b≤4611686018427387904:=by
 have h:(a * b).natAbs≤2147483648 * 2147483648:=by
  rw [Int.natAbs_mul];exact Nat.mul_le_mul (by omega) (by omega)
 omega
end CSat
end
section
namespace CTensor
open Go Go.ChangeShapes Go.WideShapes Go.ChangeAt Go.RowKit
open Plain CSat CShape
def I8s (zs:List Int):List Value:=zs.map (.int .i8)
end CTensor
end
section
namespace CSat
open Go Go.ChangeShapes Go.WideShapes Go.ChangeAt Go.RowKit
open Plain
theorem refHeld (v lo hi:Int) (w:World) :
  Calls Tryd.prog 64 #[.int .i64 v,.int .i64 lo,.int .i64 hi] w fun e w'=>e=.returned (.int .i64 (zay v lo hi))∧w=w':=by
 by_cases h1:v < lo
 ·go_enter Tryd.func64,Tryd.ntmps64
  go_wp2
  go_ret
  exact⟨za2 (by exact clampZ_lo (by omega)),rfl⟩
 ·by_cases h2:v > hi
  ·go_enter Tryd.func64,Tryd.ntmps64
   go_wp2
   go_ret
   exact⟨za2 (by exact clampZ_hi (by omega) (by omega)),rfl⟩
  ·go_enter Tryd.func64,Tryd.ntmps64
   go_wp2
   go_ret
   exact⟨za2 (by exact clampZ_in (by omega) (by omega)),rfl⟩
end CSat
end
section
namespace Kit
section
variable {H:Type} {enc:TypeId × Value→H} {P:Program} {w:World} {base b0:Nat} {spare:Nat→Bool} {held:Bool} {r:Reach}
theorem size_19 {cs:Array Value} (h:cs.size=19):∃ a0 a1 a2 a3 a4 a5 a6 a7 a8 a9 a10 a11 a12 a13 a14 a15 a16 a17 a18,cs=#[a0,a1,a2,a3,a4,a5,a6,a7,a8,a9,a10,a11,a12,a13,a14,a15,a16,a17,a18]:=by
 obtain⟨l⟩:=cs
 match l,h with
 | [a0,a1,a2,a3,a4,a5,a6,a7,a8,a9,a10,a11,a12,a13,a14,a15,a16,a17,a18],_=>exact⟨a0,a1,a2,a3,a4,a5,a6,a7,a8,a9,a10,a11,a12,a13,a14,a15,a16,a17,a18,rfl⟩
theorem zbh {d e:TypeId} {k:IntKind} {c3:Value} {n:Nat} {x:DataW H × List MemPlace} (hd:P.underlying d=some (.slice e)) (he:P.underlying e=some (.int k)) (hce:P.cellsOf e=1) (h1:DataW.trod enc P w base spare held n d [c3]=some x) :
  ∃ (A:Option Addr) (zs:List Int) (c:Nat),c3=.slice A zs.length c∧zs.length≤c∧c≤maxLen∧(∀ n∈zs,(Lit.int k n).wf=true)∧Rd w w.heap.size A (zs.map (.int k)):=by
 obtain⟨a3,len,cap,e3⟩:=Go.Joins.slice_form hd h1
 simp at e3
 subst e3
 rcases open_ints hd he hce h1 with ⟨hcs,_⟩ | ⟨a,len',cap',zs,hcs,_,hl,hm,hz,_,hcell,hwz⟩
 ·simp at hcs
  obtain⟨rfl,rfl,rfl⟩:=hcs
  exact⟨none,[],0,rfl,by simp,by simp,by simp,Rd.nil⟩
 ·simp at hcs
  obtain⟨rfl,rfl,rfl⟩:=hcs
  have hlz:len≤zs.length:=by rw [hz];split <;> omega
  refine⟨some a,zs.take len,cap,?_,?_,hm,fun n hn=>hwz n (List.mem_of_mem_take hn),fun j u hu=>?_⟩
  ·rw [List.length_take,Nat.min_eq_left hlz]
  ·rw [List.length_take,Nat.min_eq_left hlz];exact hl
  ·rw [List.getElem?_map,List.getElem?_take] at hu
   split at hu
   ·rename_i hj
    have hjz:j < zs.length:=by omega
    rw [List.getElem?_eq_getElem hjz] at hu
    simp only [Option.map_some,Option.some.injEq] at hu
    subst hu
    have h9:=hcell j hjz
    rw [List.getD_eq_getElem?_getD,List.getElem?_eq_getElem hjz,Option.getD_some] at h9
    exact⟨a,rfl,by have:=block_lt h9;rwa [add_block] at this,h9⟩
   ·simp at hu
theorem open_node {t i b8 d e d2 e2:TypeId} {fs:Array Field} {f3 f4 f5 f6 f7 f9 f10:Field} {v:Value} {D:DataW H} {ps:List MemPlace}
  (ht:P.underlying t=some (.struct fs)) (hct:P.cellsOf t=19) (hi:P.underlying i=some (.int .i64)) (hci:P.cellsOf i=1) (hb:P.underlying b8=some (.int .i8)) (hcb:P.cellsOf b8=1)
  (hd:P.underlying d=some (.slice e)) (he:P.underlying e=some (.int .i8)) (hce:P.cellsOf e=1) (hcd:P.cellsOf d=1) (hd2:P.underlying d2=some (.slice e2)) (he2:P.underlying e2=some (.int .i32)) (hce2:P.cellsOf e2=1) (hcd2:P.cellsOf d2=1)
  (q3:fs[3]?=some f3) (q4:fs[4]?=some f4) (q5:fs[5]?=some f5) (q6:fs[6]?=some f6) (q7:fs[7]?=some f7) (q9:fs[9]?=some f9) (q10:fs[10]?=some f10)
  (o3:f3.type=i∧f3.offset=3) (o4:f4.type=i∧f4.offset=4) (o5:f5.type=i∧f5.offset=5) (o6:f6.type=i∧f6.offset=6) (o7:f7.type=b8∧f7.offset=7) (o9:f9.type=d∧f9.offset=9) (o10:f10.type=d2∧f10.offset=10)
  (hv:Value.okWide P w r b0 t v) (h:DataW.Trod enc P w base spare held t v D ps) :
  ∃ (a0 a1 a2 a8 a11 a12 a13 a14 a15 a16 a17 a18:Value) (K S Q O Z:Int) (A:Option Addr) (ws:List Int) (c:Nat) (B:Option Addr) (bs:List Int) (c2:Nat),
   v=.agg #[a0,a1,a2,.int .i64 K,.int .i64 S,.int .i64 Q,.int .i64 O,.int .i8 Z,a8,.slice A ws.length c,.slice B bs.length c2,a11,a12,a13,a14,a15,a16,a17,a18]∧(Lit.int .i8 Z).wf=true ∧
   ws.length≤c∧c≤maxLen∧(∀ n∈ws,(Lit.int .i8 n).wf=true)∧Rd w w.heap.size A (ws.map (.int .i8)) ∧
   bs.length≤c2∧c2≤maxLen∧(∀ n∈bs,(Lit.int .i32 n).wf=true)∧Rd w w.heap.size B (bs.map (.int .i32)):=by
 obtain⟨cs,rfl,hsz⟩:=okWide_struct ht hv
 rw [hct] at hsz
 obtain⟨a0,a1,a2,a3,a4,a5,a6,a7,a8,a9,a10,a11,a12,a13,a14,a15,a16,a17,a18,rfl⟩:=size_19 hsz
 obtain⟨fuel,hfu⟩:=h
 obtain⟨xs,n,_,_,_,hlen,hx⟩:=DataW.trod_struct ht hfu
 have hl:∀ (j:Nat) (f:Field),fs[j]?=some f→j < xs.length:=fun j f hj=>by rw [hlen];exact (Array.getElem?_eq_some_iff.1 hj).1
 have g3:=hx 3 f3 q3
 rw [o3.1,o3.2,hci,List.getElem?_eq_getElem (hl 3 f3 q3)] at g3
 rw [show ((Value.agg #[a0,a1,a2,a3,a4,a5,a6,a7,a8,a9,a10,a11,a12,a13,a14,a15,a16,a17,a18]).cells.toList.drop 3).take 1=[a3] from rfl] at g3
 have g4:=hx 4 f4 q4
 rw [o4.1,o4.2,hci,List.getElem?_eq_getElem (hl 4 f4 q4)] at g4
 rw [show ((Value.agg #[a0,a1,a2,a3,a4,a5,a6,a7,a8,a9,a10,a11,a12,a13,a14,a15,a16,a17,a18]).cells.toList.drop 4).take 1=[a4] from rfl] at g4
 have g5:=hx 5 f5 q5
 rw [o5.1,o5.2,hci,List.getElem?_eq_getElem (hl 5 f5 q5)] at g5
 rw [show ((Value.agg #[a0,a1,a2,a3,a4,a5,a6,a7,a8,a9,a10,a11,a12,a13,a14,a15,a16,a17,a18]).cells.toList.drop 5).take 1=[a5] from rfl] at g5
 have g6:=hx 6 f6 q6
 rw [o6.1,o6.2,hci,List.getElem?_eq_getElem (hl 6 f6 q6)] at g6
 rw [show ((Value.agg #[a0,a1,a2,a3,a4,a5,a6,a7,a8,a9,a10,a11,a12,a13,a14,a15,a16,a17,a18]).cells.toList.drop 6).take 1=[a6] from rfl] at g6
 have g7:=hx 7 f7 q7
 rw [o7.1,o7.2,hcb,List.getElem?_eq_getElem (hl 7 f7 q7)] at g7
 rw [show ((Value.agg #[a0,a1,a2,a3,a4,a5,a6,a7,a8,a9,a10,a11,a12,a13,a14,a15,a16,a17,a18]).cells.toList.drop 7).take 1=[a7] from rfl] at g7
 have g9:=hx 9 f9 q9
 rw [o9.1,o9.2,hcd,List.getElem?_eq_getElem (hl 9 f9 q9)] at g9
 rw [show ((Value.agg #[a0,a1,a2,a3,a4,a5,a6,a7,a8,a9,a10,a11,a12,a13,a14,a15,a16,a17,a18]).cells.toList.drop 9).take 1=[a9] from rfl] at g9
 have g10:=hx 10 f10 q10
 rw [o10.1,o10.2,hcd2,List.getElem?_eq_getElem (hl 10 f10 q10)] at g10
 rw [show ((Value.agg #[a0,a1,a2,a3,a4,a5,a6,a7,a8,a9,a10,a11,a12,a13,a14,a15,a16,a17,a18]).cells.toList.drop 10).take 1=[a10] from rfl] at g10
 obtain⟨K,eK,_,_⟩:=DataW.trod_int hi g3
 obtain⟨S,eS,_,_⟩:=DataW.trod_int hi g4
 obtain⟨Q,eQ,_,_⟩:=DataW.trod_int hi g5
 obtain⟨O,eO,_,_⟩:=DataW.trod_int hi g6
 obtain⟨Z,eZ,_,wZ⟩:=DataW.trod_int hb g7
 simp at eK eS eQ eO eZ
 subst eK eS eQ eO eZ
 obtain⟨A,ws,c,rfl,p1,p2,p3,p4⟩:=zbh hd he hce g9
 obtain⟨B,bs,c2,rfl,p5,p6,p7,p8⟩:=zbh hd2 he2 hce2 g10
 exact⟨a0,a1,a2,a8,a11,a12,a13,a14,a15,a16,a17,a18,K,S,Q,O,Z,A,ws,c,B,bs,c2,rfl,wZ,p1,p2,p3,p4,p5,p6,p7,p8⟩
end
end Kit
end
end Go.Proofs.YtceehogkckdbkaaDoor
