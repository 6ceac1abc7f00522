/- -/
import Derived.Lib.SmallJoins
import Derived.Deep.RegionHeld3
import Derived.Handy
import Derived.Lib.SliceRun
import Derived.Test.YtfgdfignoakkaaaGreatDoorGBT2
open Go.Lib (hid)
open Nat (le_refl lt_of_succ_lt lt_succ_self)
set_option linter.unusedVariables false
set_option linter.unusedSimpArgs false
set_option maxRecDepth 100000
set_option maxHeartbeats 16000000
namespace Go.Proofs.YtfgdfignoakkaaaGreatDoor
namespace CSat
end CSat
namespace CShape
end CShape
open Go Go.ChangeShapes Go.WideShapes Go.ChangeAt Go.RowKit Go.Deep
section
namespace Kit
section
variable {H:Type} {enc:TypeId × Value→H} {P:Program} {w:World} {base b0:Nat} {spare:Nat→Bool} {held:Bool} {r:Reach}
theorem trod_islice_n {d e:TypeId} {k:IntKind} {c3:Value} {n:Nat} {x:DataW H × List MemPlace} (hd:P.underlying d=some (.slice e)) (he:P.underlying e=some (.int k)) (hce:P.cellsOf e=1) (h1:DataW.trod enc P w base spare held n d [c3]=some x) :
  ∃ (A:Option Addr) (zs:List Int) (c:Nat),c3=.slice A zs.length c∧zs.length≤c∧c≤maxLen∧(∀ n∈zs,(Lit.int k n).wf=true)∧Rd w w.heap.size A (zs.map (.int k)):=by
 obtain⟨a3,len,cap,e3⟩:=Go.Joins.slice_form hd h1
 simp at e3
 subst e3
 rcases open_ints hd he hce h1 with ⟨hcs,_⟩ | ⟨a,len',cap',zs,hcs,_,hl,hm,hz,_,hcell,hwz⟩
 ·simp at hcs
  obtain⟨rfl,rfl,rfl⟩:=hcs
  exact⟨none,[],0,rfl,by simp,by simp,by simp,Rd.nil⟩
 ·simp at hcs
  obtain⟨rfl,rfl,rfl⟩:=hcs
  have hlz:len≤zs.length:=by rw [hz];split <;> omega
  refine⟨some a,zs.take len,cap,?_,?_,hm,fun n hn=>hwz n (List.mem_of_mem_take hn),fun j u hu=>?_⟩
  ·rw [List.length_take,Nat.min_eq_left hlz]
  ·rw [List.length_take,Nat.min_eq_left hlz];exact hl
  ·rw [List.getElem?_map,List.getElem?_take] at hu
   split at hu
   ·rename_i hj
    have hjz:j < zs.length:=by omega
    rw [List.getElem?_eq_getElem hjz] at hu
    simp only [Option.map_some,Option.some.injEq] at hu
    subst hu
    have h9:=hcell j hjz
    rw [List.getD_eq_getElem?_getD,List.getElem?_eq_getElem hjz,Option.getD_some] at h9
    exact⟨a,rfl,by have:=block_lt h9;rwa [add_block] at this,h9⟩
   ·simp at hu
end
end Kit
end
section
namespace Tk
open Go
section
variable {P:Program} {ops:Array Oper} {Q:Exit→Act→World→Prop} {md:Region.Mode} {S:World→Prop}
theorem at_ {i:Nat} {o:Oper} {l:List Oper} (h:ops.toList.drop i=o :: l):ops[i]?=some o:=by
 have h1:(ops.toList.drop i)[0]?=some o:=by rw [h];rfl
 rw [List.getElem?_drop,Nat.add_zero,Array.getElem?_toList] at h1
 exact h1
theorem t (i:Nat) {oi:Oper} {l:List Oper} {v:Value} {fuel:Nat} {listed:Array Bool} {a:Act} {w:World} (hi:ops.toList.drop i=oi :: l)
  (hy:YieldsIf P ops S oi v a) (hS:S w) (h:wpAnyH P md ops Q S fuel (listed.setIfInBounds i true) (a.put oi.dst v) w)
  (hs:Region.noSelect ops=true:=by kernel_rfl) (hf:Region.free md ops listed i=true:=by kernel_rfl) (hr:(Region.ready md ops listed).contains i=true:=by kernel_rfl)
  (hQ:∀ c a w,Q (.panic c) (a.put oi.dst v) w→Q (.panic c) a w:=by exact fun _ _ _ h=>h):wpAnyH P md ops Q S (fuel+1) listed a w :=
 wpAnyH_take (at_ hi) hs hf hr hQ hy hS h
theorem y (i:Nat) {oi:Oper} {l:List Oper} {v:Value} {fuel:Nat} {listed:Array Bool} {a:Act} {w:World} (hi:ops.toList.drop i=oi :: l)
  (hy:∀ w,S w→(execOp a.eval oi).run P w=.ok (.value v) w) (h:wpAnyH P md ops Q S fuel (listed.setIfInBounds i true) (a.put oi.dst v) w)
  (hS:S w:=by assumption) (hw:Region.wanted oi (yielded ops a.tmps)=true:=by rfl) (hs:Region.noSelect ops=true:=by kernel_rfl) (hf:Region.free md ops listed i=true:=by kernel_rfl) (hr:(Region.ready md ops listed).contains i=true:=by kernel_rfl)
  (hQ:∀ c a w,Q (.panic c) (a.put oi.dst v) w→Q (.panic c) a w:=by exact fun _ _ _ h=>h):wpAnyH P md ops Q S (fuel+1) listed a w :=
 wpAnyH_take (at_ hi) hs hf hr hQ (Or.inl ⟨hw,hy⟩) hS h
theorem x (i:Nat) {oi:Oper} {l:List Oper} {v:Value} {fuel:Nat} {listed:Array Bool} {a:Act} {w:World} (hi:ops.toList.drop i=oi :: l)
  (h:wpAnyH P md ops Q S fuel (listed.setIfInBounds i true) (a.put oi.dst v) w)
  (hy:∀ w,S w→(execOp a.eval oi).run P w=.ok (.value v) w:=by intro wS hSw;first | (go_simp;done) | (go_simp;with_reducible rfl))
  (hS:S w:=by assumption) (hw:Region.wanted oi (yielded ops a.tmps)=true:=by rfl) (hs:Region.noSelect ops=true:=by kernel_rfl) (hf:Region.free md ops listed i=true:=by kernel_rfl) (hr:(Region.ready md ops listed).contains i=true:=by kernel_rfl)
  (hQ:∀ c a w,Q (.panic c) (a.put oi.dst v) w→Q (.panic c) a w:=by exact fun _ _ _ h=>h):wpAnyH P md ops Q S (fuel+1) listed a w :=
 wpAnyH_take (at_ hi) hs hf hr hQ (Or.inl ⟨hw,hy⟩) hS h
theorem put:(∀ (a:Act) (v:Value),a.put none v=a)∧(∀ (a:Act) (t:Tmp) (v:Value),a.put (some t) v = { a with tmps:=a.tmps.setIfInBounds t v }) ∧
  (∀ (l:List Value) (i:Nat) (v:Value),l.toArray.setIfInBounds i v=(l.set i v).toArray)∧(∀ (x v:Value) (l:List Value),(x :: l).set 0 v=v :: l)∧(∀ (x v:Value) (l:List Value) (i:Nat),(x :: l).set (i+1) v=x :: l.set i v) ∧
  (∀ (l:List Bool) (i:Nat) (v:Bool),l.toArray.setIfInBounds i v=(l.set i v).toArray)∧(∀ (x v:Bool) (l:List Bool),(x :: l).set 0 v=v :: l)∧(∀ (x v:Bool) (l:List Bool) (i:Nat),(x :: l).set (i+1) v=x :: l.set i v) :=
 ⟨fun _ _=>rfl,fun _ _ _=>rfl,fun _ _ _=>by simp,fun _ _ _=>rfl,fun _ _ _ _=>rfl,fun _ _ _=>by simp,fun _ _ _=>rfl,fun _ _ _ _=>rfl⟩
theorem s (i:Nat) {fuel:Nat} {listed:Array Bool} {a:Act} {w:World} {o:Oper} {l:List Oper} (ho:ops.toList.drop i=o :: l)
  (h:∀ K':Act→World→Prop,Shut (∀ a w,S w→(S w→wpAnyH P md ops Q S fuel (listed.setIfInBounds i true) a w)→K' a w)→if Region.wanted o (yielded ops a.tmps)=true then Oper.wp P o a w K' Q else K' (a.put o.dst undef) w)
  (hr:Region.ready md ops listed=[i]:=by kernel_rfl):wpAnyH P md ops Q S (fuel+1) listed a w :=
 wpAnyH_ready (rs:=[i]) hr (by simp) (AllReadyH.cons (at_ ho) h AllReadyH.nil)
theorem q (i:Nat) {fuel:Nat} {listed:Array Bool} {a:Act} {w:World} {o:Oper} {l:List Oper} (ho:ops.toList.drop i=o :: l)
  (h:∀ K':Act→World→Prop,(∀ a w,wpAny P md ops Q fuel (listed.setIfInBounds i true) a w→K' a w)→if Region.wanted o (yielded ops a.tmps)=true then Oper.wp P o a w K' Q else K' (a.put o.dst undef) w)
  (hr:Region.ready md ops listed=[i]:=by kernel_rfl):wpAny P md ops Q (fuel+1) listed a w :=
 wpAny_ready (rs:=[i]) hr (by simp) (AllReady.cons (at_ ho) h (fun j hj=>by cases hj))
theorem z (i:Nat) {oi:Oper} {l:List Oper} {v:Value} {fuel:Nat} {listed:Array Bool} {a:Act} {w:World} (hi:ops.toList.drop i=oi :: l)
  (h:wpAny P md ops Q fuel (listed.setIfInBounds i true) (a.put oi.dst v) w)
  (hy:∀ w,(execOp a.eval oi).run P w=.ok (.value v) w:=by intro wS;first | (go_simp;done) | (go_simp;with_reducible rfl))
  (hw:Region.wanted oi (yielded ops a.tmps)=true:=by rfl) (hs:Region.noSelect ops=true:=by kernel_rfl) (hf:Region.free md ops listed i=true:=by kernel_rfl) (hr:(Region.ready md ops listed).contains i=true:=by kernel_rfl)
  (hQ:∀ c a w,Q (.panic c) (a.put oi.dst v) w→Q (.panic c) a w:=by exact fun _ _ _ h=>h):wpAny P md ops Q (fuel+1) listed a w :=
 wpAny_take (at_ hi) hs hf hr hQ (Or.inl ⟨hw,hy⟩) h
theorem d {fuel:Nat} {listed:Array Bool} {a:Act} {w:World} {i:Nat} {o:Oper} {l:List Oper} {rs:List Nat} (ho:ops.toList.drop i=o :: l)
  (h:∀ K':Act→World→Prop,(∀ a w,wpAny P md ops Q fuel (listed.setIfInBounds i true) a w→K' a w)→if Region.wanted o (yielded ops a.tmps)=true then Oper.wp P o a w K' Q else K' (a.put o.dst undef) w)
  (hs:AllReady P md ops Q fuel listed a w rs):AllReady P md ops Q fuel listed a w (i :: rs):=AllReady.cons (at_ ho) h hs
end
end Tk
end
section
namespace CShape
open Go Go.ChangeShapes Go.WideShapes Go.ChangeAt Go.RowKit
open Plain CSat
/-! ### windows -/
def argsB (n k s p:Int):Bool:=decide (1≤n∧n≤1024∧1≤k∧k≤5∧1≤s∧s≤4∧0≤p∧p≤4∧p < k)
def zai (n k s p:Int):Int:=if argsB n k s p then (if n+2 * p - k < 0 then 0 else (n+2 * p - k) / s+1) else 0
def zbd (n k s p:Int):Int:=if argsB n k s p then (if n+2 * p - k < 0 then 5 else 0) else 2
theorem zbi {n k s p:Int} (h:argsB n k s p=true):1≤n∧n≤1024∧1≤k∧k≤5∧1≤s∧s≤4∧0≤p∧p≤4∧p < k:=by simpa [argsB] using h
theorem argsB_no {n k s p:Int} (h:argsB n k s p=false):(n < 1∨1024 < n)∨(1≤n∧n≤1024∧(k < 1∨5 < k))∨(1≤n∧n≤1024∧1≤k∧k≤5∧(s < 1∨4 < s)) ∨
  (1≤n∧n≤1024∧1≤k∧k≤5∧1≤s∧s≤4∧(p < 0∨4 < p))∨(1≤n∧n≤1024∧1≤k∧k≤5∧1≤s∧s≤4∧0≤p∧p≤4∧k≤p):=by
 simp [argsB] at h;omega
theorem steps_arg (n k s p:Int) (h:argsB n k s p=false) (w:World) :
  Calls Tryz.prog 177 #[.int .i64 n,.int .i64 k,.int .i64 s,.int .i64 p] w fun e w'=>e=.returned (.tuple #[.int .i64 0,.int .i64 2])∧w=w':=by
 rcases argsB_no h with h1 | ⟨h1,h2,h3⟩ | ⟨h1,h2,h3,h4,h5⟩ | ⟨h1,h2,h3,h4,h5,h6,h7⟩ | ⟨h1,h2,h3,h4,h5,h6,h7,h8,h9⟩
 all_goals
  clear h
  go_enter Tryz.func177,Tryz.ntmps177
  go_wp2_with (first
   | (go_at_call 126;refine (zbv _ _ _ (by omega) (by omega) _).mono ?_;rintro e w' ⟨rfl,rfl⟩)
   | (go_at_call 126;refine (within_no _ _ _ (by omega) _).mono ?_;rintro e w' ⟨rfl,rfl⟩))
  go_ret2
  exact⟨rfl,rfl⟩
theorem steps_in (n k s p:Int) (h:argsB n k s p=true) (w:World) :
  Calls Tryz.prog 177 #[.int .i64 n,.int .i64 k,.int .i64 s,.int .i64 p] w fun e w'=>e=.returned (.tuple #[.int .i64 (if n+2 * p - k < 0 then 0 else (n+2 * p - k) / s+1),.int .i64 (if n+2 * p - k < 0 then 5 else 0)])∧w=w':=by
 obtain⟨h1,h2,h3,h4,h5,h6,h7,h8,h9⟩:=zbi h
 clear h
 by_cases hr:n+2 * p - k < 0
 ·rw [if_pos hr,if_pos hr]
  go_enter Tryz.func177,Tryz.ntmps177
  go_wp2_with (go_at_call 126;refine (zbv _ _ _ (by omega) (by omega) _).mono ?_;rintro e w' ⟨rfl,rfl⟩)
  go_ret2
  exact⟨rfl,rfl⟩
 ·rw [if_neg hr,if_neg hr]
  obtain⟨q,hq⟩:∃ q,(n+2 * p - k) / s=q:=⟨_,rfl⟩
  have hq1:0≤q:=hq ▸ Int.ediv_nonneg (by omega) (by omega)
  have hq2:q≤2000:=by
   rw [← hq]
   exact Int.le_trans (Int.ediv_le_self s (by omega)) (by omega)
  have hq3:(n+2 * p - k).tdiv s=q:=by rw [Int.tdiv_eq_ediv_of_nonneg (by omega)];exact hq
  rw [hq]
  go_enter Tryz.func177,Tryz.ntmps177
  go_wp2_with (go_at_call 126;refine (zbv _ _ _ (by omega) (by omega) _).mono ?_;rintro e w' ⟨rfl,rfl⟩)
  go_ret2
  exact⟨rfl,rfl⟩
theorem zb4 (n k s p m e:Int) (hm:zai n k s p=m) (he:zbd n k s p=e) (w:World) :
  Calls Tryz.prog 177 #[.int .i64 n,.int .i64 k,.int .i64 s,.int .i64 p] w fun r w'=>r=.returned (.tuple #[.int .i64 m,.int .i64 e])∧w=w':=by
 unfold zai at hm
 unfold zbd at he
 cases h:argsB n k s p
 ·rw [if_neg (by simp [h])] at hm he
  subst hm he
  exact steps_arg n k s p h w
 ·rw [if_pos h] at hm he
  subst hm he
  exact steps_in n k s p h w
/-! ### places -/
/-! ### the shape that a window makes -/
def zaz (H W C k s p o:Int):Int:=if zae H W C=false then 5 else if zbd H k s p≠0 then zbd H k s p else if zbd W k s p≠0 then zbd W k s p else if zae (zai H k s p) (zai W k s p) o then 0 else 5
def za0 (H W C k s p o:Int):Array Value:=if zaz H W C k s p o=0 then #[.int .i64 (zai H k s p),.int .i64 (zai W k s p),.int .i64 o] else #[.int .i64 0,.int .i64 0,.int .i64 0]
theorem slide_wrong (H W C k s p o:Int) (hs:zae H W C=false) (wd:World) :
  Calls Tryz.prog 165 #[.agg #[.int .i64 H,.int .i64 W,.int .i64 C],.int .i64 k,.int .i64 s,.int .i64 p,.int .i64 o] wd fun e w'=>e=.returned (.tuple #[.agg #[.int .i64 0,.int .i64 0,.int .i64 0],.int .i64 5])∧Below wd.heap.size wd w':=by
 have HS:=hid hs
 clear hs
 go_enter Tryz.func165,Tryz.ntmps165
 go_wp2_with (go_at_call 69;refine (zal _ _ _ _ HS.out _).mono ?_;rintro e w1 ⟨rfl,hb⟩;obtain⟨hc,hf⟩:=Kit.bcell hb)
 have hs1:wd.heap.size+1 < w1.heap.size:=by have:=hb.size;simp at this;omega
 have hB:Below wd.heap.size wd w1:=(((Below.refl _ _).alloc (le_refl _) _).alloc (by simp) _).trans (hb.mono (by simp;omega))
 refine bodyPost_ret (Kit.zaa rfl _ _ (wd.heap.size+1) 0 [.int .i64 0,.int .i64 0,.int .i64 0] _ rfl (Kit.zak (by go_cell) (by go_cell) (by go_cell)) Tryz.underlying23 rfl (by kernel_rfl)) rfl ?_
 exact⟨rfl,by go_grown⟩
theorem slide_one (H W C k s p o m e1:Int) (hs:zae H W C=true) (hm:zai H k s p=m) (he:zbd H k s p=e1) (hn:e1≠0) (wd:World) :
  Calls Tryz.prog 165 #[.agg #[.int .i64 H,.int .i64 W,.int .i64 C],.int .i64 k,.int .i64 s,.int .i64 p,.int .i64 o] wd fun e w'=>e=.returned (.tuple #[.agg #[.int .i64 0,.int .i64 0,.int .i64 0],.int .i64 e1])∧Below wd.heap.size wd w':=by
 have HS:=hid hs
 have HM:=hid hm
 have HE:=hid he
 clear hs hm he
 go_enter Tryz.func165,Tryz.ntmps165
 go_wp2_with (first
  | (go_at_call 69;refine (zal _ _ _ _ HS.out _).mono ?_;rintro e w1 ⟨rfl,hb⟩;obtain⟨hc,hf⟩:=Kit.bcell hb)
  | (go_at_call 177;refine (zb4 _ _ _ _ m e1 HM.out HE.out _).mono ?_;rintro e w' ⟨rfl,rfl⟩))
 have hs1:wd.heap.size+1 < w1.heap.size:=by have:=hb.size;simp at this;omega
 have hB:Below wd.heap.size wd w1:=(((Below.refl _ _).alloc (le_refl _) _).alloc (by simp) _).trans (hb.mono (by simp;omega))
 refine bodyPost_ret (Kit.zaa rfl _ _ (wd.heap.size+1) 0 [.int .i64 0,.int .i64 0,.int .i64 0] _ rfl (Kit.zak (by go_cell) (by go_cell) (by go_cell)) Tryz.underlying23 rfl (by kernel_rfl)) rfl ?_
 exact⟨rfl,by go_grown⟩
theorem slide_two (H W C k s p o m m2 e2:Int) (hs:zae H W C=true) (hm:zai H k s p=m) (he:zbd H k s p=0) (hm2:zai W k s p=m2) (he2:zbd W k s p=e2) (hn:e2≠0) (wd:World) :
  Calls Tryz.prog 165 #[.agg #[.int .i64 H,.int .i64 W,.int .i64 C],.int .i64 k,.int .i64 s,.int .i64 p,.int .i64 o] wd fun e w'=>e=.returned (.tuple #[.agg #[.int .i64 0,.int .i64 0,.int .i64 0],.int .i64 e2])∧Below wd.heap.size wd w':=by
 have HS:=hid hs
 have HM:=hid hm
 have HE:=hid he
 have HM2:=hid hm2
 have HE2:=hid he2
 clear hs hm he hm2 he2
 go_enter Tryz.func165,Tryz.ntmps165
 go_wp2_with (first
  | (go_at_call 69;((with_reducible refine (zal H W C true HS.out _).mono ?_);rintro e w1 ⟨rfl,hb⟩;obtain⟨hc,hf⟩:=Kit.bcell hb))
  | (go_at_call 177;((with_reducible refine (zb4 H k s p m 0 HM.out HE.out _).mono ?_);rintro e w' ⟨rfl,rfl⟩))
  | (go_at_call 177;((with_reducible refine (zb4 W k s p m2 e2 HM2.out HE2.out _).mono ?_);rintro e w' ⟨rfl,rfl⟩)))
 have hs1:wd.heap.size+1 < w1.heap.size:=by have:=hb.size;simp at this;omega
 have hB:Below wd.heap.size wd w1:=(((Below.refl _ _).alloc (le_refl _) _).alloc (by simp) _).trans (hb.mono (by simp;omega))
 refine bodyPost_ret (Kit.zaa rfl _ _ (wd.heap.size+1) 0 [.int .i64 0,.int .i64 0,.int .i64 0] _ rfl (Kit.zak (by go_cell) (by go_cell) (by go_cell)) Tryz.underlying23 rfl (by kernel_rfl)) rfl ?_
 exact⟨rfl,by go_grown⟩
theorem slide_bad (H W C k s p o m m2:Int) (hs:zae H W C=true) (hm:zai H k s p=m) (he:zbd H k s p=0) (hm2:zai W k s p=m2) (he2:zbd W k s p=0) (hr:zae m m2 o=false) (wd:World) :
  Calls Tryz.prog 165 #[.agg #[.int .i64 H,.int .i64 W,.int .i64 C],.int .i64 k,.int .i64 s,.int .i64 p,.int .i64 o] wd fun e w'=>e=.returned (.tuple #[.agg #[.int .i64 0,.int .i64 0,.int .i64 0],.int .i64 5])∧Below wd.heap.size wd w':=by
 have HS:=hid hs
 have HM:=hid hm
 have HE:=hid he
 have HM2:=hid hm2
 have HE2:=hid he2
 have HR:=hid hr
 clear hs hm he hm2 he2 hr
 go_enter Tryz.func165,Tryz.ntmps165
 go_wp2_with (first
  | (go_at_call 69;((with_reducible refine (zal H W C true HS.out _).mono ?_);rintro e w1 ⟨rfl,hb⟩;obtain⟨hc,hf⟩:=Kit.bcell hb))
  | (go_at_call 177;((with_reducible refine (zb4 H k s p m 0 HM.out HE.out _).mono ?_);rintro e w' ⟨rfl,rfl⟩))
  | (go_at_call 177;((with_reducible refine (zb4 W k s p m2 0 HM2.out HE2.out _).mono ?_);rintro e w' ⟨rfl,rfl⟩))
  | (go_at_call 69;((with_reducible refine (zal m m2 o false HR.out _).mono ?_);(rintro e w2 ⟨rfl,hb2⟩;have hs1:wd.heap.size+1 < w1.heap.size:=(by have:=hb.size;simp at this;omega);have d0:w2.cell? ⟨wd.heap.size+1,0,none⟩=some (.int .i64 0):=(hb2.cell (p:=⟨wd.heap.size+1,0,none⟩) (by simp;omega)).trans (by go_cell);have d1:w2.cell? ⟨wd.heap.size+1,1,none⟩=some (.int .i64 0):=(hb2.cell (p:=⟨wd.heap.size+1,1,none⟩) (by simp;omega)).trans (by go_cell);have d2:w2.cell? ⟨wd.heap.size+1,2,none⟩=some (.int .i64 0):=(hb2.cell (p:=⟨wd.heap.size+1,2,none⟩) (by simp;omega)).trans (by go_cell);have g0:w2.frozen? ⟨wd.heap.size+1,0,none⟩=false:=(hb2.frozen (p:=⟨wd.heap.size+1,0,none⟩) (by simp;omega)).trans (by go_cell);have g1:w2.frozen? ⟨wd.heap.size+1,1,none⟩=false:=(hb2.frozen (p:=⟨wd.heap.size+1,1,none⟩) (by simp;omega)).trans (by go_cell);have g2:w2.frozen? ⟨wd.heap.size+1,2,none⟩=false:=(hb2.frozen (p:=⟨wd.heap.size+1,2,none⟩) (by simp;omega)).trans (by go_cell);have c0:w2.cell? ⟨w1.heap.size,0,none⟩=some (.int .i64 m):=(hb2.cell (p:=⟨w1.heap.size,0,none⟩) (by simp)).trans (by go_cell);have c1:w2.cell? ⟨w1.heap.size,1,none⟩=some (.int .i64 m2):=(hb2.cell (p:=⟨w1.heap.size,1,none⟩) (by simp)).trans (by go_cell);have c2:w2.cell? ⟨w1.heap.size,2,none⟩=some (.int .i64 o):=(hb2.cell (p:=⟨w1.heap.size,2,none⟩) (by simp)).trans (by go_cell);clear hc hf))))
 have hs2:w1.heap.size < w2.heap.size:=by have:=hb2.size;simp at this;omega
 have hB:Below wd.heap.size wd w1:=(((Below.refl _ _).alloc (le_refl _) _).alloc (by simp) _).trans (hb.mono (by simp;omega))
 have hB2:Below wd.heap.size wd w2:=(by go_grown:Below wd.heap.size wd _).trans (hb2.mono (by simp;omega))
 refine bodyPost_ret (Kit.zaa rfl _ _ (wd.heap.size+1) 0 [.int .i64 0,.int .i64 0,.int .i64 0] _ rfl (Kit.zak (by go_cell) (by go_cell) (by go_cell)) Tryz.underlying23 rfl (by kernel_rfl)) rfl ?_
 exact⟨rfl,by go_grown⟩
theorem slide_good (H W C k s p o m m2:Int) (hs:zae H W C=true) (hm:zai H k s p=m) (he:zbd H k s p=0) (hm2:zai W k s p=m2) (he2:zbd W k s p=0) (hr:zae m m2 o=true) (wd:World) :
  Calls Tryz.prog 165 #[.agg #[.int .i64 H,.int .i64 W,.int .i64 C],.int .i64 k,.int .i64 s,.int .i64 p,.int .i64 o] wd fun e w'=>e=.returned (.tuple #[.agg #[.int .i64 m,.int .i64 m2,.int .i64 o],.int .i64 0])∧Below wd.heap.size wd w':=by
 have HS:=hid hs
 have HM:=hid hm
 have HE:=hid he
 have HM2:=hid hm2
 have HE2:=hid he2
 have HR:=hid hr
 clear hs hm he hm2 he2 hr
 go_enter Tryz.func165,Tryz.ntmps165
 go_wp2_with (first
  | (go_at_call 69;((with_reducible refine (zal H W C true HS.out _).mono ?_);rintro e w1 ⟨rfl,hb⟩;obtain⟨hc,hf⟩:=Kit.bcell hb))
  | (go_at_call 177;((with_reducible refine (zb4 H k s p m 0 HM.out HE.out _).mono ?_);rintro e w' ⟨rfl,rfl⟩))
  | (go_at_call 177;((with_reducible refine (zb4 W k s p m2 0 HM2.out HE2.out _).mono ?_);rintro e w' ⟨rfl,rfl⟩))
  | (go_at_call 69;((with_reducible refine (zal m m2 o true HR.out _).mono ?_);(rintro e w2 ⟨rfl,hb2⟩;have hs1:wd.heap.size+1 < w1.heap.size:=(by have:=hb.size;simp at this;omega);have d0:w2.cell? ⟨wd.heap.size+1,0,none⟩=some (.int .i64 0):=(hb2.cell (p:=⟨wd.heap.size+1,0,none⟩) (by simp;omega)).trans (by go_cell);have d1:w2.cell? ⟨wd.heap.size+1,1,none⟩=some (.int .i64 0):=(hb2.cell (p:=⟨wd.heap.size+1,1,none⟩) (by simp;omega)).trans (by go_cell);have d2:w2.cell? ⟨wd.heap.size+1,2,none⟩=some (.int .i64 0):=(hb2.cell (p:=⟨wd.heap.size+1,2,none⟩) (by simp;omega)).trans (by go_cell);have g0:w2.frozen? ⟨wd.heap.size+1,0,none⟩=false:=(hb2.frozen (p:=⟨wd.heap.size+1,0,none⟩) (by simp;omega)).trans (by go_cell);have g1:w2.frozen? ⟨wd.heap.size+1,1,none⟩=false:=(hb2.frozen (p:=⟨wd.heap.size+1,1,none⟩) (by simp;omega)).trans (by go_cell);have g2:w2.frozen? ⟨wd.heap.size+1,2,none⟩=false:=(hb2.frozen (p:=⟨wd.heap.size+1,2,none⟩) (by simp;omega)).trans (by go_cell);have c0:w2.cell? ⟨w1.heap.size,0,none⟩=some (.int .i64 m):=(hb2.cell (p:=⟨w1.heap.size,0,none⟩) (by simp)).trans (by go_cell);have c1:w2.cell? ⟨w1.heap.size,1,none⟩=some (.int .i64 m2):=(hb2.cell (p:=⟨w1.heap.size,1,none⟩) (by simp)).trans (by go_cell);have c2:w2.cell? ⟨w1.heap.size,2,none⟩=some (.int .i64 o):=(hb2.cell (p:=⟨w1.heap.size,2,none⟩) (by simp)).trans (by go_cell);clear hc hf))))
 have hs2:w1.heap.size < w2.heap.size:=by have:=hb2.size;simp at this;omega
 have hB:Below wd.heap.size wd w1:=(((Below.refl _ _).alloc (le_refl _) _).alloc (by simp) _).trans (hb.mono (by simp;omega))
 have hB2:Below wd.heap.size wd w2:=(by go_grown:Below wd.heap.size wd _).trans (hb2.mono (by simp;omega))
 refine bodyPost_ret (Kit.zaa rfl _ _ (wd.heap.size+1) 0 [.int .i64 m,.int .i64 m2,.int .i64 o] _ rfl (Kit.zak (by go_cell) (by go_cell) (by go_cell)) Tryz.underlying23 rfl (by kernel_rfl)) rfl ?_
 exact⟨rfl,by go_grown⟩
theorem zba (H W C k s p o e:Int) (v:Array Value) (he:zaz H W C k s p o=e) (hv:za0 H W C k s p o=v) (wd:World) :
  Calls Tryz.prog 165 #[.agg #[.int .i64 H,.int .i64 W,.int .i64 C],.int .i64 k,.int .i64 s,.int .i64 p,.int .i64 o] wd fun r w'=>r=.returned (.tuple #[.agg v,.int .i64 e])∧Below wd.heap.size wd w':=by
 subst hv
 unfold za0
 rw [he]
 unfold zaz at he
 cases hs:zae H W C
 ·rw [if_pos hs] at he
  subst he
  exact slide_wrong H W C k s p o hs wd
 ·rw [if_neg (by simp [hs])] at he
  by_cases h1:zbd H k s p=0
  ·rw [if_neg (by simp [h1])] at he
   by_cases h2:zbd W k s p=0
   ·rw [if_neg (by simp [h2])] at he
    cases hr:zae (zai H k s p) (zai W k s p) o
    ·rw [if_neg (by simp [hr])] at he
     subst he
     exact slide_bad H W C k s p o _ _ hs rfl h1 rfl h2 hr wd
    ·rw [if_pos hr] at he
     subst he
     exact slide_good H W C k s p o _ _ hs rfl h1 rfl h2 hr wd
   ·rw [if_pos h2] at he
    subst he
    rw [if_neg h2]
    exact slide_two H W C k s p o _ _ _ hs rfl h1 rfl rfl h2 wd
  ·rw [if_pos h1] at he
   subst he
   rw [if_neg h1]
   exact slide_one H W C k s p o _ _ hs rfl rfl h1 wd
end CShape
end
section
namespace CTensor
open Go Go.ChangeShapes Go.WideShapes Go.ChangeAt Go.RowKit
open Plain CSat CShape
def I8s (zs:List Int):List Value:=zs.map (.int .i8)
def Owned (w:World) (n:Nat) (xs:List Value) (e:Ending) (w':World):Prop :=
 ∃ v,e=.returned v∧w'.ownsRow w.heap.size 50 1 v n xs∧Below w.heap.size w w'
theorem info_i8:(Tryz.prog.info? 50).map (fun i=>(i.zero,i.size,i.bytes))=some (some (.int .i8 0),1,1):=by kernel_rfl
theorem sclone (A:Option Addr) (zs:List Int) (n c:Nat) (hn:zs.length=n) (hl:n≤1000000) {B:Nat} (w:World) (hB:B≤w.heap.size) (hr:Kit.Rd w B A (zs.map (.int .i8))) :
  Calls Tryz.prog 60 #[.slice A n c] w (Owned w n (I8s zs)):=by
 have HN:=hid hn
 have HR:=hid hr
 have qn:∀ (w:World) (a:Option Addr) (n c n' c':Nat),(binOp .eql 43 (.slice a n c) (.slice none n' c')).run Tryz.prog w=.ok (.bool a.isNone) w:=fun w a n c n' c'=>Lib.run_eql_slice_nil w _ _ a n c n' c' Tryz.underlying43
 cases A with
 | none =>
   have hz:zs=[]:=by
    cases zs with
    | nil=>rfl
    | cons z zs=>obtain⟨b,off,h,_⟩:=hr.plain (by simp);cases h
   subst hz
   have h0:n=0:=by simpa using hn.symm
   subst h0
   clear hn hr HN HR
   go_enter Tryz.func60,Tryz.ntmps60
   go_wp2
   go_ret
   exact⟨_,rfl,⟨by simp [I8s],.inl ⟨rfl,rfl⟩⟩,Below.refl _ _⟩
 | some ad =>
   clear hn hr
   go_enter Tryz.func60,Tryz.ntmps60
   obtain⟨i0,hi0,hi1,hi2,hi3⟩:=info_parts info_i8
   go_wp2_with (at_builtin;refine Kit.zaj _ rfl (.tmp 5) (.tmp 6) _ rfl w.heap.size 50 i0 (.int .i8 0) 1 1 Tryz.underlying43 hi0 hi1 hi2 hi3 rfl (by decide) (.slice (some ⟨_,0,none⟩) 0 0) 0 [] rfl (World.ownsRow_lit _ #[] 0 (le_refl _) (Nat.zero_le _) rfl) _ _ n _ (I8s zs) rfl (by simp [I8s,HN.out]) (HR.out.alloc hB _) (Kit.zbh .i8 zs) (by unfold maxLen;omega) (by omega) (by simp) ?_;intro v1 w1 hown1 hg1 hat1;replace hown1:w1.ownsRow w.heap.size 50 1 v1 n (I8s zs):=(by simpa using hown1);have HO:=hid hown1;have HX:=hid (((Below.refl _ w).alloc (le_refl _) (.cells #[] 50)).grown hg1 (by simp) (fun q hq=>by simp [Value.ownBlock] at hq;omega));clear hown1 hg1 hat1)
   go_ret
   exact⟨_,rfl,HO.out,HX.out⟩
end CTensor
end
section
namespace CLeb
open Go Go.ChangeShapes Go.WideShapes Go.ChangeAt Go.RowKit
open LebNum
theorem wraps_u64 (n:Int) (h₀:0≤n) (h₁:n < 2 ^ 64):IntKind.u64.wrap n=n:=by rw [IntKind.wrap_u64];omega
theorem xor_neg (v:Int) (h1 : -9223372036854775808≤v) (h2:v≤9223372036854775807):bits .xor .i64 (-1) v = -v - 1:=by
 have e:BitVec.ofInt 64 (-1)=BitVec.allOnes 64:=by decide
 show IntKind.i64.wrap ((BitVec.ofInt 64 (-1) ^^^ BitVec.ofInt 64 v).toNat:Int)=_
 rw [e,BitVec.allOnes_xor,BitVec.toNat_not,BitVec.toNat_ofInt,IntKind.wrap_i64]
 omega
theorem putInt (v:Int) (h1 : -9223372036854775808≤v) (h2:v≤9223372036854775807) (w:World) :
  Calls Tryz.prog 222 #[.int .i64 v] w (Owned w 5 1 (digZ (foldZ v)).length (zao (digZ (foldZ v)))):=by
 obtain⟨f,hf⟩:∃ f,foldZ v=f:=⟨_,rfl⟩
 have hb:=foldZ_bd h1 h2
 rw [hf] at hb ⊢
 obtain⟨b1,b2⟩:=hb
 unfold foldZ at hf
 by_cases h:0≤v
 ·rw [if_pos h] at hf
  have HF:=hid hf
  clear hf
  go_enter Tryz.func222,Tryz.ntmps222
  go_wp2_with (go_at_call 45;rw [HF.out];refine (put f b1 b2 _).mono ?_;rintro e w1 ⟨v1,rfl,ho,hb⟩)
  go_ret
  exact⟨_,rfl,ho,hb⟩
 ·rw [if_neg h] at hf
  have HF:=hid hf
  clear hf
  go_enter Tryz.func222,Tryz.ntmps222
  have HXV:=hid (xor_neg v h1 h2)
  go_wp2_with (go_at_call 45;rw [HXV.out,wraps_u64 (-v - 1) (by omega) (by omega),wraps_u64 (2 * (-v - 1)) (by omega) (by omega),wraps_u64 (2 * (-v - 1)+1) (by omega) (by omega),show 2 * (-v - 1)+1=f by have:=HF.out;omega];refine (put f b1 b2 _).mono ?_;rintro e w1 ⟨v1,rfl,ho,hb⟩)
  go_ret
  exact⟨_,rfl,ho,hb⟩
end CLeb
end
end Go.Proofs.YtfgdfignoakkaaaGreatDoor
