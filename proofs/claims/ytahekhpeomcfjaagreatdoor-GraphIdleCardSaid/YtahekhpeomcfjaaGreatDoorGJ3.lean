/- -/
import Derived.Lib.SmallJoins
import Derived.Deep.RegionHeld
import Derived.Test.YtahekhpeomcfjaaGreatDoorGJ2
open Go.Lib (hid)
open Nat (le_refl lt_of_succ_lt lt_succ_self)
set_option linter.unusedVariables false
set_option linter.unusedSimpArgs false
set_option maxRecDepth 100000
set_option maxHeartbeats 16000000
namespace Go.Proofs.YtahekhpeomcfjaaGreatDoor
open Go Go.ChangeShapes Go.WideShapes Go.ChangeAt Go.RowKit Go.Deep
section
namespace Kit
section
variable {H:Type} {enc:TypeId × Value→H} {P:Program} {w:World} {base b0:Nat} {spare:Nat→Bool} {held:Bool} {r:Reach}
theorem open_tensor {t s d e i:TypeId} {k:IntKind} {f0 f1 g0 g1 g2:Field} {v:Value} {D:DataW H} {ps:List MemPlace}
  (ht:P.underlying t=some (.struct #[f0,f1])) (hs:P.underlying s=some (.struct #[g0,g1,g2])) (hd:P.underlying d=some (.slice e)) (he:P.underlying e=some (.int k)) (hi:P.underlying i=some (.int .i64)) (hce:P.cellsOf e=1)
  (hct:P.cellsOf t=4) (hcs:P.cellsOf s=3) (hcd:P.cellsOf d=1) (hci:P.cellsOf i=1) (hf:f0.type=s∧f0.offset=0∧f1.type=d∧f1.offset=3) (hg:g0.type=i∧g0.offset=0∧g1.type=i∧g1.offset=1∧g2.type=i∧g2.offset=2)
  (hv:Value.okWide P w r b0 t v) (h:DataW.Trod enc P w base spare held t v D ps) :
  ∃ (x y z:Int) (A:Option Addr) (zs:List Int) (c:Nat),v=.agg #[.int .i64 x,.int .i64 y,.int .i64 z,.slice A zs.length c]∧(Lit.int .i64 x).wf=true∧(Lit.int .i64 y).wf=true∧(Lit.int .i64 z).wf=true ∧
   zs.length≤c∧c≤maxLen∧(∀ n∈zs,(Lit.int k n).wf=true)∧Rd w w.heap.size A (zs.map (.int k)):=by
 obtain⟨cs,rfl,hsz⟩:=okWide_struct ht hv
 rw [hct] at hsz
 obtain⟨c0,c1,c2,c3,rfl⟩:=size_4 hsz
 obtain⟨fuel,hfu⟩:=h
 obtain⟨xs,n,_,_,_,hlen,hx⟩:=DataW.trod_struct ht hfu
 have h0:=hx 0 f0 rfl
 have h1:=hx 1 f1 rfl
 rw [hf.1,hf.2.1,hcs] at h0
 rw [hf.2.2.1,hf.2.2.2,hcd] at h1
 have e0:((Value.agg #[c0,c1,c2,c3]).cells.toList.drop 0).take 3=[c0,c1,c2]:=rfl
 have e1:((Value.agg #[c0,c1,c2,c3]).cells.toList.drop 3).take 1=[c3]:=rfl
 rw [e0] at h0
 rw [e1] at h1
 have hl2:xs.length=2:=by simpa using hlen
 rw [List.getElem?_eq_getElem (by omega)] at h0 h1
 obtain⟨ys,m,_,_,_,hlen2,hy⟩:=DataW.trod_struct hs h0
 have hm2:ys.length=3:=by simpa using hlen2
 have a0:=hy 0 g0 rfl
 have a1:=hy 1 g1 rfl
 have a2:=hy 2 g2 rfl
 rw [hg.1,hg.2.1,hci] at a0
 rw [hg.2.2.1,hg.2.2.2.1,hci] at a1
 rw [hg.2.2.2.2.1,hg.2.2.2.2.2,hci] at a2
 have q0:([c0,c1,c2].drop 0).take 1=[c0]:=rfl
 have q1:([c0,c1,c2].drop 1).take 1=[c1]:=rfl
 have q2:([c0,c1,c2].drop 2).take 1=[c2]:=rfl
 rw [q0,List.getElem?_eq_getElem (by omega)] at a0
 rw [q1,List.getElem?_eq_getElem (by omega)] at a1
 rw [q2,List.getElem?_eq_getElem (by omega)] at a2
 obtain⟨x,ex,_,wx⟩:=DataW.trod_int hi a0
 obtain⟨y,ey,_,wy⟩:=DataW.trod_int hi a1
 obtain⟨z,ez,_,wz⟩:=DataW.trod_int hi a2
 simp at ex ey ez
 subst ex ey ez
 obtain⟨a3,len,cap,e3⟩:=Go.Joins.slice_form hd h1
 simp at e3
 subst e3
 rcases open_ints hd he hce h1 with ⟨hcs,_⟩ | ⟨a,len',cap',zs,hcs,_,hl,hm,hz,_,hcell,hwz⟩
 ·simp at hcs
  obtain⟨rfl,rfl,rfl⟩:=hcs
  exact⟨x,y,z,none,[],0,rfl,wx,wy,wz,by simp,by simp,by simp,Rd.nil⟩
 ·simp at hcs
  obtain⟨rfl,rfl,rfl⟩:=hcs
  have hlz:len≤zs.length:=by rw [hz];split <;> omega
  refine⟨x,y,z,some a,zs.take len,cap,?_,wx,wy,wz,?_,hm,fun n hn=>hwz n (List.mem_of_mem_take hn),fun j u hu=>?_⟩
  ·rw [List.length_take,Nat.min_eq_left hlz]
  ·rw [List.length_take,Nat.min_eq_left hlz];exact hl
  ·rw [List.getElem?_map,List.getElem?_take] at hu
   split at hu
   ·rename_i hj
    have hjz:j < zs.length:=by omega
    rw [List.getElem?_eq_getElem hjz] at hu
    simp only [Option.map_some,Option.some.injEq] at hu
    subst hu
    have h9:=hcell j hjz
    rw [List.getD_eq_getElem?_getD,List.getElem?_eq_getElem hjz,Option.getD_some] at h9
    exact⟨a,rfl,by have:=block_lt h9;rwa [add_block] at this,h9⟩
   ·simp at hu
end
end Kit
end
section
namespace Tk
open Go
section
variable {P:Program} {ops:Array Oper} {Q:Exit→Act→World→Prop} {md:Region.Mode} {S:World→Prop}
theorem at_ {i:Nat} {o:Oper} {l:List Oper} (h:ops.toList.drop i=o :: l):ops[i]?=some o:=by
 have h1:(ops.toList.drop i)[0]?=some o:=by rw [h];rfl
 rw [List.getElem?_drop,Nat.add_zero,Array.getElem?_toList] at h1
 exact h1
theorem t (i:Nat) {oi:Oper} {l:List Oper} {v:Value} {fuel:Nat} {listed:Array Bool} {a:Act} {w:World} (hi:ops.toList.drop i=oi :: l)
  (hy:YieldsIf P ops S oi v a) (hS:S w) (h:wpAnyH P md ops Q S fuel (listed.setIfInBounds i true) (a.put oi.dst v) w)
  (hs:Region.noSelect ops=true:=by kernel_rfl) (hf:Region.free md ops listed i=true:=by kernel_rfl) (hr:(Region.ready md ops listed).contains i=true:=by kernel_rfl)
  (hQ:∀ c a w,Q (.panic c) (a.put oi.dst v) w→Q (.panic c) a w:=by exact fun _ _ _ h=>h):wpAnyH P md ops Q S (fuel+1) listed a w :=
 wpAnyH_take (at_ hi) hs hf hr hQ hy hS h
theorem y (i:Nat) {oi:Oper} {l:List Oper} {v:Value} {fuel:Nat} {listed:Array Bool} {a:Act} {w:World} (hi:ops.toList.drop i=oi :: l)
  (hy:∀ w,S w→(execOp a.eval oi).run P w=.ok (.value v) w) (h:wpAnyH P md ops Q S fuel (listed.setIfInBounds i true) (a.put oi.dst v) w)
  (hS:S w:=by assumption) (hw:Region.wanted oi (yielded ops a.tmps)=true:=by rfl) (hs:Region.noSelect ops=true:=by kernel_rfl) (hf:Region.free md ops listed i=true:=by kernel_rfl) (hr:(Region.ready md ops listed).contains i=true:=by kernel_rfl)
  (hQ:∀ c a w,Q (.panic c) (a.put oi.dst v) w→Q (.panic c) a w:=by exact fun _ _ _ h=>h):wpAnyH P md ops Q S (fuel+1) listed a w :=
 wpAnyH_take (at_ hi) hs hf hr hQ (Or.inl ⟨hw,hy⟩) hS h
theorem x (i:Nat) {oi:Oper} {l:List Oper} {v:Value} {fuel:Nat} {listed:Array Bool} {a:Act} {w:World} (hi:ops.toList.drop i=oi :: l)
  (h:wpAnyH P md ops Q S fuel (listed.setIfInBounds i true) (a.put oi.dst v) w)
  (hy:∀ w,S w→(execOp a.eval oi).run P w=.ok (.value v) w:=by intro wS hSw;first | (go_simp;done) | (go_simp;with_reducible rfl))
  (hS:S w:=by assumption) (hw:Region.wanted oi (yielded ops a.tmps)=true:=by rfl) (hs:Region.noSelect ops=true:=by kernel_rfl) (hf:Region.free md ops listed i=true:=by kernel_rfl) (hr:(Region.ready md ops listed).contains i=true:=by kernel_rfl)
  (hQ:∀ c a w,Q (.panic c) (a.put oi.dst v) w→Q (.panic c) a w:=by exact fun _ _ _ h=>h):wpAnyH P md ops Q S (fuel+1) listed a w :=
 wpAnyH_take (at_ hi) hs hf hr hQ (Or.inl ⟨hw,hy⟩) hS h
theorem put:(∀ (a:Act) (v:Value),a.put none v=a)∧(∀ (a:Act) (t:Tmp) (v:Value),a.put (some t) v = { a with tmps:=a.tmps.setIfInBounds t v }) ∧
  (∀ (l:List Value) (i:Nat) (v:Value),l.toArray.setIfInBounds i v=(l.set i v).toArray)∧(∀ (x v:Value) (l:List Value),(x :: l).set 0 v=v :: l)∧(∀ (x v:Value) (l:List Value) (i:Nat),(x :: l).set (i+1) v=x :: l.set i v) ∧
  (∀ (l:List Bool) (i:Nat) (v:Bool),l.toArray.setIfInBounds i v=(l.set i v).toArray)∧(∀ (x v:Bool) (l:List Bool),(x :: l).set 0 v=v :: l)∧(∀ (x v:Bool) (l:List Bool) (i:Nat),(x :: l).set (i+1) v=x :: l.set i v) :=
 ⟨fun _ _=>rfl,fun _ _ _=>rfl,fun _ _ _=>by simp,fun _ _ _=>rfl,fun _ _ _ _=>rfl,fun _ _ _=>by simp,fun _ _ _=>rfl,fun _ _ _ _=>rfl⟩
theorem c {fuel:Nat} {listed:Array Bool} {a:Act} {w:World} {i:Nat} {o:Oper} {l:List Oper} {rs:List Nat} (ho:ops.toList.drop i=o :: l)
  (h:∀ K':Act→World→Prop,Shut (∀ a w,S w→(S w→wpAnyH P md ops Q S fuel (listed.setIfInBounds i true) a w)→K' a w)→if Region.wanted o (yielded ops a.tmps)=true then Oper.wp P o a w K' Q else K' (a.put o.dst undef) w)
  (hs:AllReadyH P md ops Q S fuel listed a w rs):AllReadyH P md ops Q S fuel listed a w (i :: rs):=AllReadyH.cons (at_ ho) h hs
theorem s (i:Nat) {fuel:Nat} {listed:Array Bool} {a:Act} {w:World} {o:Oper} {l:List Oper} (ho:ops.toList.drop i=o :: l)
  (h:∀ K':Act→World→Prop,Shut (∀ a w,S w→(S w→wpAnyH P md ops Q S fuel (listed.setIfInBounds i true) a w)→K' a w)→if Region.wanted o (yielded ops a.tmps)=true then Oper.wp P o a w K' Q else K' (a.put o.dst undef) w)
  (hr:Region.ready md ops listed=[i]:=by kernel_rfl):wpAnyH P md ops Q S (fuel+1) listed a w :=
 wpAnyH_ready (rs:=[i]) hr (by simp) (AllReadyH.cons (at_ ho) h AllReadyH.nil)
theorem q (i:Nat) {fuel:Nat} {listed:Array Bool} {a:Act} {w:World} {o:Oper} {l:List Oper} (ho:ops.toList.drop i=o :: l)
  (h:∀ K':Act→World→Prop,(∀ a w,wpAny P md ops Q fuel (listed.setIfInBounds i true) a w→K' a w)→if Region.wanted o (yielded ops a.tmps)=true then Oper.wp P o a w K' Q else K' (a.put o.dst undef) w)
  (hr:Region.ready md ops listed=[i]:=by kernel_rfl):wpAny P md ops Q (fuel+1) listed a w :=
 wpAny_ready (rs:=[i]) hr (by simp) (AllReady.cons (at_ ho) h (fun j hj=>by cases hj))
theorem z (i:Nat) {oi:Oper} {l:List Oper} {v:Value} {fuel:Nat} {listed:Array Bool} {a:Act} {w:World} (hi:ops.toList.drop i=oi :: l)
  (h:wpAny P md ops Q fuel (listed.setIfInBounds i true) (a.put oi.dst v) w)
  (hy:∀ w,(execOp a.eval oi).run P w=.ok (.value v) w:=by intro wS;first | (go_simp;done) | (go_simp;with_reducible rfl))
  (hw:Region.wanted oi (yielded ops a.tmps)=true:=by rfl) (hs:Region.noSelect ops=true:=by kernel_rfl) (hf:Region.free md ops listed i=true:=by kernel_rfl) (hr:(Region.ready md ops listed).contains i=true:=by kernel_rfl)
  (hQ:∀ c a w,Q (.panic c) (a.put oi.dst v) w→Q (.panic c) a w:=by exact fun _ _ _ h=>h):wpAny P md ops Q (fuel+1) listed a w :=
 wpAny_take (at_ hi) hs hf hr hQ (Or.inl ⟨hw,hy⟩) h
theorem d {fuel:Nat} {listed:Array Bool} {a:Act} {w:World} {i:Nat} {o:Oper} {l:List Oper} {rs:List Nat} (ho:ops.toList.drop i=o :: l)
  (h:∀ K':Act→World→Prop,(∀ a w,wpAny P md ops Q fuel (listed.setIfInBounds i true) a w→K' a w)→if Region.wanted o (yielded ops a.tmps)=true then Oper.wp P o a w K' Q else K' (a.put o.dst undef) w)
  (hs:AllReady P md ops Q fuel listed a w rs):AllReady P md ops Q fuel listed a w (i :: rs):=AllReady.cons (at_ ho) h hs
end
end Tk
end
section
namespace CFour
open Go Go.ChangeShapes Go.WideShapes Go.ChangeAt Go.RowKit
open FloatNum
def set4 (g:Nat) (L:Nat→Value) (w:World):World:=(((w.setCell ⟨g,0,none⟩ (L 0)).setCell ⟨g,1,none⟩ (L 1)).setCell ⟨g,2,none⟩ (L 2)).setCell ⟨g,3,none⟩ (L 3)
theorem Four.set4 {g:Nat} {S:Nat→Value} {w:World} (h:Four g S w) (L:Nat→Value):Four g L (set4 g L w):=by
 have h4:=(((h.set (k:=0) (by omega) (L 0)).set (k:=1) (by omega) (L 1)).set (k:=2) (by omega) (L 2)).set (k:=3) (by omega) (L 3)
 refine⟨fun i hi=>(h4.1 i hi).trans ?_,h4.2.1,h4.2.2⟩
 obtain rfl | rfl | rfl | rfl:=lt4 hi <;> rfl
theorem Four.oth4 {g g':Nat} {S:Nat→Value} {w:World} (h:Four g S w) (L:Nat→Value) (hg:g≠g'):Four g S (CFour.set4 g' L w):=(((h.other (L 0) hg).other (L 1) hg).other (L 2) hg).other (L 3) hg
theorem Four.there {g:Nat} {S:Nat→Value} {w:World} (h:Four g S w):w.there g 0 4:=fun j hj=>by
 rw [Nat.zero_add]
 exact⟨by rw [h.1 j hj];rfl,h.2.1 j hj⟩
theorem one4 (a b c d:Int):(#[Value.int .i64 a,.int .i64 b,.int .i64 c,.int .i64 d].all (·.oneCell'))=true:=all_oneCell_toArray (cs:=[Value.int .i64 a,.int .i64 b,.int .i64 c,.int .i64 d]) (by intro v hv;simp at hv;rcases hv with rfl | rfl | rfl | rfl <;> rfl)
theorem oneC {S:Nat→Value} {p:Nat→G} (h:∀ i,i < 4→IsC (S i) (p i)):(#[S 0,S 1,S 2,S 3].all (·.oneCell'))=true:=by
 obtain⟨_,_,h0,_⟩:=h 0 (by omega)
 obtain⟨_,_,h1,_⟩:=h 1 (by omega)
 obtain⟨_,_,h2,_⟩:=h 2 (by omega)
 obtain⟨_,_,h3,_⟩:=h 3 (by omega)
 rw [h0,h1,h2,h3]
 exact all_oneCell_toArray (cs:=[_,_,_,_]) (by intro v hv;simp at hv;rcases hv with rfl | rfl | rfl | rfl <;> rfl)
theorem zb9 {B g:Nat} {a w:World} (h:Below B a w) (hg:B≤g) (L:Nat→Value):Below B a (set4 g L w):=(((h.setCell (p:=⟨g,0,none⟩) hg (L 0)).setCell (p:=⟨g,1,none⟩) hg (L 1)).setCell (p:=⟨g,2,none⟩) hg (L 2)).setCell (p:=⟨g,3,none⟩) hg (L 3)
def Two (g:Nat) (a b:Value) (w:World):Prop:=w.cell? ⟨g,0,none⟩=some a∧w.cell? ⟨g,1,none⟩=some b∧(∀ i,i < 2→w.frozen? ⟨g,i,none⟩=false)∧g < w.heap.size
theorem Two.below {g:Nat} {a b:Value} {w w':World} (h:Two g a b w) {B:Nat} (hb:Below B w w') (hg:g < B):Two g a b w':=by
 refine⟨?_,?_,fun i hi=>?_,Nat.lt_of_lt_of_le h.2.2.2 hb.size⟩
 ·rw [hb.cell (p:=⟨g,0,none⟩) hg];exact h.1
 ·rw [hb.cell (p:=⟨g,1,none⟩) hg];exact h.2.1
 ·rw [hb.frozen (p:=⟨g,i,none⟩) hg];exact h.2.2.1 i hi
theorem Two.drew {g:Nat} {a b:Value} {w:World} (h:Two g a b w):Two g a b w.drew:=h
theorem Two.new (w:World) (v u:Value) (T:TypeId):Two w.heap.size v u (w.alloc (.cells #[v,u] T)):=by
 refine⟨by go_cell,by go_cell,fun i hi=>?_,by simp⟩
 rcases i with _ | _ | i
 all_goals first | (exact absurd hi (by omega)) | go_cell
theorem Two.there {g:Nat} {a b:Value} {w:World} (h:Two g a b w):w.there g 0 2:=fun j hj=>by
 rw [Nat.zero_add]
 refine⟨?_,h.2.2.1 j hj⟩
 rcases j with _ | _ | j
 ·rw [h.1];rfl
 ·rw [h.2.1];rfl
 ·omega
def set2 (g:Nat) (a b:Value) (w:World):World:=(w.setCell ⟨g,0,none⟩ a).setCell ⟨g,1,none⟩ b
theorem Two.set2 {g:Nat} {a b:Value} {w:World} (h:Two g a b w) (x y:Value):Two g x y (set2 g x y w):=by
 refine⟨?_,?_,fun i hi=>?_,?_⟩
 ·show ((w.setCell ⟨g,0,none⟩ x).setCell ⟨g,1,none⟩ y).cell? ⟨g,0,none⟩=_
  rw [World.cell?_setCell_other _ _ _ _ (by intro q;cases q)]
  exact World.cell?_setCell_same' _ _ _ (by rw [h.1];rfl)
 ·show ((w.setCell ⟨g,0,none⟩ x).setCell ⟨g,1,none⟩ y).cell? ⟨g,1,none⟩=_
  refine World.cell?_setCell_same' _ _ _ ?_
  rw [World.cell?_setCell_other _ _ _ _ (by intro q;cases q),h.2.1];rfl
 ·show ((w.setCell ⟨g,0,none⟩ x).setCell ⟨g,1,none⟩ y).frozen? _=_
  rw [World.frozen?_setCell,World.frozen?_setCell];exact h.2.2.1 i hi
 ·show _ < ((w.setCell ⟨g,0,none⟩ x).setCell ⟨g,1,none⟩ y).heap.size
  simp;exact h.2.2.2
theorem Two.oth4 {g g':Nat} {a b:Value} {w:World} (h:Two g a b w) (L:Nat→Value) (hg:g≠g'):Two g a b (CFour.set4 g' L w):=by
 have e:∀ (k:Nat) (p:Addr),p.block=g'→(⟨g,k,none⟩:Addr)≠p:=fun k p hp q=>by subst q;exact hg hp
 unfold CFour.set4
 refine⟨?_,?_,fun i hi=>?_,?_⟩
 ·rw [World.cell?_setCell_other _ _ _ _ (fun q=>hg (congrArg Addr.block q).symm),World.cell?_setCell_other _ _ _ _ (fun q=>hg (congrArg Addr.block q).symm),World.cell?_setCell_other _ _ _ _ (fun q=>hg (congrArg Addr.block q).symm),World.cell?_setCell_other _ _ _ _ (fun q=>hg (congrArg Addr.block q).symm)];exact h.1
 ·rw [World.cell?_setCell_other _ _ _ _ (fun q=>hg (congrArg Addr.block q).symm),World.cell?_setCell_other _ _ _ _ (fun q=>hg (congrArg Addr.block q).symm),World.cell?_setCell_other _ _ _ _ (fun q=>hg (congrArg Addr.block q).symm),World.cell?_setCell_other _ _ _ _ (fun q=>hg (congrArg Addr.block q).symm)];exact h.2.1
 ·simp only [World.frozen?_setCell];exact h.2.2.1 i hi
 ·simp;exact h.2.2.2
theorem zcc {B g:Nat} {a w:World} (h:Below B a w) (hg:B≤g) (x y:Value):Below B a (set2 g x y w):=(h.setCell (p:=⟨g,0,none⟩) hg x).setCell (p:=⟨g,1,none⟩) hg y
theorem ixi0 (a b c d:Int) (w:World):(Instr.index 223 (.agg #[.int .i16 a,.int .i16 b,.int .i16 c,.int .i16 d]) (.int .i64 0)).run Tryz.prog w=.ok (.int .i16 a) w:=by kernel_rfl
theorem ixi1 (a b c d:Int) (w:World):(Instr.index 223 (.agg #[.int .i16 a,.int .i16 b,.int .i16 c,.int .i16 d]) (.int .i64 1)).run Tryz.prog w=.ok (.int .i16 b) w:=by kernel_rfl
theorem ixi2 (a b c d:Int) (w:World):(Instr.index 223 (.agg #[.int .i16 a,.int .i16 b,.int .i16 c,.int .i16 d]) (.int .i64 2)).run Tryz.prog w=.ok (.int .i16 c) w:=by kernel_rfl
theorem ixi3 (a b c d:Int) (w:World):(Instr.index 223 (.agg #[.int .i16 a,.int .i16 b,.int .i16 c,.int .i16 d]) (.int .i64 3)).run Tryz.prog w=.ok (.int .i16 d) w:=by kernel_rfl
theorem isC_int (n:Int) (hn:In16 n):IsC (.complex .f64 (FloatKind.f64.nearest n) 0) (n,0):=⟨_,_,rfl,IsF.ofInt n (by unfold In16 at hn;show n.natAbs < 2 ^ 53;omega),isF_zero⟩
theorem of_to (a b c d:Int) (ha:In16 a) (hb:In16 b) (hc:In16 c) (hd:In16 d) (w:World) :
  Calls Tryz.prog 169 #[.agg #[.int .i16 a,.int .i16 b,.int .i16 c,.int .i16 d]] w fun e' w'=>(∃ S,e'=.returned (agg4 S)∧∀ i,i < 4→IsC (S i) (gpart (lp a b c d) (-1) i 4))∧Below w.heap.size w w':=by
 have HL:=hid (l4_in ha hb hc hd)
 have HP:=hid (lp_bd ha hb hc hd)
 clear ha hb hc hd
 go_enter Tryz.func169,Tryz.ntmps169
 go_wp2_with fail
 go_loopw [7] (fun u wr=>∃ (k:Nat) (S:Nat→Value),k≤4∧u=.int .i64 k∧Hid (FillR (lp a b c d) k S)∧Hid (Four (w.heap.size+1+1) S wr)∧Hid (Four (w.heap.size+1) (fun _=>z0) wr)∧Hid (Below w.heap.size w wr)) (fun u _=>4 - (intOf u).toNat)
 case atStart =>
  have h2:=Four.new ((w.alloc (.cells #[.int .i16 a,.int .i16 b,.int .i16 c,.int .i16 d] 223)).alloc (.cells #[z0,z0,z0,z0] 217)) z0 217
  have h1:=(Four.new (w.alloc (.cells #[.int .i16 a,.int .i16 b,.int .i16 c,.int .i16 d] 223)) z0 217).below ((Below.refl _ _).alloc (le_refl _) (.cells #[z0,z0,z0,z0] 217)) (by simp)
  have e2:((w.alloc (.cells #[.int .i16 a,.int .i16 b,.int .i16 c,.int .i16 d] 223)).alloc (.cells #[z0,z0,z0,z0] 217)).heap.size=w.heap.size+1+1:=by simp
  have e1:(w.alloc (.cells #[.int .i16 a,.int .i16 b,.int .i16 c,.int .i16 d] 223)).heap.size=w.heap.size+1:=by simp
  rw [e2] at h2
  rw [e1] at h1
  exact⟨0,fun _=>z0,by omega,rfl,hid (FillR.start _),hid h2,hid h1,hid ((((Below.refl _ _).alloc (le_refl _) _).alloc (by simp) _).alloc (by simp;omega) _)⟩
 case round =>
  obtain⟨k,S,hk,rfl,hS,hF,hR,hBw⟩:=hrel
  by_cases hlt:k < 4
  ·have hv:=isC_int _ (HL.out k)
   have HV:Hid (FillR (lp a b c d) (k+1) _):=hid (hS.out.step (v:=.complex .f64 (FloatKind.f64.nearest (l4 a b c d k)) 0) hv)
   have HG:=hid (hF.out.set hlt (.complex .f64 (FloatKind.f64.nearest (l4 a b c d k)) 0))
   have HR1:=hid (hR.out.other (g':=w.heap.size+1+1) (k:=k) (.complex .f64 (FloatKind.f64.nearest (l4 a b c d k)) 0) (by omega))
   have HB1:=hid (hBw.out.setCell (p:=⟨w.heap.size+1+1,k,none⟩) (by show w.heap.size≤w.heap.size+1+1;omega) (.complex .f64 (FloatKind.f64.nearest (l4 a b c d k)) 0))
   have hst:=fun x=>st_c x 0
   have c0:=hF.out.1 0 (by omega)
   have c1:=hF.out.1 1 (by omega)
   have c2:=hF.out.1 2 (by omega)
   have c3:=hF.out.1 3 (by omega)
   have f0:=hF.out.2.1 0 (by omega)
   have f1:=hF.out.2.1 1 (by omega)
   have f2:=hF.out.2.1 2 (by omega)
   have f3:=hF.out.2.1 3 (by omega)
   have x0:=ixi0 a b c d
   have x1:=ixi1 a b c d
   have x2:=ixi2 a b c d
   have x3:=ixi3 a b c d
   clear hv
   obtain rfl | rfl | rfl | rfl:=lt4 hlt
   all_goals
    go_wp2
    go_roundw
    case rel=>exact⟨_,_,by omega,by go_num,HV,HG,HR1,HB1⟩
    case measure=>simp [intOf]
  ·have hk4:k=4:=by omega
   subst hk4
   have HX:=hid (fun i (hi:i < 4)=>hS.out.all (i:=i) hi)
   have hn1:IsC (.complex .f64 0 13830554455654793216) (0, -1):=⟨_,_,rfl,isF_zero,isF_neg⟩
   have HN:=hid hn1
   have c0:=hF.out.1 0 (by omega)
   have c1:=hF.out.1 1 (by omega)
   have c2:=hF.out.1 2 (by omega)
   have c3:=hF.out.1 3 (by omega)
   clear hlt hk hn1
   go_wp2_with (go_at_call 173;((with_reducible refine (turned_to S (lp a b c d) (.complex .f64 0 13830554455654793216) (-1) (.inr rfl) 32768 (by decide) HX.out HP.out HN.out _).mono ?_);rintro e2 w2 ⟨⟨Y,rfl,hAll⟩,hb2⟩;obtain⟨hcc,hff⟩:=Kit.bcell hb2;have hRR:=hR.out.below hb2 hR.out.2.2;have hBx:=hBw.out.trans (hb2.mono hBw.out.size);skip))
   have d0:=hRR.1 0 (by omega)
   have d1:=hRR.1 1 (by omega)
   have d2:=hRR.1 2 (by omega)
   have d3:=hRR.1 3 (by omega)
   have f0:=hRR.2.1 0 (by omega)
   have f1:=hRR.2.1 1 (by omega)
   have f2:=hRR.2.1 2 (by omega)
   have f3:=hRR.2.1 3 (by omega)
   obtain⟨a0,b0,s0, -⟩:=hAll (0:Nat) (by omega)
   obtain⟨a1,b1,s1, -⟩:=hAll (1:Nat) (by omega)
   obtain⟨a2,b2,s2, -⟩:=hAll (2:Nat) (by omega)
   obtain⟨a3,b3,s3, -⟩:=hAll (3:Nat) (by omega)
   have t0:=st_c a0 b0
   have t1:=st_c a1 b1
   have t2:=st_c a2 b2
   have t3:=st_c a3 b3
   have HA:=hid hAll
   clear hAll
   have HS0:=hid s0
   have HS1:=hid s1
   have HS2:=hid s2
   have HS3:=hid s3
   go_wp2
   refine bodyPost_ret (Kit.za6 rfl _ _ (w.heap.size+1) 0 [.complex .f64 a0 b0,.complex .f64 a1 b1,.complex .f64 a2 b2,.complex .f64 a3 b3] _ rfl (zan (by go_cell) (by go_cell) (by go_cell) (by go_cell)) Tryz.underlying217 rfl (by kernel_rfl)) rfl ?_
   refine⟨⟨Y,?_,HA.out⟩,?_⟩
   ·unfold agg4
    rw [HS0.out,HS1.out,HS2.out,HS3.out]
   ·have:=hBx
    go_grown
end CFour
end
end Go.Proofs.YtahekhpeomcfjaaGreatDoor
