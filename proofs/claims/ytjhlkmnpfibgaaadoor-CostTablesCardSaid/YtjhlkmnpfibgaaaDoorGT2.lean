/- -/
import Derived.Lib.SmallJoins
import Derived.Deep.RegionHeld
import Derived.Shelf.Bits.Mul64
import Derived.Test.YtjhlkmnpfibgaaaDoorProg
import Derived.Test.YtjhlkmnpfibgaaaDoorGT1
section
namespace Go.Proofs.YtjhlkmnpfibgaaaDoor.Kit
open Go Go.ChangeShapes Go.WideShapes Go.ChangeAt Go.RowKit Go.Deep
set_option linter.unusedVariables false
section
variable {H:Type} {enc:TypeId × Value→H} {P:Program} {w:World} {base b0:Nat} {spare:Nat→Bool} {held:Bool} {r:Reach}
theorem trod_islice_n {d e:TypeId} {k:IntKind} {c3:Value} {n:Nat} {x:DataW H × List MemPlace} (hd:P.underlying d=some (.slice e)) (he:P.underlying e=some (.int k)) (hce:P.cellsOf e=1) (h1:DataW.trod enc P w base spare held n d [c3]=some x) :
  ∃ (A:Option Addr) (zs:List Int) (c:Nat),c3=.slice A zs.length c∧zs.length≤c∧c≤maxLen∧(∀ n∈zs,(Lit.int k n).wf=true)∧Rd w w.heap.size A (zs.map (.int k)):=by
 obtain⟨a3,len,cap,e3⟩:=Go.Joins.slice_form hd h1
 simp at e3
 subst e3
 rcases open_ints hd he hce h1 with ⟨hcs,_⟩ | ⟨a,len',cap',zs,hcs,_,hl,hm,hz,_,hcell,hwz⟩
 ·simp at hcs
  obtain⟨rfl,rfl,rfl⟩:=hcs
  exact⟨none,[],0,rfl,by simp,by simp,by simp,Rd.nil⟩
 ·simp at hcs
  obtain⟨rfl,rfl,rfl⟩:=hcs
  have hlz:len≤zs.length:=by rw [hz];split <;> omega
  refine⟨some a,zs.take len,cap,?_,?_,hm,fun n hn=>hwz n (List.mem_of_mem_take hn),fun j u hu=>?_⟩
  ·rw [List.length_take,Nat.min_eq_left hlz]
  ·rw [List.length_take,Nat.min_eq_left hlz];exact hl
  ·rw [List.getElem?_map,List.getElem?_take] at hu
   split at hu
   ·rename_i hj
    have hjz:j < zs.length:=by omega
    rw [List.getElem?_eq_getElem hjz] at hu
    simp only [Option.map_some,Option.some.injEq] at hu
    subst hu
    have h9:=hcell j hjz
    rw [List.getD_eq_getElem?_getD,List.getElem?_eq_getElem hjz,Option.getD_some] at h9
    exact⟨a,rfl,by have:=block_lt h9;rwa [add_block] at this,h9⟩
   ·simp at hu
end
end Go.Proofs.YtjhlkmnpfibgaaaDoor.Kit
end
section
namespace Go.Proofs.YtjhlkmnpfibgaaaDoor.Tk
open Go
section
variable {P:Program} {ops:Array Oper} {Q:Exit→Act→World→Prop} {md:Region.Mode} {S:World→Prop}
theorem at_ {i:Nat} {o:Oper} {l:List Oper} (h:ops.toList.drop i=o :: l):ops[i]?=some o:=by
 have h1:(ops.toList.drop i)[0]?=some o:=by rw [h];rfl
 rw [List.getElem?_drop,Nat.add_zero,Array.getElem?_toList] at h1
 exact h1
theorem t (i:Nat) {oi:Oper} {l:List Oper} {v:Value} {fuel:Nat} {listed:Array Bool} {a:Act} {w:World} (hi:ops.toList.drop i=oi :: l)
  (hy:YieldsIf P ops S oi v a) (hS:S w) (h:wpAnyH P md ops Q S fuel (listed.setIfInBounds i true) (a.put oi.dst v) w)
  (hs:Region.noSelect ops=true:=by kernel_rfl) (hf:Region.free md ops listed i=true:=by kernel_rfl) (hr:(Region.ready md ops listed).contains i=true:=by kernel_rfl)
  (hQ:∀ c a w,Q (.panic c) (a.put oi.dst v) w→Q (.panic c) a w:=by exact fun _ _ _ h=>h):wpAnyH P md ops Q S (fuel+1) listed a w :=
 wpAnyH_take (at_ hi) hs hf hr hQ hy hS h
theorem y (i:Nat) {oi:Oper} {l:List Oper} {v:Value} {fuel:Nat} {listed:Array Bool} {a:Act} {w:World} (hi:ops.toList.drop i=oi :: l)
  (hy:∀ w,S w→(execOp a.eval oi).run P w=.ok (.value v) w) (h:wpAnyH P md ops Q S fuel (listed.setIfInBounds i true) (a.put oi.dst v) w)
  (hS:S w:=by assumption) (hw:Region.wanted oi (yielded ops a.tmps)=true:=by rfl) (hs:Region.noSelect ops=true:=by kernel_rfl) (hf:Region.free md ops listed i=true:=by kernel_rfl) (hr:(Region.ready md ops listed).contains i=true:=by kernel_rfl)
  (hQ:∀ c a w,Q (.panic c) (a.put oi.dst v) w→Q (.panic c) a w:=by exact fun _ _ _ h=>h):wpAnyH P md ops Q S (fuel+1) listed a w :=
 wpAnyH_take (at_ hi) hs hf hr hQ (Or.inl ⟨hw,hy⟩) hS h
theorem x (i:Nat) {oi:Oper} {l:List Oper} {v:Value} {fuel:Nat} {listed:Array Bool} {a:Act} {w:World} (hi:ops.toList.drop i=oi :: l)
  (h:wpAnyH P md ops Q S fuel (listed.setIfInBounds i true) (a.put oi.dst v) w)
  (hy:∀ w,S w→(execOp a.eval oi).run P w=.ok (.value v) w:=by intro wS hSw;first | (go_simp;done) | (go_simp;with_reducible rfl))
  (hS:S w:=by assumption) (hw:Region.wanted oi (yielded ops a.tmps)=true:=by rfl) (hs:Region.noSelect ops=true:=by kernel_rfl) (hf:Region.free md ops listed i=true:=by kernel_rfl) (hr:(Region.ready md ops listed).contains i=true:=by kernel_rfl)
  (hQ:∀ c a w,Q (.panic c) (a.put oi.dst v) w→Q (.panic c) a w:=by exact fun _ _ _ h=>h):wpAnyH P md ops Q S (fuel+1) listed a w :=
 wpAnyH_take (at_ hi) hs hf hr hQ (Or.inl ⟨hw,hy⟩) hS h
theorem put:(∀ (a:Act) (v:Value),a.put none v=a)∧(∀ (a:Act) (t:Tmp) (v:Value),a.put (some t) v = { a with tmps:=a.tmps.setIfInBounds t v }) ∧
  (∀ (l:List Value) (i:Nat) (v:Value),l.toArray.setIfInBounds i v=(l.set i v).toArray)∧(∀ (x v:Value) (l:List Value),(x :: l).set 0 v=v :: l)∧(∀ (x v:Value) (l:List Value) (i:Nat),(x :: l).set (i+1) v=x :: l.set i v) ∧
  (∀ (l:List Bool) (i:Nat) (v:Bool),l.toArray.setIfInBounds i v=(l.set i v).toArray)∧(∀ (x v:Bool) (l:List Bool),(x :: l).set 0 v=v :: l)∧(∀ (x v:Bool) (l:List Bool) (i:Nat),(x :: l).set (i+1) v=x :: l.set i v) :=
 ⟨fun _ _=>rfl,fun _ _ _=>rfl,fun _ _ _=>by simp,fun _ _ _=>rfl,fun _ _ _ _=>rfl,fun _ _ _=>by simp,fun _ _ _=>rfl,fun _ _ _ _=>rfl⟩
theorem c {fuel:Nat} {listed:Array Bool} {a:Act} {w:World} {i:Nat} {o:Oper} {l:List Oper} {rs:List Nat} (ho:ops.toList.drop i=o :: l)
  (h:∀ K':Act→World→Prop,Shut (∀ a w,S w→(S w→wpAnyH P md ops Q S fuel (listed.setIfInBounds i true) a w)→K' a w)→if Region.wanted o (yielded ops a.tmps)=true then Oper.wp P o a w K' Q else K' (a.put o.dst undef) w)
  (hs:AllReadyH P md ops Q S fuel listed a w rs):AllReadyH P md ops Q S fuel listed a w (i :: rs):=AllReadyH.cons (at_ ho) h hs
theorem s (i:Nat) {fuel:Nat} {listed:Array Bool} {a:Act} {w:World} {o:Oper} {l:List Oper} (ho:ops.toList.drop i=o :: l)
  (h:∀ K':Act→World→Prop,Shut (∀ a w,S w→(S w→wpAnyH P md ops Q S fuel (listed.setIfInBounds i true) a w)→K' a w)→if Region.wanted o (yielded ops a.tmps)=true then Oper.wp P o a w K' Q else K' (a.put o.dst undef) w)
  (hr:Region.ready md ops listed=[i]:=by kernel_rfl):wpAnyH P md ops Q S (fuel+1) listed a w :=
 wpAnyH_ready (rs:=[i]) hr (by simp) (AllReadyH.cons (at_ ho) h AllReadyH.nil)
end
end Go.Proofs.YtjhlkmnpfibgaaaDoor.Tk
end
section
namespace Go.Proofs.YtjhlkmnpfibgaaaDoor.Plain
open Go Go.RowKit
def fits (v:Int):Bool:=decide (-9223372036854775808≤v∧v≤9223372036854775807)
def fitZ (v:Int):Int:=if fits v then v else 0
theorem fits_yes {v:Int} (h1 : -9223372036854775808≤v) (h2:v≤9223372036854775807):fits v=true:=by simp [fits,h1,h2]
theorem fits_no {v:Int} (h:v < -9223372036854775808∨9223372036854775807 < v):fits v=false:=by
 simp [fits];omega
theorem fitZ_yes {v:Int} (h1 : -9223372036854775808≤v) (h2:v≤9223372036854775807):fitZ v=v:=by unfold fitZ;rw [if_pos (fits_yes h1 h2)]
theorem fitZ_no {v:Int} (h:v < -9223372036854775808∨9223372036854775807 < v):fitZ v=0:=by unfold fitZ;rw [if_neg (by simp [fits_no h])]
end Go.Proofs.YtjhlkmnpfibgaaaDoor.Plain
end
section
namespace Go.Proofs
open Go.Shelf
def Tryd.lays264_ren:Go.Shelf.Ren:=⟨fun | 264=>61 | n=>n,fun | 53=>114 | 46=>120 | n=>n,fun | n=>n⟩
theorem Tryd.lays264:Go.Proofs.Lays.n264 Tryd.prog Tryd.lays264_ren := {
 mixed:=by kernel_rfl
 f264:=Tryd.func61.trans (congrArg some (by kernel_rfl))
 t46:=Tryd.underlying120
 a46:=Tryd.isAgg120
 z46:=Tryd.sizeOf120
 v46:=Tryd.zeroValue120
 t53:=Tryd.underlying114
 a53:=Tryd.isAgg114
 z53:=Tryd.sizeOf114
 v53:=Tryd.zeroValue114 }
open Go.RowKit Go.Lib in
theorem Tryd.bits_Mul64 (x y:Nat) (hx:x < 18446744073709551616) (hy:y < 18446744073709551616) (w:World) :
  Calls Tryd.prog 61 #[.int .u64 x,.int .u64 y] w fun e w'=>e=.returned (.tuple #[.int .u64 ((x * y / 18446744073709551616:Nat):Int),.int .u64 ((x * y % 18446744073709551616:Nat):Int)])∧w'=w:=Any.bits_Mul64 Tryd.lays264 x y hx hy w
end Go.Proofs
end
