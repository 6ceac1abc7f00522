/- Texts of this seat, one behind the other: Tk, ShapeTwo, ShapeRef. -/
import Derived.Deep.RegionHeld
import Derived.KernelRfl
import Derived.WalkKit
import Derived.Deep.RegionHeld3
import Derived.Handy
import Derived.Test.YtkpngknbiecdiaaGreatDoorGB4
section
namespace Go.Proofs.YtkpngknbiecdiaaGreatDoor.Tk
open Go
section
variable {P:Program} {ops:Array Oper} {Q:Exit→Act→World→Prop} {md:Region.Mode} {S:World→Prop}
theorem at_ {i:Nat} {o:Oper} {l:List Oper} (h:ops.toList.drop i=o :: l):ops[i]?=some o:=by
 have h1:(ops.toList.drop i)[0]?=some o:=by rw [h];rfl
 rw [List.getElem?_drop,Nat.add_zero,Array.getElem?_toList] at h1
 exact h1
theorem t (i:Nat) {oi:Oper} {l:List Oper} {v:Value} {fuel:Nat} {listed:Array Bool} {a:Act} {w:World} (hi:ops.toList.drop i=oi :: l)
  (hy:YieldsIf P ops S oi v a) (hS:S w) (h:wpAnyH P md ops Q S fuel (listed.setIfInBounds i true) (a.put oi.dst v) w)
  (hs:Region.noSelect ops=true:=by kernel_rfl) (hf:Region.free md ops listed i=true:=by kernel_rfl) (hr:(Region.ready md ops listed).contains i=true:=by kernel_rfl)
  (hQ:∀ c a w,Q (.panic c) (a.put oi.dst v) w→Q (.panic c) a w:=by exact fun _ _ _ h=>h):wpAnyH P md ops Q S (fuel+1) listed a w :=
 wpAnyH_take (at_ hi) hs hf hr hQ hy hS h
theorem y (i:Nat) {oi:Oper} {l:List Oper} {v:Value} {fuel:Nat} {listed:Array Bool} {a:Act} {w:World} (hi:ops.toList.drop i=oi :: l)
  (hy:∀ w,S w→(execOp a.eval oi).run P w=.ok (.value v) w) (h:wpAnyH P md ops Q S fuel (listed.setIfInBounds i true) (a.put oi.dst v) w)
  (hS:S w:=by assumption) (hw:Region.wanted oi (yielded ops a.tmps)=true:=by rfl) (hs:Region.noSelect ops=true:=by kernel_rfl) (hf:Region.free md ops listed i=true:=by kernel_rfl) (hr:(Region.ready md ops listed).contains i=true:=by kernel_rfl)
  (hQ:∀ c a w,Q (.panic c) (a.put oi.dst v) w→Q (.panic c) a w:=by exact fun _ _ _ h=>h):wpAnyH P md ops Q S (fuel+1) listed a w :=
 wpAnyH_take (at_ hi) hs hf hr hQ (Or.inl ⟨hw,hy⟩) hS h
theorem x (i:Nat) {oi:Oper} {l:List Oper} {v:Value} {fuel:Nat} {listed:Array Bool} {a:Act} {w:World} (hi:ops.toList.drop i=oi :: l)
  (h:wpAnyH P md ops Q S fuel (listed.setIfInBounds i true) (a.put oi.dst v) w)
  (hy:∀ w,S w→(execOp a.eval oi).run P w=.ok (.value v) w:=by intro wS hSw;first | (go_simp;done) | (go_simp;with_reducible rfl))
  (hS:S w:=by assumption) (hw:Region.wanted oi (yielded ops a.tmps)=true:=by rfl) (hs:Region.noSelect ops=true:=by kernel_rfl) (hf:Region.free md ops listed i=true:=by kernel_rfl) (hr:(Region.ready md ops listed).contains i=true:=by kernel_rfl)
  (hQ:∀ c a w,Q (.panic c) (a.put oi.dst v) w→Q (.panic c) a w:=by exact fun _ _ _ h=>h):wpAnyH P md ops Q S (fuel+1) listed a w :=
 wpAnyH_take (at_ hi) hs hf hr hQ (Or.inl ⟨hw,hy⟩) hS h
theorem put:(∀ (a:Act) (v:Value),a.put none v=a)∧(∀ (a:Act) (t:Tmp) (v:Value),a.put (some t) v = { a with tmps:=a.tmps.setIfInBounds t v }) ∧
  (∀ (l:List Value) (i:Nat) (v:Value),l.toArray.setIfInBounds i v=(l.set i v).toArray)∧(∀ (x v:Value) (l:List Value),(x :: l).set 0 v=v :: l)∧(∀ (x v:Value) (l:List Value) (i:Nat),(x :: l).set (i+1) v=x :: l.set i v) ∧
  (∀ (l:List Bool) (i:Nat) (v:Bool),l.toArray.setIfInBounds i v=(l.set i v).toArray)∧(∀ (x v:Bool) (l:List Bool),(x :: l).set 0 v=v :: l)∧(∀ (x v:Bool) (l:List Bool) (i:Nat),(x :: l).set (i+1) v=x :: l.set i v) :=
 ⟨fun _ _=>rfl,fun _ _ _=>rfl,fun _ _ _=>by simp,fun _ _ _=>rfl,fun _ _ _ _=>rfl,fun _ _ _=>by simp,fun _ _ _=>rfl,fun _ _ _ _=>rfl⟩
theorem c {fuel:Nat} {listed:Array Bool} {a:Act} {w:World} {i:Nat} {o:Oper} {l:List Oper} {rs:List Nat} (ho:ops.toList.drop i=o :: l)
  (h:∀ K':Act→World→Prop,Shut (∀ a w,S w→(S w→wpAnyH P md ops Q S fuel (listed.setIfInBounds i true) a w)→K' a w)→if Region.wanted o (yielded ops a.tmps)=true then Oper.wp P o a w K' Q else K' (a.put o.dst undef) w)
  (hs:AllReadyH P md ops Q S fuel listed a w rs):AllReadyH P md ops Q S fuel listed a w (i :: rs):=AllReadyH.cons (at_ ho) h hs
theorem s (i:Nat) {fuel:Nat} {listed:Array Bool} {a:Act} {w:World} {o:Oper} {l:List Oper} (ho:ops.toList.drop i=o :: l)
  (h:∀ K':Act→World→Prop,Shut (∀ a w,S w→(S w→wpAnyH P md ops Q S fuel (listed.setIfInBounds i true) a w)→K' a w)→if Region.wanted o (yielded ops a.tmps)=true then Oper.wp P o a w K' Q else K' (a.put o.dst undef) w)
  (hr:Region.ready md ops listed=[i]:=by kernel_rfl):wpAnyH P md ops Q S (fuel+1) listed a w :=
 wpAnyH_ready (rs:=[i]) hr (by simp) (AllReadyH.cons (at_ ho) h AllReadyH.nil)
theorem q (i:Nat) {fuel:Nat} {listed:Array Bool} {a:Act} {w:World} {o:Oper} {l:List Oper} (ho:ops.toList.drop i=o :: l)
  (h:∀ K':Act→World→Prop,(∀ a w,wpAny P md ops Q fuel (listed.setIfInBounds i true) a w→K' a w)→if Region.wanted o (yielded ops a.tmps)=true then Oper.wp P o a w K' Q else K' (a.put o.dst undef) w)
  (hr:Region.ready md ops listed=[i]:=by kernel_rfl):wpAny P md ops Q (fuel+1) listed a w :=
 wpAny_ready (rs:=[i]) hr (by simp) (AllReady.cons (at_ ho) h (fun j hj=>by cases hj))
theorem z (i:Nat) {oi:Oper} {l:List Oper} {v:Value} {fuel:Nat} {listed:Array Bool} {a:Act} {w:World} (hi:ops.toList.drop i=oi :: l)
  (h:wpAny P md ops Q fuel (listed.setIfInBounds i true) (a.put oi.dst v) w)
  (hy:∀ w,(execOp a.eval oi).run P w=.ok (.value v) w:=by intro wS;first | (go_simp;done) | (go_simp;with_reducible rfl))
  (hw:Region.wanted oi (yielded ops a.tmps)=true:=by rfl) (hs:Region.noSelect ops=true:=by kernel_rfl) (hf:Region.free md ops listed i=true:=by kernel_rfl) (hr:(Region.ready md ops listed).contains i=true:=by kernel_rfl)
  (hQ:∀ c a w,Q (.panic c) (a.put oi.dst v) w→Q (.panic c) a w:=by exact fun _ _ _ h=>h):wpAny P md ops Q (fuel+1) listed a w :=
 wpAny_take (at_ hi) hs hf hr hQ (Or.inl ⟨hw,hy⟩) h
theorem d {fuel:Nat} {listed:Array Bool} {a:Act} {w:World} {i:Nat} {o:Oper} {l:List Oper} {rs:List Nat} (ho:ops.toList.drop i=o :: l)
  (h:∀ K':Act→World→Prop,(∀ a w,wpAny P md ops Q fuel (listed.setIfInBounds i true) a w→K' a w)→if Region.wanted o (yielded ops a.tmps)=true then Oper.wp P o a w K' Q else K' (a.put o.dst undef) w)
  (hs:AllReady P md ops Q fuel listed a w rs):AllReady P md ops Q fuel listed a w (i :: rs):=AllReady.cons (at_ ho) h hs
end
end Go.Proofs.YtkpngknbiecdiaaGreatDoor.Tk
end
section
namespace Go.Proofs.YtkpngknbiecdiaaGreatDoor.CShape
open Go Go.ChangeShapes Go.WideShapes Go.ChangeAt Go.RowKit
open Plain CSat
set_option linter.unusedVariables false
/-! ### windows -/
def argsB (n k s p:Int):Bool:=decide (1≤n∧n≤1024∧1≤k∧k≤5∧1≤s∧s≤4∧0≤p∧p≤4∧p < k)
def stepsM (n k s p:Int):Int:=if argsB n k s p then (if n+2 * p - k < 0 then 0 else (n+2 * p - k) / s+1) else 0
def stepsE (n k s p:Int):Int:=if argsB n k s p then (if n+2 * p - k < 0 then 5 else 0) else 2
theorem argsB_yes {n k s p:Int} (h:argsB n k s p=true):1≤n∧n≤1024∧1≤k∧k≤5∧1≤s∧s≤4∧0≤p∧p≤4∧p < k:=by simpa [argsB] using h
theorem argsB_no {n k s p:Int} (h:argsB n k s p=false):(n < 1∨1024 < n)∨(1≤n∧n≤1024∧(k < 1∨5 < k))∨(1≤n∧n≤1024∧1≤k∧k≤5∧(s < 1∨4 < s)) ∨
  (1≤n∧n≤1024∧1≤k∧k≤5∧1≤s∧s≤4∧(p < 0∨4 < p))∨(1≤n∧n≤1024∧1≤k∧k≤5∧1≤s∧s≤4∧0≤p∧p≤4∧k≤p):=by
 simp [argsB] at h;omega
theorem steps_arg (n k s p:Int) (h:argsB n k s p=false) (w:World) :
  Calls Tryz.prog 137 #[.int .i64 n,.int .i64 k,.int .i64 s,.int .i64 p] w fun e w'=>e=.returned (.tuple #[.int .i64 0,.int .i64 2])∧w=w':=by
 rcases argsB_no h with h1 | ⟨h1,h2,h3⟩ | ⟨h1,h2,h3,h4,h5⟩ | ⟨h1,h2,h3,h4,h5,h6,h7⟩ | ⟨h1,h2,h3,h4,h5,h6,h7,h8,h9⟩
 all_goals
  clear h
  go_enter Tryz.func137,Tryz.ntmps137
  go_wp2_with (first
   | (go_at_call 100;refine (within_yes _ _ _ (by omega) (by omega) _).mono ?_;rintro e w' ⟨rfl,rfl⟩)
   | (go_at_call 100;refine (within_no _ _ _ (by omega) _).mono ?_;rintro e w' ⟨rfl,rfl⟩))
  go_ret2
  exact⟨rfl,rfl⟩
theorem steps_in (n k s p:Int) (h:argsB n k s p=true) (w:World) :
  Calls Tryz.prog 137 #[.int .i64 n,.int .i64 k,.int .i64 s,.int .i64 p] w fun e w'=>e=.returned (.tuple #[.int .i64 (if n+2 * p - k < 0 then 0 else (n+2 * p - k) / s+1),.int .i64 (if n+2 * p - k < 0 then 5 else 0)])∧w=w':=by
 obtain⟨h1,h2,h3,h4,h5,h6,h7,h8,h9⟩:=argsB_yes h
 clear h
 by_cases hr:n+2 * p - k < 0
 ·rw [if_pos hr,if_pos hr]
  go_enter Tryz.func137,Tryz.ntmps137
  go_wp2_with (go_at_call 100;refine (within_yes _ _ _ (by omega) (by omega) _).mono ?_;rintro e w' ⟨rfl,rfl⟩)
  go_ret2
  exact⟨rfl,rfl⟩
 ·rw [if_neg hr,if_neg hr]
  obtain⟨q,hq⟩:∃ q,(n+2 * p - k) / s=q:=⟨_,rfl⟩
  have hq1:0≤q:=hq ▸ Int.ediv_nonneg (by omega) (by omega)
  have hq2:q≤2000:=by
   rw [← hq]
   exact Int.le_trans (Int.ediv_le_self s (by omega)) (by omega)
  have hq3:(n+2 * p - k).tdiv s=q:=by rw [Int.tdiv_eq_ediv_of_nonneg (by omega)];exact hq
  rw [hq]
  go_enter Tryz.func137,Tryz.ntmps137
  go_wp2_with (go_at_call 100;refine (within_yes _ _ _ (by omega) (by omega) _).mono ?_;rintro e w' ⟨rfl,rfl⟩)
  go_ret2
  exact⟨rfl,rfl⟩
theorem steps_to (n k s p m e:Int) (hm:stepsM n k s p=m) (he:stepsE n k s p=e) (w:World) :
  Calls Tryz.prog 137 #[.int .i64 n,.int .i64 k,.int .i64 s,.int .i64 p] w fun r w'=>r=.returned (.tuple #[.int .i64 m,.int .i64 e])∧w=w':=by
 unfold stepsM at hm
 unfold stepsE at he
 cases h:argsB n k s p
 ·rw [if_neg (by simp [h])] at hm he
  subst hm he
  exact steps_arg n k s p h w
 ·rw [if_pos h] at hm he
  subst hm he
  exact steps_in n k s p h w
/-! ### places -/
/-! ### the shape that a window makes -/
def slideE (H W C k s p o:Int):Int:=if shapeB H W C=false then 5 else if stepsE H k s p≠0 then stepsE H k s p else if stepsE W k s p≠0 then stepsE W k s p else if shapeB (stepsM H k s p) (stepsM W k s p) o then 0 else 5
def slideS (H W C k s p o:Int):Array Value:=if slideE H W C k s p o=0 then #[.int .i64 (stepsM H k s p),.int .i64 (stepsM W k s p),.int .i64 o] else #[.int .i64 0,.int .i64 0,.int .i64 0]
theorem slide_wrong (H W C k s p o:Int) (hs:shapeB H W C=false) (wd:World) :
  Calls Tryz.prog 102 #[.agg #[.int .i64 H,.int .i64 W,.int .i64 C],.int .i64 k,.int .i64 s,.int .i64 p,.int .i64 o] wd fun e w'=>e=.returned (.tuple #[.agg #[.int .i64 0,.int .i64 0,.int .i64 0],.int .i64 5])∧Below wd.heap.size wd w':=by
 have HS:=Lib.hid hs
 clear hs
 go_enter Tryz.func102,Tryz.ntmps102
 go_wp2_with (go_at_call 51;refine (right_to _ _ _ _ HS.out _).mono ?_;rintro e w1 ⟨rfl,hb⟩;obtain⟨hc,hf⟩:=Kit.bcell hb)
 have hs1:wd.heap.size+1 < w1.heap.size:=by have:=hb.size;simp at this;omega
 have hB:Below wd.heap.size wd w1:=(((Below.refl _ _).alloc (Nat.le_refl _) _).alloc (by simp) _).trans (hb.mono (by simp;omega))
 refine bodyPost_ret (Kit.results_ct rfl _ _ (wd.heap.size+1) 0 [.int .i64 0,.int .i64 0,.int .i64 0] _ rfl (Kit.range_3 (by go_cell) (by go_cell) (by go_cell)) Tryz.underlying30 rfl (by kernel_rfl)) rfl ?_
 exact⟨rfl,by go_grown⟩
theorem slide_one (H W C k s p o m e1:Int) (hs:shapeB H W C=true) (hm:stepsM H k s p=m) (he:stepsE H k s p=e1) (hn:e1≠0) (wd:World) :
  Calls Tryz.prog 102 #[.agg #[.int .i64 H,.int .i64 W,.int .i64 C],.int .i64 k,.int .i64 s,.int .i64 p,.int .i64 o] wd fun e w'=>e=.returned (.tuple #[.agg #[.int .i64 0,.int .i64 0,.int .i64 0],.int .i64 e1])∧Below wd.heap.size wd w':=by
 have HS:=Lib.hid hs
 have HM:=Lib.hid hm
 have HE:=Lib.hid he
 clear hs hm he
 go_enter Tryz.func102,Tryz.ntmps102
 go_wp2_with (first
  | (go_at_call 51;refine (right_to _ _ _ _ HS.out _).mono ?_;rintro e w1 ⟨rfl,hb⟩;obtain⟨hc,hf⟩:=Kit.bcell hb)
  | (go_at_call 137;refine (steps_to _ _ _ _ m e1 HM.out HE.out _).mono ?_;rintro e w' ⟨rfl,rfl⟩))
 have hs1:wd.heap.size+1 < w1.heap.size:=by have:=hb.size;simp at this;omega
 have hB:Below wd.heap.size wd w1:=(((Below.refl _ _).alloc (Nat.le_refl _) _).alloc (by simp) _).trans (hb.mono (by simp;omega))
 refine bodyPost_ret (Kit.results_ct rfl _ _ (wd.heap.size+1) 0 [.int .i64 0,.int .i64 0,.int .i64 0] _ rfl (Kit.range_3 (by go_cell) (by go_cell) (by go_cell)) Tryz.underlying30 rfl (by kernel_rfl)) rfl ?_
 exact⟨rfl,by go_grown⟩
theorem slide_two (H W C k s p o m m2 e2:Int) (hs:shapeB H W C=true) (hm:stepsM H k s p=m) (he:stepsE H k s p=0) (hm2:stepsM W k s p=m2) (he2:stepsE W k s p=e2) (hn:e2≠0) (wd:World) :
  Calls Tryz.prog 102 #[.agg #[.int .i64 H,.int .i64 W,.int .i64 C],.int .i64 k,.int .i64 s,.int .i64 p,.int .i64 o] wd fun e w'=>e=.returned (.tuple #[.agg #[.int .i64 0,.int .i64 0,.int .i64 0],.int .i64 e2])∧Below wd.heap.size wd w':=by
 have HS:=Lib.hid hs
 have HM:=Lib.hid hm
 have HE:=Lib.hid he
 have HM2:=Lib.hid hm2
 have HE2:=Lib.hid he2
 clear hs hm he hm2 he2
 go_enter Tryz.func102,Tryz.ntmps102
 go_wp2_with (first
  | (go_at_call 51;((with_reducible refine (right_to H W C true HS.out _).mono ?_);rintro e w1 ⟨rfl,hb⟩;obtain⟨hc,hf⟩:=Kit.bcell hb))
  | (go_at_call 137;((with_reducible refine (steps_to H k s p m 0 HM.out HE.out _).mono ?_);rintro e w' ⟨rfl,rfl⟩))
  | (go_at_call 137;((with_reducible refine (steps_to W k s p m2 e2 HM2.out HE2.out _).mono ?_);rintro e w' ⟨rfl,rfl⟩)))
 have hs1:wd.heap.size+1 < w1.heap.size:=by have:=hb.size;simp at this;omega
 have hB:Below wd.heap.size wd w1:=(((Below.refl _ _).alloc (Nat.le_refl _) _).alloc (by simp) _).trans (hb.mono (by simp;omega))
 refine bodyPost_ret (Kit.results_ct rfl _ _ (wd.heap.size+1) 0 [.int .i64 0,.int .i64 0,.int .i64 0] _ rfl (Kit.range_3 (by go_cell) (by go_cell) (by go_cell)) Tryz.underlying30 rfl (by kernel_rfl)) rfl ?_
 exact⟨rfl,by go_grown⟩
theorem slide_bad (H W C k s p o m m2:Int) (hs:shapeB H W C=true) (hm:stepsM H k s p=m) (he:stepsE H k s p=0) (hm2:stepsM W k s p=m2) (he2:stepsE W k s p=0) (hr:shapeB m m2 o=false) (wd:World) :
  Calls Tryz.prog 102 #[.agg #[.int .i64 H,.int .i64 W,.int .i64 C],.int .i64 k,.int .i64 s,.int .i64 p,.int .i64 o] wd fun e w'=>e=.returned (.tuple #[.agg #[.int .i64 0,.int .i64 0,.int .i64 0],.int .i64 5])∧Below wd.heap.size wd w':=by
 have HS:=Lib.hid hs
 have HM:=Lib.hid hm
 have HE:=Lib.hid he
 have HM2:=Lib.hid hm2
 have HE2:=Lib.hid he2
 have HR:=Lib.hid hr
 clear hs hm he hm2 he2 hr
 go_enter Tryz.func102,Tryz.ntmps102
 go_wp2_with (first
  | (go_at_call 51;((with_reducible refine (right_to H W C true HS.out _).mono ?_);rintro e w1 ⟨rfl,hb⟩;obtain⟨hc,hf⟩:=Kit.bcell hb))
  | (go_at_call 137;((with_reducible refine (steps_to H k s p m 0 HM.out HE.out _).mono ?_);rintro e w' ⟨rfl,rfl⟩))
  | (go_at_call 137;((with_reducible refine (steps_to W k s p m2 0 HM2.out HE2.out _).mono ?_);rintro e w' ⟨rfl,rfl⟩))
  | (go_at_call 51;((with_reducible refine (right_to m m2 o false HR.out _).mono ?_);(rintro e w2 ⟨rfl,hb2⟩;have hs1:wd.heap.size+1 < w1.heap.size:=(by have:=hb.size;simp at this;omega);have d0:w2.cell? ⟨wd.heap.size+1,0,none⟩=some (.int .i64 0):=(hb2.cell (p:=⟨wd.heap.size+1,0,none⟩) (by simp;omega)).trans (by go_cell);have d1:w2.cell? ⟨wd.heap.size+1,1,none⟩=some (.int .i64 0):=(hb2.cell (p:=⟨wd.heap.size+1,1,none⟩) (by simp;omega)).trans (by go_cell);have d2:w2.cell? ⟨wd.heap.size+1,2,none⟩=some (.int .i64 0):=(hb2.cell (p:=⟨wd.heap.size+1,2,none⟩) (by simp;omega)).trans (by go_cell);have g0:w2.frozen? ⟨wd.heap.size+1,0,none⟩=false:=(hb2.frozen (p:=⟨wd.heap.size+1,0,none⟩) (by simp;omega)).trans (by go_cell);have g1:w2.frozen? ⟨wd.heap.size+1,1,none⟩=false:=(hb2.frozen (p:=⟨wd.heap.size+1,1,none⟩) (by simp;omega)).trans (by go_cell);have g2:w2.frozen? ⟨wd.heap.size+1,2,none⟩=false:=(hb2.frozen (p:=⟨wd.heap.size+1,2,none⟩) (by simp;omega)).trans (by go_cell);have c0:w2.cell? ⟨w1.heap.size,0,none⟩=some (.int .i64 m):=(hb2.cell (p:=⟨w1.heap.size,0,none⟩) (by simp)).trans (by go_cell);have c1:w2.cell? ⟨w1.heap.size,1,none⟩=some (.int .i64 m2):=(hb2.cell (p:=⟨w1.heap.size,1,none⟩) (by simp)).trans (by go_cell);have c2:w2.cell? ⟨w1.heap.size,2,none⟩=some (.int .i64 o):=(hb2.cell (p:=⟨w1.heap.size,2,none⟩) (by simp)).trans (by go_cell);clear hc hf))))
 have hs2:w1.heap.size < w2.heap.size:=by have:=hb2.size;simp at this;omega
 have hB:Below wd.heap.size wd w1:=(((Below.refl _ _).alloc (Nat.le_refl _) _).alloc (by simp) _).trans (hb.mono (by simp;omega))
 have hB2:Below wd.heap.size wd w2:=(by go_grown:Below wd.heap.size wd _).trans (hb2.mono (by simp;omega))
 refine bodyPost_ret (Kit.results_ct rfl _ _ (wd.heap.size+1) 0 [.int .i64 0,.int .i64 0,.int .i64 0] _ rfl (Kit.range_3 (by go_cell) (by go_cell) (by go_cell)) Tryz.underlying30 rfl (by kernel_rfl)) rfl ?_
 exact⟨rfl,by go_grown⟩
theorem slide_good (H W C k s p o m m2:Int) (hs:shapeB H W C=true) (hm:stepsM H k s p=m) (he:stepsE H k s p=0) (hm2:stepsM W k s p=m2) (he2:stepsE W k s p=0) (hr:shapeB m m2 o=true) (wd:World) :
  Calls Tryz.prog 102 #[.agg #[.int .i64 H,.int .i64 W,.int .i64 C],.int .i64 k,.int .i64 s,.int .i64 p,.int .i64 o] wd fun e w'=>e=.returned (.tuple #[.agg #[.int .i64 m,.int .i64 m2,.int .i64 o],.int .i64 0])∧Below wd.heap.size wd w':=by
 have HS:=Lib.hid hs
 have HM:=Lib.hid hm
 have HE:=Lib.hid he
 have HM2:=Lib.hid hm2
 have HE2:=Lib.hid he2
 have HR:=Lib.hid hr
 clear hs hm he hm2 he2 hr
 go_enter Tryz.func102,Tryz.ntmps102
 go_wp2_with (first
  | (go_at_call 51;((with_reducible refine (right_to H W C true HS.out _).mono ?_);rintro e w1 ⟨rfl,hb⟩;obtain⟨hc,hf⟩:=Kit.bcell hb))
  | (go_at_call 137;((with_reducible refine (steps_to H k s p m 0 HM.out HE.out _).mono ?_);rintro e w' ⟨rfl,rfl⟩))
  | (go_at_call 137;((with_reducible refine (steps_to W k s p m2 0 HM2.out HE2.out _).mono ?_);rintro e w' ⟨rfl,rfl⟩))
  | (go_at_call 51;((with_reducible refine (right_to m m2 o true HR.out _).mono ?_);(rintro e w2 ⟨rfl,hb2⟩;have hs1:wd.heap.size+1 < w1.heap.size:=(by have:=hb.size;simp at this;omega);have d0:w2.cell? ⟨wd.heap.size+1,0,none⟩=some (.int .i64 0):=(hb2.cell (p:=⟨wd.heap.size+1,0,none⟩) (by simp;omega)).trans (by go_cell);have d1:w2.cell? ⟨wd.heap.size+1,1,none⟩=some (.int .i64 0):=(hb2.cell (p:=⟨wd.heap.size+1,1,none⟩) (by simp;omega)).trans (by go_cell);have d2:w2.cell? ⟨wd.heap.size+1,2,none⟩=some (.int .i64 0):=(hb2.cell (p:=⟨wd.heap.size+1,2,none⟩) (by simp;omega)).trans (by go_cell);have g0:w2.frozen? ⟨wd.heap.size+1,0,none⟩=false:=(hb2.frozen (p:=⟨wd.heap.size+1,0,none⟩) (by simp;omega)).trans (by go_cell);have g1:w2.frozen? ⟨wd.heap.size+1,1,none⟩=false:=(hb2.frozen (p:=⟨wd.heap.size+1,1,none⟩) (by simp;omega)).trans (by go_cell);have g2:w2.frozen? ⟨wd.heap.size+1,2,none⟩=false:=(hb2.frozen (p:=⟨wd.heap.size+1,2,none⟩) (by simp;omega)).trans (by go_cell);have c0:w2.cell? ⟨w1.heap.size,0,none⟩=some (.int .i64 m):=(hb2.cell (p:=⟨w1.heap.size,0,none⟩) (by simp)).trans (by go_cell);have c1:w2.cell? ⟨w1.heap.size,1,none⟩=some (.int .i64 m2):=(hb2.cell (p:=⟨w1.heap.size,1,none⟩) (by simp)).trans (by go_cell);have c2:w2.cell? ⟨w1.heap.size,2,none⟩=some (.int .i64 o):=(hb2.cell (p:=⟨w1.heap.size,2,none⟩) (by simp)).trans (by go_cell);clear hc hf))))
 have hs2:w1.heap.size < w2.heap.size:=by have:=hb2.size;simp at this;omega
 have hB:Below wd.heap.size wd w1:=(((Below.refl _ _).alloc (Nat.le_refl _) _).alloc (by simp) _).trans (hb.mono (by simp;omega))
 have hB2:Below wd.heap.size wd w2:=(by go_grown:Below wd.heap.size wd _).trans (hb2.mono (by simp;omega))
 refine bodyPost_ret (Kit.results_ct rfl _ _ (wd.heap.size+1) 0 [.int .i64 m,.int .i64 m2,.int .i64 o] _ rfl (Kit.range_3 (by go_cell) (by go_cell) (by go_cell)) Tryz.underlying30 rfl (by kernel_rfl)) rfl ?_
 exact⟨rfl,by go_grown⟩
theorem slide_to (H W C k s p o e:Int) (v:Array Value) (he:slideE H W C k s p o=e) (hv:slideS H W C k s p o=v) (wd:World) :
  Calls Tryz.prog 102 #[.agg #[.int .i64 H,.int .i64 W,.int .i64 C],.int .i64 k,.int .i64 s,.int .i64 p,.int .i64 o] wd fun r w'=>r=.returned (.tuple #[.agg v,.int .i64 e])∧Below wd.heap.size wd w':=by
 subst hv
 unfold slideS
 rw [he]
 unfold slideE at he
 cases hs:shapeB H W C
 ·rw [if_pos hs] at he
  subst he
  exact slide_wrong H W C k s p o hs wd
 ·rw [if_neg (by simp [hs])] at he
  by_cases h1:stepsE H k s p=0
  ·rw [if_neg (by simp [h1])] at he
   by_cases h2:stepsE W k s p=0
   ·rw [if_neg (by simp [h2])] at he
    cases hr:shapeB (stepsM H k s p) (stepsM W k s p) o
    ·rw [if_neg (by simp [hr])] at he
     subst he
     exact slide_bad H W C k s p o _ _ hs rfl h1 rfl h2 hr wd
    ·rw [if_pos hr] at he
     subst he
     exact slide_good H W C k s p o _ _ hs rfl h1 rfl h2 hr wd
   ·rw [if_pos h2] at he
    subst he
    rw [if_neg h2]
    exact slide_two H W C k s p o _ _ _ hs rfl h1 rfl rfl h2 wd
  ·rw [if_pos h1] at he
   subst he
   rw [if_neg h1]
   exact slide_one H W C k s p o _ _ hs rfl rfl h1 wd
end Go.Proofs.YtkpngknbiecdiaaGreatDoor.CShape
end
section
namespace Go.Proofs.YtkpngknbiecdiaaGreatDoor.CShape
open Go Go.ChangeShapes Go.WideShapes Go.ChangeAt Go.RowKit
open Plain CSat
set_option linter.unusedVariables false
theorem refElems_yes (h w c n:Int) (h1:1≤h) (h2:h≤16) (h3:1≤w) (h4:w≤16) (h5:1≤c) (h6:c≤1024) (hn:h * w * c=n) (hn1:n≤1024) (W:World) :
  Calls Tryz.prog 45 #[.agg #[.int .i64 h,.int .i64 w,.int .i64 c]] W fun e w'=>e=.returned (.int .i64 n)∧Below W.heap.size W w':=by
 have hb:=prod_bd h1 h2 h3 h4 h5 h6
 obtain⟨b1,b2⟩:=hb
 have a1:1≤h * w:=Int.mul_le_mul h1 h3 (by omega) (by omega)
 have a2:h * w≤256:=Int.mul_le_mul h2 h4 (by omega) (by omega)
 subst hn
 go_enter Tryz.func45,Tryz.ntmps45
 go_wp2
 go_ret
 exact⟨rfl,(Below.refl _ _).alloc (Nat.le_refl _) _⟩
theorem refElems_many (h w c n:Int) (h1:1≤h) (h2:h≤16) (h3:1≤w) (h4:w≤16) (h5:1≤c) (h6:c≤1024) (hn:h * w * c=n) (hn1:1024 < n) (W:World) :
  Calls Tryz.prog 45 #[.agg #[.int .i64 h,.int .i64 w,.int .i64 c]] W fun e w'=>e=.returned (.int .i64 0)∧Below W.heap.size W w':=by
 have hb:=prod_bd h1 h2 h3 h4 h5 h6
 obtain⟨b1,b2⟩:=hb
 have a1:1≤h * w:=Int.mul_le_mul h1 h3 (by omega) (by omega)
 have a2:h * w≤256:=Int.mul_le_mul h2 h4 (by omega) (by omega)
 subst hn
 go_enter Tryz.func45,Tryz.ntmps45
 go_wp2
 go_ret
 exact⟨rfl,(Below.refl _ _).alloc (Nat.le_refl _) _⟩
theorem refElems_out (h w c:Int) (hw:h < 1∨(1≤h∧16 < h)∨(1≤h∧h≤16∧w < 1)∨(1≤h∧h≤16∧1≤w∧16 < w)∨(1≤h∧h≤16∧1≤w∧w≤16∧c < 1)∨(1≤h∧h≤16∧1≤w∧w≤16∧1≤c∧1024 < c)) (W:World) :
  Calls Tryz.prog 45 #[.agg #[.int .i64 h,.int .i64 w,.int .i64 c]] W fun e w'=>e=.returned (.int .i64 0)∧Below W.heap.size W w':=by
 rcases hw with h1 | ⟨h1,h2⟩ | ⟨h1,h2,h3⟩ | ⟨h1,h2,h3,h4⟩ | ⟨h1,h2,h3,h4,h5⟩ | ⟨h1,h2,h3,h4,h5,h6⟩
 all_goals
  go_enter Tryz.func45,Tryz.ntmps45
  go_wp2
  go_ret
  exact⟨rfl,(Below.refl _ _).alloc (Nat.le_refl _) _⟩
theorem refElems_to (h w c n:Int) (hn:elemsZ h w c=n) (W:World) :
  Calls Tryz.prog 45 #[.agg #[.int .i64 h,.int .i64 w,.int .i64 c]] W fun e w'=>e=.returned (.int .i64 n)∧Below W.heap.size W w':=by
 cases hs:shapeB h w c
 ·rw [elemsZ_no hs] at hn
  subst hn
  by_cases hi:1≤h∧h≤16∧1≤w∧w≤16∧1≤c∧c≤1024
  ·obtain⟨a1,a2,a3,a4,a5,a6⟩:=hi
   exact refElems_many h w c _ a1 a2 a3 a4 a5 a6 rfl (by simp [shapeB] at hs;omega) W
  ·exact refElems_out h w c (by omega) W
 ·obtain⟨a1,a2,a3,a4,a5,a6,a7⟩:=shapeB_yes hs
  rw [elemsZ_yes hs] at hn
  exact refElems_yes h w c n a1 a2 a3 a4 a5 a6 hn (hn ▸ a7) W
theorem elemsZ_some {h w c:Int} (hs:shapeB h w c=true):∃ n,elemsZ h w c=n∧1≤n∧n≤1024:=by
 refine⟨_,rfl,?_,(elemsZ_bd h w c).2⟩
 have:=elemsZ_pos h w c
 rw [hs] at this
 simp at this;omega
set_option maxHeartbeats 2000000 in
theorem refSteps_arg (n k s p:Int) (h:argsB n k s p=false) (w:World) :
  Calls Tryz.prog 95 #[.int .i64 n,.int .i64 k,.int .i64 s,.int .i64 p] w fun e w'=>e=.returned (.tuple #[.int .i64 0,.int .i64 2])∧w=w':=by
 have h0:n < 1∨(1≤n∧1024 < n)∨(1≤n∧n≤1024∧k < 1)∨(1≤n∧n≤1024∧1≤k∧5 < k)∨(1≤n∧n≤1024∧1≤k∧k≤5∧s < 1)∨(1≤n∧n≤1024∧1≤k∧k≤5∧1≤s∧4 < s) ∨
  (1≤n∧n≤1024∧1≤k∧k≤5∧1≤s∧s≤4∧p < 0)∨(1≤n∧n≤1024∧1≤k∧k≤5∧1≤s∧s≤4∧0≤p∧4 < p)∨(1≤n∧n≤1024∧1≤k∧k≤5∧1≤s∧s≤4∧0≤p∧p≤4∧k≤p):=by
  have:=argsB_no h;omega
 clear h
 rcases h0 with h1 | ⟨h1,h2⟩ | ⟨h1,h2,h3⟩ | ⟨h1,h2,h3,h4⟩ | ⟨h1,h2,h3,h4,h5⟩ | ⟨h1,h2,h3,h4,h5,h6⟩ | ⟨h1,h2,h3,h4,h5,h6,h7⟩ | ⟨h1,h2,h3,h4,h5,h6,h7,h8⟩ | ⟨h1,h2,h3,h4,h5,h6,h7,h8,h9⟩
 all_goals
  go_enter Tryz.func95,Tryz.ntmps95
  go_wp2
  go_ret2
  exact⟨rfl,rfl⟩
theorem refSteps_in (n k s p m e:Int) (h:argsB n k s p=true) (hm:(if n+2 * p - k < 0 then 0 else (n+2 * p - k) / s+1)=m) (he:(if n+2 * p - k < 0 then 5 else 0)=e) (w:World) :
  Calls Tryz.prog 95 #[.int .i64 n,.int .i64 k,.int .i64 s,.int .i64 p] w fun e' w'=>e'=.returned (.tuple #[.int .i64 m,.int .i64 e])∧w=w':=by
 obtain⟨h1,h2,h3,h4,h5,h6,h7,h8,h9⟩:=argsB_yes h
 clear h
 have hs:s=1∨s=2∨s=3∨s=4:=by omega
 have key:∀ i:Int,0≤i→i≤m→(i < m∧i * s≤n+2 * p - k∨i=m∧¬ i * s≤n+2 * p - k):=by
  intro i hi hl
  rcases hs with rfl | rfl | rfl | rfl <;> omega
 have key2:m=0∧e=5∨1≤m∧¬ m=0∧e=0:=by
  rcases hs with rfl | rfl | rfl | rfl <;> omega
 have hm0:0≤m:=by omega
 have hm9:m≤2000:=by rcases hs with rfl | rfl | rfl | rfl <;> omega
 have KEY:=Lib.hid key
 have KEY2:=Lib.hid key2
 clear hm he key key2 hs
 go_enter Tryz.func95,Tryz.ntmps95
 go_wp2
 go_loop [10,11] (fun c t=>∃ (i a:Int),0≤i∧i≤m∧c=.int .i64 i∧t=.int .i64 a∧0≤a+p∧a≤20000∧Hid (a = -p+i * s)) (fun c _=>(m - intOf c).toNat)
 case atStart=>exact⟨0, -p,by omega,by omega,rfl,rfl,by omega,by omega,Lib.hid (by omega)⟩
 case round =>
  obtain⟨i,a,hi0,him,rfl,rfl,ha1,ha2,ha⟩:=hrel
  rcases KEY.out i hi0 him with ⟨q1,q2⟩ | ⟨q1,q2⟩
  ·have ht:a+k≤n+p:=by have:=ha.out;omega
   clear q2
   go_wp2
   go_round
   case rel=>exact⟨i+1,a+s,by omega,by omega,by go_num,by go_num,by omega,by omega,Lib.hid (by have:=ha.out;rw [Int.add_mul];omega)⟩
   case measure=>simp [intOf];omega
  ·have ht:¬ (a+k≤n+p):=by have:=ha.out;omega
   clear q2
   subst q1
   rcases KEY2.out with ⟨r1,r2⟩ | ⟨r1,r2,r3⟩
   ·subst r1 r2
    go_wp2
    go_ret2
    exact⟨rfl,rfl⟩
   ·subst r3
    go_wp2
    go_ret2
    exact⟨rfl,rfl⟩
theorem refSteps_to (n k s p m e:Int) (hm:stepsM n k s p=m) (he:stepsE n k s p=e) (w:World) :
  Calls Tryz.prog 95 #[.int .i64 n,.int .i64 k,.int .i64 s,.int .i64 p] w fun r w'=>r=.returned (.tuple #[.int .i64 m,.int .i64 e])∧w=w':=by
 unfold stepsM at hm
 unfold stepsE at he
 cases h:argsB n k s p
 ·rw [if_neg (by simp [h])] at hm he
  subst hm he
  exact refSteps_arg n k s p h w
 ·rw [if_pos h] at hm he
  exact refSteps_in n k s p m e h hm he w
end Go.Proofs.YtkpngknbiecdiaaGreatDoor.CShape
end
