/- -/
import Derived.Test.YtjhlkmnpfibgaaaDoorGM45
import Derived.Test.YtjhlkmnpfibgaaaDoorGM47
open Go.Lib (hid)
open Nat (le_refl lt_of_succ_lt lt_succ_self)
set_option linter.unusedVariables false
set_option linter.unusedSimpArgs false
set_option maxRecDepth 100000
set_option maxHeartbeats 16000000
namespace Go.Proofs.YtjhlkmnpfibgaaaDoor
namespace CConv
end CConv
namespace CDense
end CDense
namespace CFix
end CFix
namespace CGraph
end CGraph
namespace CKind
end CKind
namespace CSat
end CSat
namespace CShape
end CShape
namespace CTensor
end CTensor
open Go Go.ChangeShapes Go.WideShapes Go.ChangeAt Go.RowKit Go.Deep
section
namespace CCost
open Plain CSat CFix CShape CTensor CConv CKind CGraph CDense CBund
theorem node_one (w:World):NodesAt (w.alloc (.cells #[.int .i64 9,.int .i64 0,.int .i64 0,.int .i64 0,.int .i64 0,.int .i64 0,.int .i64 0,.int .i8 0,.int .i8 0,.slice none 0 0,.slice none 0 0,.int .i32 0,.int .i64 0,.int .i8 0,.int .i32 0,.int .i64 0,.int .i8 0,.int .i8 0,.int .i8 0] 35)) (w.alloc (.cells #[.int .i64 9,.int .i64 0,.int .i64 0,.int .i64 0,.int .i64 0,.int .i64 0,.int .i64 0,.int .i8 0,.int .i8 0,.slice none 0 0,.slice none 0 0,.int .i32 0,.int .i64 0,.int .i8 0,.int .i32 0,.int .i64 0,.int .i8 0,.int .i8 0,.int .i8 0] 35)).heap.size (some ⟨w.heap.size,0,none⟩) 1 (fun _=>nd9):=by
 intro j hj
 refine⟨w.heap.size,0,rfl,by simp,fun q v hq=>?_⟩
 rw [Kit.zaf]
 have hq2:q < 19:=(List.getElem?_eq_some_iff.1 hq).1
 rw [← hq]
 match j,hj,q,hq2 with
 | 0,_,0,_=>rfl
 | 0,_,1,_=>rfl
 | 0,_,2,_=>rfl
 | 0,_,3,_=>rfl
 | 0,_,4,_=>rfl
 | 0,_,5,_=>rfl
 | 0,_,6,_=>rfl
 | 0,_,7,_=>rfl
 | 0,_,8,_=>rfl
 | 0,_,9,_=>rfl
 | 0,_,10,_=>rfl
 | 0,_,11,_=>rfl
 | 0,_,12,_=>rfl
 | 0,_,13,_=>rfl
 | 0,_,14,_=>rfl
 | 0,_,15,_=>rfl
 | 0,_,16,_=>rfl
 | 0,_,17,_=>rfl
 | 0,_,18,_=>rfl
theorem nd9_small:nd9.Small:=⟨⟨by decide,by decide⟩,⟨by decide,by decide⟩,⟨by decide,by decide⟩,⟨by decide,by decide⟩⟩
def bk9 (A:Option Addr):Bk:=⟨A,1,1,fun _=>nd9,false,⟨none,0,0,none,0,0,0⟩⟩
theorem bk9_out:outS (fun _=>nd9) (1,2,3) 1=none:=by decide +kernel
theorem bk9_cost:blkZ (fun _=>nd9) (1,2,3) 1 false 2=7:=by decide +kernel
theorem known31 (w:World) (hT:zai w):Calls Tryd.prog 7 #[] w fun e w'=>e=.returned (.bool true)∧Below w.heap.size w w':=by
 have HB0:=hid ((Below.refl w.heap.size w).alloc (le_refl _) (.cells #[.int .i64 9,.int .i64 0,.int .i64 0,.int .i64 0,.int .i64 0,.int .i64 0,.int .i64 0,.int .i8 0,.int .i8 0,.slice none 0 0,.slice none 0 0,.int .i32 0,.int .i64 0,.int .i8 0,.int .i32 0,.int .i64 0,.int .i8 0,.int .i8 0,.int .i8 0] 35))
 have CB:=hid (cblock_to (bk9 (some ⟨w.heap.size,0,none⟩)) (1,2,3) 2 (show (1:Nat)≤50 by decide) _ (hT.grown HB0.out) (fun _ _=>nd9_small) (node_one w))
 go_enter Tryd.func7,Tryd.ntmps7
 go_wp2_with (first
  | (go_at_call 8
     refine CB.out.mono ?_
     rintro e w1 ⟨hpost,hb⟩
     have HB1:=hid (HB0.out.trans (hb.mono HB0.out.size))
     have hp:e=.returned (.tuple #[.int .i64 7,.int .i64 0]):=by
      rcases hpost with ⟨k,z,hs, -⟩ | ⟨-,h⟩
      ·have h2:outS (fun _=>nd9) (1,2,3) 1=some (k,z):=hs
       rw [bk9_out] at h2
       cases h2
      ·rw [h]
       exact congrArg (fun z=>Ending.returned (.tuple #[.int .i64 z,.int .i64 0])) bk9_cost
     subst hp
     clear hpost hb CB))
 go_ret
 exact⟨rfl,HB1.out⟩
/-! ### what a block costs, in one form -/
def cZ (X:Nat→Nd) (t0:Tri) (n:Nat) (ex:Bool) (cl:Int):Int:=match outS X t0 n with | some _=>0 | none=>blkZ X t0 n ex cl
theorem cst_view {X:Nat→Nd} {t0:Tri} {n:Nat} {ex:Bool} {cl:Int} {w w':World} {e:Ending} (h:CstPost X t0 n ex cl w e w'):e=.returned (.tuple #[.int .i64 (cZ X t0 n ex cl),.int .i64 (outZ X t0 n)])∧Below w.heap.size w w':=by
 obtain⟨⟨k,z,hs,rfl⟩ | ⟨hs,rfl⟩,hb⟩:=h
 ·exact⟨by unfold cZ outZ;rw [hs],hb⟩
 ·exact⟨by unfold cZ outZ;rw [hs],hb⟩
def BkAt (B:Nat) (b:Bk) (w:World):Prop:=w.cell? ⟨B,0,none⟩=some (.slice b.A b.n b.c)∧w.cell? ⟨B,1,none⟩=some (.bool b.ex)∧w.cell? ⟨B,2,none⟩=some (.slice b.hd.WA b.hd.nW b.hd.cW)∧w.cell? ⟨B,3,none⟩=some (.slice b.hd.BA b.hd.nB b.hd.cB)∧w.cell? ⟨B,4,none⟩=some (.int .i32 b.hd.D)
theorem BkAt.new (b:Bk) (T:TypeId) (w:World):BkAt w.heap.size b (w.alloc (.cells b.val.toArray T)):=⟨Kit.zaf _ _ _ _,Kit.zaf _ _ _ _,Kit.zaf _ _ _ _,Kit.zaf _ _ _ _,Kit.zaf _ _ _ _⟩
theorem BkAt.below {B B':Nat} {b:Bk} {w w':World} (h:BkAt B b w) (hB:B < B') (hb:Below B' w w'):BkAt B b w' :=
 ⟨(hb.cell (p:=⟨B,0,none⟩) hB).trans h.1,(hb.cell (p:=⟨B,1,none⟩) hB).trans h.2.1,(hb.cell (p:=⟨B,2,none⟩) hB).trans h.2.2.1,(hb.cell (p:=⟨B,3,none⟩) hB).trans h.2.2.2.1,(hb.cell (p:=⟨B,4,none⟩) hB).trans h.2.2.2.2⟩
def uOne (b:Bk) (B1 B2:Nat):Bu:=⟨0,0,0,0,some ⟨B2,0,none⟩,1,1,fun _=>⟨some ⟨B1,0,none⟩,1,1,fun _=>b⟩⟩
theorem one_ok (b:Bk) (w:World) (hb:BkOk w w.heap.size b) (T T':TypeId) :
  BuOk ((w.alloc (.cells b.val.toArray T)).alloc (.cells #[.slice (some ⟨w.heap.size,0,none⟩) 1 1] T')) ((w.alloc (.cells b.val.toArray T)).alloc (.cells #[.slice (some ⟨w.heap.size,0,none⟩) 1 1] T')).heap.size (uOne b w.heap.size (w.heap.size+1)):=by
 have h1:Below w.heap.size w ((w.alloc (.cells b.val.toArray T)).alloc (.cells #[.slice (some ⟨w.heap.size,0,none⟩) 1 1] T')):=((Below.refl _ _).alloc (le_refl _) _).alloc (by simp) _
 have hm:MdOk ((w.alloc (.cells b.val.toArray T)).alloc (.cells #[.slice (some ⟨w.heap.size,0,none⟩) 1 1] T')) ((w.alloc (.cells b.val.toArray T)).alloc (.cells #[.slice (some ⟨w.heap.size,0,none⟩) 1 1] T')).heap.size ⟨some ⟨w.heap.size,0,none⟩,1,1,fun _=>b⟩:=by
  refine⟨⟨le_refl _,show (1:Nat)≤maxLen by decide⟩,?_,fun j hj=>(hb.below h1).more h1.size⟩
  intro j hj
  have hj':j < 1:=hj
  obtain rfl:j=0:=by omega
  refine⟨w.heap.size,0,rfl,by simp;omega,fun q v hq=>?_⟩
  have e:((w.alloc (.cells b.val.toArray T)).alloc (.cells #[.slice (some ⟨w.heap.size,0,none⟩) 1 1] T')).cell? ⟨w.heap.size,q,none⟩=(w.alloc (.cells b.val.toArray T)).cell? ⟨w.heap.size,q,none⟩ :=
   (((Below.refl (w.heap.size+1) (w.alloc (.cells b.val.toArray T))).alloc (by simp) _).cell (p:=⟨w.heap.size,q,none⟩) (lt_succ_self _))
  simp only [Nat.zero_mul,Nat.zero_add]
  rw [e,Kit.zaf]
  simpa using hq
 have z0:(Lit.int .i64 0).wf=true:=by decide
 refine⟨⟨z0,z0,z0,z0⟩,⟨le_refl _,show (1:Nat)≤maxLen by decide⟩,?_,fun j _=>hm⟩
 intro j hj
 have hj':j < 1:=hj
 obtain rfl:j=0:=by omega
 refine⟨w.heap.size+1,0,rfl,by simp,fun q v hq=>?_⟩
 have e:=Kit.zaf (w.alloc (.cells b.val.toArray T)) #[.slice (some ⟨w.heap.size,0,none⟩) 1 1] T' (0+0 * 1+q)
 rw [World.size_alloc] at e
 rw [e]
 have hq' : [Value.slice (some ⟨w.heap.size,0,none⟩) 1 1][q]?=some v:=hq
 simpa using hq'
end CCost
end
end Go.Proofs.YtjhlkmnpfibgaaaDoor
