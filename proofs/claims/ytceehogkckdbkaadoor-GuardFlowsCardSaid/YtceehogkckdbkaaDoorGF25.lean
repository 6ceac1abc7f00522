/- -/
import Derived.LaidMore
import Derived.Stop.Joined
import Derived.Test.YtceehogkckdbkaaDoorGF22
import Derived.Test.YtceehogkckdbkaaDoorGF24
open Nat (le_refl lt_of_succ_lt lt_succ_self)
set_option linter.unusedVariables false
set_option linter.unusedSimpArgs false
set_option maxRecDepth 100000
set_option maxHeartbeats 16000000
namespace Go.Proofs.YtceehogkckdbkaaDoor
namespace CConv
end CConv
namespace CFix
end CFix
namespace CGraph
end CGraph
namespace CKind
end CKind
namespace CSat
end CSat
namespace CShape
end CShape
namespace CSpan
end CSpan
namespace CTensor
end CTensor
open Go Go.ChangeShapes Go.WideShapes Go.ChangeAt Go.RowKit Go.Deep
section
namespace CGuard
open Plain CSat CFix CShape CTensor CConv CSpan
def RchAt (B:Nat) (l h:Int) (wd:World):Prop:=wd.cell? ⟨B,0,none⟩=some (.int .i8 l)∧wd.cell? ⟨B,1,none⟩=some (.int .i8 h)
theorem zbe (l h:Int) (T:TypeId) (w:World):RchAt w.heap.size l h (w.alloc (.cells #[.int .i8 l,.int .i8 h] T)):=⟨Kit.zar _ _ _ _,Kit.zar _ _ _ _⟩
theorem RchAt.below {B B':Nat} {l h:Int} {w w':World} (q:RchAt B l h w) (hB:B < B') (hb:Below B' w w'):RchAt B l h w' :=
 ⟨(hb.cell (p:=⟨B,0,none⟩) hB).trans q.1,(hb.cell (p:=⟨B,1,none⟩) hB).trans q.2⟩
def lsW (ws bs:List Int) (nW nB:Nat) (l h z:Int) (g:Bool):Int:=lsR (rowP ws bs l h z g (nW / nB)) nB
def grW (ws bs:List Int) (nW nB:Nat) (l h z:Int) (g:Bool):Int:=grR (rowQ ws bs l h z g (nW / nB)) nB
theorem zat {nW nB:Nat} (h:1≤nB∧nW % nB=0):nW / nB * nB=nW:=Nat.div_mul_cancel (Nat.dvd_of_mod_eq_zero h.2)
theorem same_b {w w':World} (h:w=w'):Below w.heap.size w w':=by subst h;exact Below.refl _ _
theorem quiet_b {w w':World} {m:Nat} (h:w'=w.drewN m):Below w.heap.size w w':=by rw [h];exact Kit.below_drewN (Below.refl _ _) m
end CGuard
end
section
namespace CGuard
open Plain CSat CFix CShape CTensor CConv CSpan CKind CGraph CJoin
structure NdL (w:World) (B:Nat) (x:Nd) (ws bs:List Int):Prop where
 ok:NdOk w B x
 lw:ws.length=x.nW
 lb:bs.length=x.nB
 cw:x.nW≤x.cW∧x.nB≤x.cB
 iw:I8b ws
 ib:∀ q, -2147483648≤bs.getD q 0∧bs.getD q 0≤2147483647
 rw:Kit.Rd w B x.WA (I8s ws)
 rb:Kit.Rd w B x.BA (I32v bs)
def FreshR (B:Nat) (wd:World):Prop :=
 (wd.cell? ⟨B,0,none⟩=some (.int .i8 0)∧wd.cell? ⟨B,1,none⟩=some (.int .i8 0))∧wd.frozen? ⟨B,0,none⟩=false∧wd.frozen? ⟨B,1,none⟩=false
theorem FreshR.new (T:TypeId) (w:World):FreshR w.heap.size (w.alloc (.cells #[.int .i8 0,.int .i8 0] T)) :=
 ⟨⟨Kit.zar _ _ _ _,Kit.zar _ _ _ _⟩,World.frozen?_alloc_at _ _ _ _ rfl,World.frozen?_alloc_at _ _ _ _ rfl⟩
theorem FreshR.below {B B':Nat} {w w':World} (h:FreshR B w) (hB:B < B') (hb:Below B' w w'):FreshR B w':=by
 obtain⟨⟨h1,h2⟩,h5,h6⟩:=h
 exact⟨⟨(hb.cell (p:=⟨B,0,none⟩) hB).trans h1,(hb.cell (p:=⟨B,1,none⟩) hB).trans h2⟩,(hb.frozen (p:=⟨B,0,none⟩) hB).trans h5,(hb.frozen (p:=⟨B,1,none⟩) hB).trans h6⟩
def zaj (g:Nat) (x:Nd) (l h l2 h2:Int) (wd:World):Prop:=NdAt g x wd∧RchAt (g+1) l h wd∧RchAt (g+2) l2 h2 wd∧FreshR (g+3) wd∧g+4≤wd.heap.size
theorem zaj.below {g:Nat} {x:Nd} {l h l2 h2:Int} {w w':World} (q:zaj g x l h l2 h2 w) (hb:Below w.heap.size w w'):zaj g x l h l2 h2 w':=by
 obtain⟨q1,q2,q3,q4,q5⟩:=q
 exact⟨q1.below (B:=w.heap.size) (by omega) hb,q2.below (B':=w.heap.size) (by omega) hb,q3.below (B':=w.heap.size) (by omega) hb,q4.below (B':=w.heap.size) (by omega) hb,Nat.le_trans q5 hb.size⟩
theorem zaj.new (w:World) (x:Nd) (l h l2 h2:Int):zaj w.heap.size x l h l2 h2 ((((w.alloc (.cells x.val 29)).alloc (.cells #[.int .i8 l,.int .i8 h] 46)).alloc (.cells #[.int .i8 l2,.int .i8 h2] 46)).alloc (.cells #[.int .i8 0,.int .i8 0] 46))∧Below w.heap.size w ((((w.alloc (.cells x.val 29)).alloc (.cells #[.int .i8 l,.int .i8 h] 46)).alloc (.cells #[.int .i8 l2,.int .i8 h2] 46)).alloc (.cells #[.int .i8 0,.int .i8 0] 46)):=by
 have b4:Below (w.heap.size+3) (((w.alloc (.cells x.val 29)).alloc (.cells #[.int .i8 l,.int .i8 h] 46)).alloc (.cells #[.int .i8 l2,.int .i8 h2] 46)) ((((w.alloc (.cells x.val 29)).alloc (.cells #[.int .i8 l,.int .i8 h] 46)).alloc (.cells #[.int .i8 l2,.int .i8 h2] 46)).alloc (.cells #[.int .i8 0,.int .i8 0] 46)):=(Below.refl _ _).alloc (by simp) _
 have b3:Below (w.heap.size+2) ((w.alloc (.cells x.val 29)).alloc (.cells #[.int .i8 l,.int .i8 h] 46)) ((((w.alloc (.cells x.val 29)).alloc (.cells #[.int .i8 l,.int .i8 h] 46)).alloc (.cells #[.int .i8 l2,.int .i8 h2] 46)).alloc (.cells #[.int .i8 0,.int .i8 0] 46)):=((Below.refl _ _).alloc (by simp) _).trans (b4.mono (by omega))
 have b2:Below (w.heap.size+1) (w.alloc (.cells x.val 29)) ((((w.alloc (.cells x.val 29)).alloc (.cells #[.int .i8 l,.int .i8 h] 46)).alloc (.cells #[.int .i8 l2,.int .i8 h2] 46)).alloc (.cells #[.int .i8 0,.int .i8 0] 46)):=((Below.refl _ _).alloc (by simp) _).trans (b3.mono (by omega))
 have b1:Below w.heap.size w ((((w.alloc (.cells x.val 29)).alloc (.cells #[.int .i8 l,.int .i8 h] 46)).alloc (.cells #[.int .i8 l2,.int .i8 h2] 46)).alloc (.cells #[.int .i8 0,.int .i8 0] 46)):=((Below.refl _ _).alloc (le_refl _) _).trans (b2.mono (by omega))
 have q2:=zbe l h 46 (w.alloc (.cells x.val 29))
 have q3:=zbe l2 h2 46 ((w.alloc (.cells x.val 29)).alloc (.cells #[.int .i8 l,.int .i8 h] 46))
 have q4:=FreshR.new 46 (((w.alloc (.cells x.val 29)).alloc (.cells #[.int .i8 l,.int .i8 h] 46)).alloc (.cells #[.int .i8 l2,.int .i8 h2] 46))
 simp only [World.size_alloc] at q2 q3 q4
 exact⟨⟨(NdAt.new x 29 w).below (lt_succ_self _) b2,q2.below (lt_succ_self _) b3,q3.below (lt_succ_self _) b4,q4,by simp⟩,b1⟩
theorem zbc {g q i:Nat} {x:Nd} {u:Value} {w:World} (h:NdAt g x w) (hq:q≠g):NdAt g x (w.setCell ⟨q,i,none⟩ u):=fun j v hj=>(World.cell?_setCell_other _ _ _ _ (fun e=>by injection e;omega)).trans (h j v hj)
theorem zaq {g q i:Nat} {l h:Int} {u:Value} {w:World} (r:RchAt g l h w) (hq:q≠g):RchAt g l h (w.setCell ⟨q,i,none⟩ u) :=
 ⟨(World.cell?_setCell_other _ _ _ _ (fun e=>by injection e;omega)).trans r.1,(World.cell?_setCell_other _ _ _ _ (fun e=>by injection e;omega)).trans r.2⟩
theorem min_iteN (a b:Int):(if b < a then b else a)=min a b:=by split <;> omega
theorem max_iteN (a b:Int):(if a < b then b else a)=max a b:=by split <;> omega
theorem nbd_of {w:World} {B:Nat} {x:Nd} (h:NdOk w B x):NBd x.Z x.Y x.m1 x.z1 x.m2 x.z2 x.lo x.hi:=⟨h.z,h.q.2.2.2.2.2.2,h.q.1,h.q.2.2.1,h.q.2.1,h.q.2.2.2.1,h.q.2.2.2.2.1,h.q.2.2.2.2.2.1⟩
end CGuard
end
section
namespace CKind
open Go Go.ChangeShapes Go.WideShapes Go.ChangeAt Go.RowKit Go.Deep Go.WideElems
open Plain CSat CFix CShape CTensor CConv
theorem gVar : Tryd.prog.globalNamed "stepwell/kinds.names" = some 0 := by kernel_rfl
theorem tVar:(Tryd.prog.globals[0]?).map (·.type)=some 136:=by kernel_rfl
def namesZ:List (List UInt8):=[[],[99,111,110,118],[100,101,112,116,104],[100,101,110,115,101],[109,97,120,112,111,111,108],[97,118,103,112,111,111,108],[106,111,105,110],[97,99,116],[112,97,100],[102,108,97,116]]
theorem namesZ_at:∀ n:Nat,n < 10→namesZ[n]?=some (kname n).data.toList:=by decide +kernel
theorem of_laid {W : World} (h : laidMetH Tryd.prog [("stepwell/kinds.names", Rows.laid_stepwell_kinds_names)] W) : zah W := by
 rw [MakeChecks.laidMetH_plain _ _ _ (by kernel_rfl)] at h
 obtain⟨ps,⟨g0,t0,cs0,f0,p0,q0,hg0,ht0,hv0,hd0,_⟩,_,_⟩:=h
 obtain rfl:=Option.some.inj (gVar.symm.trans hg0)
 obtain rfl:=Option.some.inj (tVar.symm.trans ht0)
 obtain⟨xs,m1,rfl,hx1,hlen,hn3,hel⟩:=DataW.trod_array Tryd.underlying136 hd0
 have c1:Tryd.prog.cellsOf 9=1:=by kernel_rfl
 intro n hn
 rw [World.var?_cell hg0 hv0 n]
 have hi:=hel n hn
 rw [c1] at hi
 have hxs:xs.map (·.1)=namesZ.map fun z=>.lit (.string z):=by
  have:=congrArg Prod.fst hx1
  simp only [Rows.laid_stepwell_kinds_names,DataW.agg.injEq] at this
  exact this.symm
 have hxn:(xs.map (·.1))[n]?=some (.lit (.string (kname n).data.toList)):=by
  rw [hxs,List.getElem?_map,namesZ_at n hn];rfl
 rw [List.getElem?_map] at hxn
 obtain⟨x,hx,hx2⟩:=Option.map_eq_some_iff.1 hxn
 rw [hx] at hi
 obtain⟨k,e1,e2,_⟩:=DataW.trod_string Tryd.underlying9 hi
 have hk:k=kname n:=by
  rw [e2] at hx2
  simp only [DataW.lit.injEq,Lit.string.injEq] at hx2
  exact ByteArray.ext (Array.toList_inj.1 hx2)
 subst hk
 have h0:=congrArg (fun l:List Value=>l[0]?) e1
 simpa using h0
end CKind
end
end Go.Proofs.YtceehogkckdbkaaDoor
