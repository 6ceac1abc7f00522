/- -/
import Derived.Test.YtceehogkckdbkaaDoorGH15
import Derived.Test.YtceehogkckdbkaaDoorGH17
import Derived.Test.YtceehogkckdbkaaDoorGH18
import Derived.Test.YtceehogkckdbkaaDoorGH19
open Nat (le_refl lt_of_succ_lt lt_succ_self)
set_option linter.unusedVariables false
set_option linter.unusedSimpArgs false
set_option maxRecDepth 100000
set_option maxHeartbeats 16000000
namespace Go.Proofs.YtceehogkckdbkaaDoor
namespace CConv
end CConv
namespace CFix
end CFix
namespace CGraph
end CGraph
namespace CJoin
end CJoin
namespace CKind
end CKind
namespace CSat
end CSat
namespace CShape
end CShape
namespace CSpan
end CSpan
namespace CTensor
end CTensor
open Go Go.ChangeShapes Go.WideShapes Go.ChangeAt Go.RowKit Go.Deep
section
namespace CGuard
open Plain CSat CFix CShape CTensor CConv CSpan CKind CGraph CJoin
structure NdL (w:World) (B:Nat) (x:Nd) (ws bs:List Int):Prop where
 ok:NdOk w B x
 lw:ws.length=x.nW
 lb:bs.length=x.nB
 cw:x.nW≤x.cW∧x.nB≤x.cB
 iw:I8b ws
 ib:∀ q, -2147483648≤bs.getD q 0∧bs.getD q 0≤2147483647
 rw:Kit.Rd w B x.WA (I8s ws)
 rb:Kit.Rd w B x.BA (I32v bs)
def FreshR (B:Nat) (wd:World):Prop :=
 (wd.cell? ⟨B,0,none⟩=some (.int .i8 0)∧wd.cell? ⟨B,1,none⟩=some (.int .i8 0))∧wd.frozen? ⟨B,0,none⟩=false∧wd.frozen? ⟨B,1,none⟩=false
theorem FreshR.new (T:TypeId) (w:World):FreshR w.heap.size (w.alloc (.cells #[.int .i8 0,.int .i8 0] T)) :=
 ⟨⟨Kit.zae _ _ _ _,Kit.zae _ _ _ _⟩,World.frozen?_alloc_at _ _ _ _ rfl,World.frozen?_alloc_at _ _ _ _ rfl⟩
theorem FreshR.below {B B':Nat} {w w':World} (h:FreshR B w) (hB:B < B') (hb:Below B' w w'):FreshR B w':=by
 obtain⟨⟨h1,h2⟩,h5,h6⟩:=h
 exact⟨⟨(hb.cell (p:=⟨B,0,none⟩) hB).trans h1,(hb.cell (p:=⟨B,1,none⟩) hB).trans h2⟩,(hb.frozen (p:=⟨B,0,none⟩) hB).trans h5,(hb.frozen (p:=⟨B,1,none⟩) hB).trans h6⟩
def zak (g:Nat) (x:Nd) (l h l2 h2:Int) (wd:World):Prop:=NdAt g x wd∧RchAt (g+1) l h wd∧RchAt (g+2) l2 h2 wd∧FreshR (g+3) wd∧g+4≤wd.heap.size
theorem zak.below {g:Nat} {x:Nd} {l h l2 h2:Int} {w w':World} (q:zak g x l h l2 h2 w) (hb:Below w.heap.size w w'):zak g x l h l2 h2 w':=by
 obtain⟨q1,q2,q3,q4,q5⟩:=q
 exact⟨q1.below (B:=w.heap.size) (by omega) hb,q2.below (B':=w.heap.size) (by omega) hb,q3.below (B':=w.heap.size) (by omega) hb,q4.below (B':=w.heap.size) (by omega) hb,Nat.le_trans q5 hb.size⟩
theorem nd_other {g q i:Nat} {x:Nd} {u:Value} {w:World} (h:NdAt g x w) (hq:q≠g):NdAt g x (w.setCell ⟨q,i,none⟩ u):=fun j v hj=>(World.cell?_setCell_other _ _ _ _ (fun e=>by injection e;omega)).trans (h j v hj)
theorem zav {g q i:Nat} {l h:Int} {u:Value} {w:World} (r:RchAt g l h w) (hq:q≠g):RchAt g l h (w.setCell ⟨q,i,none⟩ u) :=
 ⟨(World.cell?_setCell_other _ _ _ _ (fun e=>by injection e;omega)).trans r.1,(World.cell?_setCell_other _ _ _ _ (fun e=>by injection e;omega)).trans r.2⟩
theorem min_iteN (a b:Int):(if b < a then b else a)=min a b:=by split <;> omega
theorem max_iteN (a b:Int):(if a < b then b else a)=max a b:=by split <;> omega
theorem nbd_of {w:World} {B:Nat} {x:Nd} (h:NdOk w B x):NBd x.Z x.Y x.m1 x.z1 x.m2 x.z2 x.lo x.hi:=⟨h.z,h.q.2.2.2.2.2.2,h.q.1,h.q.2.2.1,h.q.2.1,h.q.2.2.2.1,h.q.2.2.2.2.1,h.q.2.2.2.2.2.1⟩
end CGuard
end
end Go.Proofs.YtceehogkckdbkaaDoor
