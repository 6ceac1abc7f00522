/- -/
import Derived.Test.YtoffcaldhojjoaaDoorGVP42
import Derived.Test.YtoffcaldhojjoaaDoorGVP44
open Nat (le_refl lt_of_succ_lt lt_succ_self)
set_option linter.unusedVariables false
set_option linter.unusedSimpArgs false
set_option maxRecDepth 100000
set_option maxHeartbeats 16000000
namespace Go.Proofs.YtoffcaldhojjoaaDoor
namespace CConv
end CConv
namespace CCost
end CCost
namespace CFix
end CFix
namespace CGraph
end CGraph
namespace CGuard
end CGuard
namespace CJoin
end CJoin
namespace CKind
end CKind
namespace CSat
end CSat
namespace CShape
end CShape
namespace CSpan
end CSpan
namespace CTensor
end CTensor
open Go Go.ChangeShapes Go.WideShapes Go.ChangeAt Go.RowKit Go.Deep
section
namespace CValid
open Plain CSat CFix CShape CTensor CConv CSpan CKind CGraph CJoin CGuard CBund CCost CVerd
structure BkRdy (w:World) (b:Bk) (s:Ls):Prop where
 nodes:NodesAt w w.heap.size b.A b.n b.X
 ls:LsOk w w.heap.size b s
 few:FewK b
theorem BkRdy.below {w w':World} {b:Bk} {s:Ls} (h:BkRdy w b s) (hb:Below w.heap.size w w'):BkRdy w' b s :=
 ⟨(h.nodes.below hb).more hb.size,(h.ls.below hb).more hb.size,h.few⟩
theorem blk_a1 {b:Bk} {s:Ls} {t0:Tri} {cl:Int} {last:Bool} {k z:Int} (h:outS b.X t0 b.n=some (k,z)):bkP b s t0 cl last=k∧bkZ b s t0 cl last=z:=by
 unfold bkP bkZ blkO;rw [h];exact⟨rfl,rfl⟩
theorem blk_a2 {b:Bk} {s:Ls} {t0:Tri} {cl:Int} {last:Bool} {k z:Int} (h:outS b.X t0 b.n=none) (h2:outG (ndw b s) rall b.n=some (k,z)):bkP b s t0 cl last=k∧bkZ b s t0 cl last=z:=by
 unfold bkP bkZ blkO;rw [h,h2];exact⟨rfl,rfl⟩
theorem blk_a3 {b:Bk} {s:Ls} {t0:Tri} {cl:Int} {last:Bool} {o:Tri} {r:Rch} (h:outS b.X t0 b.n=none) (h2:outG (ndw b s) rall b.n=none) (ho:outT b.X t0 b.n=o) (hr:outR (ndw b s) b.n=r) {ez:Int} (he:exZ b.hd b.ex s o r cl last=ez) :
  (ez≠0→bkP b s t0 cl last = -1∧bkZ b s t0 cl last=ez)∧(ez=0→bkP b s t0 cl last=b.n∧bkZ b s t0 cl last=0):=by
 subst he ho hr
 unfold bkP bkZ blkO
 rw [h,h2]
 simp only []
 refine⟨fun hz=>?_,fun hz=>?_⟩
 ·rw [if_neg hz];exact⟨rfl,rfl⟩
 ·rw [if_pos hz];exact⟨rfl,rfl⟩
def SaysI (Z:Int) (w:World) (e:Ending) (w':World):Prop:=e=.returned (.int .i64 Z)∧Below w.heap.size w w'
theorem exz_no {h:Hd} {s:Ls} {o:Tri} {r:Rch} {cl:Int} {last:Bool} (ht:(last || told h)=true):exZ h false s o r cl last=11:=by unfold exZ;rw [if_pos rfl,if_pos ht]
theorem exz_none {h:Hd} {s:Ls} {o:Tri} {r:Rch} {cl:Int} {last:Bool} (ht:(last || told h)=false):exZ h false s o r cl last=0:=by unfold exZ;rw [if_pos rfl,if_neg (by rw [ht];decide)]
theorem exz_chk {h:Hd} {s:Ls} {o:Tri} {r:Rch} {cl:Int} {last:Bool} {cz:Int} (hc:verdE o.1 o.2.1 o.2.2 h.nW h.nB h.D cl=cz) (hz:cz≠0):exZ h true s o r cl last=cz:=by
 subst hc;unfold exZ;rw [if_neg (by decide),if_pos hz]
theorem exz_head {h:Hd} {s:Ls} {o:Tri} {r:Rch} {cl:Int} {last:Bool} (hc:verdE o.1 o.2.1 o.2.2 h.nW h.nB h.D cl=0):exZ h true s o r cl last=headZ s.hw s.hb h.nW h.nB r.1 r.2:=by
 unfold exZ;rw [if_neg (by decide),if_neg (by simpa using hc)]
theorem told_w {h:Hd} (q:0 < h.nW):told h=true:=by unfold told;simp [q]
theorem told_b {h:Hd} (q:0 < h.nB):told h=true:=by unfold told;simp [q]
theorem told_d {h:Hd} (q:¬ h.D=0):told h=true:=by unfold told;simp [q]
theorem told_no {h:Hd} (q1:h.nW=0) (q2:h.nB=0) (q3:h.D=0):told h=false:=by unfold told;simp [q1,q2,q3]
theorem ls_nd {w:World} {b:Bk} {s:Ls} (h:BkRdy w b s) {wx:World} (hb:Below w.heap.size w wx):∀ j,j < b.n→NdL wx wx.heap.size (ndw b s j).1 (ndw b s j).2.1 (ndw b s j).2.2∧(ndw b s j).1.nW≤20000∧(ndw b s j).1.nB≤20000 :=
 fun j hj=>⟨((h.below hb).ls).nds j hj,by have:(b.X j).nW≤1000∧(b.X j).nB≤100:=h.few.2.1 j hj;exact Nat.le_trans this.1 (by decide),by have:(b.X j).nW≤1000∧(b.X j).nB≤100:=h.few.2.1 j hj;exact Nat.le_trans this.2 (by decide)⟩
theorem rall_bd:RBd rall:=⟨⟨by decide,by decide⟩,by decide,by decide⟩
theorem cshp_at {w:World} {b:Bk} {s:Ls} (h:BkRdy w b s) (hT:zae w) (t0:Tri) {wx:World} (hb:Below w.heap.size w wx) :
  Calls Tryd.prog 19 #[.slice b.A b.n b.c,.agg #[.int .i64 t0.1,.int .i64 t0.2.1,.int .i64 t0.2.2]] wx (ShpPost b.X t0 b.n wx) :=
 cshapes_to b.X t0 b.n b.c (by have:=h.few.1;omega) b.A wx (hT.grown hb) (fun j hj=>node_small (h.ls.nds j hj).ok) (h.below hb).nodes
theorem cflow_at {w:World} {b:Bk} {s:Ls} (h:BkRdy w b s) (hT:zae w) {wx:World} (hb:Below w.heap.size w wx) :
  Calls Tryd.prog 20 #[.slice b.A b.n b.c,.agg #[.int .i8 (-128),.int .i8 127]] wx (FcPost (ndw b s) rall b.n wx) :=
 cflow_to (ndw b s) rall rall_bd b.n b.c (by have:=h.few.1;omega) b.A wx (hT.grown hb) (fun j hj=>node_small (h.ls.nds j hj).ok) (h.below hb).nodes (ls_nd h hb)
theorem chead_at {w:World} {b:Bk} {s:Ls} (h:BkRdy w b s) {r:Rch} (hr:RBd r) {wx:World} (hb:Below w.heap.size w wx) :
  Calls Tryd.prog 38 #[.agg #[.slice b.hd.WA b.hd.nW b.hd.cW,.slice b.hd.BA b.hd.nB b.hd.cB,.int .i32 b.hd.D],.agg #[.int .i8 r.1,.int .i8 r.2]] wx (SaysI (headZ s.hw s.hb b.hd.nW b.hd.nB r.1 r.2) wx) :=
 have hh:=h.below hb
 chead_to b.hd.WA b.hd.BA b.hd.nW b.hd.cW b.hd.nB b.hd.cB s.hw s.hb hh.ls.lw.1 hh.ls.lb.1 hh.ls.lw.2.2 hh.ls.lb.2.2 hh.ls.lw.2.1 hh.ls.lb.2.1 (by have:=h.few.2.2.1;omega) (by have:=h.few.2.2.2;omega) r.1 r.2 hr.1.1 hr.1.2 hr.2.1 hr.2.2 b.hd.D wx hh.ls.rw hh.ls.rb
theorem outR_bd {w:World} {B:Nat} {b:Bk} {s:Ls} (h:LsOk w B b s) {r:Rch} (hr:(rcL (ndw b s) rall b.n)[b.n]?=some r):RBd r :=
 rcL_bd (ndw b s) rall rall_bd b.n (fun j hj=>⟨w,B,(h.nds j hj).ok⟩) b.n r hr
structure BuRdy (w:World) (u:Bu) (S:Nat→Nat→Ls):Prop where
 ok:BuOk w w.heap.size u
 ls:∀ i,i < u.n→∀ k,k < (u.M i).n→LsOk w w.heap.size ((u.M i).K k) (S i k)
 few:FewBu u
theorem BuRdy.below {w w':World} {u:Bu} {S:Nat→Nat→Ls} (h:BuRdy w u S) (hb:Below w.heap.size w w'):BuRdy w' u S :=
 ⟨(h.ok.below hb).more hb.size,fun i hi k hk=>((h.ls i hi k hk).below hb).more hb.size,h.few⟩
theorem BuRdy.blk {w:World} {u:Bu} {S:Nat→Nat→Ls} (h:BuRdy w u S) {i:Nat} (hi:i < u.n) {k:Nat} (hk:k < (u.M i).n):BkRdy w ((u.M i).K k) (S i k) :=
 ⟨((h.ok.each i hi).each k hk).nodes,h.ls i hi k hk,(h.few.2 i hi).2 k hk⟩
theorem sets_of {w:World} {B:Nat} {u:Bu} (h:BuOk w B u):∃ S:Nat→Nat→Ls,∀ i,i < u.n→∀ k,k < (u.M i).n→LsOk w B ((u.M i).K k) (S i k) :=
 choose_fnE (fun _=>ls0) (n:=u.n) (p:=fun i s=>∀ k,k < (u.M i).n→LsOk w B ((u.M i).K k) (s k)) (fun i hi =>
  choose_fnE ls0 (n:=(u.M i).n) (p:=fun k s=>LsOk w B ((u.M i).K k) s) (fun k hk=>ls_of ((h.each i hi).each k hk)))
/-! ### faults -/
abbrev Flt:=Int × Int × Int × Int
def QAt (B:Nat) (q:Flt) (w:World):Prop:=w.cell? ⟨B,0,none⟩=some (.int .i64 q.1)∧w.cell? ⟨B,1,none⟩=some (.int .i64 q.2.1)∧w.cell? ⟨B,2,none⟩=some (.int .i64 q.2.2.1)∧w.cell? ⟨B,3,none⟩=some (.int .i64 q.2.2.2)
def QOk (B:Nat) (q:Flt) (w:World):Prop:=QAt B q w∧w.frozen? ⟨B,0,none⟩=false∧w.frozen? ⟨B,1,none⟩=false∧w.frozen? ⟨B,2,none⟩=false∧w.frozen? ⟨B,3,none⟩=false
theorem QOk.new (q:Flt) (T:TypeId) (w:World):QOk w.heap.size q (w.alloc (.cells #[.int .i64 q.1,.int .i64 q.2.1,.int .i64 q.2.2.1,.int .i64 q.2.2.2] T)) :=
 ⟨⟨Kit.zac _ _ _ _,Kit.zac _ _ _ _,Kit.zac _ _ _ _,Kit.zac _ _ _ _⟩,World.frozen?_alloc_at _ _ _ _ rfl,World.frozen?_alloc_at _ _ _ _ rfl,World.frozen?_alloc_at _ _ _ _ rfl,World.frozen?_alloc_at _ _ _ _ rfl⟩
theorem QOk.below {B B':Nat} {q:Flt} {w w':World} (h:QOk B q w) (hB:B < B') (hb:Below B' w w'):QOk B q w':=by
 obtain⟨⟨h0,h1,h2,h3⟩,f0,f1,f2,f3⟩:=h
 exact⟨⟨(hb.cell (p:=⟨B,0,none⟩) hB).trans h0,(hb.cell (p:=⟨B,1,none⟩) hB).trans h1,(hb.cell (p:=⟨B,2,none⟩) hB).trans h2,(hb.cell (p:=⟨B,3,none⟩) hB).trans h3⟩,
  (hb.frozen (p:=⟨B,0,none⟩) hB).trans f0,(hb.frozen (p:=⟨B,1,none⟩) hB).trans f1,(hb.frozen (p:=⟨B,2,none⟩) hB).trans f2,(hb.frozen (p:=⟨B,3,none⟩) hB).trans f3⟩
theorem QOk.set0 {B:Nat} {q:Flt} {w:World} (h:QOk B q w) (z:Int):QOk B (z,q.2) (w.setCell ⟨B,0,none⟩ (.int .i64 z)):=by
 obtain⟨⟨h0,h1,h2,h3⟩,f0,f1,f2,f3⟩:=h
 exact⟨⟨by go_cell,by go_cell,by go_cell,by go_cell⟩,by go_cell,by go_cell,by go_cell,by go_cell⟩
theorem QOk.set1 {B:Nat} {q:Flt} {w:World} (h:QOk B q w) (z:Int):QOk B (q.1,z,q.2.2) (w.setCell ⟨B,1,none⟩ (.int .i64 z)):=by
 obtain⟨⟨h0,h1,h2,h3⟩,f0,f1,f2,f3⟩:=h
 exact⟨⟨by go_cell,by go_cell,by go_cell,by go_cell⟩,by go_cell,by go_cell,by go_cell,by go_cell⟩
theorem QOk.other {B C o:Nat} {q:Flt} {w:World} {v:Value} (h:QOk B q w) (hne:B≠C):QOk B q (w.setCell ⟨C,o,none⟩ v):=by
 obtain⟨⟨h0,h1,h2,h3⟩,f0,f1,f2,f3⟩:=h
 exact⟨⟨by go_cell,by go_cell,by go_cell,by go_cell⟩,by go_cell,by go_cell,by go_cell,by go_cell⟩
theorem zbq {w:World} {b:Nat} {x y z v:Value} (h0:w.cell? ⟨b,0,none⟩=some x) (h1:w.cell? ⟨b,1,none⟩=some y) (h2:w.cell? ⟨b,2,none⟩=some z) (h3:w.cell? ⟨b,3,none⟩=some v):w.rangeAt b 0 [x,y,z,v]:=by
 intro j u hj
 match j,hj with
 | 0,hj=>simpa [← hj] using h0
 | 1,hj=>simpa [← hj] using h1
 | 2,hj=>simpa [← hj] using h2
 | 3,hj=>simpa [← hj] using h3
def SaysQ (q:Flt) (w:World) (e:Ending) (w':World):Prop:=e=.returned (.agg #[.int .i64 q.1,.int .i64 q.2.1,.int .i64 q.2.2.1,.int .i64 q.2.2.2])∧Below w.heap.size w w'
def wiV (u:Bu) (S:Nat→Nat→Ls) (i:Nat):Flt:=match modO (u.M i) (S i) (mdT0 u) u.cl with | some r=>(r.2.2,(i:Int),r.1,r.2.1) | none=>(0,(i:Int), -1, -1)
theorem wiV_some {u:Bu} {S:Nat→Nat→Ls} {i:Nat} {k p z:Int} (h:modO (u.M i) (S i) (mdT0 u) u.cl=some (k,p,z)):wiV u S i=(z,(i:Int),k,p):=by unfold wiV;rw [h]
theorem wiV_none {u:Bu} {S:Nat→Nat→Ls} {i:Nat} (h:modO (u.M i) (S i) (mdT0 u) u.cl=none):wiV u S i=(0,(i:Int), -1, -1):=by unfold wiV;rw [h]
theorem bk_some {b:Bk} {s:Ls} {t0:Tri} {cl:Int} {last:Bool} (h:bkZ b s t0 cl last≠0):blkO b s t0 cl last=some (bkP b s t0 cl last,bkZ b s t0 cl last):=by
 unfold bkP bkZ at *
 cases hs:blkO b s t0 cl last with
 | none=>rw [hs] at h;exact absurd rfl h
 | some r=>rfl
theorem modO_go {m:Md} {S:Nat→Ls} {t0:Tri} {cl:Int} (h1:¬ m.n=0) (h2:¬ 6 < m.n):modO m S t0 cl=mdO m S t0 cl m.n:=by unfold modO;rw [if_neg h1,if_neg h2]
end CValid
end
end Go.Proofs.YtoffcaldhojjoaaDoor
