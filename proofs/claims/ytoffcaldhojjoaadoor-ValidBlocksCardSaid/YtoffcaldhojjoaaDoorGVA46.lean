/- -/
import Derived.Test.YtoffcaldhojjoaaDoorGVA45
open Go.Lib (hid)
open Nat (le_refl lt_of_succ_lt lt_succ_self)
set_option linter.unusedVariables false
set_option linter.unusedSimpArgs false
set_option maxRecDepth 100000
set_option maxHeartbeats 16000000
namespace Go.Proofs.YtoffcaldhojjoaaDoor
namespace CConv
end CConv
namespace CCost
end CCost
namespace CFix
end CFix
namespace CGraph
end CGraph
namespace CKind
end CKind
namespace CSat
end CSat
namespace CSpan
end CSpan
namespace CTensor
end CTensor
open Go Go.ChangeShapes Go.WideShapes Go.ChangeAt Go.RowKit Go.Deep
section
namespace CValid
open Plain CSat CFix CShape CTensor CConv CSpan CKind CGraph CJoin CGuard CBund CCost CVerd
structure BkRdy (w:World) (b:Bk) (s:Ls):Prop where
 nodes:NodesAt w w.heap.size b.A b.n b.X
 ls:LsOk w w.heap.size b s
 few:FewK b
theorem BkRdy.below {w w':World} {b:Bk} {s:Ls} (h:BkRdy w b s) (hb:Below w.heap.size w w'):BkRdy w' b s :=
 ⟨(h.nodes.below hb).more hb.size,(h.ls.below hb).more hb.size,h.few⟩
theorem blk_a1 {b:Bk} {s:Ls} {t0:Tri} {cl:Int} {last:Bool} {k z:Int} (h:outS b.X t0 b.n=some (k,z)):bkP b s t0 cl last=k∧bkZ b s t0 cl last=z:=by
 unfold bkP bkZ blkO;rw [h];exact⟨rfl,rfl⟩
theorem blk_a2 {b:Bk} {s:Ls} {t0:Tri} {cl:Int} {last:Bool} {k z:Int} (h:outS b.X t0 b.n=none) (h2:outG (ndw b s) rall b.n=some (k,z)):bkP b s t0 cl last=k∧bkZ b s t0 cl last=z:=by
 unfold bkP bkZ blkO;rw [h,h2];exact⟨rfl,rfl⟩
theorem blk_a3 {b:Bk} {s:Ls} {t0:Tri} {cl:Int} {last:Bool} {o:Tri} {r:Rch} (h:outS b.X t0 b.n=none) (h2:outG (ndw b s) rall b.n=none) (ho:outT b.X t0 b.n=o) (hr:outR (ndw b s) b.n=r) {ez:Int} (he:exZ b.hd b.ex s o r cl last=ez) :
  (ez≠0→bkP b s t0 cl last = -1∧bkZ b s t0 cl last=ez)∧(ez=0→bkP b s t0 cl last=b.n∧bkZ b s t0 cl last=0):=by
 subst he ho hr
 unfold bkP bkZ blkO
 rw [h,h2]
 simp only []
 refine⟨fun hz=>?_,fun hz=>?_⟩
 ·rw [if_neg hz];exact⟨rfl,rfl⟩
 ·rw [if_pos hz];exact⟨rfl,rfl⟩
def Says (P Z:Int) (w:World) (e:Ending) (w':World):Prop:=e=.returned (.tuple #[.int .i64 P,.int .i64 Z])∧Below w.heap.size w w'
def SaysI (Z:Int) (w:World) (e:Ending) (w':World):Prop:=e=.returned (.int .i64 Z)∧Below w.heap.size w w'
theorem exz_no {h:Hd} {s:Ls} {o:Tri} {r:Rch} {cl:Int} {last:Bool} (ht:(last || told h)=true):exZ h false s o r cl last=11:=by unfold exZ;rw [if_pos rfl,if_pos ht]
theorem exz_none {h:Hd} {s:Ls} {o:Tri} {r:Rch} {cl:Int} {last:Bool} (ht:(last || told h)=false):exZ h false s o r cl last=0:=by unfold exZ;rw [if_pos rfl,if_neg (by rw [ht];decide)]
theorem exz_chk {h:Hd} {s:Ls} {o:Tri} {r:Rch} {cl:Int} {last:Bool} {cz:Int} (hc:verdE o.1 o.2.1 o.2.2 h.nW h.nB h.D cl=cz) (hz:cz≠0):exZ h true s o r cl last=cz:=by
 subst hc;unfold exZ;rw [if_neg (by decide),if_pos hz]
theorem exz_head {h:Hd} {s:Ls} {o:Tri} {r:Rch} {cl:Int} {last:Bool} (hc:verdE o.1 o.2.1 o.2.2 h.nW h.nB h.D cl=0):exZ h true s o r cl last=headZ s.hw s.hb h.nW h.nB r.1 r.2:=by
 unfold exZ;rw [if_neg (by decide),if_neg (by simpa using hc)]
theorem told_w {h:Hd} (q:0 < h.nW):told h=true:=by unfold told;simp [q]
theorem told_b {h:Hd} (q:0 < h.nB):told h=true:=by unfold told;simp [q]
theorem told_d {h:Hd} (q:¬ h.D=0):told h=true:=by unfold told;simp [q]
theorem told_no {h:Hd} (q1:h.nW=0) (q2:h.nB=0) (q3:h.D=0):told h=false:=by unfold told;simp [q1,q2,q3]
theorem ls_nd {w:World} {b:Bk} {s:Ls} (h:BkRdy w b s) {wx:World} (hb:Below w.heap.size w wx):∀ j,j < b.n→NdL wx wx.heap.size (ndw b s j).1 (ndw b s j).2.1 (ndw b s j).2.2∧(ndw b s j).1.nW≤20000∧(ndw b s j).1.nB≤20000 :=
 fun j hj=>⟨((h.below hb).ls).nds j hj,by have:(b.X j).nW≤1000∧(b.X j).nB≤100:=h.few.2.1 j hj;exact Nat.le_trans this.1 (by decide),by have:(b.X j).nW≤1000∧(b.X j).nB≤100:=h.few.2.1 j hj;exact Nat.le_trans this.2 (by decide)⟩
theorem rall_bd:RBd rall:=⟨⟨by decide,by decide⟩,by decide,by decide⟩
theorem rshp_at {w:World} {b:Bk} {s:Ls} (h:BkRdy w b s) (t0:Tri) {wx:World} (hb:Below w.heap.size w wx) :
  Calls Tryd.prog 13 #[.slice b.A b.n b.c,.agg #[.int .i64 t0.1,.int .i64 t0.2.1,.int .i64 t0.2.2]] wx (ShpPost b.X t0 b.n wx) :=
 rshapes_to b.X t0 b.n b.c (by have:=h.few.1;omega) b.A wx (h.below hb).nodes
theorem rflow_at {w:World} {b:Bk} {s:Ls} (h:BkRdy w b s) {wx:World} (hb:Below w.heap.size w wx) :
  Calls Tryd.prog 14 #[.slice b.A b.n b.c,.agg #[.int .i8 (-128),.int .i8 127]] wx (FlPost (ndw b s) rall b.n wx) :=
 rflow_to (ndw b s) rall rall_bd b.n b.c (by have:=h.few.1;omega) b.A wx (h.below hb).nodes (ls_nd h hb)
theorem rhead_at {w:World} {b:Bk} {s:Ls} (h:BkRdy w b s) {r:Rch} (hr:RBd r) {wx:World} (hb:Below w.heap.size w wx) :
  Calls Tryd.prog 16 #[.agg #[.slice b.hd.WA b.hd.nW b.hd.cW,.slice b.hd.BA b.hd.nB b.hd.cB,.int .i32 b.hd.D],.agg #[.int .i8 r.1,.int .i8 r.2]] wx (SaysI (headZ s.hw s.hb b.hd.nW b.hd.nB r.1 r.2) wx) :=
 have hh:=h.below hb
 rhead_to b.hd.WA b.hd.BA b.hd.nW b.hd.cW b.hd.nB b.hd.cB s.hw s.hb hh.ls.lw.1 hh.ls.lb.1 hh.ls.lw.2.2 hh.ls.lb.2.2 hh.ls.lw.2.1 hh.ls.lb.2.1 (by have:=h.few.2.2.1;omega) (by have:=h.few.2.2.2;omega) r.1 r.2 hr.1.1 hr.1.2 hr.2.1 hr.2.2 b.hd.D wx hh.ls.rw hh.ls.rb
theorem cshp_at {w:World} {b:Bk} {s:Ls} (h:BkRdy w b s) (hT:zan w) (t0:Tri) {wx:World} (hb:Below w.heap.size w wx) :
  Calls Tryd.prog 19 #[.slice b.A b.n b.c,.agg #[.int .i64 t0.1,.int .i64 t0.2.1,.int .i64 t0.2.2]] wx (ShpPost b.X t0 b.n wx) :=
 cshapes_to b.X t0 b.n b.c (by have:=h.few.1;omega) b.A wx (hT.grown hb) (fun j hj=>node_small (h.ls.nds j hj).ok) (h.below hb).nodes
theorem cflow_at {w:World} {b:Bk} {s:Ls} (h:BkRdy w b s) (hT:zan w) {wx:World} (hb:Below w.heap.size w wx) :
  Calls Tryd.prog 20 #[.slice b.A b.n b.c,.agg #[.int .i8 (-128),.int .i8 127]] wx (FcPost (ndw b s) rall b.n wx) :=
 cflow_to (ndw b s) rall rall_bd b.n b.c (by have:=h.few.1;omega) b.A wx (hT.grown hb) (fun j hj=>node_small (h.ls.nds j hj).ok) (h.below hb).nodes (ls_nd h hb)
theorem chead_at {w:World} {b:Bk} {s:Ls} (h:BkRdy w b s) {r:Rch} (hr:RBd r) {wx:World} (hb:Below w.heap.size w wx) :
  Calls Tryd.prog 38 #[.agg #[.slice b.hd.WA b.hd.nW b.hd.cW,.slice b.hd.BA b.hd.nB b.hd.cB,.int .i32 b.hd.D],.agg #[.int .i8 r.1,.int .i8 r.2]] wx (SaysI (headZ s.hw s.hb b.hd.nW b.hd.nB r.1 r.2) wx) :=
 have hh:=h.below hb
 chead_to b.hd.WA b.hd.BA b.hd.nW b.hd.cW b.hd.nB b.hd.cB s.hw s.hb hh.ls.lw.1 hh.ls.lb.1 hh.ls.lw.2.2 hh.ls.lb.2.2 hh.ls.lw.2.1 hh.ls.lb.2.1 (by have:=h.few.2.2.1;omega) (by have:=h.few.2.2.2;omega) r.1 r.2 hr.1.1 hr.1.2 hr.2.1 hr.2.2 b.hd.D wx hh.ls.rw hh.ls.rb
theorem outR_bd {w:World} {B:Nat} {b:Bk} {s:Ls} (h:LsOk w B b s) {r:Rch} (hr:(rcL (ndw b s) rall b.n)[b.n]?=some r):RBd r :=
 rcL_bd (ndw b s) rall rall_bd b.n (fun j hj=>⟨w,B,(h.nds j hj).ok⟩) b.n r hr
structure BuRdy (w:World) (u:Bu) (S:Nat→Nat→Ls):Prop where
 ok:BuOk w w.heap.size u
 ls:∀ i,i < u.n→∀ k,k < (u.M i).n→LsOk w w.heap.size ((u.M i).K k) (S i k)
 few:FewBu u
theorem BuRdy.below {w w':World} {u:Bu} {S:Nat→Nat→Ls} (h:BuRdy w u S) (hb:Below w.heap.size w w'):BuRdy w' u S :=
 ⟨(h.ok.below hb).more hb.size,fun i hi k hk=>((h.ls i hi k hk).below hb).more hb.size,h.few⟩
theorem BuRdy.blk {w:World} {u:Bu} {S:Nat→Nat→Ls} (h:BuRdy w u S) {i:Nat} (hi:i < u.n) {k:Nat} (hk:k < (u.M i).n):BkRdy w ((u.M i).K k) (S i k) :=
 ⟨((h.ok.each i hi).each k hk).nodes,h.ls i hi k hk,(h.few.2 i hi).2 k hk⟩
/-! ### faults -/
abbrev Flt:=Int × Int × Int × Int
def QAt (B:Nat) (q:Flt) (w:World):Prop:=w.cell? ⟨B,0,none⟩=some (.int .i64 q.1)∧w.cell? ⟨B,1,none⟩=some (.int .i64 q.2.1)∧w.cell? ⟨B,2,none⟩=some (.int .i64 q.2.2.1)∧w.cell? ⟨B,3,none⟩=some (.int .i64 q.2.2.2)
def QOk (B:Nat) (q:Flt) (w:World):Prop:=QAt B q w∧w.frozen? ⟨B,0,none⟩=false∧w.frozen? ⟨B,1,none⟩=false∧w.frozen? ⟨B,2,none⟩=false∧w.frozen? ⟨B,3,none⟩=false
theorem QOk.new (q:Flt) (T:TypeId) (w:World):QOk w.heap.size q (w.alloc (.cells #[.int .i64 q.1,.int .i64 q.2.1,.int .i64 q.2.2.1,.int .i64 q.2.2.2] T)) :=
 ⟨⟨Kit.zal _ _ _ _,Kit.zal _ _ _ _,Kit.zal _ _ _ _,Kit.zal _ _ _ _⟩,World.frozen?_alloc_at _ _ _ _ rfl,World.frozen?_alloc_at _ _ _ _ rfl,World.frozen?_alloc_at _ _ _ _ rfl,World.frozen?_alloc_at _ _ _ _ rfl⟩
theorem QOk.below {B B':Nat} {q:Flt} {w w':World} (h:QOk B q w) (hB:B < B') (hb:Below B' w w'):QOk B q w':=by
 obtain⟨⟨h0,h1,h2,h3⟩,f0,f1,f2,f3⟩:=h
 exact⟨⟨(hb.cell (p:=⟨B,0,none⟩) hB).trans h0,(hb.cell (p:=⟨B,1,none⟩) hB).trans h1,(hb.cell (p:=⟨B,2,none⟩) hB).trans h2,(hb.cell (p:=⟨B,3,none⟩) hB).trans h3⟩,
  (hb.frozen (p:=⟨B,0,none⟩) hB).trans f0,(hb.frozen (p:=⟨B,1,none⟩) hB).trans f1,(hb.frozen (p:=⟨B,2,none⟩) hB).trans f2,(hb.frozen (p:=⟨B,3,none⟩) hB).trans f3⟩
theorem QOk.set0 {B:Nat} {q:Flt} {w:World} (h:QOk B q w) (z:Int):QOk B (z,q.2) (w.setCell ⟨B,0,none⟩ (.int .i64 z)):=by
 obtain⟨⟨h0,h1,h2,h3⟩,f0,f1,f2,f3⟩:=h
 exact⟨⟨by go_cell,by go_cell,by go_cell,by go_cell⟩,by go_cell,by go_cell,by go_cell,by go_cell⟩
theorem QOk.set1 {B:Nat} {q:Flt} {w:World} (h:QOk B q w) (z:Int):QOk B (q.1,z,q.2.2) (w.setCell ⟨B,1,none⟩ (.int .i64 z)):=by
 obtain⟨⟨h0,h1,h2,h3⟩,f0,f1,f2,f3⟩:=h
 exact⟨⟨by go_cell,by go_cell,by go_cell,by go_cell⟩,by go_cell,by go_cell,by go_cell,by go_cell⟩
theorem QOk.other {B C o:Nat} {q:Flt} {w:World} {v:Value} (h:QOk B q w) (hne:B≠C):QOk B q (w.setCell ⟨C,o,none⟩ v):=by
 obtain⟨⟨h0,h1,h2,h3⟩,f0,f1,f2,f3⟩:=h
 exact⟨⟨by go_cell,by go_cell,by go_cell,by go_cell⟩,by go_cell,by go_cell,by go_cell,by go_cell⟩
theorem zck {w:World} {b:Nat} {x y z v:Value} (h0:w.cell? ⟨b,0,none⟩=some x) (h1:w.cell? ⟨b,1,none⟩=some y) (h2:w.cell? ⟨b,2,none⟩=some z) (h3:w.cell? ⟨b,3,none⟩=some v):w.rangeAt b 0 [x,y,z,v]:=by
 intro j u hj
 match j,hj with
 | 0,hj=>simpa [← hj] using h0
 | 1,hj=>simpa [← hj] using h1
 | 2,hj=>simpa [← hj] using h2
 | 3,hj=>simpa [← hj] using h3
def SaysQ (q:Flt) (w:World) (e:Ending) (w':World):Prop:=e=.returned (.agg #[.int .i64 q.1,.int .i64 q.2.1,.int .i64 q.2.2.1,.int .i64 q.2.2.2])∧Below w.heap.size w w'
def wiV (u:Bu) (S:Nat→Nat→Ls) (i:Nat):Flt:=match modO (u.M i) (S i) (mdT0 u) u.cl with | some r=>(r.2.2,(i:Int),r.1,r.2.1) | none=>(0,(i:Int), -1, -1)
theorem wiV_some {u:Bu} {S:Nat→Nat→Ls} {i:Nat} {k p z:Int} (h:modO (u.M i) (S i) (mdT0 u) u.cl=some (k,p,z)):wiV u S i=(z,(i:Int),k,p):=by unfold wiV;rw [h]
theorem wiV_none {u:Bu} {S:Nat→Nat→Ls} {i:Nat} (h:modO (u.M i) (S i) (mdT0 u) u.cl=none):wiV u S i=(0,(i:Int), -1, -1):=by unfold wiV;rw [h]
theorem bk_some {b:Bk} {s:Ls} {t0:Tri} {cl:Int} {last:Bool} (h:bkZ b s t0 cl last≠0):blkO b s t0 cl last=some (bkP b s t0 cl last,bkZ b s t0 cl last):=by
 unfold bkP bkZ at *
 cases hs:blkO b s t0 cl last with
 | none=>rw [hs] at h;exact absurd rfl h
 | some r=>rfl
theorem modO_go {m:Md} {S:Nat→Ls} {t0:Tri} {cl:Int} (h1:¬ m.n=0) (h2:¬ 6 < m.n):modO m S t0 cl=mdO m S t0 cl m.n:=by unfold modO;rw [if_neg h1,if_neg h2]
def mnZ (n:Nat):Int:=if n=0 then 12 else if 6 < n then 4 else 0
theorem many_to (A:Option Addr) (n c:Nat) (w:World):Calls Tryd.prog 31 #[.slice A n c] w fun e w'=>e=.returned (.int .i64 (mnZ n))∧Below w.heap.size w w':=by
 by_cases h0:n=0
 ·subst h0
  go_enter Tryd.func31,Tryd.ntmps31
  go_wp2_with fail
  go_ret
  exact⟨rfl,Below.refl _ _⟩
 ·have h1:((n:Int) == 0)=false:=by simp;omega
  have h1b:¬ (n:Int)=0:=by omega
  by_cases h2:6 < n
  ·have h3:(n:Int) > 6:=by omega
   have h4:decide ((6:Int) < (n:Int))=true:=by simp;omega
   have h5:decide (6 < n)=true:=by simp [h2]
   have hz:mnZ n=4:=by unfold mnZ;rw [if_neg h0,if_pos h2]
   rw [hz]
   clear hz h0 h2
   go_enter Tryd.func31,Tryd.ntmps31
   go_wp2_with fail
   go_ret
   exact⟨rfl,Below.refl _ _⟩
  ·have h3:¬ (n:Int) > 6:=by omega
   have h4:decide ((6:Int) < (n:Int))=false:=by simp;omega
   have h5:decide (6 < n)=false:=by simp;omega
   have hz:mnZ n=0:=by unfold mnZ;rw [if_neg h0,if_neg h2]
   rw [hz]
   clear hz h0 h2
   go_enter Tryd.func31,Tryd.ntmps31
   go_wp2_with fail
   go_ret
   exact⟨rfl,Below.refl _ _⟩
theorem outside_to (u:Bu) (w:World):Calls Tryd.prog 17 #[.agg u.val.toArray] w fun e w'=>e=.returned (.int .i64 (zb1 u))∧Below w.heap.size w w':=by
 have HB0:=hid ((Below.refl w.heap.size w).alloc (le_refl _) (.cells u.val.toArray 37))
 have HU:=hid (UAt.new u 37 w)
 have HL:Hid (w.heap.size < (w.alloc (.cells u.val.toArray 37)).heap.size):=hid (by simp)
 obtain⟨sb,hsb⟩:∃ sb,zae u.H u.W u.C=sb:=⟨_,rfl⟩
 have CR:=hid (fun wx:World=>zaw u.H u.W u.C sb hsb wx)
 have hz:zb1 u=if sb=false then 5 else if u.cl < 2∨16 < u.cl then 2 else if u.n=0 then 12 else if 3 < u.n then 4 else 0:=by unfold zb1;rw [hsb]
 have HZ:=hid hz
 clear hsb hz
 go_enter Tryd.func17,Tryd.ntmps17
 go_upto_region 1 with fail
 generalize w.alloc (.cells u.val.toArray 37)=W0 at HB0 HU HL ⊢
 obtain⟨c0,c1,c2,c3,c4⟩:=HU.out
 cases sb with
 | false =>
   have HE:Hid (zb1 u=5):=hid (by rw [HZ.out];rfl)
   go_wp2_with (go_at_call 30;(refine (CR.out _).mono ?_);rintro e w1 ⟨rfl,hb⟩;(have HB1:=hid (HB0.out.trans (hb.mono HB0.out.size)));(have HU1:=hid (HU.out.below HL.out hb));clear hb c0 c1 c2 c3 c4;obtain⟨c0,c1,c2,c3,c4⟩:=HU1.out)
   go_ret
   exact⟨by rw [HE.out];first | done | rfl,HB1.out⟩
 | true =>
   have hz2:zb1 u=if u.cl < 2∨16 < u.cl then 2 else if u.n=0 then 12 else if 3 < u.n then 4 else 0:=by rw [HZ.out];rfl
   have HZ2:=hid hz2
   clear hz2 HZ
   by_cases h1:u.cl < 2
   ·have h1b:decide (u.cl < 2)=true:=by simp [h1]
    have HE:Hid (zb1 u=2):=hid (by rw [HZ2.out,if_pos (.inl h1)])
    go_wp2_with (go_at_call 30;(refine (CR.out _).mono ?_);rintro e w1 ⟨rfl,hb⟩;(have HB1:=hid (HB0.out.trans (hb.mono HB0.out.size)));(have HU1:=hid (HU.out.below HL.out hb));clear hb c0 c1 c2 c3 c4;obtain⟨c0,c1,c2,c3,c4⟩:=HU1.out)
    go_ret
    exact⟨by rw [HE.out];first | done | rfl,HB1.out⟩
   ·have h1b:decide (u.cl < 2)=false:=by simp;omega
    by_cases h2:16 < u.cl
    ·have h2a:u.cl > 16:=h2
     have h2b:decide (16 < u.cl)=true:=by simp [h2]
     have HE:Hid (zb1 u=2):=hid (by rw [HZ2.out,if_pos (.inr h2)])
     go_wp2_with (go_at_call 30;(refine (CR.out _).mono ?_);rintro e w1 ⟨rfl,hb⟩;(have HB1:=hid (HB0.out.trans (hb.mono HB0.out.size)));(have HU1:=hid (HU.out.below HL.out hb));clear hb c0 c1 c2 c3 c4;obtain⟨c0,c1,c2,c3,c4⟩:=HU1.out)
     go_ret
     exact⟨by rw [HE.out];first | done | rfl,HB1.out⟩
    ·have h2a:¬ u.cl > 16:=h2
     have h2b:decide (16 < u.cl)=false:=by simp;omega
     have hz3:zb1 u=if u.n=0 then 12 else if 3 < u.n then 4 else 0:=by rw [HZ2.out,if_neg (by omega)]
     have HZ3:=hid hz3
     clear hz3 HZ2
     by_cases h3:u.n=0
     ·have HE:Hid (zb1 u=12):=hid (by rw [HZ3.out,if_pos h3])
      go_wp2_with (go_at_call 30;(refine (CR.out _).mono ?_);rintro e w1 ⟨rfl,hb⟩;(have HB1:=hid (HB0.out.trans (hb.mono HB0.out.size)));(have HU1:=hid (HU.out.below HL.out hb));clear hb c0 c1 c2 c3 c4;obtain⟨c0,c1,c2,c3,c4⟩:=HU1.out)
      go_ret
      exact⟨by rw [HE.out];first | done | rfl,HB1.out⟩
     ·have h3a:((u.n:Int) == 0)=false:=by simp;omega
      have h3b:¬ (u.n:Int)=0:=by omega
      by_cases h4:3 < u.n
      ·have h4a:(u.n:Int) > 3:=by omega
       have h4b:decide ((3:Int) < (u.n:Int))=true:=by simp;omega
       have h4c:decide (3 < u.n)=true:=by simp [h4]
       have HE:Hid (zb1 u=4):=hid (by rw [HZ3.out,if_neg h3,if_pos h4])
       clear h3 h4
       go_wp2_with (go_at_call 30;(refine (CR.out _).mono ?_);rintro e w1 ⟨rfl,hb⟩;(have HB1:=hid (HB0.out.trans (hb.mono HB0.out.size)));(have HU1:=hid (HU.out.below HL.out hb));clear hb c0 c1 c2 c3 c4;obtain⟨c0,c1,c2,c3,c4⟩:=HU1.out)
       go_ret
       exact⟨by rw [HE.out];first | done | rfl,HB1.out⟩
      ·have h4a:¬ (u.n:Int) > 3:=by omega
       have h4b:decide ((3:Int) < (u.n:Int))=false:=by simp;omega
       have h4c:decide (3 < u.n)=false:=by simp;omega
       have HE:Hid (zb1 u=0):=hid (by rw [HZ3.out,if_neg h3,if_neg h4])
       clear h3 h4
       go_wp2_with (go_at_call 30;(refine (CR.out _).mono ?_);rintro e w1 ⟨rfl,hb⟩;(have HB1:=hid (HB0.out.trans (hb.mono HB0.out.size)));(have HU1:=hid (HU.out.below HL.out hb));clear hb c0 c1 c2 c3 c4;obtain⟨c0,c1,c2,c3,c4⟩:=HU1.out)
       go_ret
       exact⟨by rw [HE.out];first | done | rfl,HB1.out⟩
theorem used_to (h:Hd) (w:World):Calls Tryd.prog 36 #[.agg #[.slice h.WA h.nW h.cW,.slice h.BA h.nB h.cB,.int .i32 h.D]] w fun e w'=>e=.returned (.bool (told h))∧Below w.heap.size w w':=by
 have HB0:=hid ((Below.refl w.heap.size w).alloc (le_refl _) (.cells #[.slice h.WA h.nW h.cW,.slice h.BA h.nB h.cB,.int .i32 h.D] 26))
 have HG:=hid (headGNew h.WA h.BA h.nW h.cW h.nB h.cB h.D 26 w)
 go_enter Tryd.func36,Tryd.ntmps36
 go_upto_region 1 with fail
 generalize w.alloc (.cells #[.slice h.WA h.nW h.cW,.slice h.BA h.nB h.cB,.int .i32 h.D] 26)=W0 at HB0 HG ⊢
 obtain⟨k0,k1,k2⟩:=HG.out
 by_cases w1:0 < h.nW
 ·have HTO:=hid (told_w w1)
  have ga:(h.nW:Int) > 0:=by omega
  have gb:decide ((0:Int) < (h.nW:Int))=true:=by simp;omega
  have gc:decide (0 < h.nW)=true:=by simp;omega
  clear w1
  go_wp2_with fail
  go_ret
  exact⟨by rw [HTO.out];first | done | rfl,HB0.out⟩
 have w0:h.nW=0:=by omega
 have ga:¬ (h.nW:Int) > 0:=by omega
 have gb:decide ((0:Int) < (h.nW:Int))=false:=by simp;omega
 have gc:decide (0 < h.nW)=false:=by simp;omega
 by_cases w2:0 < h.nB
 ·have HTO:=hid (told_b w2)
  have fa:(h.nB:Int) > 0:=by omega
  have fb:decide ((0:Int) < (h.nB:Int))=true:=by simp;omega
  have fc:decide (0 < h.nB)=true:=by simp;omega
  clear w2
  go_wp2_with fail
  go_ret
  exact⟨by rw [HTO.out];first | done | rfl,HB0.out⟩
 have w4:h.nB=0:=by omega
 have fa:¬ (h.nB:Int) > 0:=by omega
 have fb:decide ((0:Int) < (h.nB:Int))=false:=by simp;omega
 have fc:decide (0 < h.nB)=false:=by simp;omega
 by_cases w5:h.D=0
 ·have HTO:=hid (told_no w0 w4 w5)
  have d1:(h.D != 0)=false:=by simp [w5]
  go_wp2_with fail
  go_ret
  exact⟨by rw [HTO.out];first | done | rfl,HB0.out⟩
 ·have HTO:=hid (told_d w5)
  have d1:(h.D != 0)=true:=by simp [w5]
  go_wp2_with fail
  go_ret
  exact⟨by rw [HTO.out];first | done | rfl,HB0.out⟩
theorem vexit_to (b:Bk) (s:Ls) (o:Tri) (r:Rch) (hr:RBd r) (cl:Int) (last:Bool) (w:World) (h:BkRdy w b s) :
  Calls Tryd.prog 21 #[.agg b.val.toArray,.agg #[.int .i64 o.1,.int .i64 o.2.1,.int .i64 o.2.2],.agg #[.int .i8 r.1,.int .i8 r.2],.int .i64 cl,.bool last] w (SaysI (exZ b.hd b.ex s o r cl last) w):=by
 obtain⟨cz,hcz⟩:∃ cz,verdE o.1 o.2.1 o.2.2 b.hd.nW b.hd.nB b.hd.D cl=cz:=⟨_,rfl⟩
 obtain⟨hz,hhz⟩:∃ hz,headZ s.hw s.hb b.hd.nW b.hd.nB r.1 r.2=hz:=⟨_,rfl⟩
 have CU:=hid (fun (wx:World)=>used_to b.hd wx)
 have CK:=hid (fun (wx:World)=>chk_to o.1 o.2.1 o.2.2 b.hd.WA b.hd.BA b.hd.nW b.hd.cW b.hd.nB b.hd.cB b.hd.D cl cz hcz wx)
 have CH:Hid (∀ wx,Below w.heap.size w wx→Calls Tryd.prog 38 #[.agg #[.slice b.hd.WA b.hd.nW b.hd.cW,.slice b.hd.BA b.hd.nB b.hd.cB,.int .i32 b.hd.D],.agg #[.int .i8 r.1,.int .i8 r.2]] wx (SaysI hz wx)):=hid (fun wx hb=>by have q:=chead_at h hr hb;rw [hhz] at q;exact q)
 obtain⟨ez,hez⟩:∃ ez,exZ b.hd b.ex s o r cl last=ez:=⟨_,rfl⟩
 rw [hez]
 have HE1:=hid (fun (q:b.ex=false) (t:(last || told b.hd)=true)=>(show ez=11 by rw [← hez,q];exact exz_no t))
 have HE2:=hid (fun (q:b.ex=false) (t:(last || told b.hd)=false)=>(show ez=0 by rw [← hez,q];exact exz_none t))
 have HE3:=hid (fun (q:b.ex=true) (t:cz≠0)=>(show ez=cz by rw [← hez,q];exact exz_chk hcz t))
 have HE4:=hid (fun (q:b.ex=true) (t:cz=0)=>(show ez=hz by rw [← hez,q, ← hhz];exact exz_head (hcz.trans t)))
 obtain⟨td,htd⟩:∃ td,told b.hd=td:=⟨_,rfl⟩
 rw [htd] at CU HE1 HE2
 have b3:Below (w.heap.size+2) ((w.alloc (.cells b.val.toArray 28)).alloc (.cells #[.int .i64 o.1,.int .i64 o.2.1,.int .i64 o.2.2] 30)) (((w.alloc (.cells b.val.toArray 28)).alloc (.cells #[.int .i64 o.1,.int .i64 o.2.1,.int .i64 o.2.2] 30)).alloc (.cells #[.int .i8 r.1,.int .i8 r.2] 75)):=(Below.refl _ _).alloc (by simp) _
 have b2:Below (w.heap.size+1) (w.alloc (.cells b.val.toArray 28)) (((w.alloc (.cells b.val.toArray 28)).alloc (.cells #[.int .i64 o.1,.int .i64 o.2.1,.int .i64 o.2.2] 30)).alloc (.cells #[.int .i8 r.1,.int .i8 r.2] 75)):=((Below.refl _ _).alloc (by simp) _).trans (b3.mono (by omega))
 have b1:Below w.heap.size w (((w.alloc (.cells b.val.toArray 28)).alloc (.cells #[.int .i64 o.1,.int .i64 o.2.1,.int .i64 o.2.2] 30)).alloc (.cells #[.int .i8 r.1,.int .i8 r.2] 75)):=((Below.refl _ _).alloc (le_refl _) _).trans (b2.mono (by omega))
 have HB0:=hid b1
 have HK:=hid ((BkAt.new b 28 w).below (lt_succ_self _) b2)
 have q2:=TriAt.new o 30 (w.alloc (.cells b.val.toArray 28))
 have q3:=zcd r.1 r.2 75 ((w.alloc (.cells b.val.toArray 28)).alloc (.cells #[.int .i64 o.1,.int .i64 o.2.1,.int .i64 o.2.2] 30))
 simp only [World.size_alloc] at q2 q3
 have HO:=hid (q2.below (lt_succ_self _) b3)
 have HR:=hid q3
 have HSZ:Hid (w.heap.size+3≤(((w.alloc (.cells b.val.toArray 28)).alloc (.cells #[.int .i64 o.1,.int .i64 o.2.1,.int .i64 o.2.2] 30)).alloc (.cells #[.int .i8 r.1,.int .i8 r.2] 75)).heap.size):=hid (by simp)
 clear b1 b2 b3 q2 q3 h hcz hhz hez htd
 go_enter Tryd.func21,Tryd.ntmps21
 go_upto_region 1 with fail
 generalize ((w.alloc (.cells b.val.toArray 28)).alloc (.cells #[.int .i64 o.1,.int .i64 o.2.1,.int .i64 o.2.2] 30)).alloc (.cells #[.int .i8 r.1,.int .i8 r.2] 75)=W0 at HK HO HR HB0 HSZ ⊢
 obtain⟨k0,k1,k2,k3,k4⟩:=HK.out
 obtain⟨o0,o1,o2⟩:=HO.out
 obtain⟨r0,r1⟩:=HR.out
 cases hex:b.ex with
 | false =>
   rw [hex] at k1
   cases last with
   | true =>
     have HE:=hid (HE1.out hex rfl)
     clear HE1 HE2 HE3 HE4 hex CU CK CH
     go_wp2_with fail
     go_ret
     exact⟨by rw [HE.out];first | done | rfl,HB0.out⟩
   | false =>
     cases td with
     | true =>
       have HE:=hid (HE1.out hex rfl)
       clear HE1 HE2 HE3 HE4 hex CK CH
       go_wp2_with (go_at_call 36;(refine (CU.out _).mono ?_);rintro e w1 ⟨rfl,hb⟩;have HB1:=hid (HB0.out.trans (hb.mono HB0.out.size));clear hb)
       go_ret
       exact⟨by rw [HE.out];first | done | rfl,HB1.out⟩
     | false =>
       have HE:=hid (HE2.out hex rfl)
       clear HE1 HE2 HE3 HE4 hex CK CH
       go_wp2_with (go_at_call 36;(refine (CU.out _).mono ?_);rintro e w1 ⟨rfl,hb⟩;have HB1:=hid (HB0.out.trans (hb.mono HB0.out.size));clear hb)
       go_ret
       exact⟨by rw [HE.out];first | done | rfl,HB1.out⟩
 | true =>
   rw [hex] at k1
   by_cases hc:cz=0
   ·have HE:=hid (HE4.out hex hc)
    clear HE1 HE2 HE3 HE4 hex CU
    subst hc
    go_wp2_with (first
     | (go_at_call 37
        refine (CK.out _).mono ?_
        rintro e w1 ⟨rfl,hb⟩
        have HB1:=hid (HB0.out.trans (hb.mono HB0.out.size))
        have HK1:=hid (HK.out.below (B':=W0.heap.size) (by have:=HSZ.out;omega) hb)
        have HR1:=hid (HR.out.below (B':=W0.heap.size) (by have:=HSZ.out;omega) hb)
        clear hb k0 k1 k2 k3 k4 o0 o1 o2 r0 r1
        obtain⟨k0,k1,k2,k3,k4⟩:=HK1.out
        obtain⟨r0,r1⟩:=HR1.out)
     | (go_at_call 38
        refine (CH.out _ HB1.out).mono ?_
        rintro e w2 ⟨rfl,hb⟩
        have HB2:=hid (HB1.out.trans (hb.mono HB1.out.size))
        clear hb))
    go_ret
    exact⟨by rw [HE.out];first | done | rfl,HB2.out⟩
   ·have hz2:(cz != 0)=true:=by simpa using hc
    have HE:=hid (HE3.out hex hc)
    clear HE1 HE2 HE3 HE4 hex CU CH hc
    go_wp2_with (go_at_call 37;(refine (CK.out _).mono ?_);rintro e w1 ⟨rfl,hb⟩;have HB1:=hid (HB0.out.trans (hb.mono HB0.out.size));clear hb)
    go_ret
    exact⟨by rw [HE.out];first | done | rfl,HB1.out⟩
end CValid
end
end Go.Proofs.YtoffcaldhojjoaaDoor
