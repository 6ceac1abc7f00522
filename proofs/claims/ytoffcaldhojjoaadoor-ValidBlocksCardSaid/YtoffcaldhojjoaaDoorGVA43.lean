/- -/
import Derived.RangeFuncBox
import Derived.Test.YtoffcaldhojjoaaDoorGVA41
import Derived.Test.YtoffcaldhojjoaaDoorGVA42
open Nat (le_refl lt_of_succ_lt lt_succ_self)
set_option linter.unusedVariables false
set_option linter.unusedSimpArgs false
set_option maxRecDepth 100000
set_option maxHeartbeats 16000000
namespace Go.Proofs.YtoffcaldhojjoaaDoor
namespace CConv
end CConv
namespace CCost
end CCost
namespace CDense
end CDense
namespace CFix
end CFix
namespace CGraph
end CGraph
namespace CKind
end CKind
namespace CSat
end CSat
namespace CSpan
end CSpan
namespace CTensor
end CTensor
open Go Go.ChangeShapes Go.WideShapes Go.ChangeAt Go.RowKit Go.Deep
section
namespace CCost
open Plain CSat CFix CShape CTensor CConv CKind CGraph CDense CBund
/-! ### what a block costs, in one form -/
def BkAt (B:Nat) (b:Bk) (w:World):Prop:=w.cell? ⟨B,0,none⟩=some (.slice b.A b.n b.c)∧w.cell? ⟨B,1,none⟩=some (.bool b.ex)∧w.cell? ⟨B,2,none⟩=some (.slice b.hd.WA b.hd.nW b.hd.cW)∧w.cell? ⟨B,3,none⟩=some (.slice b.hd.BA b.hd.nB b.hd.cB)∧w.cell? ⟨B,4,none⟩=some (.int .i32 b.hd.D)
theorem BkAt.new (b:Bk) (T:TypeId) (w:World):BkAt w.heap.size b (w.alloc (.cells b.val.toArray T)):=⟨Kit.zal _ _ _ _,Kit.zal _ _ _ _,Kit.zal _ _ _ _,Kit.zal _ _ _ _,Kit.zal _ _ _ _⟩
theorem BkAt.below {B B':Nat} {b:Bk} {w w':World} (h:BkAt B b w) (hB:B < B') (hb:Below B' w w'):BkAt B b w' :=
 ⟨(hb.cell (p:=⟨B,0,none⟩) hB).trans h.1,(hb.cell (p:=⟨B,1,none⟩) hB).trans h.2.1,(hb.cell (p:=⟨B,2,none⟩) hB).trans h.2.2.1,(hb.cell (p:=⟨B,3,none⟩) hB).trans h.2.2.2.1,(hb.cell (p:=⟨B,4,none⟩) hB).trans h.2.2.2.2⟩
def uOne (b:Bk) (B1 B2:Nat):Bu:=⟨0,0,0,0,some ⟨B2,0,none⟩,1,1,fun _=>⟨some ⟨B1,0,none⟩,1,1,fun _=>b⟩⟩
theorem one_ok (b:Bk) (w:World) (hb:BkOk w w.heap.size b) (T T':TypeId) :
  BuOk ((w.alloc (.cells b.val.toArray T)).alloc (.cells #[.slice (some ⟨w.heap.size,0,none⟩) 1 1] T')) ((w.alloc (.cells b.val.toArray T)).alloc (.cells #[.slice (some ⟨w.heap.size,0,none⟩) 1 1] T')).heap.size (uOne b w.heap.size (w.heap.size+1)):=by
 have h1:Below w.heap.size w ((w.alloc (.cells b.val.toArray T)).alloc (.cells #[.slice (some ⟨w.heap.size,0,none⟩) 1 1] T')):=((Below.refl _ _).alloc (le_refl _) _).alloc (by simp) _
 have hm:MdOk ((w.alloc (.cells b.val.toArray T)).alloc (.cells #[.slice (some ⟨w.heap.size,0,none⟩) 1 1] T')) ((w.alloc (.cells b.val.toArray T)).alloc (.cells #[.slice (some ⟨w.heap.size,0,none⟩) 1 1] T')).heap.size ⟨some ⟨w.heap.size,0,none⟩,1,1,fun _=>b⟩:=by
  refine⟨⟨le_refl _,show (1:Nat)≤maxLen by decide⟩,?_,fun j hj=>(hb.below h1).more h1.size⟩
  intro j hj
  have hj':j < 1:=hj
  obtain rfl:j=0:=by omega
  refine⟨w.heap.size,0,rfl,by simp;omega,fun q v hq=>?_⟩
  have e:((w.alloc (.cells b.val.toArray T)).alloc (.cells #[.slice (some ⟨w.heap.size,0,none⟩) 1 1] T')).cell? ⟨w.heap.size,q,none⟩=(w.alloc (.cells b.val.toArray T)).cell? ⟨w.heap.size,q,none⟩ :=
   (((Below.refl (w.heap.size+1) (w.alloc (.cells b.val.toArray T))).alloc (by simp) _).cell (p:=⟨w.heap.size,q,none⟩) (lt_succ_self _))
  simp only [Nat.zero_mul,Nat.zero_add]
  rw [e,Kit.zal]
  simpa using hq
 have z0:(Lit.int .i64 0).wf=true:=by decide
 refine⟨⟨z0,z0,z0,z0⟩,⟨le_refl _,show (1:Nat)≤maxLen by decide⟩,?_,fun j _=>hm⟩
 intro j hj
 have hj':j < 1:=hj
 obtain rfl:j=0:=by omega
 refine⟨w.heap.size+1,0,rfl,by simp,fun q v hq=>?_⟩
 have e:=Kit.zal (w.alloc (.cells b.val.toArray T)) #[.slice (some ⟨w.heap.size,0,none⟩) 1 1] T' (0+0 * 1+q)
 rw [World.size_alloc] at e
 rw [e]
 have hq' : [Value.slice (some ⟨w.heap.size,0,none⟩) 1 1][q]?=some v:=hq
 simpa using hq'
def inT (m:Md) (t0:Tri):Nat→Tri
 | 0=>t0
 | k+1=>outT (m.K k).X (inT m t0 k) (m.K k).n
def mdT0 (u:Bu):Tri:=(u.H,u.W,u.C)
def InAt (B:Nat) (t:Tri) (w:World):Prop:=TriAt B t w∧w.frozen? ⟨B,0,none⟩=false∧w.frozen? ⟨B,1,none⟩=false∧w.frozen? ⟨B,2,none⟩=false
theorem InAt.new (t:Tri) (T:TypeId) (w:World):InAt w.heap.size t (w.alloc (.cells #[.int .i64 t.1,.int .i64 t.2.1,.int .i64 t.2.2] T)):=⟨TriAt.new t T w,World.frozen?_alloc_at _ _ _ _ rfl,World.frozen?_alloc_at _ _ _ _ rfl,World.frozen?_alloc_at _ _ _ _ rfl⟩
theorem InAt.below {B B':Nat} {t:Tri} {w w':World} (h:InAt B t w) (hB:B < B') (hb:Below B' w w'):InAt B t w' :=
 ⟨h.1.below hB hb,(hb.frozen (p:=⟨B,0,none⟩) hB).trans h.2.1,(hb.frozen (p:=⟨B,1,none⟩) hB).trans h.2.2.1,(hb.frozen (p:=⟨B,2,none⟩) hB).trans h.2.2.2⟩
theorem InAt.set {B:Nat} {t:Tri} {w:World} (h:InAt B t w) (s:Tri):InAt B s (((w.setCell ⟨B,0,none⟩ (.int .i64 s.1)).setCell ⟨B,1,none⟩ (.int .i64 s.2.1)).setCell ⟨B,2,none⟩ (.int .i64 s.2.2)):=by
 obtain⟨⟨h0,h1,h2⟩,f0,f1,f2⟩:=h
 exact⟨⟨by go_cell,by go_cell,by go_cell⟩,by go_cell,by go_cell,by go_cell⟩
def UAt (B:Nat) (u:Bu) (w:World):Prop:=w.cell? ⟨B,0,none⟩=some (.int .i64 u.H)∧w.cell? ⟨B,1,none⟩=some (.int .i64 u.W)∧w.cell? ⟨B,2,none⟩=some (.int .i64 u.C)∧w.cell? ⟨B,3,none⟩=some (.int .i64 u.cl)∧w.cell? ⟨B,4,none⟩=some (.slice u.A u.n u.c)
theorem UAt.new (u:Bu) (T:TypeId) (w:World):UAt w.heap.size u (w.alloc (.cells u.val.toArray T)):=⟨Kit.zal _ _ _ _,Kit.zal _ _ _ _,Kit.zal _ _ _ _,Kit.zal _ _ _ _,Kit.zal _ _ _ _⟩
theorem UAt.below {B B':Nat} {u:Bu} {w w':World} (h:UAt B u w) (hB:B < B') (hb:Below B' w w'):UAt B u w' :=
 ⟨(hb.cell (p:=⟨B,0,none⟩) hB).trans h.1,(hb.cell (p:=⟨B,1,none⟩) hB).trans h.2.1,(hb.cell (p:=⟨B,2,none⟩) hB).trans h.2.2.1,(hb.cell (p:=⟨B,3,none⟩) hB).trans h.2.2.2.1,(hb.cell (p:=⟨B,4,none⟩) hB).trans h.2.2.2.2⟩
theorem blk_cells {w:World} {B:Nat} {m:Md} (h:MdOk w B m) {k:Nat} (hk:k < m.n):∃ bb ob,m.A=some ⟨bb,ob,none⟩∧bb < B∧w.cell? ⟨bb,ob+k * 5,none⟩=some (.slice (m.K k).A (m.K k).n (m.K k).c)∧w.cell? ⟨bb,ob+k * 5+1,none⟩=some (.bool (m.K k).ex)∧w.cell? ⟨bb,ob+k * 5+2,none⟩=some (.slice (m.K k).hd.WA (m.K k).hd.nW (m.K k).hd.cW)∧w.cell? ⟨bb,ob+k * 5+3,none⟩=some (.slice (m.K k).hd.BA (m.K k).hd.nB (m.K k).hd.cB)∧w.cell? ⟨bb,ob+k * 5+4,none⟩=some (.int .i32 (m.K k).hd.D):=by
 obtain⟨bb,ob,e,hb,hr⟩:=h.blocks k hk
 exact⟨bb,ob,e,hb,hr 0 _ rfl,hr 1 _ rfl,hr 2 _ rfl,hr 3 _ rfl,hr 4 _ rfl⟩
theorem mod_cells {w:World} {B:Nat} {u:Bu} (h:BuOk w B u) {i:Nat} (hi:i < u.n):∃ bm om,u.A=some ⟨bm,om,none⟩∧bm < B∧w.cell? ⟨bm,om+i,none⟩=some (.slice (u.M i).A (u.M i).n (u.M i).c):=by
 obtain⟨bm,om,e,hb,hr⟩:=h.models i hi
 have:=hr 0 _ rfl
 exact⟨bm,om,e,hb,by simpa using this⟩
end CCost
end
section
namespace CValid
open Plain CSat CFix CShape CTensor CConv CSpan CKind CGraph CJoin CGuard CBund CCost CVerd
structure Ls where
 Q:Nat→List Int × List Int
 hw:List Int
 hb:List Int
def ls0:Ls:=⟨fun _=>([],[]),[],[]⟩
def ndw (b:Bk) (s:Ls) (j:Nat):NdW:=(b.X j,(s.Q j).1,(s.Q j).2)
structure LsOk (w:World) (B:Nat) (b:Bk) (s:Ls):Prop where
 nds:∀ j,j < b.n→NdL w B (b.X j) (s.Q j).1 (s.Q j).2
 lw:s.hw.length=b.hd.nW∧b.hd.nW≤b.hd.cW∧I8b s.hw
 lb:s.hb.length=b.hd.nB∧b.hd.nB≤b.hd.cB∧∀ q, -2147483648≤s.hb.getD q 0∧s.hb.getD q 0≤2147483647
 rw:Kit.Rd w B b.hd.WA (I8s s.hw)
 rb:Kit.Rd w B b.hd.BA (I32v s.hb)
theorem ndl_below {w w':World} {B:Nat} {x:Nd} {ws bs:List Int} (h:NdL w B x ws bs) (hb:Below B w w'):NdL w' B x ws bs :=
 ⟨NdOk.below h.ok hb,h.lw,h.lb,h.cw,h.iw,h.ib,h.rw.below hb,h.rb.below hb⟩
theorem ndl_more {w:World} {B B':Nat} {x:Nd} {ws bs:List Int} (h:NdL w B x ws bs) (hb:B≤B'):NdL w B' x ws bs :=
 ⟨NdOk.more h.ok hb,h.lw,h.lb,h.cw,h.iw,h.ib,h.rw.more hb,h.rb.more hb⟩
theorem LsOk.below {w w':World} {B:Nat} {b:Bk} {s:Ls} (h:LsOk w B b s) (hb:Below B w w'):LsOk w' B b s :=
 ⟨fun j hj=>ndl_below (h.nds j hj) hb,h.lw,h.lb,h.rw.below hb,h.rb.below hb⟩
theorem LsOk.more {w:World} {B B':Nat} {b:Bk} {s:Ls} (h:LsOk w B b s) (hb:B≤B'):LsOk w B' b s :=
 ⟨fun j hj=>ndl_more (h.nds j hj) hb,h.lw,h.lb,h.rw.more hb,h.rb.more hb⟩
theorem ls_of {w:World} {B:Nat} {b:Bk} (h:BkOk w B b):∃ s,LsOk w B b s:=by
 obtain⟨Q,hQ⟩:=choose_fnE (([],[]):List Int × List Int) (n:=b.n) (p:=fun j q=>NdL w B (b.X j) q.1 q.2) (fun j hj=>ndl_of (h.each j hj))
 obtain⟨-,⟨zs,a1,a2,a3,a4,a5⟩,⟨ys,b1,b2,b3,b4,b5⟩⟩:=h.head
 refine⟨⟨Q,zs,ys⟩,hQ,⟨a1,a2,?_⟩,⟨b1,b2,?_⟩,a5,b5⟩
 ·intro q
  by_cases hq:q < zs.length
  ·have e:zs.getD q 0=zs[q]:=by rw [List.getD_eq_getElem?_getD,List.getElem?_eq_getElem hq];rfl
   show -128≤zs.getD q 0∧zs.getD q 0≤127
   rw [e]
   simpa [Lit.wf,IntKind.min,IntKind.max,IntKind.signed,IntKind.bits] using a4 _ (List.getElem_mem hq)
  ·show -128≤zs.getD q 0∧zs.getD q 0≤127
   rw [List.getD_eq_getElem?_getD,List.getElem?_eq_none (Nat.le_of_not_lt hq)];exact⟨by decide,by decide⟩
 ·intro q
  by_cases hq:q < ys.length
  ·have e:ys.getD q 0=ys[q]:=by rw [List.getD_eq_getElem?_getD,List.getElem?_eq_getElem hq];rfl
   show -2147483648≤ys.getD q 0∧ys.getD q 0≤2147483647
   rw [e]
   simpa [Lit.wf,IntKind.min,IntKind.max,IntKind.signed,IntKind.bits] using b4 _ (List.getElem_mem hq)
  ·show -2147483648≤ys.getD q 0∧ys.getD q 0≤2147483647
   rw [List.getD_eq_getElem?_getD,List.getElem?_eq_none (Nat.le_of_not_lt hq)];exact⟨by decide,by decide⟩
def FewK (b:Bk):Prop:=b.n≤12∧(∀ j,j < b.n→(b.X j).nW≤1000∧(b.X j).nB≤100)∧b.hd.nW≤4000∧b.hd.nB≤100
def FewMd (m:Md):Prop:=m.n≤8∧∀ k,k < m.n→FewK (m.K k)
def FewBu (u:Bu):Prop:=u.n≤4∧∀ j,j < u.n→FewMd (u.M j)
/-! ### a block -/
abbrev rall:Rch:=(-128,127)
def outR (Y:Nat→NdW) (n:Nat):Rch:=(rcL Y rall n).getD n rch0
def told (h:Hd):Bool:=decide (0 < h.nW) || decide (0 < h.nB) || decide (h.D≠0)
def exZ (h:Hd) (ex:Bool) (s:Ls) (o:Tri) (r:Rch) (cl:Int) (last:Bool):Int :=
 if ex=false then (if (last || told h)=true then 11 else 0)
 else if verdE o.1 o.2.1 o.2.2 h.nW h.nB h.D cl≠0 then verdE o.1 o.2.1 o.2.2 h.nW h.nB h.D cl else headZ s.hw s.hb h.nW h.nB r.1 r.2
def blkO (b:Bk) (s:Ls) (t0:Tri) (cl:Int) (last:Bool):Option (Int × Int) :=
 match outS b.X t0 b.n with
 | some r=>some r
 | none=>match outG (ndw b s) rall b.n with
   | some r=>some r
   | none=>if exZ b.hd b.ex s (outT b.X t0 b.n) (outR (ndw b s) b.n) cl last=0 then none else some (-1,exZ b.hd b.ex s (outT b.X t0 b.n) (outR (ndw b s) b.n) cl last)
def bkP (b:Bk) (s:Ls) (t0:Tri) (cl:Int) (last:Bool):Int:=match blkO b s t0 cl last with | some r=>r.1 | none=>b.n
def bkZ (b:Bk) (s:Ls) (t0:Tri) (cl:Int) (last:Bool):Int:=match blkO b s t0 cl last with | some r=>r.2 | none=>0
theorem outG_nz {Y:Nat→NdW} {r0:Rch} {n:Nat} {k z:Int} (h:outG Y r0 n=some (k,z)):z≠0:=by
 unfold outG at h
 split at h
 ·cases h;decide
 ·split at h
  ·cases h;decide
  ·split at h
   ·cases h;decide
   ·have:∀ m,∀ q:Nat × Int,zbr Y r0 m=some q→q.2≠0:=by
     intro m
     induction m with
     | zero=>intro q hq;cases hq
     | succ m ih =>
       intro q hq
       rw [zbr] at hq
       cases hs:zbr Y r0 m with
       | some r=>rw [hs] at hq;cases hq;exact ih _ hs
       | none =>
         rw [hs] at hq
         by_cases hz:stopG (Y m) (rcL Y r0 m)=0
         ·simp [hz] at hq
         ·simp [hz] at hq;subst hq;exact hz
    cases hs:zbr Y r0 n with
    | none=>rw [hs] at h;cases h
    | some q=>rw [hs] at h;cases h;exact this n q hs
theorem blkO_nz {b:Bk} {s:Ls} {t0:Tri} {cl:Int} {last:Bool} {k z:Int} (h:blkO b s t0 cl last=some (k,z)):z≠0:=by
 unfold blkO at h
 split at h
 ·rename_i r hs;cases h;exact outS_nzC hs
 ·split at h
  ·rename_i r hs;cases h;exact outG_nz hs
  ·split at h
   ·cases h
   ·rename_i hz;cases h;exact hz
theorem bkZ_none {b:Bk} {s:Ls} {t0:Tri} {cl:Int} {last:Bool} (h:bkZ b s t0 cl last=0):blkO b s t0 cl last=none:=by
 unfold bkZ at h
 cases hs:blkO b s t0 cl last with
 | none=>rfl
 | some r=>rw [hs] at h;exact absurd h (blkO_nz (k:=r.1) hs)
/-! ### a model -/
def lastB (m:Md) (k:Nat):Bool:=decide (k+1=m.n)
def mdO (m:Md) (S:Nat→Ls) (t0:Tri) (cl:Int):Nat→Option (Int × Int × Int)
 | 0=>none
 | k+1=>match mdO m S t0 cl k with
   | some r=>some r
   | none=>(blkO (m.K k) (S k) (inT m t0 k) cl (lastB m k)).map fun r=>((k:Int),r.1,r.2)
theorem mdO_end {m:Md} {S:Nat→Ls} {t0:Tri} {cl:Int} {k n:Nat} (hk:k < n) (h:mdO m S t0 cl k=none) {p z:Int} (hz:blkO (m.K k) (S k) (inT m t0 k) cl (lastB m k)=some (p,z)):mdO m S t0 cl n=some ((k:Int),p,z):=by
 obtain⟨d,rfl⟩:∃ d,n=k+1+d:=⟨n - (k+1),by omega⟩
 clear hk
 induction d with
 | zero=>simp [mdO,h,hz]
 | succ d ih=>rw [show k+1+(d+1)=(k+1+d)+1 by omega,mdO,ih]
theorem mdO_go {m:Md} {S:Nat→Ls} {t0:Tri} {cl:Int} {k:Nat} (h:mdO m S t0 cl k=none) (hz:blkO (m.K k) (S k) (inT m t0 k) cl (lastB m k)=none):mdO m S t0 cl (k+1)=none:=by
 simp [mdO,h,hz]
theorem mdO_nz {m:Md} {S:Nat→Ls} {t0:Tri} {cl:Int} : ∀ {n:Nat} {k p z:Int},mdO m S t0 cl n=some (k,p,z)→z≠0
 | 0,k,p,z,h=>by cases h
 | n+1,k,p,z,h=>by
   rw [mdO] at h
   cases hs:mdO m S t0 cl n with
   | some r=>rw [hs] at h;cases h;exact mdO_nz hs
   | none =>
     rw [hs] at h
     cases hb:blkO (m.K n) (S n) (inT m t0 n) cl (lastB m n) with
     | none=>rw [hb] at h;cases h
     | some r=>rw [hb] at h;cases h;exact blkO_nz (k:=r.1) hb
def modO (m:Md) (S:Nat→Ls) (t0:Tri) (cl:Int):Option (Int × Int × Int) :=
 if m.n=0 then some (-1, -1,12) else if 6 < m.n then some (-1, -1,4) else mdO m S t0 cl m.n
theorem modO_nz {m:Md} {S:Nat→Ls} {t0:Tri} {cl:Int} {k p z:Int} (h:modO m S t0 cl=some (k,p,z)):z≠0:=by
 unfold modO at h
 split at h
 ·cases h;decide
 ·split at h
  ·cases h;decide
  ·exact mdO_nz h
/-! ### a bundle -/
def buO (u:Bu) (S:Nat→Nat→Ls):Nat→Option (Int × Int × Int × Int)
 | 0=>none
 | i+1=>match buO u S i with
   | some r=>some r
   | none=>(modO (u.M i) (S i) (mdT0 u) u.cl).map fun r=>((i:Int),r.1,r.2.1,r.2.2)
theorem buO_end {u:Bu} {S:Nat→Nat→Ls} {i n:Nat} (hi:i < n) (h:buO u S i=none) {k p z:Int} (hz:modO (u.M i) (S i) (mdT0 u) u.cl=some (k,p,z)):buO u S n=some ((i:Int),k,p,z):=by
 obtain⟨d,rfl⟩:∃ d,n=i+1+d:=⟨n - (i+1),by omega⟩
 clear hi
 induction d with
 | zero=>simp [buO,h,hz]
 | succ d ih=>rw [show i+1+(d+1)=(i+1+d)+1 by omega,buO,ih]
theorem buO_go {u:Bu} {S:Nat→Nat→Ls} {i:Nat} (h:buO u S i=none) (hz:modO (u.M i) (S i) (mdT0 u) u.cl=none):buO u S (i+1)=none:=by
 simp [buO,h,hz]
def zb1 (u:Bu):Int:=if zae u.H u.W u.C=false then 5 else if u.cl < 2∨16 < u.cl then 2 else if u.n=0 then 12 else if 3 < u.n then 4 else 0
def bunV (u:Bu) (S:Nat→Nat→Ls):Int × Int × Int × Int :=
 if zb1 u≠0 then (zb1 u, -1, -1, -1) else match buO u S u.n with
  | some r=>(r.2.2.2,r.1,r.2.1,r.2.2.1)
  | none=>(0,0,0,0)
/-! ### parts -/
end CValid
end
end Go.Proofs.YtoffcaldhojjoaaDoor
