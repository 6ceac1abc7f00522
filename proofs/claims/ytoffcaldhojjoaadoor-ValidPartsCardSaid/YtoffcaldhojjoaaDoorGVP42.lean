/- -/
import Derived.Test.YtoffcaldhojjoaaDoorGVP40
import Derived.Test.YtoffcaldhojjoaaDoorGVP41
open Nat (le_refl lt_of_succ_lt lt_succ_self)
set_option linter.unusedVariables false
set_option linter.unusedSimpArgs false
set_option maxRecDepth 100000
set_option maxHeartbeats 16000000
namespace Go.Proofs.YtoffcaldhojjoaaDoor
namespace CConv
end CConv
namespace CCost
end CCost
namespace CFix
end CFix
namespace CGraph
end CGraph
namespace CGuard
end CGuard
namespace CJoin
end CJoin
namespace CKind
end CKind
namespace CSat
end CSat
namespace CShape
end CShape
namespace CSpan
end CSpan
namespace CTensor
end CTensor
open Go Go.ChangeShapes Go.WideShapes Go.ChangeAt Go.RowKit Go.Deep
section
namespace CValid
open Plain CSat CFix CShape CTensor CConv CSpan CKind CGraph CJoin CGuard CBund CCost CVerd
structure Ls where
 Q:Nat→List Int × List Int
 hw:List Int
 hb:List Int
def ls0:Ls:=⟨fun _=>([],[]),[],[]⟩
def ndw (b:Bk) (s:Ls) (j:Nat):NdW:=(b.X j,(s.Q j).1,(s.Q j).2)
structure LsOk (w:World) (B:Nat) (b:Bk) (s:Ls):Prop where
 nds:∀ j,j < b.n→NdL w B (b.X j) (s.Q j).1 (s.Q j).2
 lw:s.hw.length=b.hd.nW∧b.hd.nW≤b.hd.cW∧I8b s.hw
 lb:s.hb.length=b.hd.nB∧b.hd.nB≤b.hd.cB∧∀ q, -2147483648≤s.hb.getD q 0∧s.hb.getD q 0≤2147483647
 rw:Kit.Rd w B b.hd.WA (I8s s.hw)
 rb:Kit.Rd w B b.hd.BA (I32v s.hb)
theorem ndl_below {w w':World} {B:Nat} {x:Nd} {ws bs:List Int} (h:NdL w B x ws bs) (hb:Below B w w'):NdL w' B x ws bs :=
 ⟨NdOk.below h.ok hb,h.lw,h.lb,h.cw,h.iw,h.ib,h.rw.below hb,h.rb.below hb⟩
theorem ndl_more {w:World} {B B':Nat} {x:Nd} {ws bs:List Int} (h:NdL w B x ws bs) (hb:B≤B'):NdL w B' x ws bs :=
 ⟨NdOk.more h.ok hb,h.lw,h.lb,h.cw,h.iw,h.ib,h.rw.more hb,h.rb.more hb⟩
theorem LsOk.below {w w':World} {B:Nat} {b:Bk} {s:Ls} (h:LsOk w B b s) (hb:Below B w w'):LsOk w' B b s :=
 ⟨fun j hj=>ndl_below (h.nds j hj) hb,h.lw,h.lb,h.rw.below hb,h.rb.below hb⟩
theorem LsOk.more {w:World} {B B':Nat} {b:Bk} {s:Ls} (h:LsOk w B b s) (hb:B≤B'):LsOk w B' b s :=
 ⟨fun j hj=>ndl_more (h.nds j hj) hb,h.lw,h.lb,h.rw.more hb,h.rb.more hb⟩
theorem ls_of {w:World} {B:Nat} {b:Bk} (h:BkOk w B b):∃ s,LsOk w B b s:=by
 obtain⟨Q,hQ⟩:=choose_fnE (([],[]):List Int × List Int) (n:=b.n) (p:=fun j q=>NdL w B (b.X j) q.1 q.2) (fun j hj=>ndl_of (h.each j hj))
 obtain⟨-,⟨zs,a1,a2,a3,a4,a5⟩,⟨ys,b1,b2,b3,b4,b5⟩⟩:=h.head
 refine⟨⟨Q,zs,ys⟩,hQ,⟨a1,a2,?_⟩,⟨b1,b2,?_⟩,a5,b5⟩
 ·intro q
  by_cases hq:q < zs.length
  ·have e:zs.getD q 0=zs[q]:=by rw [List.getD_eq_getElem?_getD,List.getElem?_eq_getElem hq];rfl
   show -128≤zs.getD q 0∧zs.getD q 0≤127
   rw [e]
   simpa [Lit.wf,IntKind.min,IntKind.max,IntKind.signed,IntKind.bits] using a4 _ (List.getElem_mem hq)
  ·show -128≤zs.getD q 0∧zs.getD q 0≤127
   rw [List.getD_eq_getElem?_getD,List.getElem?_eq_none (Nat.le_of_not_lt hq)];exact⟨by decide,by decide⟩
 ·intro q
  by_cases hq:q < ys.length
  ·have e:ys.getD q 0=ys[q]:=by rw [List.getD_eq_getElem?_getD,List.getElem?_eq_getElem hq];rfl
   show -2147483648≤ys.getD q 0∧ys.getD q 0≤2147483647
   rw [e]
   simpa [Lit.wf,IntKind.min,IntKind.max,IntKind.signed,IntKind.bits] using b4 _ (List.getElem_mem hq)
  ·show -2147483648≤ys.getD q 0∧ys.getD q 0≤2147483647
   rw [List.getD_eq_getElem?_getD,List.getElem?_eq_none (Nat.le_of_not_lt hq)];exact⟨by decide,by decide⟩
def FewK (b:Bk):Prop:=b.n≤12∧(∀ j,j < b.n→(b.X j).nW≤1000∧(b.X j).nB≤100)∧b.hd.nW≤4000∧b.hd.nB≤100
def FewMd (m:Md):Prop:=m.n≤8∧∀ k,k < m.n→FewK (m.K k)
def FewBu (u:Bu):Prop:=u.n≤4∧∀ j,j < u.n→FewMd (u.M j)
/-! ### a block -/
abbrev rall:Rch:=(-128,127)
def outR (Y:Nat→NdW) (n:Nat):Rch:=(rcL Y rall n).getD n rch0
def told (h:Hd):Bool:=decide (0 < h.nW) || decide (0 < h.nB) || decide (h.D≠0)
def exZ (h:Hd) (ex:Bool) (s:Ls) (o:Tri) (r:Rch) (cl:Int) (last:Bool):Int :=
 if ex=false then (if (last || told h)=true then 11 else 0)
 else if verdE o.1 o.2.1 o.2.2 h.nW h.nB h.D cl≠0 then verdE o.1 o.2.1 o.2.2 h.nW h.nB h.D cl else headZ s.hw s.hb h.nW h.nB r.1 r.2
def blkO (b:Bk) (s:Ls) (t0:Tri) (cl:Int) (last:Bool):Option (Int × Int) :=
 match outS b.X t0 b.n with
 | some r=>some r
 | none=>match outG (ndw b s) rall b.n with
   | some r=>some r
   | none=>if exZ b.hd b.ex s (outT b.X t0 b.n) (outR (ndw b s) b.n) cl last=0 then none else some (-1,exZ b.hd b.ex s (outT b.X t0 b.n) (outR (ndw b s) b.n) cl last)
def bkP (b:Bk) (s:Ls) (t0:Tri) (cl:Int) (last:Bool):Int:=match blkO b s t0 cl last with | some r=>r.1 | none=>b.n
def bkZ (b:Bk) (s:Ls) (t0:Tri) (cl:Int) (last:Bool):Int:=match blkO b s t0 cl last with | some r=>r.2 | none=>0
theorem outG_nz {Y:Nat→NdW} {r0:Rch} {n:Nat} {k z:Int} (h:outG Y r0 n=some (k,z)):z≠0:=by
 unfold outG at h
 split at h
 ·cases h;decide
 ·split at h
  ·cases h;decide
  ·split at h
   ·cases h;decide
   ·have:∀ m,∀ q:Nat × Int,zbf Y r0 m=some q→q.2≠0:=by
     intro m
     induction m with
     | zero=>intro q hq;cases hq
     | succ m ih =>
       intro q hq
       rw [zbf] at hq
       cases hs:zbf Y r0 m with
       | some r=>rw [hs] at hq;cases hq;exact ih _ hs
       | none =>
         rw [hs] at hq
         by_cases hz:stopG (Y m) (rcL Y r0 m)=0
         ·simp [hz] at hq
         ·simp [hz] at hq;subst hq;exact hz
    cases hs:zbf Y r0 n with
    | none=>rw [hs] at h;cases h
    | some q=>rw [hs] at h;cases h;exact this n q hs
theorem blkO_nz {b:Bk} {s:Ls} {t0:Tri} {cl:Int} {last:Bool} {k z:Int} (h:blkO b s t0 cl last=some (k,z)):z≠0:=by
 unfold blkO at h
 split at h
 ·rename_i r hs;cases h;exact outS_nzC hs
 ·split at h
  ·rename_i r hs;cases h;exact outG_nz hs
  ·split at h
   ·cases h
   ·rename_i hz;cases h;exact hz
theorem bkZ_none {b:Bk} {s:Ls} {t0:Tri} {cl:Int} {last:Bool} (h:bkZ b s t0 cl last=0):blkO b s t0 cl last=none:=by
 unfold bkZ at h
 cases hs:blkO b s t0 cl last with
 | none=>rfl
 | some r=>rw [hs] at h;exact absurd h (blkO_nz (k:=r.1) hs)
/-! ### a model -/
def lastB (m:Md) (k:Nat):Bool:=decide (k+1=m.n)
def mdO (m:Md) (S:Nat→Ls) (t0:Tri) (cl:Int):Nat→Option (Int × Int × Int)
 | 0=>none
 | k+1=>match mdO m S t0 cl k with
   | some r=>some r
   | none=>(blkO (m.K k) (S k) (inT m t0 k) cl (lastB m k)).map fun r=>((k:Int),r.1,r.2)
theorem mdO_end {m:Md} {S:Nat→Ls} {t0:Tri} {cl:Int} {k n:Nat} (hk:k < n) (h:mdO m S t0 cl k=none) {p z:Int} (hz:blkO (m.K k) (S k) (inT m t0 k) cl (lastB m k)=some (p,z)):mdO m S t0 cl n=some ((k:Int),p,z):=by
 obtain⟨d,rfl⟩:∃ d,n=k+1+d:=⟨n - (k+1),by omega⟩
 clear hk
 induction d with
 | zero=>simp [mdO,h,hz]
 | succ d ih=>rw [show k+1+(d+1)=(k+1+d)+1 by omega,mdO,ih]
theorem mdO_go {m:Md} {S:Nat→Ls} {t0:Tri} {cl:Int} {k:Nat} (h:mdO m S t0 cl k=none) (hz:blkO (m.K k) (S k) (inT m t0 k) cl (lastB m k)=none):mdO m S t0 cl (k+1)=none:=by
 simp [mdO,h,hz]
theorem mdO_at {m:Md} {S:Nat→Ls} {t0:Tri} {cl:Int} : ∀ {n k:Nat},k < n→mdO m S t0 cl n=none→blkO (m.K k) (S k) (inT m t0 k) cl (lastB m k)=none
 | n+1,k,hk,h=>by
   rw [mdO] at h
   cases hs:mdO m S t0 cl n with
   | some r=>rw [hs] at h;cases h
   | none =>
     rw [hs] at h
     rcases (show k < n∨k=n by omega) with hlt | rfl
     ·exact mdO_at hlt hs
     ·cases hb:blkO (m.K k) (S k) (inT m t0 k) cl (lastB m k) with
      | none=>rfl
      | some r=>rw [hb] at h;cases h
theorem mdO_nz {m:Md} {S:Nat→Ls} {t0:Tri} {cl:Int} : ∀ {n:Nat} {k p z:Int},mdO m S t0 cl n=some (k,p,z)→z≠0
 | 0,k,p,z,h=>by cases h
 | n+1,k,p,z,h=>by
   rw [mdO] at h
   cases hs:mdO m S t0 cl n with
   | some r=>rw [hs] at h;cases h;exact mdO_nz hs
   | none =>
     rw [hs] at h
     cases hb:blkO (m.K n) (S n) (inT m t0 n) cl (lastB m n) with
     | none=>rw [hb] at h;cases h
     | some r=>rw [hb] at h;cases h;exact blkO_nz (k:=r.1) hb
def modO (m:Md) (S:Nat→Ls) (t0:Tri) (cl:Int):Option (Int × Int × Int) :=
 if m.n=0 then some (-1, -1,12) else if 6 < m.n then some (-1, -1,4) else mdO m S t0 cl m.n
theorem modO_nz {m:Md} {S:Nat→Ls} {t0:Tri} {cl:Int} {k p z:Int} (h:modO m S t0 cl=some (k,p,z)):z≠0:=by
 unfold modO at h
 split at h
 ·cases h;decide
 ·split at h
  ·cases h;decide
  ·exact mdO_nz h
/-! ### a bundle -/
def buO (u:Bu) (S:Nat→Nat→Ls):Nat→Option (Int × Int × Int × Int)
 | 0=>none
 | i+1=>match buO u S i with
   | some r=>some r
   | none=>(modO (u.M i) (S i) (mdT0 u) u.cl).map fun r=>((i:Int),r.1,r.2.1,r.2.2)
theorem buO_end {u:Bu} {S:Nat→Nat→Ls} {i n:Nat} (hi:i < n) (h:buO u S i=none) {k p z:Int} (hz:modO (u.M i) (S i) (mdT0 u) u.cl=some (k,p,z)):buO u S n=some ((i:Int),k,p,z):=by
 obtain⟨d,rfl⟩:∃ d,n=i+1+d:=⟨n - (i+1),by omega⟩
 clear hi
 induction d with
 | zero=>simp [buO,h,hz]
 | succ d ih=>rw [show i+1+(d+1)=(i+1+d)+1 by omega,buO,ih]
theorem buO_go {u:Bu} {S:Nat→Nat→Ls} {i:Nat} (h:buO u S i=none) (hz:modO (u.M i) (S i) (mdT0 u) u.cl=none):buO u S (i+1)=none:=by
 simp [buO,h,hz]
theorem buO_at {u:Bu} {S:Nat→Nat→Ls} : ∀ {n i:Nat},i < n→buO u S n=none→modO (u.M i) (S i) (mdT0 u) u.cl=none
 | n+1,i,hi,h=>by
   rw [buO] at h
   cases hs:buO u S n with
   | some r=>rw [hs] at h;cases h
   | none =>
     rw [hs] at h
     rcases (show i < n∨i=n by omega) with hlt | rfl
     ·exact buO_at hlt hs
     ·cases hb:modO (u.M i) (S i) (mdT0 u) u.cl with
      | none=>rfl
      | some r=>rw [hb] at h;cases h
theorem buO_nz {u:Bu} {S:Nat→Nat→Ls} : ∀ {n:Nat} {i k p z:Int},buO u S n=some (i,k,p,z)→z≠0
 | 0,i,k,p,z,h=>by cases h
 | n+1,i,k,p,z,h=>by
   rw [buO] at h
   cases hs:buO u S n with
   | some r=>rw [hs] at h;cases h;exact buO_nz hs
   | none =>
     rw [hs] at h
     cases hb:modO (u.M n) (S n) (mdT0 u) u.cl with
     | none=>rw [hb] at h;cases h
     | some r=>rw [hb] at h;cases h;exact modO_nz (k:=r.1) (p:=r.2.1) hb
def za0 (u:Bu):Int:=if zad u.H u.W u.C=false then 5 else if u.cl < 2∨16 < u.cl then 2 else if u.n=0 then 12 else if 3 < u.n then 4 else 0
def bunV (u:Bu) (S:Nat→Nat→Ls):Int × Int × Int × Int :=
 if za0 u≠0 then (za0 u, -1, -1, -1) else match buO u S u.n with
  | some r=>(r.2.2.2,r.1,r.2.1,r.2.2.1)
  | none=>(0,0,0,0)
theorem bunV_ok {u:Bu} {S:Nat→Nat→Ls} : (bunV u S).1=0↔za0 u=0∧buO u S u.n=none:=by
 unfold bunV
 by_cases h:za0 u=0
 ·rw [if_neg (by simpa using h)]
  cases hs:buO u S u.n with
  | none=>simp [h]
  | some r=>simp [h];exact buO_nz (i:=r.1) (k:=r.2.1) (p:=r.2.2.1) hs
 ·rw [if_pos h];simp [h]
/-! ### parts -/
def partU (u:Bu) (i q:Nat) (A:Option Addr):Bu:=⟨u.H,u.W,u.C,u.cl,A,1,1,fun _=>⟨(u.M i).A,q,(u.M i).c,(u.M i).K⟩⟩
theorem inT_part (m:Md) (t0:Tri) (q:Nat):∀ k,inT ⟨m.A,q,m.c,m.K⟩ t0 k=inT m t0 k
 | 0=>rfl
 | k+1=>by rw [inT,inT,inT_part m t0 q k]
theorem exZ_last {h:Hd} {s:Ls} {o:Tri} {r:Rch} {cl:Int} {l l':Bool} : exZ h true s o r cl l=exZ h true s o r cl l':=by unfold exZ;simp
theorem blk_last {b:Bk} {s:Ls} {t0:Tri} {cl:Int} {l:Bool} (h:blkO b s t0 cl l=none):(blkO b s t0 cl true=none↔b.ex=true):=by
 unfold blkO at h ⊢
 cases hS:outS b.X t0 b.n with
 | some r=>rw [hS] at h;cases h
 | none =>
   rw [hS] at h
   simp only [] at h ⊢
   cases hG:outG (ndw b s) rall b.n with
   | some r=>rw [hG] at h;cases h
   | none =>
     rw [hG] at h
     simp only [] at h ⊢
     cases hx:b.ex with
     | true =>
       rw [hx] at h
       rw [exZ_last (l':=l)]
       simp [h]
     | false=>simp [exZ]
theorem part_whole {u:Bu} {S:Nat→Nat→Ls} (h:(bunV u S).1=0) {i:Nat} (hi:i < u.n) (A:Option Addr) (m:Md) (hm:u.M i=m) :
  (bunV (partU u i m.n A) (fun _=>S i)).1=0:=by
 subst hm
 obtain⟨h1,h2⟩:=bunV_ok.1 h
 have h3:=buO_at hi h2
 refine bunV_ok.2 ⟨?_,?_⟩
 ·unfold za0 at h1 ⊢
  unfold partU
  simp only []
  repeat' split at h1
  all_goals first | (exfalso;omega) | (simp_all) | skip
 ·show buO (partU u i (u.M i).n A) (fun _=>S i) 1=none
  rw [buO,buO]
  show ((modO ((partU u i (u.M i).n A).M 0) (S i) (mdT0 (partU u i (u.M i).n A)) (partU u i (u.M i).n A).cl).map _)=none
  have e:(partU u i (u.M i).n A).M 0=u.M i:=rfl
  rw [e,show mdT0 (partU u i (u.M i).n A)=mdT0 u from rfl,show (partU u i (u.M i).n A).cl=u.cl from rfl,h3]
  rfl
theorem mdO_part {m:Md} {S:Nat→Ls} {t0:Tri} {cl:Int} {n q:Nat} (h:mdO m S t0 cl n=none) (hn:n=m.n):∀ k,k < q→q≤n→mdO ⟨m.A,q,m.c,m.K⟩ S t0 cl k=none
 | 0,_,_=>rfl
 | k+1,hk,hq=>by
   refine mdO_go (mdO_part h hn k (by omega) hq) ?_
   rw [inT_part]
   have h1:=mdO_at (k:=k) (by omega) h
   rw [show lastB m k=false by unfold lastB;simp;omega] at h1
   rw [show lastB ⟨m.A,q,m.c,m.K⟩ k=false by unfold lastB;simp;omega]
   exact h1
theorem part_first {u:Bu} {S:Nat→Nat→Ls} (h:(bunV u S).1=0) {i k:Nat} (hi:i < u.n) (A:Option Addr) (m:Md) (hm:u.M i=m) (hk:k < m.n) :
  ((bunV (partU u i (k+1) A) (fun _=>S i)).1=0↔(m.K k).ex=true):=by
 subst hm
 obtain⟨h1,h2⟩:=bunV_ok.1 h
 have h3:=buO_at hi h2
 have h4:¬ (u.M i).n=0∧¬ 6 < (u.M i).n∧mdO (u.M i) (S i) (mdT0 u) u.cl (u.M i).n=none:=by
  unfold modO at h3
  split at h3
  ·cases h3
  ·split at h3
   ·cases h3
   ·exact⟨by assumption,by assumption,h3⟩
 obtain⟨-,h5,h6⟩:=h4
 have hz:za0 (partU u i (k+1) A)=0:=by
  unfold za0 at h1 ⊢
  unfold partU
  simp only []
  repeat' split at h1
  all_goals first | (exfalso;omega) | (simp_all) | skip
 have hlast:mdO ⟨(u.M i).A,k+1,(u.M i).c,(u.M i).K⟩ (S i) (mdT0 u) u.cl (k+1)=(blkO ((u.M i).K k) (S i k) (inT (u.M i) (mdT0 u) k) u.cl true).map fun r=>((k:Int),r.1,r.2):=by
  rw [mdO,mdO_part h6 rfl k (lt_succ_self _) (by omega),inT_part]
  simp [lastB]
 have hb:buO (partU u i (k+1) A) (fun _=>S i) 1=(modO ⟨(u.M i).A,k+1,(u.M i).c,(u.M i).K⟩ (S i) (mdT0 u) u.cl).map fun r=>(((0:Nat):Int),r.1,r.2.1,r.2.2):=rfl
 have hm:modO ⟨(u.M i).A,k+1,(u.M i).c,(u.M i).K⟩ (S i) (mdT0 u) u.cl=(blkO ((u.M i).K k) (S i k) (inT (u.M i) (mdT0 u) k) u.cl true).map fun r=>((k:Int),r.1,r.2):=by
  unfold modO
  rw [if_neg (by simp),if_neg (by simp;omega)]
  exact hlast
 rw [bunV_ok,hz,show (partU u i (k+1) A).n=1 from rfl,hb,hm, ← blk_last (mdO_at hk h6)]
 cases blkO ((u.M i).K k) (S i k) (inT (u.M i) (mdT0 u) k) u.cl true <;> simp
end CValid
end
end Go.Proofs.YtoffcaldhojjoaaDoor
