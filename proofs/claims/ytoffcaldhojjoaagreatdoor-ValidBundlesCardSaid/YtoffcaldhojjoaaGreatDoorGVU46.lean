/- -/
import Derived.Test.YtoffcaldhojjoaaGreatDoorGVU44
open Go.Lib (hid)
open Nat (le_refl lt_of_succ_lt lt_succ_self)
set_option linter.unusedVariables false
set_option linter.unusedSimpArgs false
set_option maxRecDepth 100000
set_option maxHeartbeats 16000000
namespace Go.Proofs.YtoffcaldhojjoaaGreatDoor
namespace CConv
end CConv
namespace CCost
end CCost
namespace CFix
end CFix
namespace CGraph
end CGraph
namespace CKind
end CKind
namespace CSat
end CSat
namespace CSpan
end CSpan
namespace CTensor
end CTensor
open Go Go.ChangeShapes Go.WideShapes Go.ChangeAt Go.RowKit Go.Deep
section
namespace CValid
open Plain CSat CFix CShape CTensor CConv CSpan CKind CGraph CJoin CGuard CBund CCost CVerd
structure Ls where
 Q:Nat→List Int × List Int
 hw:List Int
 hb:List Int
def ls0:Ls:=⟨fun _=>([],[]),[],[]⟩
def ndw (b:Bk) (s:Ls) (j:Nat):NdW:=(b.X j,(s.Q j).1,(s.Q j).2)
structure LsOk (w:World) (B:Nat) (b:Bk) (s:Ls):Prop where
 nds:∀ j,j < b.n→NdL w B (b.X j) (s.Q j).1 (s.Q j).2
 lw:s.hw.length=b.hd.nW∧b.hd.nW≤b.hd.cW∧I8b s.hw
 lb:s.hb.length=b.hd.nB∧b.hd.nB≤b.hd.cB∧∀ q, -2147483648≤s.hb.getD q 0∧s.hb.getD q 0≤2147483647
 rw:Kit.Rd w B b.hd.WA (I8s s.hw)
 rb:Kit.Rd w B b.hd.BA (I32v s.hb)
theorem ndl_below {w w':World} {B:Nat} {x:Nd} {ws bs:List Int} (h:NdL w B x ws bs) (hb:Below B w w'):NdL w' B x ws bs :=
 ⟨NdOk.below h.ok hb,h.lw,h.lb,h.cw,h.iw,h.ib,h.rw.below hb,h.rb.below hb⟩
theorem ndl_more {w:World} {B B':Nat} {x:Nd} {ws bs:List Int} (h:NdL w B x ws bs) (hb:B≤B'):NdL w B' x ws bs :=
 ⟨NdOk.more h.ok hb,h.lw,h.lb,h.cw,h.iw,h.ib,h.rw.more hb,h.rb.more hb⟩
theorem LsOk.below {w w':World} {B:Nat} {b:Bk} {s:Ls} (h:LsOk w B b s) (hb:Below B w w'):LsOk w' B b s :=
 ⟨fun j hj=>ndl_below (h.nds j hj) hb,h.lw,h.lb,h.rw.below hb,h.rb.below hb⟩
theorem LsOk.more {w:World} {B B':Nat} {b:Bk} {s:Ls} (h:LsOk w B b s) (hb:B≤B'):LsOk w B' b s :=
 ⟨fun j hj=>ndl_more (h.nds j hj) hb,h.lw,h.lb,h.rw.more hb,h.rb.more hb⟩
theorem ls_of {w:World} {B:Nat} {b:Bk} (h:BkOk w B b):∃ s,LsOk w B b s:=by
 obtain⟨Q,hQ⟩:=choose_fnE (([],[]):List Int × List Int) (n:=b.n) (p:=fun j q=>NdL w B (b.X j) q.1 q.2) (fun j hj=>ndl_of (h.each j hj))
 obtain⟨-,⟨zs,a1,a2,a3,a4,a5⟩,⟨ys,b1,b2,b3,b4,b5⟩⟩:=h.head
 refine⟨⟨Q,zs,ys⟩,hQ,⟨a1,a2,?_⟩,⟨b1,b2,?_⟩,a5,b5⟩
 ·intro q
  by_cases hq:q < zs.length
  ·have e:zs.getD q 0=zs[q]:=by rw [List.getD_eq_getElem?_getD,List.getElem?_eq_getElem hq];rfl
   show -128≤zs.getD q 0∧zs.getD q 0≤127
   rw [e]
   simpa [Lit.wf,IntKind.min,IntKind.max,IntKind.signed,IntKind.bits] using a4 _ (List.getElem_mem hq)
  ·show -128≤zs.getD q 0∧zs.getD q 0≤127
   rw [List.getD_eq_getElem?_getD,List.getElem?_eq_none (Nat.le_of_not_lt hq)];exact⟨by decide,by decide⟩
 ·intro q
  by_cases hq:q < ys.length
  ·have e:ys.getD q 0=ys[q]:=by rw [List.getD_eq_getElem?_getD,List.getElem?_eq_getElem hq];rfl
   show -2147483648≤ys.getD q 0∧ys.getD q 0≤2147483647
   rw [e]
   simpa [Lit.wf,IntKind.min,IntKind.max,IntKind.signed,IntKind.bits] using b4 _ (List.getElem_mem hq)
  ·show -2147483648≤ys.getD q 0∧ys.getD q 0≤2147483647
   rw [List.getD_eq_getElem?_getD,List.getElem?_eq_none (Nat.le_of_not_lt hq)];exact⟨by decide,by decide⟩
def FewK (b:Bk):Prop:=b.n≤12∧(∀ j,j < b.n→(b.X j).nW≤1000∧(b.X j).nB≤100)∧b.hd.nW≤4000∧b.hd.nB≤100
def FewMd (m:Md):Prop:=m.n≤8∧∀ k,k < m.n→FewK (m.K k)
def FewBu (u:Bu):Prop:=u.n≤4∧∀ j,j < u.n→FewMd (u.M j)
/-! ### a block -/
abbrev rall:Rch:=(-128,127)
def outR (Y:Nat→NdW) (n:Nat):Rch:=(rcL Y rall n).getD n rch0
def told (h:Hd):Bool:=decide (0 < h.nW) || decide (0 < h.nB) || decide (h.D≠0)
def exZ (h:Hd) (ex:Bool) (s:Ls) (o:Tri) (r:Rch) (cl:Int) (last:Bool):Int :=
 if ex=false then (if (last || told h)=true then 11 else 0)
 else if verdE o.1 o.2.1 o.2.2 h.nW h.nB h.D cl≠0 then verdE o.1 o.2.1 o.2.2 h.nW h.nB h.D cl else headZ s.hw s.hb h.nW h.nB r.1 r.2
def blkO (b:Bk) (s:Ls) (t0:Tri) (cl:Int) (last:Bool):Option (Int × Int) :=
 match outS b.X t0 b.n with
 | some r=>some r
 | none=>match outG (ndw b s) rall b.n with
   | some r=>some r
   | none=>if exZ b.hd b.ex s (outT b.X t0 b.n) (outR (ndw b s) b.n) cl last=0 then none else some (-1,exZ b.hd b.ex s (outT b.X t0 b.n) (outR (ndw b s) b.n) cl last)
def bkP (b:Bk) (s:Ls) (t0:Tri) (cl:Int) (last:Bool):Int:=match blkO b s t0 cl last with | some r=>r.1 | none=>b.n
def bkZ (b:Bk) (s:Ls) (t0:Tri) (cl:Int) (last:Bool):Int:=match blkO b s t0 cl last with | some r=>r.2 | none=>0
theorem outG_nz {Y:Nat→NdW} {r0:Rch} {n:Nat} {k z:Int} (h:outG Y r0 n=some (k,z)):z≠0:=by
 unfold outG at h
 split at h
 ·cases h;decide
 ·split at h
  ·cases h;decide
  ·split at h
   ·cases h;decide
   ·have:∀ m,∀ q:Nat × Int,zbu Y r0 m=some q→q.2≠0:=by
     intro m
     induction m with
     | zero=>intro q hq;cases hq
     | succ m ih =>
       intro q hq
       rw [zbu] at hq
       cases hs:zbu Y r0 m with
       | some r=>rw [hs] at hq;cases hq;exact ih _ hs
       | none =>
         rw [hs] at hq
         by_cases hz:stopG (Y m) (rcL Y r0 m)=0
         ·simp [hz] at hq
         ·simp [hz] at hq;subst hq;exact hz
    cases hs:zbu Y r0 n with
    | none=>rw [hs] at h;cases h
    | some q=>rw [hs] at h;cases h;exact this n q hs
theorem blkO_nz {b:Bk} {s:Ls} {t0:Tri} {cl:Int} {last:Bool} {k z:Int} (h:blkO b s t0 cl last=some (k,z)):z≠0:=by
 unfold blkO at h
 split at h
 ·rename_i r hs;cases h;exact outS_nzC hs
 ·split at h
  ·rename_i r hs;cases h;exact outG_nz hs
  ·split at h
   ·cases h
   ·rename_i hz;cases h;exact hz
theorem bkZ_none {b:Bk} {s:Ls} {t0:Tri} {cl:Int} {last:Bool} (h:bkZ b s t0 cl last=0):blkO b s t0 cl last=none:=by
 unfold bkZ at h
 cases hs:blkO b s t0 cl last with
 | none=>rfl
 | some r=>rw [hs] at h;exact absurd h (blkO_nz (k:=r.1) hs)
theorem blkO_out {b:Bk} {s:Ls} {t0:Tri} {cl:Int} {last:Bool} (h:blkO b s t0 cl last=none):outS b.X t0 b.n=none:=by
 unfold blkO at h
 split at h
 ·cases h
 ·assumption
/-! ### a model -/
def lastB (m:Md) (k:Nat):Bool:=decide (k+1=m.n)
def mdO (m:Md) (S:Nat→Ls) (t0:Tri) (cl:Int):Nat→Option (Int × Int × Int)
 | 0=>none
 | k+1=>match mdO m S t0 cl k with
   | some r=>some r
   | none=>(blkO (m.K k) (S k) (inT m t0 k) cl (lastB m k)).map fun r=>((k:Int),r.1,r.2)
theorem mdO_end {m:Md} {S:Nat→Ls} {t0:Tri} {cl:Int} {k n:Nat} (hk:k < n) (h:mdO m S t0 cl k=none) {p z:Int} (hz:blkO (m.K k) (S k) (inT m t0 k) cl (lastB m k)=some (p,z)):mdO m S t0 cl n=some ((k:Int),p,z):=by
 obtain⟨d,rfl⟩:∃ d,n=k+1+d:=⟨n - (k+1),by omega⟩
 clear hk
 induction d with
 | zero=>simp [mdO,h,hz]
 | succ d ih=>rw [show k+1+(d+1)=(k+1+d)+1 by omega,mdO,ih]
theorem mdO_go {m:Md} {S:Nat→Ls} {t0:Tri} {cl:Int} {k:Nat} (h:mdO m S t0 cl k=none) (hz:blkO (m.K k) (S k) (inT m t0 k) cl (lastB m k)=none):mdO m S t0 cl (k+1)=none:=by
 simp [mdO,h,hz]
theorem mdO_nz {m:Md} {S:Nat→Ls} {t0:Tri} {cl:Int} : ∀ {n:Nat} {k p z:Int},mdO m S t0 cl n=some (k,p,z)→z≠0
 | 0,k,p,z,h=>by cases h
 | n+1,k,p,z,h=>by
   rw [mdO] at h
   cases hs:mdO m S t0 cl n with
   | some r=>rw [hs] at h;cases h;exact mdO_nz hs
   | none =>
     rw [hs] at h
     cases hb:blkO (m.K n) (S n) (inT m t0 n) cl (lastB m n) with
     | none=>rw [hb] at h;cases h
     | some r=>rw [hb] at h;cases h;exact blkO_nz (k:=r.1) hb
def modO (m:Md) (S:Nat→Ls) (t0:Tri) (cl:Int):Option (Int × Int × Int) :=
 if m.n=0 then some (-1, -1,12) else if 6 < m.n then some (-1, -1,4) else mdO m S t0 cl m.n
theorem modO_nz {m:Md} {S:Nat→Ls} {t0:Tri} {cl:Int} {k p z:Int} (h:modO m S t0 cl=some (k,p,z)):z≠0:=by
 unfold modO at h
 split at h
 ·cases h;decide
 ·split at h
  ·cases h;decide
  ·exact mdO_nz h
/-! ### a bundle -/
def buO (u:Bu) (S:Nat→Nat→Ls):Nat→Option (Int × Int × Int × Int)
 | 0=>none
 | i+1=>match buO u S i with
   | some r=>some r
   | none=>(modO (u.M i) (S i) (mdT0 u) u.cl).map fun r=>((i:Int),r.1,r.2.1,r.2.2)
theorem buO_end {u:Bu} {S:Nat→Nat→Ls} {i n:Nat} (hi:i < n) (h:buO u S i=none) {k p z:Int} (hz:modO (u.M i) (S i) (mdT0 u) u.cl=some (k,p,z)):buO u S n=some ((i:Int),k,p,z):=by
 obtain⟨d,rfl⟩:∃ d,n=i+1+d:=⟨n - (i+1),by omega⟩
 clear hi
 induction d with
 | zero=>simp [buO,h,hz]
 | succ d ih=>rw [show i+1+(d+1)=(i+1+d)+1 by omega,buO,ih]
theorem buO_go {u:Bu} {S:Nat→Nat→Ls} {i:Nat} (h:buO u S i=none) (hz:modO (u.M i) (S i) (mdT0 u) u.cl=none):buO u S (i+1)=none:=by
 simp [buO,h,hz]
def zbn (u:Bu):Int:=if zae u.H u.W u.C=false then 5 else if u.cl < 2∨16 < u.cl then 2 else if u.n=0 then 12 else if 3 < u.n then 4 else 0
def bunV (u:Bu) (S:Nat→Nat→Ls):Int × Int × Int × Int :=
 if zbn u≠0 then (zbn u, -1, -1, -1) else match buO u S u.n with
  | some r=>(r.2.2.2,r.1,r.2.1,r.2.2.1)
  | none=>(0,0,0,0)
/-! ### parts -/
end CValid
end
section
namespace CValid
open Plain CSat CFix CShape CTensor CConv CKind CGraph CBund CCost
theorem rfew33_to (u:Bu) (w:World) (hu:BuOk w w.heap.size u) :
  Calls Tryz.prog 4 #[.agg u.val.toArray] w fun e w'=>∃ b,e=.returned (.bool b)∧(b=true→FewBu u)∧Below w.heap.size w w':=by
 have HU:=hid hu
 have hb0:=(Below.refl w.heap.size w).alloc (le_refl _) (.cells u.val.toArray 26)
 have HB0:=hid hb0
 have c4:(w.alloc (.cells u.val.toArray 26)).cell? ⟨w.heap.size,4,none⟩=some (.slice u.A u.n u.c):=Kit.zal _ _ _ _
 have hsz:w.heap.size < (w.alloc (.cells u.val.toArray 26)).heap.size:=by simp
 have HSZ:=hid hsz
 clear hu hb0 hsz
 go_enter Tryz.func4,Tryz.ntmps4
 go_upto_region 1 with fail
 generalize w.alloc (.cells u.val.toArray 26)=W0 at c4 HB0 HSZ ⊢
 by_cases hn:4 < u.n
 ·have h3:(u.n:Int) > 4:=by omega
  go_wp2_with fail
  go_ret
  exact⟨_,rfl,fun h=>(by cases h),HB0.out⟩
 ·have h3:¬ (u.n:Int) > 4:=by omega
  obtain⟨n,hnn⟩:∃ n,u.n=n:=⟨_,rfl⟩
  have HN:=hid hnn
  rw [hnn] at c4 h3 hn
  clear hnn
  have HC:Hid (∀ wS,Below W0.heap.size W0 wS→wS.cell? ⟨w.heap.size,4,none⟩=some (.slice u.A n u.c)):=hid (fun wS h=>(h.cell (p:=⟨w.heap.size,4,none⟩) HSZ.out).trans c4)
  go_wp2_with fail
  clear c4 h3
  go_loopw [3] (fun x wr=>∃ i:Nat,i≤n∧x=.int .i64 i∧Hid (∀ j,j < i→FewMd (u.M j))∧Hid (Below W0.heap.size W0 wr)) (fun x _=>n - (intOf x).toNat)
  case atStart=>exact⟨0,Nat.zero_le _,rfl,hid (fun j hj=>by omega),hid (Below.refl _ _)⟩
  case round =>
   obtain⟨i,hi,rfl,HI,HW⟩:=hrel
   have c4:=HC.out _ HW.out
   by_cases hlt:i < n
   ·have i0:(0:Int)≤(i:Int):=by omega
    have i1:(i:Int) < (n:Int):=by omega
    have hbw:Below w.heap.size w wr:=HB0.out.trans (HW.out.mono HB0.out.size)
    have hin:i < u.n:=by have:=HN.out;omega
    obtain⟨bm,om,hAe,hbm,hrm⟩:=(HU.out.models.below hbw) i hin
    have cm:wr.cell? ⟨bm,om+i,none⟩=some (.slice (u.M i).A (u.M i).n (u.M i).c):=by
     have:=hrm 0 _ rfl
     simpa using this
    have HMd:=hid ((HU.out.each i hin).below hbw)
    rw [hAe] at c4
    clear hAe hrm hbm
    obtain⟨wo,hwo⟩:∃ wo,wo=wr:=⟨_,rfl⟩
    have HWO:=hid hwo
    have HBW:=hid hbw
    obtain⟨M,hMM⟩:∃ M,u.M i=M:=⟨_,rfl⟩
    rw [hMM] at cm HMd
    have HMM:=hid hMM
    clear hMM
    clear hwo hbw
    by_cases hk:8 < M.n
    ·have h3:(M.n:Int) > 8:=by omega
     go_wp2_with fail
     go_ret
     exact⟨_,rfl,fun h=>(by cases h),HBW.out⟩
    ·have h3:¬ (M.n:Int) > 8:=by omega
     obtain⟨q,hq⟩:∃ q,M.n=q:=⟨_,rfl⟩
     have HQ:=hid hq
     rw [hq] at cm h3 hk
     clear hq
     obtain⟨Am,hAm⟩:∃ Am,M.A=Am:=⟨_,rfl⟩
     have HAm:=hid hAm
     rw [hAm] at cm
     clear hAm
     go_wp2_with fail
     clear c4 cm h3
     go_loopw [5] (fun x wr=>∃ k:Nat,k≤q∧x=.int .i64 k∧Hid (∀ j,j < k→FewK (M.K j))∧Hid (Below wo.heap.size wo wr)) (fun x _=>q - (intOf x).toNat)
     case atStart=>exact⟨0,Nat.zero_le _,rfl,hid (fun j hj=>by omega),hid (by rw [HWO.out];exact Below.refl _ _)⟩
     case round =>
      obtain⟨k,hk2,rfl,HK,HV⟩:=hrel
      by_cases hlk:k < q
      ·have k0:(0:Int)≤(k:Int):=by omega
       have k1:(k:Int) < (q:Int):=by omega
       have hkn:k < M.n:=by have:=HQ.out;omega
       have hwv:Below wo.heap.size wo wr:=HV.out
       have HMo:MdOk wo wo.heap.size M:=by rw [HWO.out];exact HMd.out.more (by have:=HBW.out.size;omega)
       obtain⟨bk,ok,hAk,hbk,hrk⟩:=(HMo.blocks.below hwv) k hkn
       have hAk2:Am=some ⟨bk,ok,none⟩:=by rw [← HAm.out];exact hAk
       subst hAk2
       have hBk:=(HMo.each k hkn).below hwv
       have HNo:=hid (hBk.nodes.more hwv.size)
       have ck0:wr.cell? ⟨bk,ok+k * 5,none⟩=some (.slice (M.K k).A (M.K k).n (M.K k).c):=hrk 0 _ rfl
       have HRK:=hid (show ∀ wS,Below wr.heap.size wr wS→wS.cell? ⟨bk,ok+k * 5+2,none⟩=some (.slice (M.K k).hd.WA (M.K k).hd.nW (M.K k).hd.cW)∧wS.cell? ⟨bk,ok+k * 5+3,none⟩=some (.slice (M.K k).hd.BA (M.K k).hd.nB (M.K k).hd.cB) from fun wS h =>
        ⟨(h.cell (p:=⟨bk,ok+k * 5+2,none⟩) (Nat.lt_of_lt_of_le hbk hwv.size)).trans (hrk 2 _ rfl),(h.cell (p:=⟨bk,ok+k * 5+3,none⟩) (Nat.lt_of_lt_of_le hbk hwv.size)).trans (hrk 3 _ rfl)⟩)
       have HBV:=hid (show Below w.heap.size w wr from HBW.out.trans (by rw [← HWO.out];exact hwv.mono (by rw [HWO.out];exact HBW.out.size)))
       generalize hKb:M.K k=Kb at *
       clear hAk hbk hrk hBk hwv HMo
       by_cases hw1:4000 < Kb.hd.nW
       ·have e1:(Kb.hd.nW:Int) > 4000:=by omega
        have e2:decide ((4000:Int) < (Kb.hd.nW:Int))=true:=by simp;omega
        have e3:decide (4000 < Kb.hd.nW)=true:=by simp [hw1]
        go_wp2_with (go_at_call 10;(refine (few2_to Kb.X Kb.n Kb.c Kb.A _ HNo.out).mono ?_);rintro e w5 ⟨b5,rfl,hf5,hb5⟩;(have HF5:Hid (FewIs b5 (Kb.n≤12∧∀ i,i < Kb.n→(Kb.X i).nW≤1000∧(Kb.X i).nB≤100)):=hid hf5);(have HB5:=hid hb5);(obtain⟨d2,d3⟩:=HRK.out _ hb5);clear hf5 hb5;rcases b5 with _ | _)
        ·go_ret
         exact⟨_,rfl,fun h=>(by cases h),HBV.out.trans (HB5.out.mono HBV.out.size)⟩
        ·go_ret
         exact⟨_,rfl,fun h=>(by cases h),HBV.out.trans (HB5.out.mono HBV.out.size)⟩
       ·have e1:¬ (Kb.hd.nW:Int) > 4000:=by omega
        have e2:decide ((4000:Int) < (Kb.hd.nW:Int))=false:=by simp;omega
        have e3:decide (4000 < Kb.hd.nW)=false:=by simp;omega
        by_cases hw2:100 < Kb.hd.nB
        ·have e4:(Kb.hd.nB:Int) > 100:=by omega
         have e5:decide ((100:Int) < (Kb.hd.nB:Int))=true:=by simp;omega
         have e6:decide (100 < Kb.hd.nB)=true:=by simp [hw2]
         go_wp2_with (go_at_call 10;(refine (few2_to Kb.X Kb.n Kb.c Kb.A _ HNo.out).mono ?_);rintro e w5 ⟨b5,rfl,hf5,hb5⟩;(have HF5:Hid (FewIs b5 (Kb.n≤12∧∀ i,i < Kb.n→(Kb.X i).nW≤1000∧(Kb.X i).nB≤100)):=hid hf5);(have HB5:=hid hb5);(obtain⟨d2,d3⟩:=HRK.out _ hb5);clear hf5 hb5;rcases b5 with _ | _)
         ·go_ret
          exact⟨_,rfl,fun h=>(by cases h),HBV.out.trans (HB5.out.mono HBV.out.size)⟩
         ·go_ret
          exact⟨_,rfl,fun h=>(by cases h),HBV.out.trans (HB5.out.mono HBV.out.size)⟩
        ·have e4:¬ (Kb.hd.nB:Int) > 100:=by omega
         have e5:decide ((100:Int) < (Kb.hd.nB:Int))=false:=by simp;omega
         have e6:decide (100 < Kb.hd.nB)=false:=by simp;omega
         go_wp2_with (go_at_call 10;(refine (few2_to Kb.X Kb.n Kb.c Kb.A _ HNo.out).mono ?_);rintro e w5 ⟨b5,rfl,hf5,hb5⟩;(have HF5:Hid (FewIs b5 (Kb.n≤12∧∀ i,i < Kb.n→(Kb.X i).nW≤1000∧(Kb.X i).nB≤100)):=hid hf5);(have HB5:=hid hb5);(obtain⟨d2,d3⟩:=HRK.out _ hb5);clear hf5 hb5;rcases b5 with _ | _)
         ·go_ret
          exact⟨_,rfl,fun h=>(by cases h),HBV.out.trans (HB5.out.mono HBV.out.size)⟩
         ·go_roundw
          case rel=>exact⟨k+1,by omega,by go_num,hid (fun j hj=>by
           rcases (show j < k∨j=k by omega) with h | rfl
           ·exact HK.out j h
           ·rw [hKb];exact⟨(HF5.out rfl).1,(HF5.out rfl).2,by omega,by omega⟩),hid (HV.out.trans (HB5.out.mono HV.out.size))⟩
          case measure=>simp [intOf];omega
      ·obtain rfl:k=q:=by omega
       go_wp2_with fail
       go_roundw
       case rel=>exact⟨i+1,by omega,by go_num,hid (fun j hj=>by
        rcases (show j < i∨j=i by omega) with h | rfl
        ·exact HI.out j h
        ·exact by rw [HMM.out];exact⟨by have:=HQ.out;omega,fun k hk3=>HK.out k (by have:=HQ.out;omega)⟩),hid (HW.out.trans (by rw [← HWO.out];exact HV.out.mono (by rw [HWO.out];exact HW.out.size)))⟩
       case measure=>simp [intOf];omega
   ·obtain rfl:i=n:=by omega
    go_wp2_with fail
    go_ret
    exact⟨_,rfl,fun _=>⟨by have:=HN.out;omega,fun j hj=>HI.out j (by have:=HN.out;omega)⟩,HB0.out.trans (HW.out.mono HB0.out.size)⟩
end CValid
end
end Go.Proofs.YtoffcaldhojjoaaGreatDoor
