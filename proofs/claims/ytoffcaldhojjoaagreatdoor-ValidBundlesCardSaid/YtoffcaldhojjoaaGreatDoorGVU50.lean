/- -/
import Derived.Test.YtoffcaldhojjoaaGreatDoorGVU49
open Go.Lib (hid)
open Nat (le_refl lt_of_succ_lt lt_succ_self)
set_option linter.unusedVariables false
set_option linter.unusedSimpArgs false
set_option maxRecDepth 100000
set_option maxHeartbeats 16000000
namespace Go.Proofs.YtoffcaldhojjoaaGreatDoor
namespace CConv
end CConv
namespace CCost
end CCost
namespace CFix
end CFix
namespace CGraph
end CGraph
namespace CKind
end CKind
namespace CSat
end CSat
namespace CSpan
end CSpan
namespace CTensor
end CTensor
open Go Go.ChangeShapes Go.WideShapes Go.ChangeAt Go.RowKit Go.Deep
section
namespace CValid
open Plain CSat CFix CShape CTensor CConv CSpan CKind CGraph CJoin CGuard CBund CCost CVerd
theorem rbundle33_to (u:Bu) (S:Nat→Nat→Ls) (w:World) (h:BuRdy w u S) :
  Calls Tryz.prog 7 #[.agg u.val.toArray] w (SaysQ (bunV u S) w):=by
 have HRD:=hid h
 have HV1:=hid (fun (oz:Int) (hoz:zbn u=oz) (hz:oz≠0)=>bunV_out (S:=S) hoz hz)
 have HV2:=hid (fun (hz:zbn u=0) i k p z (hm:buO u S u.n=some (i,k,p,z))=>bunV_mod hz hm)
 have HV3:=hid (fun (hz:zbn u=0) (hm:buO u S u.n=none)=>bunV_fine hz hm)
 generalize bunV u S=V at *
 obtain⟨sb,hsb⟩:∃ sb,zae u.H u.W u.C=sb:=⟨_,rfl⟩
 obtain⟨el,hel⟩:∃ el,zam u.H u.W u.C=el:=⟨_,rfl⟩
 have CR:=hid (fun w:World=>zaf u.H u.W u.C el hel w)
 have hz:zbn u=if sb=false then 5 else if u.cl < 2∨16 < u.cl then 2 else if u.n=0 then 12 else if 3 < u.n then 4 else 0:=by unfold zbn;rw [hsb]
 have HZ:=hid hz
 have hpos:(el == 0) = !sb:=by
  have:=elemsZ_pos u.H u.W u.C
  have hb:=elemsZ_bd u.H u.W u.C
  rw [hel,hsb] at this
  rw [hel] at hb
  cases sb with
  | false=>simp at this;simp;omega
  | true=>simp at this;simp;omega
 clear hsb hz hel
 have HN4:=hid h.few.1
 have b2:Below (w.heap.size+1) (w.alloc (.cells u.val.toArray 26)) ((w.alloc (.cells u.val.toArray 26)).alloc (.cells #[.int .i64 (0),.int .i64 (0),.int .i64 (0),.int .i64 (0)] 34)):=(Below.refl _ _).alloc (by simp) _
 have b1:Below w.heap.size w ((w.alloc (.cells u.val.toArray 26)).alloc (.cells #[.int .i64 (0),.int .i64 (0),.int .i64 (0),.int .i64 (0)] 34)):=((Below.refl _ _).alloc (le_refl _) _).trans (b2.mono (by omega))
 have HB0:=hid b1
 have HU:=hid ((UAt.new u 26 w).below (lt_succ_self _) b2)
 have q2:=QOk.new (0,0,0,0) 34 (w.alloc (.cells u.val.toArray 26))
 simp only [World.size_alloc] at q2
 have HF:=hid q2
 have HSZ:Hid (w.heap.size+2≤((w.alloc (.cells u.val.toArray 26)).alloc (.cells #[.int .i64 (0),.int .i64 (0),.int .i64 (0),.int .i64 (0)] 34)).heap.size):=hid (by simp)
 clear b1 b2 q2 h
 go_enter Tryz.func7,Tryz.ntmps7
 go_upto_region 1 with fail
 generalize ((w.alloc (.cells u.val.toArray 26)).alloc (.cells #[.int .i64 (0),.int .i64 (0),.int .i64 (0),.int .i64 (0)] 34))=W0 at HU HF HB0 HSZ ⊢
 have HUX:Hid (∀ wx,Below W0.heap.size W0 wx→UAt w.heap.size u wx∧QOk (w.heap.size+1) (0,0,0,0) wx):=hid (fun wx hb=>⟨HU.out.below (B':=W0.heap.size) (by have:=HSZ.out;omega) hb,HF.out.below (B':=W0.heap.size) (by have:=HSZ.out;omega) hb⟩)
 obtain⟨c0,c1,c2,c3,c4⟩:=HU.out
 cases sb with
 | false =>
   have hp:(el == 0)=true:=hpos
   have hp2:el=0:=by simpa using hp
   have HE:=hid (HV1.out 5 (by rw [HZ.out];rfl) (by decide))
   clear hpos
   go_wp2_with (go_at_call 13;(refine (CR.out _).mono ?_);rintro e w1 ⟨rfl,hb⟩;(have HB1:=hid (HB0.out.trans (hb.mono HB0.out.size)));(have HX1:=hid (HUX.out _ hb));(have HG1:=hid (Nat.le_trans HSZ.out hb.size));clear hb c0 c1 c2 c3 c4;obtain⟨⟨c0,c1,c2,c3,c4⟩,⟨⟨f0,f1,f2,f3⟩,f4,f5,f6,f7⟩⟩:=HX1.out)
   refine bodyPost_ret (Kit.zat rfl _ _ (w.heap.size+1) 0 [.int .i64 (5),.int .i64 (-1),.int .i64 (-1),.int .i64 (-1)] _ rfl (zbg (by go_cell) (by go_cell) (by go_cell) (by go_cell)) Tryz.underlying34 rfl (by kernel_rfl)) rfl ?_
   exact⟨by rw [HE.out];first | done | rfl,by have hbw:=HB1.out;go_grown⟩
 | true =>
   have hp:(el == 0)=false:=hpos
   have hp2:¬ el=0:=by simpa using hp
   clear hpos
   by_cases h1:u.cl < 2
   ·have h1b:decide (u.cl < 2)=true:=by simp [h1]
    have HE:=hid (HV1.out 2 (by rw [HZ.out,if_neg (by decide),if_pos (.inl h1)]) (by decide))
    go_wp2_with (go_at_call 13;(refine (CR.out _).mono ?_);rintro e w1 ⟨rfl,hb⟩;(have HB1:=hid (HB0.out.trans (hb.mono HB0.out.size)));(have HX1:=hid (HUX.out _ hb));(have HG1:=hid (Nat.le_trans HSZ.out hb.size));clear hb c0 c1 c2 c3 c4;obtain⟨⟨c0,c1,c2,c3,c4⟩,⟨⟨f0,f1,f2,f3⟩,f4,f5,f6,f7⟩⟩:=HX1.out)
    refine bodyPost_ret (Kit.zat rfl _ _ (w.heap.size+1) 0 [.int .i64 (2),.int .i64 (-1),.int .i64 (-1),.int .i64 (-1)] _ rfl (zbg (by go_cell) (by go_cell) (by go_cell) (by go_cell)) Tryz.underlying34 rfl (by kernel_rfl)) rfl ?_
    exact⟨by rw [HE.out];first | done | rfl,by have hbw:=HB1.out;go_grown⟩
   have h1b:decide (u.cl < 2)=false:=by simp;omega
   by_cases h2:16 < u.cl
   ·have h2a:u.cl > 16:=h2
    have h2b:decide (16 < u.cl)=true:=by simp [h2]
    have HE:=hid (HV1.out 2 (by rw [HZ.out,if_neg (by decide),if_pos (.inr h2)]) (by decide))
    go_wp2_with (go_at_call 13;(refine (CR.out _).mono ?_);rintro e w1 ⟨rfl,hb⟩;(have HB1:=hid (HB0.out.trans (hb.mono HB0.out.size)));(have HX1:=hid (HUX.out _ hb));(have HG1:=hid (Nat.le_trans HSZ.out hb.size));clear hb c0 c1 c2 c3 c4;obtain⟨⟨c0,c1,c2,c3,c4⟩,⟨⟨f0,f1,f2,f3⟩,f4,f5,f6,f7⟩⟩:=HX1.out)
    refine bodyPost_ret (Kit.zat rfl _ _ (w.heap.size+1) 0 [.int .i64 (2),.int .i64 (-1),.int .i64 (-1),.int .i64 (-1)] _ rfl (zbg (by go_cell) (by go_cell) (by go_cell) (by go_cell)) Tryz.underlying34 rfl (by kernel_rfl)) rfl ?_
    exact⟨by rw [HE.out];first | done | rfl,by have hbw:=HB1.out;go_grown⟩
   have h2a:¬ u.cl > 16:=h2
   have h2b:decide (16 < u.cl)=false:=by simp;omega
   by_cases h3:u.n=0
   ·have HE:=hid (HV1.out 12 (by rw [HZ.out,if_neg (by decide),if_neg (by omega),if_pos h3]) (by decide))
    go_wp2_with (go_at_call 13;(refine (CR.out _).mono ?_);rintro e w1 ⟨rfl,hb⟩;(have HB1:=hid (HB0.out.trans (hb.mono HB0.out.size)));(have HX1:=hid (HUX.out _ hb));(have HG1:=hid (Nat.le_trans HSZ.out hb.size));clear hb c0 c1 c2 c3 c4;obtain⟨⟨c0,c1,c2,c3,c4⟩,⟨⟨f0,f1,f2,f3⟩,f4,f5,f6,f7⟩⟩:=HX1.out)
    refine bodyPost_ret (Kit.zat rfl _ _ (w.heap.size+1) 0 [.int .i64 (12),.int .i64 (-1),.int .i64 (-1),.int .i64 (-1)] _ rfl (zbg (by go_cell) (by go_cell) (by go_cell) (by go_cell)) Tryz.underlying34 rfl (by kernel_rfl)) rfl ?_
    exact⟨by rw [HE.out];first | done | rfl,by have hbw:=HB1.out;go_grown⟩
   have h3a:((u.n:Int) == 0)=false:=by simp;omega
   have h3b:¬ (u.n:Int)=0:=by omega
   by_cases h4:3 < u.n
   ·have h4a:(u.n:Int) > 3:=by omega
    have h4b:decide ((3:Int) < (u.n:Int))=true:=by simp;omega
    have h4c:decide (3 < u.n)=true:=by simp [h4]
    have HE:=hid (HV1.out 4 (by rw [HZ.out,if_neg (by decide),if_neg (by omega),if_neg h3,if_pos h4]) (by decide))
    clear h3 h4
    go_wp2_with (go_at_call 13;(refine (CR.out _).mono ?_);rintro e w1 ⟨rfl,hb⟩;(have HB1:=hid (HB0.out.trans (hb.mono HB0.out.size)));(have HX1:=hid (HUX.out _ hb));(have HG1:=hid (Nat.le_trans HSZ.out hb.size));clear hb c0 c1 c2 c3 c4;obtain⟨⟨c0,c1,c2,c3,c4⟩,⟨⟨f0,f1,f2,f3⟩,f4,f5,f6,f7⟩⟩:=HX1.out)
    refine bodyPost_ret (Kit.zat rfl _ _ (w.heap.size+1) 0 [.int .i64 (4),.int .i64 (-1),.int .i64 (-1),.int .i64 (-1)] _ rfl (zbg (by go_cell) (by go_cell) (by go_cell) (by go_cell)) Tryz.underlying34 rfl (by kernel_rfl)) rfl ?_
    exact⟨by rw [HE.out];first | done | rfl,by have hbw:=HB1.out;go_grown⟩
   have h4a:¬ (u.n:Int) > 3:=by omega
   have h4b:decide ((3:Int) < (u.n:Int))=false:=by simp;omega
   have h4c:decide (3 < u.n)=false:=by simp;omega
   have hoz:zbn u=0:=by rw [HZ.out,if_neg (by decide),if_neg (by omega),if_neg h3,if_neg h4]
   have HV2':=hid (HV2.out hoz)
   have HV3':=hid (HV3.out hoz)
   clear h3 h4 hoz HV1 HV2 HV3 HZ
   go_wp2_with (go_at_call 13;(refine (CR.out _).mono ?_);rintro e w1 ⟨rfl,hb⟩;(have HB1:=hid (HB0.out.trans (hb.mono HB0.out.size)));(have HX1:=hid (HUX.out _ hb));(have HG1:=hid (Nat.le_trans HSZ.out hb.size));clear hb c0 c1 c2 c3 c4;obtain⟨⟨c0,c1,c2,c3,c4⟩,⟨⟨f0,f1,f2,f3⟩,f4,f5,f6,f7⟩⟩:=HX1.out)
   clear h1 h1b h2 h2a h2b h3a h3b h4a h4b h4c hp hp2 c0 c1 c2 c3 c4 f0 f1 f2 f3 f4 f5 f6 f7
   have HUW:Hid (∀ wx,Below w1.heap.size w1 wx→UAt w.heap.size u wx∧QOk (w.heap.size+1) (0,0,0,0) wx):=hid (fun wx hb=>⟨HX1.out.1.below (B':=w1.heap.size) (by have:=HG1.out;omega) hb,HX1.out.2.below (B':=w1.heap.size) (by have:=HG1.out;omega) hb⟩)
   clear HU HF HB0 HSZ HUX CR HX1
   obtain⟨n,hn⟩:∃ n,u.n=n:=⟨_,rfl⟩
   rw [hn] at HV2' HV3' HN4
   have HN:=hid hn
   clear hn
   go_loopw [3] (fun s wr=>∃ i:Nat,i≤n∧s=.int .i64 i∧Hid (buO u S i=none)∧Hid (Below w1.heap.size w1 wr)) (fun s _=>n - (intOf s).toNat)
   case atStart=>exact⟨0,Nat.zero_le _,rfl,hid rfl,hid (Below.refl _ _)⟩
   case round =>
    obtain⟨i,hi,rfl,hst,HBR⟩:=hrel
    obtain⟨wo,hwo⟩:∃ wo,wo=wr:=⟨_,rfl⟩
    subst hwo
    have HWO:Hid (Below w.heap.size w wo):=hid (HB1.out.trans (HBR.out.mono HB1.out.size))
    obtain⟨⟨c0,c1,c2,c3,c4⟩,⟨⟨f0,f1,f2,f3⟩,f4,f5,f6,f7⟩⟩:=HUW.out _ HBR.out
    rw [HN.out] at c4
    by_cases hlt:i < n
    ·have i5:(0:Int)≤(i:Int):=by omega
     have i6:(i:Int) < (n:Int):=by omega
     have hin:i < u.n:=by have:=HN.out;omega
     have HIN:=hid hin
     have HLT:=hid hlt
     obtain⟨bm,om,hAe,hbm,hcm⟩:=mod_cells (HRD.out.ok.below HWO.out) hin
     obtain⟨m,hm⟩:∃ m,u.M i=m:=⟨_,rfl⟩
     have HM:=hid hm
     rw [hm] at hcm
     rw [hAe] at c4
     have HMO:Hid (MdOk w w.heap.size m):=hid (by rw [← hm];exact HRD.out.ok.each i hin)
     have HBK0:Hid (∀ k,k < m.n→BkRdy w (m.K k) (S i k)):=hid (by rw [← hm];exact fun k hk=>HRD.out.blk hin hk)
     have HFM:Hid (m.n≤8):=hid (by rw [← hm];exact (HRD.out.few.2 i hin).1)
     obtain⟨t0,ht0⟩:∃ t0:Tri,t0=(u.H,u.W,u.C):=⟨_,rfl⟩
     have HEND0:Hid (∀ k p z,modO m (S i) t0 u.cl=some (k,p,z)→V=(z,(i:Int),k,p)):=hid (fun k p z q=>HV2'.out i k p z (buO_end hlt hst.out (by rw [hm,show mdT0 u=t0 from ht0.symm];exact q)))
     have HGO0:Hid (modO m (S i) t0 u.cl=none→buO u S (i+1)=none):=hid (fun q=>buO_go hst.out (by rw [hm,show mdT0 u=t0 from ht0.symm];exact q))
     have e0:u.H=t0.1:=by rw [ht0]
     have e1:u.W=t0.2.1:=by rw [ht0]
     have e2:u.C=t0.2.2:=by rw [ht0]
     rw [e0] at c0
     rw [e1] at c1
     rw [e2] at c2
     have l0:w.heap.size+2≤wo.heap.size:=Nat.le_trans HG1.out HBR.out.size
     have HWL:=hid l0
     clear hm ht0 e0 e1 e2 hbm hin hlt hAe l0
     by_cases h5:m.n=0
     ·have h5b:((m.n:Int) == 0)=true:=by rw [h5];rfl
      have HE:=hid (HEND0.out (-1) (-1) 12 (by unfold modO;rw [if_pos h5]))
      go_wp2_with fail
      refine bodyPost_ret (Kit.zat rfl _ _ (w.heap.size+1) 0 [.int .i64 (12),.int .i64 (i:Int),.int .i64 (-1),.int .i64 (-1)] _ rfl (zbg (by go_cell) (by go_cell) (by go_cell) (by go_cell)) Tryz.underlying34 rfl (by kernel_rfl)) rfl ?_
      exact⟨by rw [HE.out];first | done | rfl,by have hbw:=HWO.out;go_grown⟩
     have h5a:((m.n:Int) == 0)=false:=by simp;omega
     have h5b:¬ (m.n:Int)=0:=by omega
     by_cases h6:6 < m.n
     ·have h6a:(m.n:Int) > 6:=by omega
      have h6b:decide ((6:Int) < (m.n:Int))=true:=by simp;omega
      have h6c:decide (6 < m.n)=true:=by simp [h6]
      have HE:=hid (HEND0.out (-1) (-1) 4 (by unfold modO;rw [if_neg h5,if_pos h6]))
      clear h5 h6
      go_wp2_with fail
      refine bodyPost_ret (Kit.zat rfl _ _ (w.heap.size+1) 0 [.int .i64 (4),.int .i64 (i:Int),.int .i64 (-1),.int .i64 (-1)] _ rfl (zbg (by go_cell) (by go_cell) (by go_cell) (by go_cell)) Tryz.underlying34 rfl (by kernel_rfl)) rfl ?_
      exact⟨by rw [HE.out];first | done | rfl,by have hbw:=HWO.out;go_grown⟩
     have h6a:¬ (m.n:Int) > 6:=by omega
     have h6b:decide ((6:Int) < (m.n:Int))=false:=by simp;omega
     have h6c:decide (6 < m.n)=false:=by simp;omega
     have HMG:Hid (modO m (S i) t0 u.cl=mdO m (S i) t0 u.cl m.n):=hid (modO_go h5 h6)
     have HN6:=hid (show m.n≤6 by omega)
     clear h5 h6
     obtain⟨n2,hn2⟩:∃ q,m.n=q:=⟨_,rfl⟩
     have HN2:=hid hn2
     rw [hn2] at hcm h5a h5b h6a h6b h6c HMG HN6
     clear hn2
     go_wp2_with fail
     clear c0 c1 c2 c3 c4 f0 f1 f2 f3 f4 f5 f6 f7 hcm h5a h5b h6a h6b h6c
     have HIN0:=hid (InAt.new t0 23 wo)
     have HAL:Hid (Below wo.heap.size wo (wo.alloc (.cells #[.int .i64 t0.1,.int .i64 t0.2.1,.int .i64 t0.2.2] 23))):=hid ((Below.refl _ _).alloc (le_refl _) _)
     obtain⟨BI,hBI⟩:∃ BI,BI=wo.heap.size:=⟨_,rfl⟩
     have HBE:=hid hBI
     rw [← hBI] at HIN0 HAL
     try rw [← hBI]
     generalize wo.alloc (.cells #[.int .i64 t0.1,.int .i64 t0.2.1,.int .i64 t0.2.2] 23)=WA at HIN0 HAL ⊢
     clear hBI
     go_loopw [6] (fun s wx=>∃ k:Nat,k≤n2∧s=.int .i64 k∧Hid (mdO m (S i) t0 u.cl k=none)∧Hid (InAt BI (inT m t0 k) wx)∧Hid (Below BI wo wx)) (fun s _=>n2 - (intOf s).toNat)
     case atStart=>exact⟨0,Nat.zero_le _,rfl,hid rfl,HIN0,HAL⟩
     case round =>
      obtain⟨k,hk,rfl,hsk,HIA,HBI2⟩:=hrel
      obtain⟨wi,hwi⟩:∃ wi,wi=wr:=⟨_,rfl⟩
      subst hwi
      clear HIN0 HAL
      have HBI:Hid (BI+1≤wi.heap.size):=hid (Kit.block_lt HIA.out.1.1)
      have HWI:Hid (Below w.heap.size w wi):=hid (HWO.out.trans (HBI2.out.mono (by have:=HWL.out;have:=HBE.out;omega)))
      have HW1I:Hid (Below w1.heap.size w1 wi):=hid (HBR.out.trans (HBI2.out.mono (by have:=HBR.out.size;have:=HBE.out;omega)))
      by_cases hlk:k < n2
      ·have k5:(0:Int)≤(k:Int):=by omega
       have k6:(k:Int) < (n2:Int):=by omega
       have hkn:k < m.n:=by have:=HN2.out;omega
       have HLK:=hid hlk
       obtain⟨bb,ob,hBe,hbb,hb0,hb1,hb2,hb3,hb4⟩:=blk_cells (HMO.out.below HWI.out) hkn
       obtain⟨lb,hlb⟩:∃ lb,lastB m k=lb:=⟨_,rfl⟩
       obtain⟨q,hq⟩:∃ q:Int,(n2:Int) - 1=q:=⟨_,rfl⟩
       have e1:IntKind.i64.wrap ((n2:Int) - 1)=q:=by rw [hq];exact IntWalk.i64_in _ (by have:=HN6.out;omega)
       have e2:IntKind.i64.wrap q=q:=IntWalk.i64_in _ (by have:=HN6.out;omega)
       have hlk2:decide ((k:Int)=q)=lb:=by rw [← hlb];unfold lastB;rw [HN2.out];by_cases hh:k+1=n2 <;> simp [hh] <;> omega
       have e3:((k:Int) == q)=lb:=by rw [← hlk2];rfl
       obtain⟨bk,hbk⟩:∃ bk,m.K k=bk:=⟨_,rfl⟩
       rw [hbk] at hb0 hb1 hb2 hb3 hb4
       obtain⟨sk,hsk2⟩:∃ sk,S i k=sk:=⟨_,rfl⟩
       obtain⟨ti,hti⟩:∃ ti,inT m t0 k=ti:=⟨_,rfl⟩
       rw [hti] at HIA
       obtain⟨P,hP⟩:∃ P,bkP bk sk ti u.cl lb=P:=⟨_,rfl⟩
       obtain⟨Z,hZ⟩:∃ Z,bkZ bk sk ti u.cl lb=Z:=⟨_,rfl⟩
       have HEND:Hid (¬ Z=0→V=(Z,(i:Int),(k:Int),P)):=hid (fun hz=>by
        have h1:=mdO_end (m:=m) (S:=S i) (t0:=t0) (cl:=u.cl) (k:=k) (n:=n2) hlk hsk.out (p:=P) (z:=Z) (by rw [hbk,hsk2,hti,hlb, ← hP, ← hZ];exact bk_some (by rw [hZ];exact hz))
        exact HEND0.out k P Z (by rw [HMG.out];exact h1))
       have HGO:Hid (Z=0→outS bk.X ti bk.n=none∧inT m t0 (k+1)=outT bk.X ti bk.n∧mdO m (S i) t0 u.cl (k+1)=none):=hid (fun hz=>by
        have h1:blkO bk sk ti u.cl lb=none:=bkZ_none (by rw [hZ];exact hz)
        exact⟨blkO_out h1,by rw [inT,hbk,hti],mdO_go hsk.out (by rw [hbk,hsk2,hti,hlb];exact h1)⟩)
       have HRK:Hid (BkRdy wi bk sk):=hid (by rw [← hbk, ← hsk2];exact (HBK0.out k hkn).below HWI.out)
       have CB:Hid (∀ wx,Below wi.heap.size wi wx→Calls Tryz.prog 14 #[.agg bk.val.toArray,.agg #[.int .i64 ti.1,.int .i64 ti.2.1,.int .i64 ti.2.2],.int .i64 u.cl,.bool lb] wx (Says P Z wx)) :=
        hid (fun wx hb=>by have q:=rblock33_to bk sk ti u.cl lb wx (HRK.out.below hb);rw [hP,hZ] at q;exact q)
       have CSH:Hid (∀ wx,Below wi.heap.size wi wx→Calls Tryz.prog 15 #[.slice bk.A bk.n bk.c,.agg #[.int .i64 ti.1,.int .i64 ti.2.1,.int .i64 ti.2.2]] wx (ShpPost bk.X ti bk.n wx)):=hid (fun wx hb=>rshp_at HRK.out ti hb)
       have HBC:Hid (∀ wS,Below wi.heap.size wi wS→wS.cell? ⟨bb,ob+k * 5,none⟩=some (.slice bk.A bk.n bk.c)∧wS.cell? ⟨bb,ob+k * 5+1,none⟩=some (.bool bk.ex)∧wS.cell? ⟨bb,ob+k * 5+2,none⟩=some (.slice bk.hd.WA bk.hd.nW bk.hd.cW)∧wS.cell? ⟨bb,ob+k * 5+3,none⟩=some (.slice bk.hd.BA bk.hd.nB bk.hd.cB)∧wS.cell? ⟨bb,ob+k * 5+4,none⟩=some (.int .i32 bk.hd.D)) :=
        hid (fun wS h=>by
         have hlb:bb < wi.heap.size:=Nat.lt_of_lt_of_le hbb HWI.out.size
         exact⟨(h.cell (p:=⟨bb,ob+k * 5,none⟩) hlb).trans hb0,(h.cell (p:=⟨bb,ob+k * 5+1,none⟩) hlb).trans hb1,(h.cell (p:=⟨bb,ob+k * 5+2,none⟩) hlb).trans hb2,(h.cell (p:=⟨bb,ob+k * 5+3,none⟩) hlb).trans hb3,(h.cell (p:=⟨bb,ob+k * 5+4,none⟩) hlb).trans hb4⟩)
       have HIC:Hid (∀ wS,Below wi.heap.size wi wS→InAt BI ti wS):=hid (fun wS h=>HIA.out.below (by have:=HBI.out;omega) h)
       have HUC:Hid (∀ wS,Below wi.heap.size wi wS→UAt w.heap.size u wS∧QOk (w.heap.size+1) (0,0,0,0) wS):=hid (fun wS h=>HUW.out _ (HW1I.out.trans (h.mono HW1I.out.size)))
       rw [hBe]
       clear hBe hbb hb0 hb1 hb2 hb3 hb4 hbk hsk2 hti hP hZ hlb hkn hlk
       go_upto_region 21 with fail
       refine wp_region_held_drew (S:=fun wx=>Below wi.heap.size wi wx) (by kernel_rfl) (Below.refl _ _).drew (fun hHeld=>?_)
       generalize wi.drew=W1 at hHeld ⊢
       refine Tk.x 0 rfl ?_
       try simp only [Tk.put]
       refine Tk.x 1 rfl ?_
       try simp only [Tk.put]
       refine Tk.x 2 rfl ?_
       try simp only [Tk.put]
       refine Tk.y 3 (v:=.agg #[.slice bk.A bk.n bk.c,.bool bk.ex,.slice bk.hd.WA bk.hd.nW bk.hd.cW,.slice bk.hd.BA bk.hd.nB bk.hd.cB,.int .i32 bk.hd.D]) rfl ?_ ?_
       ·intro wS hSw
        obtain⟨q0,q1,q2,q3,q4⟩:=HBC.out wS hSw
        first | (go_simp;done) | (go_simp;with_reducible rfl)
       try simp only [Tk.put]
       refine Tk.y 4 (v:=.agg #[.int .i64 ti.1,.int .i64 ti.2.1,.int .i64 ti.2.2]) rfl ?_ ?_
       ·intro wS hSw
        obtain⟨q0,q1,q2⟩:=(HIC.out wS hSw).1
        first | (go_simp;done) | (go_simp;with_reducible rfl)
       try simp only [Tk.put]
       refine Tk.x 5 rfl ?_
       try simp only [Tk.put]
       refine Tk.y 6 (v:=.int .i64 u.cl) rfl ?_ ?_
       ·intro wS hSw
        obtain⟨q0,q1,q2,q3,q4⟩:=(HUC.out wS hSw).1
        first | (go_simp;done) | (go_simp;with_reducible rfl)
       try simp only [Tk.put]
       refine Tk.x 7 rfl ?_
       try simp only [Tk.put]
       refine Tk.x 8 rfl ?_
       try simp only [Tk.put]
       refine Tk.x 9 rfl ?_
       try simp only [Tk.put]
       refine Tk.x 10 rfl ?_
       try simp only [Tk.put]
       refine Tk.y 11 (v:=.bool lb) rfl ?_ ?_
       ·intro wS hSw
        first | (go_simp;done) | (go_simp;with_reducible rfl)
       try simp only [Tk.put]
       refine Tk.s 12 rfl (fun Kq hK=>?_)
       go_simp
       go_at_call 14
       refine (CB.out _ hHeld).mono ?_
       rintro e W2 ⟨rfl,hb⟩
       have hS2:=hHeld.trans (hb.mono hHeld.size)
       clear hHeld hb
       dsimp only
       refine hK.out _ _ hS2 (fun hHeld=>?_)
       clear hK Kq hS2
       try simp only [Tk.put]
       refine Tk.x 13 rfl ?_
       try simp only [Tk.put]
       refine Tk.x 14 rfl ?_
       try simp only [Tk.put]
       refine Tk.x 15 rfl ?_
       try simp only [Tk.put]
       refine Tk.x 16 rfl ?_
       try simp only [Tk.put]
       refine Tk.x 17 rfl ?_
       try simp only [Tk.put]
       refine wpAnyH_done (by kernel_rfl) ?_ _
       clear e1 e2 e3 hlk2 hq
       by_cases hz0:Z=0
       ·obtain⟨hs9,ho0,hm0⟩:=HGO.out hz0
        have HS9:=hid hs9
        have HO0:=hid ho0
        have HM0:=hid hm0
        clear HGO HEND hs9 ho0 hm0 CB
        subst hz0
        go_upto_region 24 with fail
        refine wp_region_held_drew (S:=fun wx=>Below wi.heap.size wi wx) (by kernel_rfl) hHeld.drew (fun hHeld=>?_)
        generalize W2.drew=W3 at hHeld ⊢
        refine Tk.x 0 rfl ?_
        try simp only [Tk.put]
        refine Tk.x 1 rfl ?_
        try simp only [Tk.put]
        refine Tk.x 2 rfl ?_
        try simp only [Tk.put]
        refine Tk.x 3 rfl ?_
        try simp only [Tk.put]
        refine Tk.y 4 (v:=.slice bk.A bk.n bk.c) rfl ?_ ?_
        ·intro wS hSw
         obtain⟨q0,q1,q2,q3,q4⟩:=HBC.out wS hSw
         first | (go_simp;done) | (go_simp;with_reducible rfl)
        try simp only [Tk.put]
        refine Tk.y 5 (v:=.agg #[.int .i64 ti.1,.int .i64 ti.2.1,.int .i64 ti.2.2]) rfl ?_ ?_
        ·intro wS hSw
         obtain⟨q0,q1,q2⟩:=(HIC.out wS hSw).1
         first | (go_simp;done) | (go_simp;with_reducible rfl)
        try simp only [Tk.put]
        refine Tk.s 6 rfl (fun Kq hK=>?_)
        go_simp
        go_at_call 15
        refine (CSH.out _ hHeld).mono ?_
        rintro e W4 ⟨hres,hb⟩
        have hS2:=hHeld.trans (hb.mono hHeld.size)
        clear hHeld hb
        rcases hres with ⟨k9,z9,h9, -⟩ | ⟨-,v,rfl,hown⟩
        ·rw [HS9.out] at h9;cases h9
        obtain⟨A5,c5,rfl, -, -,hrd⟩:=Kit.own_rd hown
        obtain⟨n1,n8⟩:=outS_few HS9.out
        obtain⟨o,ho1,ho2⟩:=tvV_at (L:=shL bk.X ti bk.n) (k:=bk.n) (shL_len _ _ _) (lt_succ_self _)
        obtain⟨bl,ol,rfl,hbl,hcell⟩:=tv_cells hrd (by rw [shL_len];omega)
        have HOT:Hid (inT m t0 (k+1)=o):=hid (HO0.out.trans ho2)
        have HCO:=hid (hcell bk.n o ho1)
        have HN18:=hid (And.intro n1 n8)
        clear hown hrd ho1 ho2 hbl hcell HO0 n1 n8
        dsimp only
        refine hK.out _ _ hS2 (fun hHeld=>?_)
        clear hK Kq hS2
        try simp only [Tk.put]
        refine Tk.x 7 rfl ?_
        try simp only [Tk.put]
        refine Tk.x 8 rfl ?_
        try simp only [Tk.put]
        refine Tk.x 9 rfl ?_
        try simp only [Tk.put]
        refine Tk.x 10 rfl ?_
        try simp only [Tk.put]
        refine Tk.x 11 rfl ?_
        try simp only [Tk.put]
        refine Tk.x 12 rfl ?_
        try simp only [Tk.put]
        refine Tk.x 13 rfl ?_
        try simp only [Tk.put]
        refine wpAnyH_done (by kernel_rfl) ?_ _
        obtain⟨nb,hnb⟩:∃ nb,bk.n=nb:=⟨_,rfl⟩
        rw [hnb] at HCO HN18
        try rw [hnb]
        obtain⟨n9,hn9⟩:∃ n9,nb+1=n9:=⟨_,rfl⟩
        try rw [hn9]
        have e0:(n9:Int) - 1=(nb:Int):=by omega
        have e1:IntKind.i64.wrap ((n9:Int) - 1)=(nb:Int):=by rw [e0];exact IntWalk.i64_in _ (by have:=HN18.out;omega)
        have e2:IntKind.i64.wrap (nb:Int)=(nb:Int):=IntWalk.i64_in _ (by have:=HN18.out;omega)
        have i0:(0:Int)≤(nb:Int):=by omega
        have i1:(nb:Int) < (n9:Int):=by omega
        have x0:=HCO.out 0 _ rfl
        have x1:=HCO.out 1 _ rfl
        have x2:=HCO.out 2 _ rfl
        simp only [Nat.add_zero] at x0
        have HI5:=hid (HIC.out _ hHeld)
        obtain⟨⟨p0,p1,p2⟩,p4,p5,p6⟩:=HI5.out
        have HBB:=hid (HBI2.out.trans (hHeld.mono (by have:=HBI.out;omega)))
        have k9:(k:Int)≤6:=by have:=HN6.out;have:=HLK.out;omega
        clear hnb hn9 hHeld
        go_wp2_with fail
        go_roundw
        case rel=>exact⟨k+1,by have:=HLK.out;omega,by go_num,HM0,hid (by rw [HOT.out];exact HI5.out.set o),hid (((HBB.out.setCell (p:=⟨BI,0,none⟩) (le_refl _) _).setCell (p:=⟨BI,1,none⟩) (le_refl _) _).setCell (p:=⟨BI,2,none⟩) (le_refl _) _)⟩
        case measure=>have:=HLK.out;simp [intOf];omega
       ·have hz2:(Z != 0)=true:=by simpa using hz0
        have HE:=hid (HEND.out hz0)
        have HBW:=hid (HWI.out.trans (hHeld.mono HWI.out.size))
        obtain⟨-,⟨⟨f0,f1,f2,f3⟩,f4,f5,f6,f7⟩⟩:=HUC.out _ hHeld
        clear HGO HEND hHeld hz0
        go_wp2_with fail
        refine bodyPost_ret (Kit.zat rfl _ _ (w.heap.size+1) 0 [.int .i64 (Z),.int .i64 (i:Int),.int .i64 (k:Int),.int .i64 (P)] _ rfl (zbg (by go_cell) (by go_cell) (by go_cell) (by go_cell)) Tryz.underlying34 rfl (by kernel_rfl)) rfl ?_
        exact⟨by rw [HE.out];first | done | rfl,by have hbw:=HBW.out;go_grown⟩
      ·obtain rfl:k=n2:=by omega
       have HG9:=hid (HGO0.out (by rw [HMG.out];exact hsk.out))
       have i9:(i:Int)≤4:=by have:=HN4.out;have:=HLT.out;omega
       go_wp2_with fail
       go_roundw
       case rel=>exact⟨i+1,by have:=HLT.out;omega,by go_num,HG9,HW1I⟩
       case measure=>have:=HLT.out;simp [intOf];omega
    ·obtain rfl:i=n:=by omega
     have HE:=hid (HV3'.out hst.out)
     go_wp2_with fail
     refine bodyPost_ret (Kit.zat rfl _ _ (w.heap.size+1) 0 [.int .i64 (0),.int .i64 (0),.int .i64 (0),.int .i64 (0)] _ rfl (zbg (by go_cell) (by go_cell) (by go_cell) (by go_cell)) Tryz.underlying34 rfl (by kernel_rfl)) rfl ?_
     exact⟨by rw [HE.out];first | done | rfl,by have hbw:=HWO.out;go_grown⟩
theorem rright33_to (u:Bu) (S:Nat→Nat→Ls) (w:World) (h:BuRdy w u S) :
  Calls Tryz.prog 9 #[.agg u.val.toArray] w fun e w'=>e=.returned (.bool (rgB u S))∧Below w.heap.size w w':=by
 have CB:=hid (fun (wx:World) (hb:Below w.heap.size w wx)=>rbundle33_to u S wx (h.below hb))
 unfold SaysQ at CB
 unfold rgB
 generalize bunV u S=V at *
 have HB0:=hid ((Below.refl w.heap.size w).alloc (le_refl _) (.cells u.val.toArray 26))
 have HU:=hid (UAt.new u 26 w)
 clear h
 obtain⟨V0,V1,V2,V3⟩:=V
 simp only [] at CB
 have hfd:∀ wx:World,(Instr.field 34 (.agg #[.int .i64 V0,.int .i64 V1,.int .i64 V2,.int .i64 V3]) 0).run Tryz.prog wx=.ok (.int .i64 V0) wx:=fun _=>by kernel_rfl
 go_enter Tryz.func9,Tryz.ntmps9
 go_upto_region 1 with fail
 generalize w.alloc (.cells u.val.toArray 26)=W0 at HB0 HU ⊢
 obtain⟨c0,c1,c2,c3,c4⟩:=HU.out
 go_wp2_with (go_at_call 7;(refine (CB.out _ HB0.out).mono ?_);rintro e w1 ⟨rfl,hb⟩;(have HB1:=hid (HB0.out.trans (hb.mono HB0.out.size)));clear hb)
 go_ret
 exact⟨rfl,HB1.out⟩
end CValid
end
end Go.Proofs.YtoffcaldhojjoaaGreatDoor
