/- -/
import Derived.Test.YtfgdfignoakkaaaGreatDoorGBT47
open Go.Lib (hid)
open Nat (le_refl lt_of_succ_lt lt_succ_self)
set_option linter.unusedVariables false
set_option linter.unusedSimpArgs false
set_option maxRecDepth 100000
set_option maxHeartbeats 16000000
namespace Go.Proofs.YtfgdfignoakkaaaGreatDoor
namespace CConv
end CConv
namespace CCost
end CCost
namespace CFix
end CFix
namespace CGraph
end CGraph
namespace CGuard
end CGuard
namespace CJoin
end CJoin
namespace CKind
end CKind
namespace CSat
end CSat
namespace CShape
end CShape
namespace CSpan
end CSpan
namespace CTensor
end CTensor
open Go Go.ChangeShapes Go.WideShapes Go.ChangeAt Go.RowKit Go.Deep
section
namespace CValid
open Plain CSat CFix CShape CTensor CConv CSpan CKind CGraph CJoin CGuard CBund CCost CVerd
theorem within_to (u:Bu) (S:Nat→Nat→Ls) (i:Nat) (hi:i < u.n) (w:World) (h:BuRdy w u S) (hT:zad w) :
  Calls Tryz.prog 44 #[.agg u.val.toArray,.agg #[.int .i64 (0),.int .i64 (i:Int),.int .i64 (-1),.int .i64 (-1)]] w (SaysQ (wiV u S i) w):=by
 have HRD:=hid h
 have HT:=hid hT
 obtain⟨m,hm⟩:∃ m,u.M i=m:=⟨_,rfl⟩
 have HWS:=hid (fun k p z (q:modO m (S i) (mdT0 u) u.cl=some (k,p,z))=>wiV_some (u:=u) (S:=S) (i:=i) (by rw [hm];exact q))
 have HWN:=hid (fun (q:modO m (S i) (mdT0 u) u.cl=none)=>wiV_none (u:=u) (S:=S) (i:=i) (by rw [hm];exact q))
 have HMO:Hid (MdOk w w.heap.size m):=hid (by rw [← hm];exact h.ok.each i hi)
 have HBR0:Hid (∀ k,k < m.n→BkRdy w (m.K k) (S i k)):=hid (by rw [← hm];exact fun k hk=>h.blk hi hk)
 obtain⟨bm,om,hAe,hbm,hcm⟩:=mod_cells h.ok hi
 rw [hm] at hcm
 have hu4:3 < 4:=by decide
 have hi0:(0:Int)≤(i:Int):=by omega
 have hi1:(i:Int) < (u.n:Int):=by omega
 generalize wiV u S i=T at *
 obtain⟨t0,ht0⟩:∃ t0:Tri,t0=(u.H,u.W,u.C):=⟨_,rfl⟩
 rw [show mdT0 u=t0 from ht0.symm] at HWS HWN
 have b3:Below (w.heap.size+2) ((w.alloc (.cells u.val.toArray 26)).alloc (.cells #[.int .i64 (0),.int .i64 (i:Int),.int .i64 (-1),.int .i64 (-1)] 67)) (((w.alloc (.cells u.val.toArray 26)).alloc (.cells #[.int .i64 (0),.int .i64 (i:Int),.int .i64 (-1),.int .i64 (-1)] 67)).alloc (.cells #[.int .i64 (0),.int .i64 (0),.int .i64 (0),.int .i64 (0)] 67)):=(Below.refl _ _).alloc (by simp) _
 have b2:Below (w.heap.size+1) (w.alloc (.cells u.val.toArray 26)) (((w.alloc (.cells u.val.toArray 26)).alloc (.cells #[.int .i64 (0),.int .i64 (i:Int),.int .i64 (-1),.int .i64 (-1)] 67)).alloc (.cells #[.int .i64 (0),.int .i64 (0),.int .i64 (0),.int .i64 (0)] 67)):=((Below.refl _ _).alloc (by simp) _).trans (b3.mono (by omega))
 have b1:Below w.heap.size w (((w.alloc (.cells u.val.toArray 26)).alloc (.cells #[.int .i64 (0),.int .i64 (i:Int),.int .i64 (-1),.int .i64 (-1)] 67)).alloc (.cells #[.int .i64 (0),.int .i64 (0),.int .i64 (0),.int .i64 (0)] 67)):=((Below.refl _ _).alloc (le_refl _) _).trans (b2.mono (by omega))
 have HB0:=hid b1
 have HU:=hid ((UAt.new u 26 w).below (lt_succ_self _) b2)
 have q2:=QOk.new (0,(i:Int), -1, -1) 67 (w.alloc (.cells u.val.toArray 26))
 have q3:=QOk.new (0,0,0,0) 67 ((w.alloc (.cells u.val.toArray 26)).alloc (.cells #[.int .i64 (0),.int .i64 (i:Int),.int .i64 (-1),.int .i64 (-1)] 67))
 simp only [World.size_alloc] at q2 q3
 have HQ:=hid (q2.below (lt_succ_self _) b3)
 have HF:=hid q3
 have HSZ:Hid (w.heap.size+3≤(((w.alloc (.cells u.val.toArray 26)).alloc (.cells #[.int .i64 (0),.int .i64 (i:Int),.int .i64 (-1),.int .i64 (-1)] 67)).alloc (.cells #[.int .i64 (0),.int .i64 (0),.int .i64 (0),.int .i64 (0)] 67)).heap.size):=hid (by simp)
 have hcm0:=(b1.cell (p:=⟨bm,om+i,none⟩) hbm).trans hcm
 clear b1 b2 b3 q2 q3 h hT hm hcm
 obtain⟨n,hn⟩:∃ n,m.n=n:=⟨_,rfl⟩
 rw [hn] at hcm0
 have HN:=hid hn
 have CM:=hid (fun wx:World=>many_to m.A n m.c wx)
 go_enter Tryz.func44,Tryz.ntmps44
 go_upto_region 1 with fail
 generalize (((w.alloc (.cells u.val.toArray 26)).alloc (.cells #[.int .i64 (0),.int .i64 (i:Int),.int .i64 (-1),.int .i64 (-1)] 67)).alloc (.cells #[.int .i64 (0),.int .i64 (0),.int .i64 (0),.int .i64 (0)] 67))=W0 at HU HQ HF HB0 HSZ hcm0 ⊢
 obtain⟨c0,c1,c2,c3,c4⟩:=HU.out
 obtain⟨⟨g0,g1,g2,g3⟩,g4,g5,g6,g7⟩:=HQ.out
 rw [hAe] at c4
 go_upto_region 2 with fail
 have HUX:Hid (∀ wx,Below W0.heap.size W0 wx→UAt w.heap.size u wx∧QOk (w.heap.size+1) (0,(i:Int), -1, -1) wx∧QOk (w.heap.size+2) (0,0,0,0) wx):=hid (fun wx hb=>⟨HU.out.below (B':=W0.heap.size) (by have:=HSZ.out;omega) hb,HQ.out.below (B':=W0.heap.size) (by have:=HSZ.out;omega) hb,HF.out.below (B':=W0.heap.size) (by have:=HSZ.out;omega) hb⟩)
 clear c0 c1 c2 c3 c4 g0 g1 g2 g3 g4 g5 g6 g7 hcm0 hAe hbm hi0 hi1 HU HQ HF hn
 by_cases h0:n=0
 ·subst h0
  have HE:=hid (HWS.out (-1) (-1) 12 (by unfold modO;rw [if_pos HN.out]))
  go_upto_region 3 with (go_at_call 70;(refine (CM.out _).mono ?_);rintro e w1 ⟨rfl,hb⟩;(have HB1:=hid (HB0.out.trans (hb.mono HB0.out.size)));(have HX:=hid (HUX.out _ hb));clear hb;obtain⟨⟨g0,g1,g2,g3⟩,g4,g5,g6,g7⟩:=HX.out.2.1)
  rw [show mnZ 0=12 from rfl]
  obtain⟨⟨f0,f1,f2,f3⟩,f4,f5,f6,f7⟩:=HX.out.2.2
  go_wp2_with fail
  refine bodyPost_ret (Kit.zau rfl _ _ (w.heap.size+2) 0 [.int .i64 (12),.int .i64 (i:Int),.int .i64 (-1),.int .i64 (-1)] _ rfl (zb6 (by go_cell) (by go_cell) (by go_cell) (by go_cell)) Tryz.underlying67 rfl (by kernel_rfl)) rfl ?_
  exact⟨by rw [HE.out];first | done | rfl,by have hbw:=HB1.out;go_grown⟩
 by_cases h2:6 < n
 ·have HE:=hid (HWS.out (-1) (-1) 4 (by unfold modO;rw [if_neg (by rw [HN.out];exact h0),if_pos (by rw [HN.out];exact h2)]))
  have hz:mnZ n=4:=by unfold mnZ;rw [if_neg h0,if_pos h2]
  rw [hz] at CM
  clear hz h0 h2
  go_upto_region 3 with (go_at_call 70;(refine (CM.out _).mono ?_);rintro e w1 ⟨rfl,hb⟩;(have HB1:=hid (HB0.out.trans (hb.mono HB0.out.size)));(have HX:=hid (HUX.out _ hb));clear hb;obtain⟨⟨g0,g1,g2,g3⟩,g4,g5,g6,g7⟩:=HX.out.2.1)
  obtain⟨⟨f0,f1,f2,f3⟩,f4,f5,f6,f7⟩:=HX.out.2.2
  go_wp2_with fail
  refine bodyPost_ret (Kit.zau rfl _ _ (w.heap.size+2) 0 [.int .i64 (4),.int .i64 (i:Int),.int .i64 (-1),.int .i64 (-1)] _ rfl (zb6 (by go_cell) (by go_cell) (by go_cell) (by go_cell)) Tryz.underlying67 rfl (by kernel_rfl)) rfl ?_
  exact⟨by rw [HE.out];first | done | rfl,by have hbw:=HB1.out;go_grown⟩
 have hz:mnZ n=0:=by unfold mnZ;rw [if_neg h0,if_neg h2]
 rw [hz] at CM
 have HMG:Hid (modO m (S i) t0 u.cl=mdO m (S i) t0 u.cl n):=hid (by rw [modO_go (by rw [HN.out];exact h0) (by rw [HN.out];exact h2),HN.out])
 have HN6:=hid (show n≤6 by omega)
 clear hz h0 h2
 go_upto_region 3 with (go_at_call 70;(refine (CM.out _).mono ?_);rintro e w1 ⟨rfl,hb⟩;(have HB1:=hid (HB0.out.trans (hb.mono HB0.out.size)));(have HX:=hid (HUX.out _ hb));(have HS1:=hid (Nat.le_trans HSZ.out hb.size));clear hb;obtain⟨⟨g0,g1,g2,g3⟩,g4,g5,g6,g7⟩:=HX.out.2.1)
 have HQ1:=hid (HX.out.2.1.set0 0)
 have HU1:Hid (UAt w.heap.size u (w1.setCell ⟨w.heap.size+1,0,none⟩ (.int .i64 0))):=hid (HX.out.1.below (B':=w.heap.size+1) (lt_succ_self _) ((Below.refl _ _).setCell (p:=⟨w.heap.size+1,0,none⟩) (le_refl _) _))
 have HF1:Hid (QOk (w.heap.size+2) (0,0,0,0) (w1.setCell ⟨w.heap.size+1,0,none⟩ (.int .i64 0))):=hid (HX.out.2.2.other (by omega))
 have HBS:Hid (Below w.heap.size w (w1.setCell ⟨w.heap.size+1,0,none⟩ (.int .i64 0))):=hid (HB1.out.setCell (p:=⟨w.heap.size+1,0,none⟩) (by simp) _)
 have HS2:Hid (w.heap.size+3≤(w1.setCell ⟨w.heap.size+1,0,none⟩ (.int .i64 0)).heap.size):=hid (by simp only [World.size_setCell];exact HS1.out)
 clear g0 g1 g2 g3 g4 g5 g6 g7 HX HB1 HS1 HUX CM
 generalize w1.setCell ⟨w.heap.size+1,0,none⟩ (.int .i64 0)=wo at HQ1 HU1 HF1 HBS HS2 ⊢
 obtain⟨⟨g0,g1,g2,g3⟩,g4,g5,g6,g7⟩:=HQ1.out
 obtain⟨c0,c1,c2,c3,c4⟩:=HU1.out
 have e0:u.H=t0.1:=by rw [ht0]
 have e1:u.W=t0.2.1:=by rw [ht0]
 have e2:u.C=t0.2.2:=by rw [ht0]
 rw [e0] at c0
 rw [e1] at c1
 rw [e2] at c2
 clear e0 e1 e2 ht0
 go_wp2_with fail
 clear g0 g1 g2 g3 g4 g5 g6 g7 c0 c1 c2 c3 c4
 have HIN0:=hid (InAt.new t0 23 wo)
 have HAL:Hid (Below wo.heap.size wo (wo.alloc (.cells #[.int .i64 t0.1,.int .i64 t0.2.1,.int .i64 t0.2.2] 23))):=hid ((Below.refl _ _).alloc (le_refl _) _)
 obtain⟨BI,hBI⟩:∃ BI,BI=wo.heap.size:=⟨_,rfl⟩
 have HBE:=hid hBI
 rw [← hBI] at HIN0 HAL
 try rw [← hBI]
 generalize wo.alloc (.cells #[.int .i64 t0.1,.int .i64 t0.2.1,.int .i64 t0.2.2] 23)=WA at HIN0 HAL ⊢
 clear hBI
 go_loopw [30] (fun s wr=>∃ k:Nat,k≤n∧s=.int .i64 k∧Hid (mdO m (S i) t0 u.cl k=none)∧Hid (InAt BI (inT m t0 k) wr)∧Hid (Below BI wo wr)) (fun s _=>n - (intOf s).toNat)
 case atStart=>exact⟨0,Nat.zero_le _,rfl,hid rfl,HIN0,HAL⟩
 case round =>
  obtain⟨k,hk,rfl,hsk,HIA,HBR⟩:=hrel
  obtain⟨wi,hwi⟩:∃ wi,wi=wr:=⟨_,rfl⟩
  subst hwi
  clear HIN0 HAL
  have HBI:Hid (BI+1≤wi.heap.size):=hid (Kit.block_lt HIA.out.1.1)
  have HS3:Hid (w.heap.size+3≤BI):=hid (by have:=HS2.out;have:=HBE.out;omega)
  have HUX:Hid (∀ wx,Below BI wo wx→UAt w.heap.size u wx∧QOk (w.heap.size+1) (0,(i:Int), -1, -1) wx∧QOk (w.heap.size+2) (0,0,0,0) wx):=hid (fun wx hb=>⟨HU1.out.below (B':=BI) (by have:=HS3.out;omega) hb,HQ1.out.below (B':=BI) (by have:=HS3.out;omega) hb,HF1.out.below (B':=BI) (by have:=HS3.out;omega) hb⟩)
  have HWI:Hid (Below w.heap.size w wi):=hid (HBS.out.trans (HBR.out.mono (by have:=HS3.out;omega)))
  by_cases hlk:k < n
  ·have k5:(0:Int)≤(k:Int):=by omega
   have k6:(k:Int) < (n:Int):=by omega
   have hkn:k < m.n:=by have:=HN.out;omega
   obtain⟨bb,ob,hBe,hbb,hb0,hb1,hb2,hb3,hb4⟩:=blk_cells (HMO.out.below HWI.out) hkn
   obtain⟨lb,hlb⟩:∃ lb,lastB m k=lb:=⟨_,rfl⟩
   obtain⟨q,hq⟩:∃ q:Int,(n:Int) - 1=q:=⟨_,rfl⟩
   have e1:IntKind.i64.wrap ((n:Int) - 1)=q:=by rw [hq];exact IntWalk.i64_in _ (by have:=HN6.out;omega)
   have e2:IntKind.i64.wrap q=q:=IntWalk.i64_in _ (by have:=HN6.out;omega)
   have hlk2:decide ((k:Int)=q)=lb:=by rw [← hlb];unfold lastB;rw [HN.out];by_cases hh:k+1=n <;> simp [hh] <;> omega
   have e3:((k:Int) == q)=lb:=by rw [← hlk2];rfl
   obtain⟨bk,hbk⟩:∃ bk,m.K k=bk:=⟨_,rfl⟩
   rw [hbk] at hb0 hb1 hb2 hb3 hb4
   obtain⟨sk,hsk2⟩:∃ sk,S i k=sk:=⟨_,rfl⟩
   obtain⟨ti,hti⟩:∃ ti,inT m t0 k=ti:=⟨_,rfl⟩
   rw [hti] at HIA
   obtain⟨o,hoo⟩:∃ o,thT bk sk ti u.cl lb=o:=⟨_,rfl⟩
   obtain⟨P,hP⟩:∃ P,bkP bk sk ti u.cl lb=P:=⟨_,rfl⟩
   obtain⟨Z,hZ⟩:∃ Z,bkZ bk sk ti u.cl lb=Z:=⟨_,rfl⟩
   have HEND:Hid (¬ Z=0→T=(Z,(i:Int),(k:Int),P)):=hid (fun hz=>by
    have h1:=mdO_end (m:=m) (S:=S i) (t0:=t0) (cl:=u.cl) (k:=k) (n:=n) hlk hsk.out (p:=P) (z:=Z) (by rw [hbk,hsk2,hti,hlb, ← hP, ← hZ];exact bk_some (by rw [hZ];exact hz))
    exact HWS.out k P Z (by rw [HMG.out];exact h1))
   have HGO:Hid (Z=0→inT m t0 (k+1)=o∧mdO m (S i) t0 u.cl (k+1)=none):=hid (fun hz=>by
    have h1:blkO bk sk ti u.cl lb=none:=bkZ_none (by rw [hZ];exact hz)
    refine⟨?_,?_⟩
    ·rw [← hoo,th_fine h1,inT,hbk,hti]
    ·exact mdO_go hsk.out (by rw [hbk,hsk2,hti,hlb];exact h1))
   have HRK:Hid (BkRdy wi bk sk):=hid (by rw [← hbk, ← hsk2];exact (HBR0.out k hkn).below HWI.out)
   have CT:Hid (∀ wx,Below wi.heap.size wi wx→Calls Tryz.prog 71 #[.agg bk.val.toArray,.agg #[.int .i64 ti.1,.int .i64 ti.2.1,.int .i64 ti.2.2],.int .i64 u.cl,.bool lb] wx (SaysT o P Z wx)) :=
    hid (fun wx hb=>by have q:=through33_to bk sk ti u.cl lb wx (HRK.out.below hb) (HT.out.grown (HWI.out.trans (hb.mono HWI.out.size)));rw [hoo,hP,hZ] at q;exact q)
   rw [hBe]
   clear hBe hbb hbk hsk2 hti hoo hP hZ hlb hkn hlk2
   have hq0:=hid hq
   clear hq
   go_upto_region 9 with fail
   have HA8:Hid (Below wi.heap.size wi (wi.alloc (.cells #[.slice bk.A bk.n bk.c,.bool bk.ex,.slice bk.hd.WA bk.hd.nW bk.hd.cW,.slice bk.hd.BA bk.hd.nB bk.hd.cB,.int .i32 bk.hd.D] 49))):=hid ((Below.refl _ _).alloc (le_refl _) _)
   have HK8:=hid (BkAt.new bk 49 wi)
   have HS8:Hid (wi.heap.size < (wi.alloc (.cells #[.slice bk.A bk.n bk.c,.bool bk.ex,.slice bk.hd.WA bk.hd.nW bk.hd.cW,.slice bk.hd.BA bk.hd.nB bk.hd.cB,.int .i32 bk.hd.D] 49)).heap.size):=hid (by simp)
   clear hb0 hb1 hb2 hb3 hb4
   unfold Bk.val at HK8
   generalize wi.alloc (.cells #[.slice bk.A bk.n bk.c,.bool bk.ex,.slice bk.hd.WA bk.hd.nW bk.hd.cW,.slice bk.hd.BA bk.hd.nB bk.hd.cB,.int .i32 bk.hd.D] 49)=W8 at HA8 HK8 HS8 ⊢
   have HBB8:Hid (Below BI wo W8):=hid (HBR.out.trans (HA8.out.mono (by have:=HBI.out;omega)))
   have HI8:Hid (InAt BI ti W8):=hid (HIA.out.below (B':=wi.heap.size) (by have:=HBI.out;omega) HA8.out)
   obtain⟨b0,b1,b2,b3,b4⟩:=HK8.out
   obtain⟨i0,i1,i2⟩:=HI8.out.1
   have c3:=(HUX.out _ HBB8.out).1.2.2.2.1
   have hq:=hq0.out
   go_upto_region 10 with (go_at_call 71;(refine (CT.out _ HA8.out).mono ?_);rintro e w5 ⟨rfl,hb⟩;(have HB5:=hid (HBB8.out.trans (hb.mono (by have:=HS8.out;have:=HBI.out;omega))));(have HI5:=hid (HI8.out.below (B':=W8.heap.size) (by have:=HS8.out;have:=HBI.out;omega) hb));(have HG5:Hid (BI < w5.heap.size):=hid (by have:=hb.size;have:=HS8.out;have:=HBI.out;omega));clear hb)
   clear b0 b1 b2 b3 b4 i0 i1 i2 c3 hq e1 e2 e3
   have HB9:Hid (Below BI wo (w5.alloc (.cells #[.int .i64 o.1,.int .i64 o.2.1,.int .i64 o.2.2] 23))):=hid (HB5.out.alloc (by have:=HG5.out;omega) _)
   have HI9:Hid (InAt BI ti (w5.alloc (.cells #[.int .i64 o.1,.int .i64 o.2.1,.int .i64 o.2.2] 23))):=hid (HI5.out.below HG5.out ((Below.refl _ _).alloc (le_refl _) _))
   have HO9:=hid (TriAt.new o 23 w5)
   have hneb:¬ w5.heap.size=BI:=by have:=HG5.out;omega
   have hneb2:¬ BI=w5.heap.size:=fun h=>hneb h.symm
   generalize hbx:w5.heap.size=bx at *
   generalize w5.alloc (.cells #[.int .i64 o.1,.int .i64 o.2.1,.int .i64 o.2.2] 23)=W9 at HB9 HI9 HO9 ⊢
   clear hbx
   by_cases hz0:Z=0
   ·obtain⟨ho0,hm0⟩:=HGO.out hz0
    have HO0:=hid ho0
    have HM0:=hid hm0
    clear HGO HEND ho0 hm0
    subst hz0
    obtain⟨⟨p0,p1,p2⟩,p4,p5,p6⟩:=HI9.out
    obtain⟨x0,x1,x2⟩:=HO9.out
    have k9:(k:Int)≤6:=by have:=HN6.out;omega
    go_wp2_with fail
    go_roundw
    case rel=>exact⟨k+1,by omega,by go_num,HM0,hid (by rw [HO0.out];exact HI9.out.set o),hid (((HB9.out.setCell (p:=⟨BI,0,none⟩) (le_refl _) _).setCell (p:=⟨BI,1,none⟩) (le_refl _) _).setCell (p:=⟨BI,2,none⟩) (le_refl _) _)⟩
    case measure=>simp [intOf];omega
   ·have hz2:(Z != 0)=true:=by simpa using hz0
    have HE:=hid (HEND.out hz0)
    have HBW:Hid (Below w.heap.size w W9):=hid (HBS.out.trans (HB9.out.mono (by have:=HS3.out;omega)))
    obtain⟨-,⟨⟨g0,g1,g2,g3⟩, -⟩,⟨⟨f0,f1,f2,f3⟩,f4,f5,f6,f7⟩⟩:=HUX.out _ HB9.out
    clear HGO HEND hz0 hneb hneb2
    go_wp2_with fail
    refine bodyPost_ret (Kit.zau rfl _ _ (w.heap.size+2) 0 [.int .i64 (Z),.int .i64 (i:Int),.int .i64 (k:Int),.int .i64 (P)] _ rfl (zb6 (by go_cell) (by go_cell) (by go_cell) (by go_cell)) Tryz.underlying67 rfl (by kernel_rfl)) rfl ?_
    exact⟨by rw [HE.out];first | done | rfl,by have hbw:=HBW.out;go_grown⟩
  ·obtain rfl:k=n:=by omega
   have HE:=hid (HWN.out (by rw [HMG.out];exact hsk.out))
   obtain⟨-,⟨⟨g0,g1,g2,g3⟩, -⟩,⟨⟨f0,f1,f2,f3⟩,f4,f5,f6,f7⟩⟩:=HUX.out _ HBR.out
   go_wp2_with fail
   refine bodyPost_ret (Kit.zau rfl _ _ (w.heap.size+2) 0 [.int .i64 (0),.int .i64 (i:Int),.int .i64 (-1),.int .i64 (-1)] _ rfl (zb6 (by go_cell) (by go_cell) (by go_cell) (by go_cell)) Tryz.underlying67 rfl (by kernel_rfl)) rfl ?_
   exact⟨by rw [HE.out];first | done | rfl,by have hbw:=HWI.out;go_grown⟩
end CValid
end
end Go.Proofs.YtfgdfignoakkaaaGreatDoor
