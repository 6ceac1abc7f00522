/- -/
import Derived.Test.YtoffcaldhojjoaaDoorGVP48
open Go.Lib (hid)
open Nat (le_refl lt_of_succ_lt lt_succ_self)
set_option linter.unusedVariables false
set_option linter.unusedSimpArgs false
set_option maxRecDepth 100000
set_option maxHeartbeats 16000000
namespace Go.Proofs.YtoffcaldhojjoaaDoor
namespace CConv
end CConv
namespace CCost
end CCost
namespace CFix
end CFix
namespace CGraph
end CGraph
namespace CGuard
end CGuard
namespace CJoin
end CJoin
namespace CKind
end CKind
namespace CSat
end CSat
namespace CShape
end CShape
namespace CSpan
end CSpan
namespace CTensor
end CTensor
open Go Go.ChangeShapes Go.WideShapes Go.ChangeAt Go.RowKit Go.Deep
section
namespace CValid
open Plain CSat CFix CShape CTensor CConv CSpan CKind CGraph CJoin CGuard CBund CCost CVerd
theorem eqFault (a b c d x y z v:Int) (w:World):(Op.equalIn 10000 49 (.agg #[.int .i64 a,.int .i64 b,.int .i64 c,.int .i64 d]) (.agg #[.int .i64 x,.int .i64 y,.int .i64 z,.int .i64 v])).run Tryd.prog w=.ok (a == x && (b == y && (c == z && d == v))) w:=by
 have u3:=Tryd.underlying3
 have a3:=Tryd.isAgg3
 have z3:=Tryd.sizeOf3
 have u4:=Tryd.underlying39
 have a4:=Tryd.isAgg39
 have z4:=Tryd.sizeOf39
 have hS:Tryd.prog.underlying 49=some (.struct (Tryd.prog.fieldsOf 49)):=by kernel_rfl
 rw [show (10000:Nat)=9999+1 from rfl,run_equalIn_agg w 9999 49 _ _ hS Tryd.stoodInHeld49]
 simp only [Program.fieldsOf,Tryd.underlying49]
 go_simp
 by_cases h1:a=x <;> by_cases h2:b=y <;> by_cases h3:c=z <;> by_cases h4:d=v <;> simp [h1,h2,h3,h4]
theorem bunV_out {u:Bu} {S:Nat→Nat→Ls} {z:Int} (h:za0 u=z) (hz:z≠0):bunV u S=(z, -1, -1, -1):=by unfold bunV;rw [h,if_pos hz]
theorem bunV_mod {u:Bu} {S:Nat→Nat→Ls} (h:za0 u=0) {i k p z:Int} (hm:buO u S u.n=some (i,k,p,z)):bunV u S=(z,i,k,p):=by unfold bunV;rw [if_neg (by simpa using h),hm]
theorem bunV_fine {u:Bu} {S:Nat→Nat→Ls} (h:za0 u=0) (hm:buO u S u.n=none):bunV u S=(0,0,0,0):=by unfold bunV;rw [if_neg (by simpa using h),hm]
theorem wiV_ne {u:Bu} {S:Nat→Nat→Ls} {i:Nat} (h:(wiV u S i).1=0):modO (u.M i) (S i) (mdT0 u) u.cl=none:=by
 unfold wiV at h
 cases hs:modO (u.M i) (S i) (mdT0 u) u.cl with
 | none=>rfl
 | some r=>rw [hs] at h;exact absurd h (modO_nz (k:=r.1) (p:=r.2.1) hs)
theorem wiV_mo {u:Bu} {S:Nat→Nat→Ls} {i:Nat} (h:(wiV u S i).1≠0):modO (u.M i) (S i) (mdT0 u) u.cl=some ((wiV u S i).2.2.1,(wiV u S i).2.2.2,(wiV u S i).1):=by
 unfold wiV at h ⊢
 cases hs:modO (u.M i) (S i) (mdT0 u) u.cl with
 | none=>rw [hs] at h;exact absurd rfl h
 | some r=>rfl
theorem wiV_i {u:Bu} {S:Nat→Nat→Ls} {i:Nat} : (wiV u S i).2.1=(i:Int):=by
 unfold wiV
 cases modO (u.M i) (S i) (mdT0 u) u.cl <;> rfl
theorem cbundle33_to (u:Bu) (S:Nat→Nat→Ls) (w:World) (h:BuRdy w u S) (hT:zae w) :
  Calls Tryd.prog 11 #[.agg u.val.toArray] w (SaysQ (bunV u S) w):=by
 obtain⟨oz,hoz⟩:∃ oz,za0 u=oz:=⟨_,rfl⟩
 have CO:=hid (fun wx:World=>by have q:=outside_to u wx;rw [hoz] at q;exact q)
 have HV1:=hid (fun (hz:oz≠0)=>bunV_out (S:=S) hoz hz)
 have HV2:=hid (fun (hz:oz=0) i k p z (hm:buO u S u.n=some (i,k,p,z))=>bunV_mod (hoz.trans hz) hm)
 have HV3:=hid (fun (hz:oz=0) (hm:buO u S u.n=none)=>bunV_fine (hoz.trans hz) hm)
 generalize bunV u S=V at *
 have HN4:=hid h.few.1
 have CW:=hid (fun (i:Nat) (hi:i < u.n) (wx:World) (hb:Below w.heap.size w wx)=>within_to u S i hi wx (h.below hb) (hT.grown hb))
 have HEQ:=hid eqFault
 have HEG:=hid Tryd.eqGuardType49
 have b2:Below (w.heap.size+1) (w.alloc (.cells u.val.toArray 37)) ((w.alloc (.cells u.val.toArray 37)).alloc (.cells #[.int .i64 (0),.int .i64 (0),.int .i64 (0),.int .i64 (0)] 49)):=(Below.refl _ _).alloc (by simp) _
 have b1:Below w.heap.size w ((w.alloc (.cells u.val.toArray 37)).alloc (.cells #[.int .i64 (0),.int .i64 (0),.int .i64 (0),.int .i64 (0)] 49)):=((Below.refl _ _).alloc (le_refl _) _).trans (b2.mono (by omega))
 have HB0:=hid b1
 have HU:=hid ((UAt.new u 37 w).below (lt_succ_self _) b2)
 have q2:=QOk.new (0,0,0,0) 49 (w.alloc (.cells u.val.toArray 37))
 simp only [World.size_alloc] at q2
 have HF:=hid q2
 have HSZ:Hid (w.heap.size+2≤((w.alloc (.cells u.val.toArray 37)).alloc (.cells #[.int .i64 (0),.int .i64 (0),.int .i64 (0),.int .i64 (0)] 49)).heap.size):=hid (by simp)
 clear b1 b2 q2 h hT hoz
 go_enter Tryd.func11,Tryd.ntmps11
 go_upto_region 1 with fail
 generalize ((w.alloc (.cells u.val.toArray 37)).alloc (.cells #[.int .i64 (0),.int .i64 (0),.int .i64 (0),.int .i64 (0)] 49))=W0 at HU HF HB0 HSZ ⊢
 obtain⟨c0,c1,c2,c3,c4⟩:=HU.out
 go_upto_region 2 with (go_at_call 17;(refine (CO.out _).mono ?_);rintro e w1 ⟨rfl,hb⟩;(have HB1:=hid (HB0.out.trans (hb.mono HB0.out.size)));(have HU1:=hid (HU.out.below (B':=W0.heap.size) (by have:=HSZ.out;omega) hb));(have HF1:=hid (HF.out.below (B':=W0.heap.size) (by have:=HSZ.out;omega) hb));(have HS1:=hid (Nat.le_trans HSZ.out hb.size));clear hb c0 c1 c2 c3 c4)
 have HQ0:=hid (QOk.new (oz, -1, -1, -1) 49 w1)
 have HAL:Hid (Below w1.heap.size w1 (w1.alloc (.cells #[.int .i64 (oz),.int .i64 (-1),.int .i64 (-1),.int .i64 (-1)] 49))):=hid ((Below.refl _ _).alloc (le_refl _) _)
 obtain⟨BQ,hBQ⟩:∃ BQ,BQ=w1.heap.size:=⟨_,rfl⟩
 have HBE:=hid hBQ
 rw [← hBQ] at HQ0 HAL
 try rw [← hBQ]
 generalize (w1.alloc (.cells #[.int .i64 (oz),.int .i64 (-1),.int .i64 (-1),.int .i64 (-1)] 49))=WA at HQ0 HAL ⊢
 clear hBQ HU HF HB0 HSZ CO
 have HS3:Hid (w.heap.size+2≤BQ):=hid (by have:=HS1.out;have:=HBE.out;omega)
 have HUX:Hid (∀ wx,Below BQ w1 wx→UAt w.heap.size u wx∧QOk (w.heap.size+1) (0,0,0,0) wx):=hid (fun wx hb=>⟨HU1.out.below (B':=BQ) (by have:=HS3.out;omega) hb,HF1.out.below (B':=BQ) (by have:=HS3.out;omega) hb⟩)
 obtain⟨⟨g0,g1,g2,g3⟩,g4,g5,g6,g7⟩:=HQ0.out
 obtain⟨⟨c0,c1,c2,c3,c4⟩,⟨⟨f0,f1,f2,f3⟩,f4,f5,f6,f7⟩⟩:=HUX.out _ HAL.out
 by_cases hz0:oz=0
 ·have HV2':=hid (HV2.out hz0)
  have HV3':=hid (HV3.out hz0)
  clear HV1 HV2 HV3
  subst hz0
  obtain⟨n,hn⟩:∃ n,u.n=n:=⟨_,rfl⟩
  rw [hn] at c4 HV2' HV3' CW HN4
  clear hn
  go_wp2_with fail
  clear g0 g1 g2 g3 g4 g5 g6 g7 c0 c1 c2 c3 c4 f0 f1 f2 f3 f4 f5 f6 f7
  go_loopw [16] (fun s wr=>∃ i:Nat,i≤n∧s=.int .i64 i∧Hid (buO u S i=none)∧(∃ q:Int,Hid (QOk BQ (0,q, -1, -1) wr))∧Hid (Below BQ w1 wr)) (fun s _=>n - (intOf s).toNat)
  case atStart=>exact⟨0,Nat.zero_le _,rfl,hid rfl,⟨_,HQ0⟩,HAL⟩
  case round =>
   obtain⟨i,hi,rfl,hst,⟨q,HQ⟩,HBR⟩:=hrel
   obtain⟨wi,hwi⟩:∃ wi,wi=wr:=⟨_,rfl⟩
   subst hwi
   clear HQ0 HAL
   have HBI:Hid (BQ+1≤wi.heap.size):=hid (Kit.block_lt HQ.out.1.1)
   have HWI:Hid (Below w.heap.size w wi):=hid (HB1.out.trans (HBR.out.mono (by have:=HS3.out;omega)))
   obtain⟨⟨c0,c1,c2,c3,c4⟩,⟨⟨f0,f1,f2,f3⟩,f4,f5,f6,f7⟩⟩:=HUX.out _ HBR.out
   obtain⟨⟨g0,g1,g2,g3⟩,g4,g5,g6,g7⟩:=HQ.out
   by_cases hlt:i < n
   ·have i5:(0:Int)≤(i:Int):=by omega
    have i6:(i:Int) < (n:Int):=by omega
    have HLT:=hid hlt
    clear f0 f1 f2 f3 f4 f5 f6 f7 hlt
    go_upto_region 8 with fail
    have HQ1:Hid (QOk BQ (0,(i:Int), -1, -1) (wi.setCell ⟨BQ,1,none⟩ (.int .i64 i))):=hid (HQ.out.set1 _)
    have HB1r:Hid (Below BQ w1 (wi.setCell ⟨BQ,1,none⟩ (.int .i64 i))):=hid (HBR.out.setCell (p:=⟨BQ,1,none⟩) (le_refl _) _)
    have HS4:Hid (BQ+1≤(wi.setCell ⟨BQ,1,none⟩ (.int .i64 i)).heap.size):=hid (by simp only [World.size_setCell];exact HBI.out)
    clear g0 g1 g2 g3 g4 g5 g6 g7 c0 c1 c2 c3 c4
    generalize wi.setCell ⟨BQ,1,none⟩ (.int .i64 i)=W4 at HQ1 HB1r HS4 ⊢
    have HW4:Hid (Below w.heap.size w W4):=hid (HB1.out.trans (HB1r.out.mono (by have:=HS3.out;omega)))
    obtain⟨⟨c0,c1,c2,c3,c4⟩, -⟩:=HUX.out _ HB1r.out
    obtain⟨⟨g0,g1,g2,g3⟩,g4,g5,g6,g7⟩:=HQ1.out
    have CW2:=hid (CW.out i HLT.out W4 HW4.out)
    obtain⟨a0,ha0⟩:∃ a,(wiV u S i).1=a:=⟨_,rfl⟩
    obtain⟨a2,ha2⟩:∃ a,(wiV u S i).2.2.1=a:=⟨_,rfl⟩
    obtain⟨a3,ha3⟩:∃ a,(wiV u S i).2.2.2=a:=⟨_,rfl⟩
    have hwv:wiV u S i=(a0,(i:Int),a2,a3):=by rw [← ha0, ← ha2, ← ha3, ← wiV_i (u:=u) (S:=S) (i:=i)]
    have HEND:Hid (¬ a0=0→V=(a0,(i:Int),a2,a3)):=hid (fun hz=>HV2'.out i a2 a3 a0 (buO_end HLT.out hst.out (by rw [← ha2, ← ha3, ← ha0];exact wiV_mo (by rw [ha0];exact hz))))
    have HGO:Hid (a0=0→buO u S (i+1)=none∧a2 = -1∧a3 = -1):=hid (fun hz=>by
     have h1:=wiV_ne (u:=u) (S:=S) (i:=i) (by rw [ha0];exact hz)
     have h2:=wiV_none h1
     rw [hwv] at h2
     simp only [Prod.mk.injEq] at h2
     exact⟨buO_go hst.out h1,h2.2.2.1,h2.2.2.2⟩)
    unfold SaysQ at CW2
    rw [hwv] at CW2
    clear ha0 ha2 ha3 hwv
    go_upto_region 9 with (go_at_call 18;(refine CW2.out.mono ?_);rintro e w5 ⟨rfl,hb⟩;(have HB5:=hid (HB1r.out.trans (hb.mono (by have:=HS4.out;omega))));(have HQ5:=hid (HQ1.out.below (B':=W4.heap.size) HS4.out hb));(have HG5:Hid (BQ < w5.heap.size):=hid (by have:=hb.size;have:=HS4.out;omega));clear hb)
    clear g0 g1 g2 g3 g4 g5 g6 g7 c0 c1 c2 c3 c4
    have HB9:Hid (Below BQ w1 (w5.alloc (.cells #[.int .i64 (a0),.int .i64 (i:Int),.int .i64 (a2),.int .i64 (a3)] 49))):=hid (HB5.out.alloc (by have:=HG5.out;omega) _)
    have HQ9:Hid (QOk BQ (0,(i:Int), -1, -1) (w5.alloc (.cells #[.int .i64 (a0),.int .i64 (i:Int),.int .i64 (a2),.int .i64 (a3)] 49))):=hid (HQ5.out.below HG5.out ((Below.refl _ _).alloc (le_refl _) _))
    have HN9:=hid (QOk.new (a0,(i:Int),a2,a3) 49 w5)
    generalize hbx:w5.heap.size=bx at *
    generalize w5.alloc (.cells #[.int .i64 (a0),.int .i64 (i:Int),.int .i64 (a2),.int .i64 (a3)] 49)=W9 at HB9 HQ9 HN9 ⊢
    clear hbx
    obtain⟨⟨g0,g1,g2,g3⟩,g4,g5,g6,g7⟩:=HQ9.out
    obtain⟨⟨x0,x1,x2,x3⟩,x4,x5,x6,x7⟩:=HN9.out
    have heq:=HEQ.out
    have heg:=HEG.out
    by_cases hz0:a0=0
    ·obtain⟨h1,h2,h3⟩:=HGO.out hz0
     have HM0:=hid h1
     clear HGO HEND h1
     subst hz0 h2 h3
     have k9:(i:Int)≤4:=by have:=HN4.out;omega
     go_wp2_with fail
     go_roundw
     case rel=>exact⟨i+1,by omega,by go_num,HM0,⟨_,HQ9⟩,HB9⟩
     case measure=>have:=HLT.out;simp [intOf];omega
    ·have HE:=hid (HEND.out hz0)
     have hz2:(a0 == 0)=false:=by simpa using hz0
     have HBW:Hid (Below w.heap.size w W9):=hid (HB1.out.trans (HB9.out.mono (by have:=HS3.out;omega)))
     obtain⟨-,⟨⟨f0,f1,f2,f3⟩,f4,f5,f6,f7⟩⟩:=HUX.out _ HB9.out
     clear HGO HEND
     go_wp2_with fail
     refine bodyPost_ret (Kit.zaq rfl _ _ (w.heap.size+1) 0 [.int .i64 (a0),.int .i64 (i:Int),.int .i64 (a2),.int .i64 (a3)] _ rfl (zbq (by go_cell) (by go_cell) (by go_cell) (by go_cell)) Tryd.underlying49 rfl (by kernel_rfl)) rfl ?_
     exact⟨by rw [HE.out];first | done | rfl,by have hbw:=HBW.out;go_grown⟩
   ·obtain rfl:i=n:=by omega
    have HE:=hid (HV3'.out hst.out)
    go_wp2_with fail
    refine bodyPost_ret (Kit.zaq rfl _ _ (w.heap.size+1) 0 [.int .i64 (0),.int .i64 (0),.int .i64 (0),.int .i64 (0)] _ rfl (zbq (by go_cell) (by go_cell) (by go_cell) (by go_cell)) Tryd.underlying49 rfl (by kernel_rfl)) rfl ?_
    exact⟨by rw [HE.out];first | done | rfl,by have hbw:=HWI.out;go_grown⟩
 ·have hz2:(oz != 0)=true:=by simpa using hz0
  have HE:=hid (HV1.out hz0)
  have HBW:Hid (Below w.heap.size w WA):=hid (HB1.out.trans (HAL.out.mono (by have:=HS3.out;omega)))
  clear HV1 HV2 HV3 hz0
  go_wp2_with fail
  refine bodyPost_ret (Kit.zaq rfl _ _ (w.heap.size+1) 0 [.int .i64 (oz),.int .i64 (-1),.int .i64 (-1),.int .i64 (-1)] _ rfl (zbq (by go_cell) (by go_cell) (by go_cell) (by go_cell)) Tryd.underlying49 rfl (by kernel_rfl)) rfl ?_
  exact⟨by rw [HE.out];first | done | rfl,by have hbw:=HBW.out;go_grown⟩
def rgB (u:Bu) (S:Nat→Nat→Ls):Bool:=(bunV u S).1 == 0
theorem zbd (u:Bu) (S:Nat→Nat→Ls) (w:World) (h:BuRdy w u S) (hT:zae w) :
  Calls Tryd.prog 9 #[.agg u.val.toArray] w fun e w'=>e=.returned (.bool (rgB u S))∧Below w.heap.size w w':=by
 have CB:=hid (fun (wx:World) (hb:Below w.heap.size w wx)=>cbundle33_to u S wx (h.below hb) (hT.grown hb))
 unfold SaysQ at CB
 unfold rgB
 generalize bunV u S=V at *
 have HB0:=hid ((Below.refl w.heap.size w).alloc (le_refl _) (.cells u.val.toArray 37))
 have HU:=hid (UAt.new u 37 w)
 clear h hT
 obtain⟨V0,V1,V2,V3⟩:=V
 simp only [] at CB
 have hfd:∀ wx:World,(Instr.field 49 (.agg #[.int .i64 V0,.int .i64 V1,.int .i64 V2,.int .i64 V3]) 0).run Tryd.prog wx=.ok (.int .i64 V0) wx:=fun _=>by kernel_rfl
 go_enter Tryd.func9,Tryd.ntmps9
 go_upto_region 1 with fail
 generalize w.alloc (.cells u.val.toArray 37)=W0 at HB0 HU ⊢
 obtain⟨c0,c1,c2,c3,c4⟩:=HU.out
 go_wp2_with (go_at_call 11;(refine (CB.out _ HB0.out).mono ?_);rintro e w1 ⟨rfl,hb⟩;(have HB1:=hid (HB0.out.trans (hb.mono HB0.out.size)));clear hb)
 go_ret
 exact⟨rfl,HB1.out⟩
def bu0:Bu:=⟨0,0,0,0,none,0,0,fun _=>md0⟩
theorem bu0_ok (w:World):BuRdy w bu0 (fun _ _=>ls0):=by
 have z0:(Lit.int .i64 0).wf=true:=by decide
 exact⟨⟨⟨z0,z0,z0,z0⟩,⟨le_refl _,Nat.zero_le _⟩,(fun j hj=>absurd hj (Nat.not_lt_zero j)),fun j hj=>absurd hj (Nat.not_lt_zero j)⟩,fun i hi=>absurd hi (Nat.not_lt_zero i),⟨Nat.zero_le _,fun j hj=>absurd hj (Nat.not_lt_zero j)⟩⟩
theorem bu0_is:bunV bu0 (fun _ _=>ls0)=(5, -1, -1, -1):=by decide +kernel
theorem known33 (w:World) (hT:zae w):Calls Tryd.prog 6 #[] w fun e w'=>e=.returned (.bool true)∧Below w.heap.size w w':=by
 have CB:=hid (cbundle33_to bu0 (fun _ _=>ls0) w (bu0_ok w) hT)
 have CR:=hid (fun (wx:World) (hb:Below w.heap.size w wx)=>by have q:=zbd bu0 (fun _ _=>ls0) wx (bu0_ok wx) (hT.grown hb);rw [show rgB bu0 (fun _ _=>ls0)=false by unfold rgB;rw [bu0_is];rfl] at q;exact q)
 unfold SaysQ at CB
 rw [bu0_is] at CB
 have HEQ:=hid (eqFault 5 (-1) (-1) (-1) 5 (-1) (-1) (-1))
 have HEG:=hid Tryd.eqGuardType49
 have heq:=HEQ.out
 have heg:=HEG.out
 clear hT
 go_enter Tryd.func6,Tryd.ntmps6
 go_wp2_with (first
  | (go_at_call 11
     refine CB.out.mono ?_
     rintro e w1 ⟨rfl,hb⟩
     have HB1:=hid hb
     clear hb)
  | (go_at_call 9
     refine (CR.out _ HB1.out).mono ?_
     rintro e w2 ⟨rfl,hb⟩
     have HB2:=hid (HB1.out.trans (hb.mono HB1.out.size))
     clear hb))
 go_ret
 exact⟨rfl,HB2.out⟩
end CValid
end
end Go.Proofs.YtoffcaldhojjoaaDoor
