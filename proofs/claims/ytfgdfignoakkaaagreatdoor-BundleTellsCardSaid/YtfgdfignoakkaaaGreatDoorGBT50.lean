/- -/
import Derived.Test.YtfgdfignoakkaaaGreatDoorGBT48
import Derived.Test.YtfgdfignoakkaaaGreatDoorGBT49
open Go.Lib (hid)
open Nat (le_refl lt_of_succ_lt lt_succ_self)
set_option linter.unusedVariables false
set_option linter.unusedSimpArgs false
set_option maxRecDepth 100000
set_option maxHeartbeats 16000000
namespace Go.Proofs.YtfgdfignoakkaaaGreatDoor
namespace CBunM
end CBunM
namespace CConv
end CConv
namespace CCost
end CCost
namespace CFix
end CFix
namespace CGraph
end CGraph
namespace CGuard
end CGuard
namespace CJoin
end CJoin
namespace CKind
end CKind
namespace CLeb
end CLeb
namespace COctet
end COctet
namespace CPack
end CPack
namespace CSat
end CSat
namespace CShape
end CShape
namespace CSpan
end CSpan
namespace CTensor
end CTensor
namespace Kit
end Kit
open Go Go.ChangeShapes Go.WideShapes Go.ChangeAt Go.RowKit Go.Deep
section
namespace CValid
open Plain CSat CFix CShape CTensor CConv CSpan CKind CGraph CJoin CGuard CBund CCost CVerd
theorem eqFault (a b c d x y z v:Int) (w:World):(Op.equalIn 10000 67 (.agg #[.int .i64 a,.int .i64 b,.int .i64 c,.int .i64 d]) (.agg #[.int .i64 x,.int .i64 y,.int .i64 z,.int .i64 v])).run Tryz.prog w=.ok (a == x && (b == y && (c == z && d == v))) w:=by
 have u3:=Tryz.underlying3
 have a3:=Tryz.isAgg3
 have z3:=Tryz.sizeOf3
 have u4:=Tryz.underlying30
 have a4:=Tryz.isAgg30
 have z4:=Tryz.sizeOf30
 have hS:Tryz.prog.underlying 67=some (.struct (Tryz.prog.fieldsOf 67)):=by kernel_rfl
 rw [show (10000:Nat)=9999+1 from rfl,run_equalIn_agg w 9999 67 _ _ hS Tryz.stoodInHeld67]
 simp only [Program.fieldsOf,Tryz.underlying67]
 go_simp
 by_cases h1:a=x <;> by_cases h2:b=y <;> by_cases h3:c=z <;> by_cases h4:d=v <;> simp [h1,h2,h3,h4]
theorem bunV_out {u:Bu} {S:Nat→Nat→Ls} {z:Int} (h:zbp u=z) (hz:z≠0):bunV u S=(z, -1, -1, -1):=by unfold bunV;rw [h,if_pos hz]
theorem bunV_mod {u:Bu} {S:Nat→Nat→Ls} (h:zbp u=0) {i k p z:Int} (hm:buO u S u.n=some (i,k,p,z)):bunV u S=(z,i,k,p):=by unfold bunV;rw [if_neg (by simpa using h),hm]
theorem bunV_fine {u:Bu} {S:Nat→Nat→Ls} (h:zbp u=0) (hm:buO u S u.n=none):bunV u S=(0,0,0,0):=by unfold bunV;rw [if_neg (by simpa using h),hm]
theorem wiV_ne {u:Bu} {S:Nat→Nat→Ls} {i:Nat} (h:(wiV u S i).1=0):modO (u.M i) (S i) (mdT0 u) u.cl=none:=by
 unfold wiV at h
 cases hs:modO (u.M i) (S i) (mdT0 u) u.cl with
 | none=>rfl
 | some r=>rw [hs] at h;exact absurd h (modO_nz (k:=r.1) (p:=r.2.1) hs)
theorem wiV_mo {u:Bu} {S:Nat→Nat→Ls} {i:Nat} (h:(wiV u S i).1≠0):modO (u.M i) (S i) (mdT0 u) u.cl=some ((wiV u S i).2.2.1,(wiV u S i).2.2.2,(wiV u S i).1):=by
 unfold wiV at h ⊢
 cases hs:modO (u.M i) (S i) (mdT0 u) u.cl with
 | none=>rw [hs] at h;exact absurd rfl h
 | some r=>rfl
theorem wiV_i {u:Bu} {S:Nat→Nat→Ls} {i:Nat} : (wiV u S i).2.1=(i:Int):=by
 unfold wiV
 cases modO (u.M i) (S i) (mdT0 u) u.cl <;> rfl
theorem cbundle33_to (u:Bu) (S:Nat→Nat→Ls) (w:World) (h:BuRdy w u S) (hT:zad w) :
  Calls Tryz.prog 21 #[.agg u.val.toArray] w (SaysQ (bunV u S) w):=by
 obtain⟨oz,hoz⟩:∃ oz,zbp u=oz:=⟨_,rfl⟩
 have CO:=hid (fun wx:World=>by have q:=outside_to u wx;rw [hoz] at q;exact q)
 have HV1:=hid (fun (hz:oz≠0)=>bunV_out (S:=S) hoz hz)
 have HV2:=hid (fun (hz:oz=0) i k p z (hm:buO u S u.n=some (i,k,p,z))=>bunV_mod (hoz.trans hz) hm)
 have HV3:=hid (fun (hz:oz=0) (hm:buO u S u.n=none)=>bunV_fine (hoz.trans hz) hm)
 generalize bunV u S=V at *
 have HN4:=hid h.few.1
 have CW:=hid (fun (i:Nat) (hi:i < u.n) (wx:World) (hb:Below w.heap.size w wx)=>within_to u S i hi wx (h.below hb) (hT.grown hb))
 have HEQ:=hid eqFault
 have HEG:=hid Tryz.eqGuardType67
 have b2:Below (w.heap.size+1) (w.alloc (.cells u.val.toArray 26)) ((w.alloc (.cells u.val.toArray 26)).alloc (.cells #[.int .i64 (0),.int .i64 (0),.int .i64 (0),.int .i64 (0)] 67)):=(Below.refl _ _).alloc (by simp) _
 have b1:Below w.heap.size w ((w.alloc (.cells u.val.toArray 26)).alloc (.cells #[.int .i64 (0),.int .i64 (0),.int .i64 (0),.int .i64 (0)] 67)):=((Below.refl _ _).alloc (le_refl _) _).trans (b2.mono (by omega))
 have HB0:=hid b1
 have HU:=hid ((UAt.new u 26 w).below (lt_succ_self _) b2)
 have q2:=QOk.new (0,0,0,0) 67 (w.alloc (.cells u.val.toArray 26))
 simp only [World.size_alloc] at q2
 have HF:=hid q2
 have HSZ:Hid (w.heap.size+2≤((w.alloc (.cells u.val.toArray 26)).alloc (.cells #[.int .i64 (0),.int .i64 (0),.int .i64 (0),.int .i64 (0)] 67)).heap.size):=hid (by simp)
 clear b1 b2 q2 h hT hoz
 go_enter Tryz.func21,Tryz.ntmps21
 go_upto_region 1 with fail
 generalize ((w.alloc (.cells u.val.toArray 26)).alloc (.cells #[.int .i64 (0),.int .i64 (0),.int .i64 (0),.int .i64 (0)] 67))=W0 at HU HF HB0 HSZ ⊢
 obtain⟨c0,c1,c2,c3,c4⟩:=HU.out
 go_upto_region 2 with (go_at_call 43;(refine (CO.out _).mono ?_);rintro e w1 ⟨rfl,hb⟩;(have HB1:=hid (HB0.out.trans (hb.mono HB0.out.size)));(have HU1:=hid (HU.out.below (B':=W0.heap.size) (by have:=HSZ.out;omega) hb));(have HF1:=hid (HF.out.below (B':=W0.heap.size) (by have:=HSZ.out;omega) hb));(have HS1:=hid (Nat.le_trans HSZ.out hb.size));clear hb c0 c1 c2 c3 c4)
 have HQ0:=hid (QOk.new (oz, -1, -1, -1) 67 w1)
 have HAL:Hid (Below w1.heap.size w1 (w1.alloc (.cells #[.int .i64 (oz),.int .i64 (-1),.int .i64 (-1),.int .i64 (-1)] 67))):=hid ((Below.refl _ _).alloc (le_refl _) _)
 obtain⟨BQ,hBQ⟩:∃ BQ,BQ=w1.heap.size:=⟨_,rfl⟩
 have HBE:=hid hBQ
 rw [← hBQ] at HQ0 HAL
 try rw [← hBQ]
 generalize (w1.alloc (.cells #[.int .i64 (oz),.int .i64 (-1),.int .i64 (-1),.int .i64 (-1)] 67))=WA at HQ0 HAL ⊢
 clear hBQ HU HF HB0 HSZ CO
 have HS3:Hid (w.heap.size+2≤BQ):=hid (by have:=HS1.out;have:=HBE.out;omega)
 have HUX:Hid (∀ wx,Below BQ w1 wx→UAt w.heap.size u wx∧QOk (w.heap.size+1) (0,0,0,0) wx):=hid (fun wx hb=>⟨HU1.out.below (B':=BQ) (by have:=HS3.out;omega) hb,HF1.out.below (B':=BQ) (by have:=HS3.out;omega) hb⟩)
 obtain⟨⟨g0,g1,g2,g3⟩,g4,g5,g6,g7⟩:=HQ0.out
 obtain⟨⟨c0,c1,c2,c3,c4⟩,⟨⟨f0,f1,f2,f3⟩,f4,f5,f6,f7⟩⟩:=HUX.out _ HAL.out
 by_cases hz0:oz=0
 ·have HV2':=hid (HV2.out hz0)
  have HV3':=hid (HV3.out hz0)
  clear HV1 HV2 HV3
  subst hz0
  obtain⟨n,hn⟩:∃ n,u.n=n:=⟨_,rfl⟩
  rw [hn] at c4 HV2' HV3' CW HN4
  clear hn
  go_wp2_with fail
  clear g0 g1 g2 g3 g4 g5 g6 g7 c0 c1 c2 c3 c4 f0 f1 f2 f3 f4 f5 f6 f7
  go_loopw [16] (fun s wr=>∃ i:Nat,i≤n∧s=.int .i64 i∧Hid (buO u S i=none)∧(∃ q:Int,Hid (QOk BQ (0,q, -1, -1) wr))∧Hid (Below BQ w1 wr)) (fun s _=>n - (intOf s).toNat)
  case atStart=>exact⟨0,Nat.zero_le _,rfl,hid rfl,⟨_,HQ0⟩,HAL⟩
  case round =>
   obtain⟨i,hi,rfl,hst,⟨q,HQ⟩,HBR⟩:=hrel
   obtain⟨wi,hwi⟩:∃ wi,wi=wr:=⟨_,rfl⟩
   subst hwi
   clear HQ0 HAL
   have HBI:Hid (BQ+1≤wi.heap.size):=hid (Kit.block_lt HQ.out.1.1)
   have HWI:Hid (Below w.heap.size w wi):=hid (HB1.out.trans (HBR.out.mono (by have:=HS3.out;omega)))
   obtain⟨⟨c0,c1,c2,c3,c4⟩,⟨⟨f0,f1,f2,f3⟩,f4,f5,f6,f7⟩⟩:=HUX.out _ HBR.out
   obtain⟨⟨g0,g1,g2,g3⟩,g4,g5,g6,g7⟩:=HQ.out
   by_cases hlt:i < n
   ·have i5:(0:Int)≤(i:Int):=by omega
    have i6:(i:Int) < (n:Int):=by omega
    have HLT:=hid hlt
    clear f0 f1 f2 f3 f4 f5 f6 f7 hlt
    go_upto_region 8 with fail
    have HQ1:Hid (QOk BQ (0,(i:Int), -1, -1) (wi.setCell ⟨BQ,1,none⟩ (.int .i64 i))):=hid (HQ.out.set1 _)
    have HB1r:Hid (Below BQ w1 (wi.setCell ⟨BQ,1,none⟩ (.int .i64 i))):=hid (HBR.out.setCell (p:=⟨BQ,1,none⟩) (le_refl _) _)
    have HS4:Hid (BQ+1≤(wi.setCell ⟨BQ,1,none⟩ (.int .i64 i)).heap.size):=hid (by simp only [World.size_setCell];exact HBI.out)
    clear g0 g1 g2 g3 g4 g5 g6 g7 c0 c1 c2 c3 c4
    generalize wi.setCell ⟨BQ,1,none⟩ (.int .i64 i)=W4 at HQ1 HB1r HS4 ⊢
    have HW4:Hid (Below w.heap.size w W4):=hid (HB1.out.trans (HB1r.out.mono (by have:=HS3.out;omega)))
    obtain⟨⟨c0,c1,c2,c3,c4⟩, -⟩:=HUX.out _ HB1r.out
    obtain⟨⟨g0,g1,g2,g3⟩,g4,g5,g6,g7⟩:=HQ1.out
    have CW2:=hid (CW.out i HLT.out W4 HW4.out)
    obtain⟨a0,ha0⟩:∃ a,(wiV u S i).1=a:=⟨_,rfl⟩
    obtain⟨a2,ha2⟩:∃ a,(wiV u S i).2.2.1=a:=⟨_,rfl⟩
    obtain⟨a3,ha3⟩:∃ a,(wiV u S i).2.2.2=a:=⟨_,rfl⟩
    have hwv:wiV u S i=(a0,(i:Int),a2,a3):=by rw [← ha0, ← ha2, ← ha3, ← wiV_i (u:=u) (S:=S) (i:=i)]
    have HEND:Hid (¬ a0=0→V=(a0,(i:Int),a2,a3)):=hid (fun hz=>HV2'.out i a2 a3 a0 (buO_end HLT.out hst.out (by rw [← ha2, ← ha3, ← ha0];exact wiV_mo (by rw [ha0];exact hz))))
    have HGO:Hid (a0=0→buO u S (i+1)=none∧a2 = -1∧a3 = -1):=hid (fun hz=>by
     have h1:=wiV_ne (u:=u) (S:=S) (i:=i) (by rw [ha0];exact hz)
     have h2:=wiV_none h1
     rw [hwv] at h2
     simp only [Prod.mk.injEq] at h2
     exact⟨buO_go hst.out h1,h2.2.2.1,h2.2.2.2⟩)
    unfold SaysQ at CW2
    rw [hwv] at CW2
    clear ha0 ha2 ha3 hwv
    go_upto_region 9 with (go_at_call 44;(refine CW2.out.mono ?_);rintro e w5 ⟨rfl,hb⟩;(have HB5:=hid (HB1r.out.trans (hb.mono (by have:=HS4.out;omega))));(have HQ5:=hid (HQ1.out.below (B':=W4.heap.size) HS4.out hb));(have HG5:Hid (BQ < w5.heap.size):=hid (by have:=hb.size;have:=HS4.out;omega));clear hb)
    clear g0 g1 g2 g3 g4 g5 g6 g7 c0 c1 c2 c3 c4
    have HB9:Hid (Below BQ w1 (w5.alloc (.cells #[.int .i64 (a0),.int .i64 (i:Int),.int .i64 (a2),.int .i64 (a3)] 67))):=hid (HB5.out.alloc (by have:=HG5.out;omega) _)
    have HQ9:Hid (QOk BQ (0,(i:Int), -1, -1) (w5.alloc (.cells #[.int .i64 (a0),.int .i64 (i:Int),.int .i64 (a2),.int .i64 (a3)] 67))):=hid (HQ5.out.below HG5.out ((Below.refl _ _).alloc (le_refl _) _))
    have HN9:=hid (QOk.new (a0,(i:Int),a2,a3) 67 w5)
    generalize hbx:w5.heap.size=bx at *
    generalize w5.alloc (.cells #[.int .i64 (a0),.int .i64 (i:Int),.int .i64 (a2),.int .i64 (a3)] 67)=W9 at HB9 HQ9 HN9 ⊢
    clear hbx
    obtain⟨⟨g0,g1,g2,g3⟩,g4,g5,g6,g7⟩:=HQ9.out
    obtain⟨⟨x0,x1,x2,x3⟩,x4,x5,x6,x7⟩:=HN9.out
    have heq:=HEQ.out
    have heg:=HEG.out
    by_cases hz0:a0=0
    ·obtain⟨h1,h2,h3⟩:=HGO.out hz0
     have HM0:=hid h1
     clear HGO HEND h1
     subst hz0 h2 h3
     have k9:(i:Int)≤4:=by have:=HN4.out;omega
     go_wp2_with fail
     go_roundw
     case rel=>exact⟨i+1,by omega,by go_num,HM0,⟨_,HQ9⟩,HB9⟩
     case measure=>have:=HLT.out;simp [intOf];omega
    ·have HE:=hid (HEND.out hz0)
     have hz2:(a0 == 0)=false:=by simpa using hz0
     have HBW:Hid (Below w.heap.size w W9):=hid (HB1.out.trans (HB9.out.mono (by have:=HS3.out;omega)))
     obtain⟨-,⟨⟨f0,f1,f2,f3⟩,f4,f5,f6,f7⟩⟩:=HUX.out _ HB9.out
     clear HGO HEND
     go_wp2_with fail
     refine bodyPost_ret (Kit.zau rfl _ _ (w.heap.size+1) 0 [.int .i64 (a0),.int .i64 (i:Int),.int .i64 (a2),.int .i64 (a3)] _ rfl (zb6 (by go_cell) (by go_cell) (by go_cell) (by go_cell)) Tryz.underlying67 rfl (by kernel_rfl)) rfl ?_
     exact⟨by rw [HE.out];first | done | rfl,by have hbw:=HBW.out;go_grown⟩
   ·obtain rfl:i=n:=by omega
    have HE:=hid (HV3'.out hst.out)
    go_wp2_with fail
    refine bodyPost_ret (Kit.zau rfl _ _ (w.heap.size+1) 0 [.int .i64 (0),.int .i64 (0),.int .i64 (0),.int .i64 (0)] _ rfl (zb6 (by go_cell) (by go_cell) (by go_cell) (by go_cell)) Tryz.underlying67 rfl (by kernel_rfl)) rfl ?_
    exact⟨by rw [HE.out];first | done | rfl,by have hbw:=HWI.out;go_grown⟩
 ·have hz2:(oz != 0)=true:=by simpa using hz0
  have HE:=hid (HV1.out hz0)
  have HBW:Hid (Below w.heap.size w WA):=hid (HB1.out.trans (HAL.out.mono (by have:=HS3.out;omega)))
  clear HV1 HV2 HV3 hz0
  go_wp2_with fail
  refine bodyPost_ret (Kit.zau rfl _ _ (w.heap.size+1) 0 [.int .i64 (oz),.int .i64 (-1),.int .i64 (-1),.int .i64 (-1)] _ rfl (zb6 (by go_cell) (by go_cell) (by go_cell) (by go_cell)) Tryz.underlying67 rfl (by kernel_rfl)) rfl ?_
  exact⟨by rw [HE.out];first | done | rfl,by have hbw:=HBW.out;go_grown⟩
end CValid
end
section
namespace CBunO
open Kit LebNum CrcNum CCrc CKind CBund CBunM CLeb COctet CPack CPk CPkI CValid CGraph
theorem nbd_of {w:World} {B:Nat} {x:Nd} (h:NdOk w B x):NBd x:=by
 refine⟨fun j hj=>?_,fun j hj=>?_,fun j hj=>?_⟩
 ·obtain⟨hk1,hk2,hk3,hk4⟩:=h.ks
  obtain⟨hs1,hs2,hs3⟩:=h.s
  rcases hj with rfl | rfl | rfl | rfl | rfl | rfl | rfl | rfl | rfl
  ·exact hs3
  ·exact h.a
  ·exact h.b
  ·exact hk1
  ·exact hk2
  ·exact hk3
  ·exact hk4
  ·exact hs1
  ·exact hs2
 ·obtain⟨_,_,q3,q4,q5,q6,q7⟩:=h.q
  rcases hj with rfl | rfl | rfl | rfl | rfl | rfl
  ·exact h.z
  ·exact q7
  ·exact q3
  ·exact q4
  ·exact q5
  ·exact q6
 ·obtain⟨q1,q2,_⟩:=h.q
  rcases hj with rfl | rfl
  ·exact q1
  ·exact q2
theorem i8_of {zs:List Int} (h:∀ n∈zs,(Lit.int .i8 n).wf=true):I8r zs:=fun z hz=>wf8 (h z hz)
theorem i32_of {zs:List Int} (h:∀ n∈zs,(Lit.int .i32 n).wf=true):I32s zs:=fun z hz=>wf32 (h z hz)
def NdlOk (N:Nat) (w:World) (x:Nd) (l:List Int × List Int):Prop :=
 (l.1.length=x.nW∧l.2.length=x.nB)∧I8r l.1∧I32s l.2∧Kit.Rd w N x.WA (l.1.map (.int .i8))∧Kit.Rd w N x.BA (l.2.map (.int .i32))
theorem ndl_of {w:World} {B:Nat} {x:Nd} (h:NdOk w B x):∃ l,NdlOk B w x l:=by
 obtain⟨zs,a1,a2,a3,a4,a5⟩:=h.ws
 obtain⟨us,b1,b2,b3,b4,b5⟩:=h.bs
 exact⟨(zs,us),⟨a1,b1⟩,i8_of a4,i32_of b4,a5,b5⟩
theorem bkl_of {w:World} {B:Nat} {b:Bk} (h:BkOk w B b) (hf:FewK b):∃ p:BkL,p.1=b∧BkP B w p:=by
 obtain⟨f1,f2,f3,f4⟩:=hf
 obtain⟨L,hL⟩:=zbw (([],[]):List Int × List Int) (fun j hj=>ndl_of (h.each j hj))
 obtain⟨hD,⟨zs,a1,a2,a3,a4,a5⟩,⟨us,b1,b2,b3,b4,b5⟩⟩:=h.head
 refine⟨(b,fun j=>(b.X j,L j),zs,us),rfl, {
  n:=by show b.n≤1000;omega
  nodes:=?_
  each:=⟨fun j hj=>(hL j hj).1,fun j hj=>nbd_of (h.each j hj),fun j hj=>⟨(hL j hj).2.1,?_⟩,fun j hj=>⟨(hL j hj).2.2.1,?_⟩,fun j hj=>(hL j hj).2.2.2.1,fun j hj=>(hL j hj).2.2.2.2⟩
  len:=⟨a1,b1⟩
  ws:=⟨i8_of a4,by show zs.length≤_;omega⟩
  bs:=⟨i32_of b4,by show us.length≤_;omega⟩
  rw:=a5
  rb:=b5
  D:=hD }⟩
 ·have h1:=(za9.rdx (s:=19) (val:=fun x:Nd=>x.val.toList) (fun _=>rfl) (by decide) (za9.of_at h.nodes)).rd
  have e:flatE ndV (fun j=>((b.X j,L j):NdL)) b.n=flatE (fun x:Nd=>x.val.toList) b.X b.n:=by
   generalize b.n=n
   induction n with
   | zero=>rfl
   | succ n ih=>rw [flatE,flatE,ih];rfl
  show Kit.Rd w B b.A (flatE ndV (fun j=>((b.X j,L j):NdL)) b.n)
  rw [e]
  exact h1
 ·show (L j).1.length≤_
  rw [(hL j hj).1.1]
  have:=(f2 j hj).1
  omega
 ·show (L j).2.length≤_
  rw [(hL j hj).1.2]
  have:=(f2 j hj).2
  omega
theorem mdl_of {w:World} {B:Nat} {m:Md} (h:MdOk w B m) (hf:FewMd m):∃ P:Nat→BkL,(∀ k,k < m.n→BkP B w (P k))∧Kit.Rd w B m.A (flatE bkV P m.n):=by
 obtain⟨P,hP⟩:=zbw ((bk0,fun _=>(nd0,[],[]),[],[]):BkL) (fun k hk=>bkl_of (h.each k hk) (hf.2 k hk))
 refine⟨P,fun k hk=>(hP k hk).2,?_⟩
 have h1:=(za9.rdx (s:=5) (val:=Bk.val) (fun _=>rfl) (by decide) (za9.of_at h.blocks)).rd
 have e:∀ n,n≤m.n→flatE bkV P n=flatE Bk.val m.K n:=by
  intro n
  induction n with
  | zero=>intro _;rfl
  | succ n ih =>
    intro hn
    rw [flatE,flatE,ih (by omega)]
    show _ ++ (P n).1.val=_
    rw [(hP n (by omega)).1]
 rw [e m.n (le_refl _)]
 exact h1
theorem enc_few {w:World} (u:Bu) (hu:BuOk w w.heap.size u) (hf:FewBu u) (hT:za5 w∧zad w):Calls Tryz.prog 10 #[.agg u.val.toArray] w (EncW w):=by
 obtain⟨S,hS⟩:=sets_of hu
 refine cencode_to u w hT.1 hu hf.1 (fun wx hx=>?_) (fun i hi wx hx=>?_)
 ·refine (cbundle33_to u S wx ((⟨hu,hS,hf⟩:BuRdy w u S).below hx) (hT.2.grown hx)).mono ?_
  rintro e w' ⟨rfl,hb⟩
  exact⟨_,_,_,_,rfl,hb⟩
 ·have hm:=((hu.each i hi).below hx).more hx.size
  obtain⟨P,hP,hA⟩:=mdl_of hm (hf.2 i hi)
  exact cmodel_to (u.M i) (by have:=(hf.2 i hi).1;omega) P wx (hT.2.grown hx) hA hP
/-! ### one byte is another one -/
theorem le4_inj {a b:Int} (ha:0≤a∧a≤4294967295) (hb:0≤b∧b≤4294967295) (h:le4 a=le4 b):a=b:=by
 unfold le4 at h
 simp only [List.cons.injEq,and_true] at h
 omega
theorem crc_set {zs:List Int} {p:Nat} {x y:Int} (hz:U8s zs) (hp:p < zs.length) (hx:zs[p]=x) (hy:0≤y∧y≤255) (hne:x≠y):toI (crcOf (zs.set p y))≠toI (crcOf zs):=by
 intro h
 have h1:=toI_inj h
 unfold crcOf at h1
 have h2:run (BitVec.allOnes 32) (zs.set p y)=run (BitVec.allOnes 32) zs:=by
  have:=congrArg (fun z => ~~~ z) h1
  simpa using this
 have e1:zs=zs.take p ++ x :: zs.drop (p+1):=by
  rw [← hx,List.getElem_cons_drop,List.take_append_drop]
 have e2:zs.set p y=zs.take p ++ y :: zs.drop (p+1):=by
  rw [List.set_eq_take_append_cons_drop,if_pos hp]
 rw [e2] at h2
 conv at h2=>rhs;rw [e1]
 have hxb:=hz _ (List.getElem_mem hp)
 rw [hx] at hxb
 exact run_tells _ _ _ y x hy hxb (fun e=>hne e.symm) h2
theorem bad_set {ys:List Int} {q:Nat} {x y:Int} (h4:4≤ys.length) (hm:ys.take 4=magicZ) (hz:U8s ys) (hq:(sealZ ys)[q]?=some x) (hy:0≤y∧y≤255) (hne:x≠y) :
  ((sealZ ys).set q y).take 4≠magicZ∨((sealZ ys).set q y).drop ys.length≠le4 (toI (crcOf (((sealZ ys).set q y).take ys.length))):=by
 have hql:q < ys.length+4:=by
  have:=(List.getElem?_eq_some_iff.1 hq).1
  rwa [sealZ_len] at this
 rcases (show q < 4∨(4≤q∧q < ys.length)∨ys.length≤q by omega) with c | ⟨c1,c2⟩ | c
 ·left
  intro e
  have h1:(((sealZ ys).set q y).take 4)[q]?=some y:=by
   rw [List.getElem?_take,if_pos c,List.getElem?_set,if_pos rfl,if_pos (by rw [sealZ_len];omega)]
  have h2:(ys.take 4)[q]?=some x:=by
   rw [List.getElem?_take,if_pos c]
   unfold sealZ at hq
   rwa [List.getElem?_append_left (by omega)] at hq
  rw [e] at h1
  rw [hm,h1] at h2
  exact hne (Option.some.inj h2).symm
 ·right
  have e1:(sealZ ys).set q y=ys.set q y ++ le4 (toI (crcOf ys)):=by unfold sealZ;rw [List.set_append_left _ _ c2]
  have hl:(ys.set q y).length=ys.length:=by simp
  rw [e1,List.drop_append_of_le_length (by omega),List.take_append_of_le_length (by omega)]
  have e2:(ys.set q y).drop ys.length=[]:=List.drop_eq_nil_of_le (by omega)
  have e3:(ys.set q y).take ys.length=ys.set q y:=List.take_of_length_le (by omega)
  rw [e2,e3,List.nil_append]
  intro e
  have hx:ys[q]=x:=by
   unfold sealZ at hq
   rw [List.getElem?_append_left c2,List.getElem?_eq_getElem c2] at hq
   exact Option.some.inj hq
  exact crc_set hz c2 hx hy hne (le4_inj (toI_bd _) (toI_bd _) e).symm
 ·right
  have e1:(sealZ ys).set q y=ys ++ (le4 (toI (crcOf ys))).set (q - ys.length) y:=by unfold sealZ;rw [List.set_append_right _ _ c]
  rw [e1,List.drop_left,List.take_left]
  intro e
  have h1:((le4 (toI (crcOf ys))).set (q - ys.length) y)[q - ys.length]?=some y:=by
   rw [List.getElem?_set,if_pos rfl,if_pos (by show _ < 4;omega)]
  rw [e] at h1
  unfold sealZ at hq
  rw [List.getElem?_append_right c,h1] at hq
  exact hne (Option.some.inj hq).symm
theorem seal_u8 {ys:List Int} (h:U8s ys):U8s (sealZ ys):=fun z hz=>by
 unfold sealZ at hz
 rcases List.mem_append.1 hz with q | q
 ·exact h z q
 ·exact le4_u8 (toI_bd _) z q
theorem set_u8 {zs:List Int} {q:Nat} {y:Int} (h:U8s zs) (hy:0≤y∧y≤255):U8s (zs.set q y):=fun z hz=>by
 rcases List.mem_or_eq_of_mem_set hz with h1 | rfl
 ·exact h z h1
 ·exact hy
theorem xor_u8B (x b:Int) (hx0:0≤x) (hx1:x≤255) (hb0:0≤b) (hb1:b≤255) (hne:b≠0):∃ y,bits .xor .u8 x b=y∧0≤y∧y≤255∧x≠y:=by
 refine⟨_,rfl,?_⟩
 have e:bits .xor .u8 x b=(((BitVec.ofInt 8 x ^^^ BitVec.ofInt 8 b).toNat:Nat):Int):=by
  show IntKind.u8.wrap ((BitVec.ofInt 8 x ^^^ BitVec.ofInt 8 b).toNat:Int)=_
  rw [IntKind.wrap_u8];have:=(BitVec.ofInt 8 x ^^^ BitVec.ofInt 8 b).isLt;omega
 rw [e]
 have hlt:=(BitVec.ofInt 8 x ^^^ BitVec.ofInt 8 b).isLt
 refine⟨by omega,by omega,fun h=>?_⟩
 have h2:(BitVec.ofInt 8 x ^^^ BitVec.ofInt 8 b).toNat=(BitVec.ofInt 8 x).toNat:=by
  rw [BitVec.toNat_ofInt];omega
 have h3:=BitVec.eq_of_toNat_eq h2
 have h4:BitVec.ofInt 8 b=0#8:=by
  have:=congrArg (fun z=>BitVec.ofInt 8 x ^^^ z) h3
  simpa only [← BitVec.xor_assoc,BitVec.xor_self,BitVec.zero_xor] using this
 have h5:=congrArg BitVec.toNat h4
 rw [BitVec.toNat_ofInt] at h5
 simp at h5
 omega
end CBunO
end
end Go.Proofs.YtfgdfignoakkaaaGreatDoor
