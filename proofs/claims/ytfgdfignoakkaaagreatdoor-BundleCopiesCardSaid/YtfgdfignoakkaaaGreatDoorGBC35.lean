/- -/
import Derived.Test.YtfgdfignoakkaaaGreatDoorGBC14
import Derived.Test.YtfgdfignoakkaaaGreatDoorGBC34
open Go.Lib (hid)
open Nat (le_refl lt_of_succ_lt lt_succ_self)
set_option linter.unusedVariables false
set_option linter.unusedSimpArgs false
set_option maxRecDepth 100000
set_option maxHeartbeats 16000000
namespace Go.Proofs.YtfgdfignoakkaaaGreatDoor
namespace CConv
end CConv
namespace CFix
end CFix
namespace CGraph
end CGraph
namespace CKind
end CKind
namespace CSat
end CSat
namespace CShape
end CShape
namespace CTensor
end CTensor
namespace Plain
end Plain
open Go Go.ChangeShapes Go.WideShapes Go.ChangeAt Go.RowKit Go.Deep
section
namespace CBunM
open Plain CSat CFix CShape CTensor CConv CKind CGraph CBund
def FewIs (b:Bool) (p:Prop):Prop:=b=true→p
theorem rfew35_to (u:Bu) (w:World) (hu:BuOk w w.heap.size u) :
  Calls Tryz.prog 8 #[.agg u.val.toArray] w fun e w'=>∃ b,e=.returned (.bool b)∧(b=true→FewBuU u)∧Below w.heap.size w w':=by
 have HU:=hid hu
 have hb0:=(Below.refl w.heap.size w).alloc (le_refl _) (.cells u.val.toArray 26)
 have HB0:=hid hb0
 have c4:(w.alloc (.cells u.val.toArray 26)).cell? ⟨w.heap.size,4,none⟩=some (.slice u.A u.n u.c):=Kit.zae _ _ _ _
 have hsz:w.heap.size < (w.alloc (.cells u.val.toArray 26)).heap.size:=by simp
 have HSZ:=hid hsz
 clear hu hb0 hsz
 go_enter Tryz.func8,Tryz.ntmps8
 go_upto_region 1 with fail
 generalize w.alloc (.cells u.val.toArray 26)=W0 at c4 HB0 HSZ ⊢
 by_cases hn:4 < u.n
 ·have h3:(u.n:Int) > 4:=by omega
  go_wp2_with fail
  go_ret
  exact⟨_,rfl,fun h=>(by cases h),HB0.out⟩
 ·have h3:¬ (u.n:Int) > 4:=by omega
  obtain⟨n,hnn⟩:∃ n,u.n=n:=⟨_,rfl⟩
  have HN:=hid hnn
  rw [hnn] at c4 h3 hn
  clear hnn
  have HC:Hid (∀ wS,Below W0.heap.size W0 wS→wS.cell? ⟨w.heap.size,4,none⟩=some (.slice u.A n u.c)):=hid (fun wS h=>(h.cell (p:=⟨w.heap.size,4,none⟩) HSZ.out).trans c4)
  go_wp2_with fail
  clear c4 h3
  go_loopw [3] (fun x wr=>∃ i:Nat,i≤n∧x=.int .i64 i∧Hid (∀ j,j < i→FewMdU (u.M j))∧Hid (Below W0.heap.size W0 wr)) (fun x _=>n - (intOf x).toNat)
  case atStart=>exact⟨0,Nat.zero_le _,rfl,hid (fun j hj=>by omega),hid (Below.refl _ _)⟩
  case round =>
   obtain⟨i,hi,rfl,HI,HW⟩:=hrel
   have c4:=HC.out _ HW.out
   by_cases hlt:i < n
   ·have i0:(0:Int)≤(i:Int):=by omega
    have i1:(i:Int) < (n:Int):=by omega
    have hbw:Below w.heap.size w wr:=HB0.out.trans (HW.out.mono HB0.out.size)
    have hin:i < u.n:=by have:=HN.out;omega
    obtain⟨bm,om,hAe,hbm,hrm⟩:=(HU.out.models.below hbw) i hin
    have cm:wr.cell? ⟨bm,om+i,none⟩=some (.slice (u.M i).A (u.M i).n (u.M i).c):=by
     have:=hrm 0 _ rfl
     simpa using this
    have HMd:=hid ((HU.out.each i hin).below hbw)
    rw [hAe] at c4
    clear hAe hrm hbm
    obtain⟨wo,hwo⟩:∃ wo,wo=wr:=⟨_,rfl⟩
    have HWO:=hid hwo
    have HBW:=hid hbw
    obtain⟨M,hMM⟩:∃ M,u.M i=M:=⟨_,rfl⟩
    rw [hMM] at cm HMd
    have HMM:=hid hMM
    clear hMM
    clear hwo hbw
    by_cases hk:8 < M.n
    ·have h3:(M.n:Int) > 8:=by omega
     go_wp2_with fail
     go_ret
     exact⟨_,rfl,fun h=>(by cases h),HBW.out⟩
    ·have h3:¬ (M.n:Int) > 8:=by omega
     obtain⟨q,hq⟩:∃ q,M.n=q:=⟨_,rfl⟩
     have HQ:=hid hq
     rw [hq] at cm h3 hk
     clear hq
     obtain⟨Am,hAm⟩:∃ Am,M.A=Am:=⟨_,rfl⟩
     have HAm:=hid hAm
     rw [hAm] at cm
     clear hAm
     go_wp2_with fail
     clear c4 cm h3
     go_loopw [5] (fun x wr=>∃ k:Nat,k≤q∧x=.int .i64 k∧Hid (∀ j,j < k→FewBkU (M.K j))∧Hid (Below wo.heap.size wo wr)) (fun x _=>q - (intOf x).toNat)
     case atStart=>exact⟨0,Nat.zero_le _,rfl,hid (fun j hj=>by omega),hid (by rw [HWO.out];exact Below.refl _ _)⟩
     case round =>
      obtain⟨k,hk2,rfl,HK,HV⟩:=hrel
      by_cases hlk:k < q
      ·have k0:(0:Int)≤(k:Int):=by omega
       have k1:(k:Int) < (q:Int):=by omega
       have hkn:k < M.n:=by have:=HQ.out;omega
       have hwv:Below wo.heap.size wo wr:=HV.out
       have HMo:MdOk wo wo.heap.size M:=by rw [HWO.out];exact HMd.out.more (by have:=HBW.out.size;omega)
       obtain⟨bk,ok,hAk,hbk,hrk⟩:=(HMo.blocks.below hwv) k hkn
       have hAk2:Am=some ⟨bk,ok,none⟩:=by rw [← HAm.out];exact hAk
       subst hAk2
       have hBk:=(HMo.each k hkn).below hwv
       have HNo:=hid (hBk.nodes.more hwv.size)
       have ck0:wr.cell? ⟨bk,ok+k * 5,none⟩=some (.slice (M.K k).A (M.K k).n (M.K k).c):=hrk 0 _ rfl
       have HRK:=hid (show ∀ wS,Below wr.heap.size wr wS→wS.cell? ⟨bk,ok+k * 5+2,none⟩=some (.slice (M.K k).hd.WA (M.K k).hd.nW (M.K k).hd.cW)∧wS.cell? ⟨bk,ok+k * 5+3,none⟩=some (.slice (M.K k).hd.BA (M.K k).hd.nB (M.K k).hd.cB) from fun wS h =>
        ⟨(h.cell (p:=⟨bk,ok+k * 5+2,none⟩) (Nat.lt_of_lt_of_le hbk hwv.size)).trans (hrk 2 _ rfl),(h.cell (p:=⟨bk,ok+k * 5+3,none⟩) (Nat.lt_of_lt_of_le hbk hwv.size)).trans (hrk 3 _ rfl)⟩)
       have HBV:=hid (show Below w.heap.size w wr from HBW.out.trans (by rw [← HWO.out];exact hwv.mono (by rw [HWO.out];exact HBW.out.size)))
       generalize hKb:M.K k=Kb at *
       clear hAk hbk hrk hBk hwv HMo
       by_cases hw1:4000 < Kb.hd.nW
       ·have e1:(Kb.hd.nW:Int) > 4000:=by omega
        have e2:decide ((4000:Int) < (Kb.hd.nW:Int))=true:=by simp;omega
        have e3:decide (4000 < Kb.hd.nW)=true:=by simp [hw1]
        go_wp2_with (go_at_call 20;(refine (few2_to Kb.X Kb.n Kb.c Kb.A _ HNo.out).mono ?_);rintro e w5 ⟨b5,rfl,hf5,hb5⟩;(have HF5:Hid (FewIs b5 (Kb.n≤12∧∀ i,i < Kb.n→(Kb.X i).nW≤1000∧(Kb.X i).nB≤100)):=hid hf5);(have HB5:=hid hb5);(obtain⟨d2,d3⟩:=HRK.out _ hb5);clear hf5 hb5;rcases b5 with _ | _)
        ·go_ret
         exact⟨_,rfl,fun h=>(by cases h),HBV.out.trans (HB5.out.mono HBV.out.size)⟩
        ·go_ret
         exact⟨_,rfl,fun h=>(by cases h),HBV.out.trans (HB5.out.mono HBV.out.size)⟩
       ·have e1:¬ (Kb.hd.nW:Int) > 4000:=by omega
        have e2:decide ((4000:Int) < (Kb.hd.nW:Int))=false:=by simp;omega
        have e3:decide (4000 < Kb.hd.nW)=false:=by simp;omega
        by_cases hw2:100 < Kb.hd.nB
        ·have e4:(Kb.hd.nB:Int) > 100:=by omega
         have e5:decide ((100:Int) < (Kb.hd.nB:Int))=true:=by simp;omega
         have e6:decide (100 < Kb.hd.nB)=true:=by simp [hw2]
         go_wp2_with (go_at_call 20;(refine (few2_to Kb.X Kb.n Kb.c Kb.A _ HNo.out).mono ?_);rintro e w5 ⟨b5,rfl,hf5,hb5⟩;(have HF5:Hid (FewIs b5 (Kb.n≤12∧∀ i,i < Kb.n→(Kb.X i).nW≤1000∧(Kb.X i).nB≤100)):=hid hf5);(have HB5:=hid hb5);(obtain⟨d2,d3⟩:=HRK.out _ hb5);clear hf5 hb5;rcases b5 with _ | _)
         ·go_ret
          exact⟨_,rfl,fun h=>(by cases h),HBV.out.trans (HB5.out.mono HBV.out.size)⟩
         ·go_ret
          exact⟨_,rfl,fun h=>(by cases h),HBV.out.trans (HB5.out.mono HBV.out.size)⟩
        ·have e4:¬ (Kb.hd.nB:Int) > 100:=by omega
         have e5:decide ((100:Int) < (Kb.hd.nB:Int))=false:=by simp;omega
         have e6:decide (100 < Kb.hd.nB)=false:=by simp;omega
         go_wp2_with (go_at_call 20;(refine (few2_to Kb.X Kb.n Kb.c Kb.A _ HNo.out).mono ?_);rintro e w5 ⟨b5,rfl,hf5,hb5⟩;(have HF5:Hid (FewIs b5 (Kb.n≤12∧∀ i,i < Kb.n→(Kb.X i).nW≤1000∧(Kb.X i).nB≤100)):=hid hf5);(have HB5:=hid hb5);(obtain⟨d2,d3⟩:=HRK.out _ hb5);clear hf5 hb5;rcases b5 with _ | _)
         ·go_ret
          exact⟨_,rfl,fun h=>(by cases h),HBV.out.trans (HB5.out.mono HBV.out.size)⟩
         ·go_roundw
          case rel=>exact⟨k+1,by omega,by go_num,hid (fun j hj=>by
           rcases (show j < k∨j=k by omega) with h | rfl
           ·exact HK.out j h
           ·rw [hKb];exact⟨(HF5.out rfl).1,(HF5.out rfl).2,by omega,by omega⟩),hid (HV.out.trans (HB5.out.mono HV.out.size))⟩
          case measure=>simp [intOf];omega
      ·obtain rfl:k=q:=by omega
       go_wp2_with fail
       go_roundw
       case rel=>exact⟨i+1,by omega,by go_num,hid (fun j hj=>by
        rcases (show j < i∨j=i by omega) with h | rfl
        ·exact HI.out j h
        ·exact by rw [HMM.out];exact⟨by have:=HQ.out;omega,fun k hk3=>HK.out k (by have:=HQ.out;omega)⟩),hid (HW.out.trans (by rw [← HWO.out];exact HV.out.mono (by rw [HWO.out];exact HW.out.size)))⟩
       case measure=>simp [intOf];omega
   ·obtain rfl:i=n:=by omega
    go_wp2_with fail
    go_ret
    exact⟨_,rfl,fun _=>⟨by have:=HN.out;omega,fun j hj=>HI.out j (by have:=HN.out;omega)⟩,HB0.out.trans (HW.out.mono HB0.out.size)⟩
end CBunM
end
end Go.Proofs.YtfgdfignoakkaaaGreatDoor
