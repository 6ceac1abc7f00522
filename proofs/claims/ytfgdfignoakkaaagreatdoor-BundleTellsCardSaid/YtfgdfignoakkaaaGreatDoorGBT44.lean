/- -/
import Derived.Test.YtfgdfignoakkaaaGreatDoorGBT43
open Go.Lib (hid)
open Nat (le_refl lt_of_succ_lt lt_succ_self)
set_option linter.unusedVariables false
set_option linter.unusedSimpArgs false
set_option maxRecDepth 100000
set_option maxHeartbeats 16000000
namespace Go.Proofs.YtfgdfignoakkaaaGreatDoor
namespace CBunM
end CBunM
namespace CConv
end CConv
namespace CCost
end CCost
namespace CFix
end CFix
namespace CGraph
end CGraph
namespace CKind
end CKind
namespace CLeb
end CLeb
namespace COctet
end COctet
namespace CPack
end CPack
namespace CSat
end CSat
namespace CShape
end CShape
namespace CTensor
end CTensor
open Go Go.ChangeShapes Go.WideShapes Go.ChangeAt Go.RowKit Go.Deep
section
namespace CPkI
open LebNum CLeb COctet CKind CPack CPk CPkW CBunM CBund
def blksW (s:WS) (P:Nat→BkL):Nat→WS
 | 0=>s
 | k+1=>blkW (blksW s P k) (P k)
def bkV (x:BkL):List Value:=x.1.val
theorem bkV_ones (x:BkL):∀ u∈bkV x,u.oneCell'=true:=bk_ones x.1
theorem row_bm {nb n:Nat} {w:World} {P:Nat→BkL} {e:TypeId} {base:Nat} (ho:w.ownsRow base e 5 (.slice (some ⟨nb,0,none⟩) n n) n (flatE bkV P n)) {j:Nat} (hj:j < n):BkM nb (j * 5) (P j).1.val w:=by
 obtain⟨b,o,e1,_,_,hr,hf⟩:=(za9.of_rdx (s:=5) (val:=bkV) (fun _=>rfl) (by decide) (RdX.of_own ho)) j hj
 simp only [Option.some.injEq,Addr.mk.injEq] at e1
 obtain⟨rfl,rfl,_⟩:=e1
 intro q v hq
 have h1:=hr q v hq
 have h2:=hf rfl q (List.getElem?_eq_some_iff.1 hq).1
 rw [Nat.zero_add] at h1 h2
 exact⟨h1,h2⟩
theorem binfo_szB:(Tryz.prog.info? 49).map (·.size)=some 5:=by kernel_rfl
theorem binfoB:(Tryz.prog.info? 49).map (fun i=>(i.zero,i.size,i.bytes))=some (some (.agg #[.slice none 0 0,.bool false,.slice none 0 0,.slice none 0 0,.int .i32 0]),5,88):=by kernel_rfl
def sizB (n:Nat):Nat:=if 6 < n then 0 else n
theorem siz_b (s:WS) (n:Nat):(sizW s n 6).1=(sizB n:Int):=by
 unfold sizW sizB
 by_cases h:6 < n
 ·rw [if_pos h,if_pos (by omega)];rfl
 ·rw [if_neg h,if_neg (by omega)]
theorem witemsB_to (N W L:Nat) (s:WS) (A:Option Addr) (n c:Nat) (hn:n≤1000) (P:Nat→BkL) (w:World) (hM:1 < N) (hT:zad w) (hNW:N≤W) (hN:N≤w.heap.size) (hL:L≤50000000) (hl:s.1.length≤L) (hA:Kit.Rd w N A (flatE bkV P n)) (hP:∀ j,j < n→BkP N w (P j)) (h:WrAt W s w) :
  Calls Tryz.prog 72 #[.iface 134 (.pointer (some ⟨W,0,none⟩)),.slice A n c,.int .i64 6,.func (.func 73) #[] #[]] w (ItemsN N W (L+250000000) (sizB n) (blksW (sizW s n 6).2 P (sizB n)) w):=by
 obtain⟨m,hm⟩:∃ m,sizB n=m:=⟨_,rfl⟩
 have hm8:m≤6∧m≤n:=by rw [← hm];unfold sizB;split <;> omega
 obtain⟨s1,hs1⟩:∃ s1,(sizW s n 6).2=s1:=⟨_,rfl⟩
 have hl1:s1.1.length≤L+10:=by rw [← hs1];have:=sizW_len (s:=s) (n:=n) (most:=6) (by decide);omega
 have CS:=hid (wsize_to N W s n 6 w (by omega) (by omega) hNW h)
 rw [siz_b,hm,hs1] at CS
 rw [hm,hs1]
 have HA:Hid (Kit.Rd w N A (flatE bkV P m)):=hid (by
  have hx:=RdX.of_rd hA
  intro j u hu
  have h1:=flatE_of (s:=5) (val:=bkV) (fun _=>rfl) (by decide) P hu
  refine hA j u ?_
  have h2:=flatE_get (s:=5) (val:=bkV) (fun _=>rfl) P (n:=n) (show j / 5 < n by omega) (Nat.mod_lt j (show 0 < 5 by decide))
  rw [Nat.mul_comm,Nat.div_add_mod] at h2
  exact h2.trans h1.2)
 have HPm:Hid (∀ j,j < m→BkP N w (P j)):=hid (fun j hj=>hP j (by omega))
 have HW0:=hid h
 have HL:=hid (And.intro hL hl1)
 have HN:=hid (And.intro hN hNW)
 have HT:=hid hT
 have HM:=hid hM
 have HFL:=hid (flatE_len (s:=5) (val:=bkV) (fun _=>rfl) P m)
 have H1:Hid (∀ v∈flatE bkV P m,v.oneCell'=true):=hid (flatE_mem (fun a u hu=>bkV_ones a u hu) P m)
 obtain⟨i0,hi0,hi1,hi2,hi3⟩:=kparts binfoB
 have HSZ:Hid ((Tryz.prog.info? 49).map (·.size)=some 5):=hid binfo_szB
 clear hm hs1 hl1 hA hP h hL hl hN hNW hT hM
 go_enter Tryz.func72,Tryz.ntmps72
 go_upto_region 2 with (first
  | (go_at_call 212
     refine CS.out.mono ?_
     rintro e w1 ⟨rfl,h1,h2⟩
     have HW1:=hid h1
     have HF1:=hid h2
     clear h1 h2)
  | (refine wpList_make_full _ rfl (.tmp 15) (.tmp 15) _ rfl w1.heap.size 49 i0 _ 5 Tryz.underlying40 hi0 hi1 hi2 .i64 .i64 _ _ m rfl rfl rfl rfl (by rw [hi3];omega) (by unfold maxLen;omega) (le_refl _) ?_
     intro w2 hown hg
     have HO2:=hid hown
     have HG2:=hid hg
     clear hown hg))
 have g2:w1.heap.size < w2.heap.size:=by
  rcases HO2.out.2 with ⟨h1,_⟩ | ⟨g,cap,cur,h1,_,hg,_⟩
  ·cases h1
  ·simp only [Value.slice.injEq,Option.some.injEq,Addr.mk.injEq] at h1
   obtain⟨⟨rfl,_⟩,_⟩:=h1
   exact (Array.getElem?_eq_some_iff.1 hg).1
 have b12:Below w1.heap.size w1 w2:=⟨HG2.out.os,HG2.out.tape,HG2.out.output,HG2.out.size,fun k hk=>HG2.out.block k hk (by simp)⟩
 have HW2:=hid (HW1.out.below b12)
 have HB12:=hid b12
 have HG:=hid g2
 have hwN:N≤w1.heap.size:=Nat.le_trans HN.out.1 HF1.out.size
 have HWN:=hid hwN
 have HNO:=hid (OW.new HW1.out b12 (le_refl w1.heap.size))
 have HA2:Hid (Kit.Rd w2 N A (flatE bkV P m)):=hid ((HA.out.below HF1.out.below).below (b12.mono hwN))
 obtain⟨nb,hnb⟩:∃ nb,w1.heap.size=nb:=⟨_,rfl⟩
 have HNB:=hid hnb
 rw [hnb] at HO2 HG HNO ⊢
 clear g2 b12 hwN hnb HG2
 go_upto_region 3 with (first
  | (refine wpList_copy_into rfl (.tmp 17) (.tmp 18) _ _ rfl 49 Tryz.underlying40 5 HSZ.out nb m A n c rfl rfl _ _ HO2.out (flatE bkV P m) HFL.out hm8.2 HA2.out H1.out ?_
     intro w3 hown hg
     have HO3:=hid hown
     have HG3:=hid hg
     clear hown hg))
 have hf3:∀ i,w3.frozen? ⟨nb,i,none⟩=w2.frozen? ⟨nb,i,none⟩:=fun i=>(frozen_row HO3.out i).trans (frozen_row HO2.out i).symm
 have hNnb:N≤nb:=by have:=HWN.out;have:=HNB.out;omega
 obtain⟨f23,hw3⟩:=fr_row (N:=N) HW2.out HG3.out hNnb HG.out HNO.out hf3
 have hb3:Below N w w3:=(HF1.out.below.trans (HB12.out.mono HWN.out)).trans f23.below
 have HNM:Hid (∀ j,0≤j→j < m→BkM nb (j * 5) (P j).1.val w3):=hid (fun j _ hj=>row_bm HO3.out hj)
 have HP3:Hid (∀ j,j < m→BkP N w3 (P j)):=hid (fun j hj=>(HPm.out j hj).below hb3)
 have HN3:Hid (N≤w3.heap.size):=hid (Nat.le_trans HN.out.1 hb3.size)
 -- what a caller sees of it
 have HFW:Hid (∀ wr,Fr (OW W) N nb (fun _=>True) w3 wr→∀ q J,Fr (OW W) N q J w wr):=hid (fun wr h q J=>(HF1.out.any (OW.self W w)).trans (Fr.new HB12.out (OW.stay HW1.out HB12.out) HWN.out (by rw [HNB.out];exact le_refl _) (f23.trans h)))
 have HW3:=hid hw3
 have HT3:=hid (HT.out.below hb3 HM.out)
 have HNO3:Hid (¬ OW W w3 nb):=hid (f23.own nb HG.out HNO.out)
 have HLT3:Hid (nb < w3.heap.size):=hid (Nat.lt_of_lt_of_le HG.out f23.size)
 have HNN:=hid hNnb
 obtain⟨hL,hl1⟩:=HL.out
 clear hf3 hNnb f23 hw3 hb3 HO2 HO3 HG3 HA2 HFL H1 HSZ HW2 HG HNO HB12 HW1 HF1 CS
 go_wp2_with fail
 go_loopw [22] (fun v wr=>∃ i:Nat,i≤m∧v=.int .i64 i∧Hid (WrAt W (blksW s1 P i) wr∧(blksW s1 P i).1.length≤L+10+i * 41000000)∧Hid (∀ j,i≤j→j < m→BkM nb (j * 5) (P j).1.val wr)∧Hid (Fr (OW W) N nb (fun _=>True) w3 wr)) (fun v _=>m - (intOf v).toNat)
 case atStart=>exact⟨0,Nat.zero_le _,rfl,hid ⟨HW3.out,by show s1.1.length≤_;omega⟩,HNM,hid (Fr.refl _ _ _ _ _)⟩
 case round =>
  obtain⟨i,hi,rfl,HWi,HNi,HFi⟩:=hrel
  by_cases hlt:i < m
  ·have k0:(0:Int)≤(i:Int):=by omega
   have k1:(i:Int) < (m:Int):=by omega
   have hnow:¬ OW W wr nb:=HFi.out.own nb HLT3.out HNO3.out
   have hltw:nb < wr.heap.size:=Nat.lt_of_lt_of_le HLT3.out HFi.out.size
   have CN:=hid (wblock_to N W (L+10+i * 41000000) nb (i * 5) (blksW s1 P i) (P i) wr HM.out (HT3.out.below HFi.out.below HM.out) HN.out.2 (Nat.le_trans HN3.out HFi.out.size) HNN.out (by omega) HWi.out.2 ((HP3.out i hlt).below HFi.out.below) (HNi.out i (le_refl _) hlt) hltw hnow HWi.out.1)
   have HNW:=hid hnow
   have HLW:=hid hltw
   clear hnow hltw
   go_wp2_with (first
    | (go_at_call 73
       refine CN.out.mono ?_
       rintro e w5 ⟨rfl,h1,h2,h3⟩
       have H5:=hid (And.intro h1 h2)
       have F5:=hid h3
       clear h1 h2 h3))
   have hstep:(WrAt W (blksW s1 P (i+1)) w5∧(blksW s1 P (i+1)).1.length≤L+10+(i+1) * 41000000)∧(∀ j,i+1≤j→j < m→BkM nb (j * 5) (P j).1.val w5)∧Fr (OW W) N nb (fun _=>True) w3 w5 :=
    ⟨⟨H5.out.1,Nat.le_trans H5.out.2 (by omega)⟩,fun j h1 hj=>(HNi.out j (by omega) hj).fr HLW.out HNW.out F5.out (fun q hq hJ=>by have h9:(P j).1.val.length=5:=rfl;unfold J5 at hJ;omega),HFi.out.trans (F5.out.mono fun _ _=>trivial)⟩
   obtain⟨g1,g2,g3⟩:=hstep
   have G1:=hid g1
   have G2:=hid g2
   have G3:=hid g3
   clear g1 g2 g3
   go_roundw
   case rel=>exact⟨i+1,by omega,by go_num,G1,G2,G3⟩
   case measure=>simp [intOf];omega
  ·obtain rfl:i=m:=by omega
   go_wp2_with fail
   go_ret
   exact⟨_,_,rfl,HWi.out.1,by have:=HWi.out.2;omega,HFW.out _ HFi.out⟩
end CPkI
end
section
namespace CValid
open Plain CSat CFix CShape CTensor CConv CKind CGraph CBund CCost
theorem rfew33_to (u:Bu) (w:World) (hu:BuOk w w.heap.size u) :
  Calls Tryz.prog 8 #[.agg u.val.toArray] w fun e w'=>∃ b,e=.returned (.bool b)∧(b=true→FewBu u)∧Below w.heap.size w w':=by
 have HU:=hid hu
 have hb0:=(Below.refl w.heap.size w).alloc (le_refl _) (.cells u.val.toArray 26)
 have HB0:=hid hb0
 have c4:(w.alloc (.cells u.val.toArray 26)).cell? ⟨w.heap.size,4,none⟩=some (.slice u.A u.n u.c):=Kit.zab _ _ _ _
 have hsz:w.heap.size < (w.alloc (.cells u.val.toArray 26)).heap.size:=by simp
 have HSZ:=hid hsz
 clear hu hb0 hsz
 go_enter Tryz.func8,Tryz.ntmps8
 go_upto_region 1 with fail
 generalize w.alloc (.cells u.val.toArray 26)=W0 at c4 HB0 HSZ ⊢
 by_cases hn:4 < u.n
 ·have h3:(u.n:Int) > 4:=by omega
  go_wp2_with fail
  go_ret
  exact⟨_,rfl,fun h=>(by cases h),HB0.out⟩
 ·have h3:¬ (u.n:Int) > 4:=by omega
  obtain⟨n,hnn⟩:∃ n,u.n=n:=⟨_,rfl⟩
  have HN:=hid hnn
  rw [hnn] at c4 h3 hn
  clear hnn
  have HC:Hid (∀ wS,Below W0.heap.size W0 wS→wS.cell? ⟨w.heap.size,4,none⟩=some (.slice u.A n u.c)):=hid (fun wS h=>(h.cell (p:=⟨w.heap.size,4,none⟩) HSZ.out).trans c4)
  go_wp2_with fail
  clear c4 h3
  go_loopw [3] (fun x wr=>∃ i:Nat,i≤n∧x=.int .i64 i∧Hid (∀ j,j < i→FewMd (u.M j))∧Hid (Below W0.heap.size W0 wr)) (fun x _=>n - (intOf x).toNat)
  case atStart=>exact⟨0,Nat.zero_le _,rfl,hid (fun j hj=>by omega),hid (Below.refl _ _)⟩
  case round =>
   obtain⟨i,hi,rfl,HI,HW⟩:=hrel
   have c4:=HC.out _ HW.out
   by_cases hlt:i < n
   ·have i0:(0:Int)≤(i:Int):=by omega
    have i1:(i:Int) < (n:Int):=by omega
    have hbw:Below w.heap.size w wr:=HB0.out.trans (HW.out.mono HB0.out.size)
    have hin:i < u.n:=by have:=HN.out;omega
    obtain⟨bm,om,hAe,hbm,hrm⟩:=(HU.out.models.below hbw) i hin
    have cm:wr.cell? ⟨bm,om+i,none⟩=some (.slice (u.M i).A (u.M i).n (u.M i).c):=by
     have:=hrm 0 _ rfl
     simpa using this
    have HMd:=hid ((HU.out.each i hin).below hbw)
    rw [hAe] at c4
    clear hAe hrm hbm
    obtain⟨wo,hwo⟩:∃ wo,wo=wr:=⟨_,rfl⟩
    have HWO:=hid hwo
    have HBW:=hid hbw
    obtain⟨M,hMM⟩:∃ M,u.M i=M:=⟨_,rfl⟩
    rw [hMM] at cm HMd
    have HMM:=hid hMM
    clear hMM
    clear hwo hbw
    by_cases hk:8 < M.n
    ·have h3:(M.n:Int) > 8:=by omega
     go_wp2_with fail
     go_ret
     exact⟨_,rfl,fun h=>(by cases h),HBW.out⟩
    ·have h3:¬ (M.n:Int) > 8:=by omega
     obtain⟨q,hq⟩:∃ q,M.n=q:=⟨_,rfl⟩
     have HQ:=hid hq
     rw [hq] at cm h3 hk
     clear hq
     obtain⟨Am,hAm⟩:∃ Am,M.A=Am:=⟨_,rfl⟩
     have HAm:=hid hAm
     rw [hAm] at cm
     clear hAm
     go_wp2_with fail
     clear c4 cm h3
     go_loopw [5] (fun x wr=>∃ k:Nat,k≤q∧x=.int .i64 k∧Hid (∀ j,j < k→FewK (M.K j))∧Hid (Below wo.heap.size wo wr)) (fun x _=>q - (intOf x).toNat)
     case atStart=>exact⟨0,Nat.zero_le _,rfl,hid (fun j hj=>by omega),hid (by rw [HWO.out];exact Below.refl _ _)⟩
     case round =>
      obtain⟨k,hk2,rfl,HK,HV⟩:=hrel
      by_cases hlk:k < q
      ·have k0:(0:Int)≤(k:Int):=by omega
       have k1:(k:Int) < (q:Int):=by omega
       have hkn:k < M.n:=by have:=HQ.out;omega
       have hwv:Below wo.heap.size wo wr:=HV.out
       have HMo:MdOk wo wo.heap.size M:=by rw [HWO.out];exact HMd.out.more (by have:=HBW.out.size;omega)
       obtain⟨bk,ok,hAk,hbk,hrk⟩:=(HMo.blocks.below hwv) k hkn
       have hAk2:Am=some ⟨bk,ok,none⟩:=by rw [← HAm.out];exact hAk
       subst hAk2
       have hBk:=(HMo.each k hkn).below hwv
       have HNo:=hid (hBk.nodes.more hwv.size)
       have ck0:wr.cell? ⟨bk,ok+k * 5,none⟩=some (.slice (M.K k).A (M.K k).n (M.K k).c):=hrk 0 _ rfl
       have HRK:=hid (show ∀ wS,Below wr.heap.size wr wS→wS.cell? ⟨bk,ok+k * 5+2,none⟩=some (.slice (M.K k).hd.WA (M.K k).hd.nW (M.K k).hd.cW)∧wS.cell? ⟨bk,ok+k * 5+3,none⟩=some (.slice (M.K k).hd.BA (M.K k).hd.nB (M.K k).hd.cB) from fun wS h =>
        ⟨(h.cell (p:=⟨bk,ok+k * 5+2,none⟩) (Nat.lt_of_lt_of_le hbk hwv.size)).trans (hrk 2 _ rfl),(h.cell (p:=⟨bk,ok+k * 5+3,none⟩) (Nat.lt_of_lt_of_le hbk hwv.size)).trans (hrk 3 _ rfl)⟩)
       have HBV:=hid (show Below w.heap.size w wr from HBW.out.trans (by rw [← HWO.out];exact hwv.mono (by rw [HWO.out];exact HBW.out.size)))
       generalize hKb:M.K k=Kb at *
       clear hAk hbk hrk hBk hwv HMo
       by_cases hw1:4000 < Kb.hd.nW
       ·have e1:(Kb.hd.nW:Int) > 4000:=by omega
        have e2:decide ((4000:Int) < (Kb.hd.nW:Int))=true:=by simp;omega
        have e3:decide (4000 < Kb.hd.nW)=true:=by simp [hw1]
        go_wp2_with (go_at_call 20;(refine (few2_to Kb.X Kb.n Kb.c Kb.A _ HNo.out).mono ?_);rintro e w5 ⟨b5,rfl,hf5,hb5⟩;(have HF5:Hid (FewIs b5 (Kb.n≤12∧∀ i,i < Kb.n→(Kb.X i).nW≤1000∧(Kb.X i).nB≤100)):=hid hf5);(have HB5:=hid hb5);(obtain⟨d2,d3⟩:=HRK.out _ hb5);clear hf5 hb5;rcases b5 with _ | _)
        ·go_ret
         exact⟨_,rfl,fun h=>(by cases h),HBV.out.trans (HB5.out.mono HBV.out.size)⟩
        ·go_ret
         exact⟨_,rfl,fun h=>(by cases h),HBV.out.trans (HB5.out.mono HBV.out.size)⟩
       ·have e1:¬ (Kb.hd.nW:Int) > 4000:=by omega
        have e2:decide ((4000:Int) < (Kb.hd.nW:Int))=false:=by simp;omega
        have e3:decide (4000 < Kb.hd.nW)=false:=by simp;omega
        by_cases hw2:100 < Kb.hd.nB
        ·have e4:(Kb.hd.nB:Int) > 100:=by omega
         have e5:decide ((100:Int) < (Kb.hd.nB:Int))=true:=by simp;omega
         have e6:decide (100 < Kb.hd.nB)=true:=by simp [hw2]
         go_wp2_with (go_at_call 20;(refine (few2_to Kb.X Kb.n Kb.c Kb.A _ HNo.out).mono ?_);rintro e w5 ⟨b5,rfl,hf5,hb5⟩;(have HF5:Hid (FewIs b5 (Kb.n≤12∧∀ i,i < Kb.n→(Kb.X i).nW≤1000∧(Kb.X i).nB≤100)):=hid hf5);(have HB5:=hid hb5);(obtain⟨d2,d3⟩:=HRK.out _ hb5);clear hf5 hb5;rcases b5 with _ | _)
         ·go_ret
          exact⟨_,rfl,fun h=>(by cases h),HBV.out.trans (HB5.out.mono HBV.out.size)⟩
         ·go_ret
          exact⟨_,rfl,fun h=>(by cases h),HBV.out.trans (HB5.out.mono HBV.out.size)⟩
        ·have e4:¬ (Kb.hd.nB:Int) > 100:=by omega
         have e5:decide ((100:Int) < (Kb.hd.nB:Int))=false:=by simp;omega
         have e6:decide (100 < Kb.hd.nB)=false:=by simp;omega
         go_wp2_with (go_at_call 20;(refine (few2_to Kb.X Kb.n Kb.c Kb.A _ HNo.out).mono ?_);rintro e w5 ⟨b5,rfl,hf5,hb5⟩;(have HF5:Hid (FewIs b5 (Kb.n≤12∧∀ i,i < Kb.n→(Kb.X i).nW≤1000∧(Kb.X i).nB≤100)):=hid hf5);(have HB5:=hid hb5);(obtain⟨d2,d3⟩:=HRK.out _ hb5);clear hf5 hb5;rcases b5 with _ | _)
         ·go_ret
          exact⟨_,rfl,fun h=>(by cases h),HBV.out.trans (HB5.out.mono HBV.out.size)⟩
         ·go_roundw
          case rel=>exact⟨k+1,by omega,by go_num,hid (fun j hj=>by
           rcases (show j < k∨j=k by omega) with h | rfl
           ·exact HK.out j h
           ·rw [hKb];exact⟨(HF5.out rfl).1,(HF5.out rfl).2,by omega,by omega⟩),hid (HV.out.trans (HB5.out.mono HV.out.size))⟩
          case measure=>simp [intOf];omega
      ·obtain rfl:k=q:=by omega
       go_wp2_with fail
       go_roundw
       case rel=>exact⟨i+1,by omega,by go_num,hid (fun j hj=>by
        rcases (show j < i∨j=i by omega) with h | rfl
        ·exact HI.out j h
        ·exact by rw [HMM.out];exact⟨by have:=HQ.out;omega,fun k hk3=>HK.out k (by have:=HQ.out;omega)⟩),hid (HW.out.trans (by rw [← HWO.out];exact HV.out.mono (by rw [HWO.out];exact HW.out.size)))⟩
       case measure=>simp [intOf];omega
   ·obtain rfl:i=n:=by omega
    go_wp2_with fail
    go_ret
    exact⟨_,rfl,fun _=>⟨by have:=HN.out;omega,fun j hj=>HI.out j (by have:=HN.out;omega)⟩,HB0.out.trans (HW.out.mono HB0.out.size)⟩
end CValid
end
end Go.Proofs.YtfgdfignoakkaaaGreatDoor
