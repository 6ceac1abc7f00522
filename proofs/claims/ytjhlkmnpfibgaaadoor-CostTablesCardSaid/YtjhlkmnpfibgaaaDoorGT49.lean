/- -/
import Derived.Test.YtjhlkmnpfibgaaaDoorGT48
open Go.Lib (hid)
open Nat (le_refl lt_of_succ_lt lt_succ_self)
set_option linter.unusedVariables false
set_option linter.unusedSimpArgs false
set_option maxRecDepth 100000
set_option maxHeartbeats 16000000
namespace Go.Proofs.YtjhlkmnpfibgaaaDoor
namespace CConv
end CConv
namespace CDense
end CDense
namespace CSat
end CSat
namespace CTensor
end CTensor
open Go Go.ChangeShapes Go.WideShapes Go.ChangeAt Go.RowKit Go.Deep
section
namespace CCost
open Plain CSat CFix CShape CTensor CConv CKind CGraph CDense CBund
def HV (V:Nat→Value) (i:Nat) (v:Value) (j:Nat):Value:=if j < i then V j else if j=i then v else .slice none 0 0
theorem HV_set (V:Nat→Value) {i n:Nat} (hi:i < n) (v u:Value):(vL (HV V i v) n).set i u=vL (HV V i u) n:=by
 apply List.ext_getElem?
 intro j
 by_cases hj:j < n
 ·rw [List.getElem?_set,vL_at _ hj]
  by_cases h:i=j
  ·subst h
   rw [if_pos rfl,if_pos (by rw [vL_len];exact hi),vL_at _ hj]
   unfold HV
   rw [if_neg (Nat.lt_irrefl _),if_pos rfl]
  ·rw [if_neg h,vL_at _ hj]
   unfold HV
   by_cases h2:j < i
   ·rw [if_pos h2,if_pos h2]
   ·rw [if_neg h2,if_neg h2,if_neg (fun e=>h e.symm),if_neg (fun e=>h e.symm)]
 ·rw [List.getElem?_eq_none (by rw [List.length_set,vL_len];omega),List.getElem?_eq_none (by rw [vL_len];omega)]
theorem HV_next (V:Nat→Value) (i n:Nat) (v:Value):vL (HV V i v) n=vL (HV (fun j=>if j=i then v else V j) (i+1) (.slice none 0 0)) n:=by
 refine vL_congr fun j _=>?_
 unfold HV
 by_cases h:j < i
 ·rw [if_pos h,if_pos (by omega)];dsimp only;rw [if_neg (by omega)]
 ·rw [if_neg h]
  by_cases h2:j=i
  ·rw [if_pos h2,if_pos (by omega)];dsimp only;rw [if_pos h2]
  ·rw [if_neg h2,if_neg (by omega)];split <;> rfl
theorem HV_nil (V:Nat→Value) (n:Nat):vL (HV V 0 (.slice none 0 0)) n=List.replicate n (.slice none 0 0):=by
 apply List.ext_getElem?
 intro j
 by_cases hj:j < n
 ·rw [vL_at _ hj,List.getElem?_replicate,if_pos hj]
  unfold HV
  rw [if_neg (by omega)]
  split <;> rfl
 ·rw [List.getElem?_eq_none (by rw [vL_len];omega),List.getElem?_eq_none (by simp;omega)]
theorem HV_done (V:Nat→Value) (n:Nat):vL (HV V n (.slice none 0 0)) n=vL V n:=vL_congr fun j hj=>by unfold HV;rw [if_pos hj]
theorem HV_at (V:Nat→Value) {i n:Nat} (hi:i < n) (v:Value):(vL (HV V i v) n)[i]?=some v:=by
 rw [vL_at _ hi];unfold HV;rw [if_neg (Nat.lt_irrefl _),if_pos rfl]
theorem own_set3n {w:World} {base s n B:Nat} {e:TypeId} {v:Value} {xs:List Value} (h:w.ownsRow base e s v n xs) (hne:v.ownBlock≠some B) (a b c:Value):(((w.setCell ⟨B,0,none⟩ a).setCell ⟨B,1,none⟩ b).setCell ⟨B,2,none⟩ c).ownsRow base e s v n xs :=
 ((h.kept (grownBy_setCell' _ _ _) (.inr hne)).kept (zbc _ _ _ _) (.inr hne)).kept (zbc _ _ _ _) (.inr hne)
theorem own_keptS {w w':World} {TB base s n:Nat} {ro:Option Nat} {e:TypeId} {v:Value} {xs:List Value} (h:w.ownsRow base e s v n xs) (hk:KeptS TB ro w w') (h1:∀ g,v.ownBlock=some g→g≠TB∧some g≠ro):w'.ownsRow base e s v n xs :=
 own_heap h fun g hg=>hk.block g (za7 h g hg) (h1 g hg).1 (h1 g hg).2
theorem InAt.keptS {B TB:Nat} {t:Tri} {ro:Option Nat} {w w':World} (h:InAt B t w) (hk:KeptS TB ro w w') (h1:B≠TB) (h2:some B≠ro):InAt B t w':=by
 have hl:=in_lt h
 exact⟨⟨(hk.cell (by omega) h1 h2).trans h.1.1,(hk.cell (by omega) h1 h2).trans h.1.2.1,(hk.cell (by omega) h1 h2).trans h.1.2.2⟩,(hk.frozen (by omega) h1 h2).trans h.2.1,(hk.frozen (by omega) h1 h2).trans h.2.2.1,(hk.frozen (by omega) h1 h2).trans h.2.2.2⟩
def Done (u:Bu) (B RB i:Nat) (V:Nat→Value) (w:World):Prop:=∀ j,j < i→w.ownsRow B 3 1 (V j) (u.M j).n (rowI (bcZ (u.M j) (mdT0 u) u.cl) (u.M j).n)∧∀ g,(V j).ownBlock=some g→g < RB
theorem ctable_to (u:Bu) (w:World) (hT:zav w) (hu:BuOk w w.heap.size u) (hf:FewU u) :
  Calls Tryd.prog 13 #[.agg u.val.toArray] w (TabPost u w):=by
 have HU:=hid hu
 have HF:=hid hf
 have HT:=hid hT
 have HB0:=hid ((Below.refl w.heap.size w).alloc (le_refl _) (.cells u.val.toArray 42))
 have HUA:=hid (UAt.new u 42 w)
 have HSZ:Hid (w.heap.size < (w.alloc (.cells u.val.toArray 42)).heap.size):=hid (by simp)
 obtain⟨i0,hi0,hi1,hi2,hi3⟩:=info_parts info_rows
 have HN4:=hid hf.1
 have hn4:=hf.1
 clear hu hf hT
 go_enter Tryd.func13,Tryd.ntmps13
 go_upto_region 1 with fail
 generalize w.alloc (.cells u.val.toArray 42)=W0 at HB0 HUA HSZ ⊢
 obtain⟨n,hn⟩:∃ n,u.n=n:=⟨_,rfl⟩
 obtain⟨c0,c1,c2,c3,c4⟩:=HUA.out
 rw [hn] at c4 hn4
 have HN:=hid hn
 clear hn
 go_upto_region 2 with (at_make;refine wpList_make_full _ rfl (.tmp 14) (.tmp 14) _ rfl W0.heap.size 60 i0 (.slice none 0 0) 1 Tryd.underlying54 hi0 hi1 hi2 .i64 .i64 _ _ n rfl rfl rfl rfl (by rw [hi3];omega) (by unfold maxLen;omega) (le_refl _) ?_;intro w2 hown hg2)
 have hown2:w2.ownsRow W0.heap.size 60 1 (.slice (some ⟨W0.heap.size,0,none⟩) n n) n (List.replicate n (.slice none 0 0)):=by
  have:=hown
  rw [show (Value.slice none 0 0).cells=#[.slice none 0 0] from rfl,Nat.mul_one,toList_madeCells_one] at this
  exact this
 have hb2:Below W0.heap.size W0 w2:=(Below.refl _ _).grown hg2 (le_refl _) (fun q hq=>by cases hq)
 have htb:W0.heap.size < w2.heap.size:=Kit.block_lt_of_own hown2
 have HTB:=hid htb
 have hal:Below w2.heap.size w2 (w2.alloc (.cells #[.slice (some ⟨W0.heap.size,0,none⟩) n n] 54)):=(Below.refl _ _).alloc (le_refl _) _
 have HOW:=hid (Kit.own_below hown2 hal)
 have HBA:Hid (Below w.heap.size w (w2.alloc (.cells #[.slice (some ⟨W0.heap.size,0,none⟩) n n] 54))):=hid (HB0.out.trans ((hb2.trans (hal.mono hb2.size)).mono HB0.out.size))
 have HUB:Hid (UAt w.heap.size u (w2.alloc (.cells #[.slice (some ⟨W0.heap.size,0,none⟩) n n] 54))):=hid (HUA.out.below HSZ.out (hb2.trans (hal.mono hb2.size)))
 have HBT:Hid ((w2.alloc (.cells #[.slice (some ⟨W0.heap.size,0,none⟩) n n] 54)).cell? ⟨w2.heap.size,0,none⟩=some (.slice (some ⟨W0.heap.size,0,none⟩) n n)):=hid (Kit.zak _ _ _ _)
 have HSA:Hid (w2.heap.size+1≤(w2.alloc (.cells #[.slice (some ⟨W0.heap.size,0,none⟩) n n] 54)).heap.size):=hid (by simp)
 clear hown hg2 hown2 hb2 hal c0 c1 c2 c3 c4 htb HUA
 generalize w2.alloc (.cells #[.slice (some ⟨W0.heap.size,0,none⟩) n n] 54)=WA at HOW HBA HUB HBT HSA ⊢
 obtain⟨c0,c1,c2,c3,c4⟩:=HUB.out
 rw [HN.out] at c4
 go_wp2_with fail
 clear c0 c1 c2 c3 c4
 go_loopw [20] (fun s wr=>∃ i:Nat,i≤n∧s=.int .i64 i∧Hid (buS u i=0)∧(∃ V:Nat→Value,Hid (wr.ownsRow W0.heap.size 60 1 (.slice (some ⟨W0.heap.size,0,none⟩) n n) n (vL (HV V i (.slice none 0 0)) n))∧Hid (Done u w.heap.size wr.heap.size i V wr))∧Hid (UAt w.heap.size u wr)∧Hid (wr.cell? ⟨w2.heap.size,0,none⟩=some (.slice (some ⟨W0.heap.size,0,none⟩) n n))∧Hid (Below w.heap.size w wr)∧Hid (w2.heap.size+1≤wr.heap.size)) (fun s _=>n - (intOf s).toNat)
 case atStart=>exact⟨0,Nat.zero_le _,rfl,hid rfl,⟨fun _=>undef,hid (by rw [HV_nil];exact HOW.out),hid (fun j hj=>by omega)⟩,HUB,HBT,HBA,HSA⟩
 case round =>
  obtain⟨i,hi,rfl,hst,⟨V,HRW,HDN⟩,HUR,HBR,HBW,HSR⟩:=hrel
  clear HOW HUB HBT HBA HSA
  by_cases hlt:i < n
  ·have i5:(0:Int)≤(i:Int):=by omega
   have i6:(i:Int) < (n:Int):=by omega
   have hin:i < u.n:=by have:=HN.out;omega
   obtain⟨bm,om,hAe,hbm,hcm⟩:=mod_cells (HU.out.below HBW.out) hin
   have HMD:=hid ((HU.out.each i hin).below HBW.out)
   have HFM:=hid (HF.out.2 i hin)
   rw [hAe]
   clear hAe
   obtain⟨md,hmd⟩:∃ md,u.M i=md:=⟨_,rfl⟩
   rw [hmd] at hcm HMD HFM
   obtain⟨t0,ht0⟩:∃ t0:Tri,t0=(u.H,u.W,u.C):=⟨_,rfl⟩
   have HT0:=hid ht0
   have hend:mdS md t0 md.n≠0→buS u u.n=mdS md t0 md.n:=fun h=>by
    have:=buS_end (u:=u) (i:=i) (n:=u.n) hin hst.out (by rw [hmd];unfold mdT0;rw [← ht0];exact h)
    rw [hmd] at this
    unfold mdT0 at this
    rw [← ht0] at this
    exact this
   have hgo:mdS md t0 md.n=0→buS u (i+1)=0:=fun h=>buS_go hst.out (by rw [hmd];unfold mdT0;rw [← ht0];exact h)
   have HMDE:=hid hmd
   have HEND0:=hid hend
   have HGO0:=hid hgo
   obtain⟨m,hm⟩:∃ m,md.n=m:=⟨_,rfl⟩
   rw [hm] at hcm
   have HM:=hid hm
   obtain⟨c0,c1,c2,c3,c4⟩:=HUR.out
   have e0:u.H=t0.1:=by rw [ht0]
   have e1:u.W=t0.2.1:=by rw [ht0]
   have e2:u.C=t0.2.2:=by rw [ht0]
   rw [e0] at c0
   rw [e1] at c1
   rw [e2] at c2
   have l0:w.heap.size < wr.heap.size:=by have:=HSR.out;have:=HTB.out;have:=HSZ.out;omega
   have l1:bm < wr.heap.size:=Nat.lt_of_lt_of_le hbm HBW.out.size
   clear hmd ht0 hend hgo hm hbm e0 e1 e2
   go_wp2_with fail
   clear c0 c1 c2 c3 c4 hcm
   have hal:Below wr.heap.size wr ((wr.alloc (.cells #[.slice md.A m md.c] 39)).alloc (.cells #[.int .i64 t0.1,.int .i64 t0.2.1,.int .i64 t0.2.2] 30)):=((Below.refl _ _).alloc (le_refl _) _).alloc (by simp) _
   have q3:=InAt.new t0 30 (wr.alloc (.cells #[.slice md.A m md.c] 39))
   rw [World.size_alloc] at q3
   have hsb:wr.heap.size+1+1≤((wr.alloc (.cells #[.slice md.A m md.c] 39)).alloc (.cells #[.int .i64 t0.1,.int .i64 t0.2.1,.int .i64 t0.2.2] 30)).heap.size:=by simp
   have HRW0:=hid (Kit.own_below HRW.out hal)
   have HDN0:Hid (Done u w.heap.size (wr.heap.size+1) i V ((wr.alloc (.cells #[.slice md.A m md.c] 39)).alloc (.cells #[.int .i64 t0.1,.int .i64 t0.2.1,.int .i64 t0.2.2] 30))):=hid (fun j hj=>⟨Kit.own_below (HDN.out j hj).1 hal,fun g hg=>Nat.lt_succ_of_lt ((HDN.out j hj).2 g hg)⟩)
   have HUR0:=hid (HUR.out.below l0 hal)
   have HBR0:=hid ((hal.cell (p:=⟨w2.heap.size,0,none⟩) (by show w2.heap.size < wr.heap.size;have:=HSR.out;omega)).trans HBR.out)
   have HBW0:=hid (HBW.out.trans (hal.mono HBW.out.size))
   have HIN0:=hid q3
   have HSB0:=hid hsb
   have HSR9:Hid (w2.heap.size < wr.heap.size):=hid (by have:=HSR.out;omega)
   have HMD0:Hid (∀ wx,Below w.heap.size w wx→MdOk wx w.heap.size md):=hid (fun wx hb=>by rw [← HMDE.out];exact (HU.out.each i hin).below hb)
   clear hal q3 hsb HRW HDN HUR HBR HBW HSR HMD
   try rw [show wr.heap.size+1=wr.heap.size+1 from rfl]
   obtain⟨BI,hBI⟩:∃ BI,wr.heap.size+1=BI:=⟨_,rfl⟩
   rw [hBI] at HIN0 HSB0 HDN0
   try rw [hBI]
   have HBE:=hid hBI
   generalize (wr.alloc (.cells #[.slice md.A m md.c] 39)).alloc (.cells #[.int .i64 t0.1,.int .i64 t0.2.1,.int .i64 t0.2.2] 30)=WB at HRW0 HDN0 HUR0 HBR0 HBW0 HIN0 HSB0 ⊢
   have HBIW:Hid (w2.heap.size < BI):=hid (by have:=HSR9.out;omega)
   clear hBI l0 l1 HSR9
   go_loopw [30] (fun s wi=>∃ k:Nat,k≤m∧s=.int .i64 k∧Hid (mdS md t0 k=0)∧(∃ (A6:Option Addr) (c6:Nat),Hid (wi.ownsRow W0.heap.size 60 1 (.slice (some ⟨W0.heap.size,0,none⟩) n n) n (vL (HV V i (.slice A6 k c6)) n))∧Hid (wi.ownsRow (BI+1) 3 1 (.slice A6 k c6) k (rowI (bcZ md t0 u.cl) k)))∧Hid (Done u w.heap.size BI i V wi)∧Hid (InAt BI (inT md t0 k) wi)∧Hid (UAt w.heap.size u wi)∧Hid (wi.cell? ⟨w2.heap.size,0,none⟩=some (.slice (some ⟨W0.heap.size,0,none⟩) n n))∧Hid (Below w.heap.size w wi)∧Hid (BI+1≤wi.heap.size)) (fun s _=>m - (intOf s).toNat)
   case atStart=>exact⟨0,Nat.zero_le _,rfl,hid rfl,⟨none,0,HRW0,hid (World.ownsRow_nil _ _ _ _)⟩,HDN0,HIN0,HUR0,HBR0,HBW0,HSB0⟩
   case round =>
    obtain⟨k,hk,rfl,hsk,⟨A6,c6,HRW,HOV⟩,HDN,HIA,HUR,HBR,HBW,HSB⟩:=hrel
    obtain⟨wi,hwi⟩:∃ wi,wi=wr:=⟨_,rfl⟩
    subst hwi
    clear HRW0 HDN0 HIN0 HUR0 HBR0 HBW0 HSB0
    by_cases hlk:k < m
    ·have k5:(0:Int)≤(k:Int):=by omega
     have k6:(k:Int) < (m:Int):=by omega
     have hkn:k < md.n:=by have:=HM.out;omega
     have hmd:=HMD0.out _ HBW.out
     obtain⟨bb,ob,hBe,hbb,hb0,hb1,hb2,hb3,hb4⟩:=blk_cells hmd hkn
     obtain⟨bk,hbk⟩:∃ bk,md.K k=bk:=⟨_,rfl⟩
     have hok:BkOk wi w.heap.size bk:=by rw [← hbk];exact hmd.each k hkn
     have hfb:bk.n≤12:=by rw [← hbk];exact (HFM.out.2 k hkn).1
     have hk8:k≤8:=by have:=HFM.out.1;omega
     rw [hbk] at hb0 hb1 hb2 hb3 hb4
     obtain⟨cc,hcc⟩:∃ cc,cZ bk.X (inT md t0 k) bk.n bk.ex u.cl=cc:=⟨_,rfl⟩
     obtain⟨o,hoo⟩:∃ o,oT bk.X (inT md t0 k) bk.n=o:=⟨_,rfl⟩
     obtain⟨z,hzz⟩:∃ z,outZ bk.X (inT md t0 k) bk.n=z:=⟨_,rfl⟩
     have HEND:Hid (z≠0→buS u u.n=z):=hid (fun hz=>by
      have h1:=mdS_end (m:=md) (t0:=t0) (k:=k) (n:=md.n) hkn hsk.out (by rw [hbk,hzz];exact hz)
      rw [hbk,hzz] at h1
      rw [← h1]
      exact HEND0.out (by rw [h1];exact hz))
     have HGO:Hid (z=0→bcZ md t0 u.cl k=cc∧inT md t0 (k+1)=o∧mdS md t0 (k+1)=0):=hid (fun hz=>by
      have h1:outZ bk.X (inT md t0 k) bk.n=0:=by rw [hzz];exact hz
      refine⟨?_,?_,?_⟩
      ·rw [← hcc,fine_c h1];unfold bcZ;rw [hbk]
      ·rw [← hoo,fine_o h1,inT,hbk]
      ·exact mdS_go hsk.out (by rw [hbk];exact h1))
     obtain⟨ti,hti⟩:∃ ti,inT md t0 k=ti:=⟨_,rfl⟩
     rw [hti] at hcc hoo hzz HIA
     have l3:bb < wi.heap.size:=Nat.lt_of_lt_of_le hbb HBW.out.size
     rw [hBe]
     go_upto_region 10 with fail
     have hal:Below wi.heap.size wi (wi.alloc (.cells #[.slice bk.A bk.n bk.c,.bool bk.ex,.slice bk.hd.WA bk.hd.nW bk.hd.cW,.slice bk.hd.BA bk.hd.nB bk.hd.cB,.int .i32 bk.hd.D] 28)):=(Below.refl _ _).alloc (le_refl _) _
     have HBX:Hid (BkAt wi.heap.size bk (wi.alloc (.cells #[.slice bk.A bk.n bk.c,.bool bk.ex,.slice bk.hd.WA bk.hd.nW bk.hd.cW,.slice bk.hd.BA bk.hd.nB bk.hd.cB,.int .i32 bk.hd.D] 28))):=hid (BkAt.new bk 28 wi)
     have hszi:=HSB.out
     have HSX:Hid (wi.heap.size < (wi.alloc (.cells #[.slice bk.A bk.n bk.c,.bool bk.ex,.slice bk.hd.WA bk.hd.nW bk.hd.cW,.slice bk.hd.BA bk.hd.nB bk.hd.cB,.int .i32 bk.hd.D] 28)).heap.size):=hid (by simp)
     replace HRW:=hid (Kit.own_below HRW.out hal)
     replace HOV:=hid (Kit.own_below HOV.out hal)
     replace HDN:Hid (Done u w.heap.size BI i V (wi.alloc (.cells #[.slice bk.A bk.n bk.c,.bool bk.ex,.slice bk.hd.WA bk.hd.nW bk.hd.cW,.slice bk.hd.BA bk.hd.nB bk.hd.cB,.int .i32 bk.hd.D] 28))):=hid (fun j hj=>⟨Kit.own_below (HDN.out j hj).1 hal,(HDN.out j hj).2⟩)
     replace HIA:=hid (HIA.out.below (by omega) hal)
     have hwl:w.heap.size < wi.heap.size:=by have:=HSZ.out;have:=HTB.out;have:=HBIW.out;omega
     replace HUR:=hid (HUR.out.below hwl hal)
     replace HBR:=hid ((hal.cell (p:=⟨w2.heap.size,0,none⟩) (by show w2.heap.size < wi.heap.size;have:=HBIW.out;omega)).trans HBR.out)
     replace HBW:=hid (HBW.out.trans (hal.mono HBW.out.size))
     replace HSB:=hid (Nat.le_trans HSB.out hal.size)
     have HNK:=hid ((hok.nodes.below (hal.mono (Nat.le_of_lt hwl))).more (Nat.le_of_lt HSZ.out))
     have HXK:=hid (fun j (hj:j < bk.n)=>node_small (hok.each j hj))
     generalize wi.alloc (.cells #[.slice bk.A bk.n bk.c,.bool bk.ex,.slice bk.hd.WA bk.hd.nW bk.hd.cW,.slice bk.hd.BA bk.hd.nB bk.hd.cB,.int .i32 bk.hd.D] 28)=W5 at HBX HSX HRW HOV HDN HIA HUR HBR HBW HSB HNK ⊢
     have HADD:=hid (cadd_to u bk hfb ti o cc z hcc hoo hzz w.heap.size W0.heap.size w2.heap.size (BI+1) n i k HTB.out (by have:=HBIW.out;omega) hlt hn4 hk8 A6 c6 _ _ W5 (HT.out.grown HBW.out) HXK.out HNK.out HSZ.out HUR.out.2.2.2.1 HBR.out HSB.out (HV_at V hlt _) HRW.out HOV.out)
     clear hal hmd hBe hbb hb0 hb1 hb2 hb3 hb4 hbk hok hcc hoo hzz hti l3 hkn hszi hwl HNK HXK
     obtain⟨k0,k1,k2,k3,k4⟩:=HBX.out
     obtain⟨⟨a0,a1,a2⟩,a4,a5,a6⟩:=HIA.out
     go_wp2_with fail
     go_at_call 26
     refine HADD.out.mono ?_
     rintro e w9 hpost
     clear k0 k1 k2 k3 k4 a0 a1 a2 a4 a5 a6 HBX HADD
     rcases hpost with ⟨hz,rfl,hb⟩ | ⟨hz,rfl,A7,c7,hrows,hrow,hbT,hkS⟩
     ·have HZ:=hid hz
      have hz2:(z != 0)=true:=by simpa using hz
      have HB9:=hid (HBW.out.trans (hb.mono HBW.out.size))
      obtain⟨⟨a0,a1,a2⟩,a4,a5,a6⟩:=HIA.out.below (B':=W5.heap.size) (by have:=HSB.out;omega) hb
      have HBIw:Hid (w.heap.size≤BI):=hid (by have:=HSZ.out;have:=HTB.out;have:=HBIW.out;omega)
      clear hz hb HGO HRW HOV HDN HIA HUR HBR HBW HSB HSX
      go_wp2_with fail
      refine bodyPost_ret (zbm rfl _ _ _) rfl ?_
      exact⟨.inl ⟨by rw [HEND.out HZ.out];exact HZ.out,by rw [HEND.out HZ.out];rfl⟩,((HB9.out.setCell (p:=⟨BI,0,none⟩) HBIw.out _).setCell (p:=⟨BI,1,none⟩) HBIw.out _).setCell (p:=⟨BI,2,none⟩) HBIw.out _⟩
     ·obtain⟨hc9,ho9,hm9⟩:=HGO.out hz
      have HC9:=hid hc9
      have HO9:=hid ho9
      have HM9:=hid hm9
      have hne:∀ q,q≤BI→some q≠(Value.slice A6 k c6).ownBlock:=fun q hq e=>by have:=Kit.zan HOV.out q e.symm;omega
      have HR9:=hid hrows
      have HW9:=hid hrow
      have HI9:=hid (HIA.out.keptS hkS (by have:=HBIW.out;have:=HTB.out;omega) (hne BI (le_refl _)))
      have HBIw:Hid (w.heap.size≤BI):=hid (by have:=HSZ.out;have:=HTB.out;have:=HBIW.out;omega)
      have HU9:=hid (HUR.out.below HSZ.out hbT)
      have HT9:Hid (w9.cell? ⟨w2.heap.size,0,none⟩=some (.slice (some ⟨W0.heap.size,0,none⟩) n n)):=hid ((hkS.cell (by have:=HSB.out;have:=HBIW.out;omega) (by have:=HTB.out;omega) (hne _ (by have:=HBIW.out;omega))).trans HBR.out)
      have HB9:=hid (HBW.out.trans (hbT.mono (Nat.le_of_lt HSZ.out)))
      have HS9:=hid (Nat.le_trans HSB.out hkS.size)
      have HD9:Hid (Done u w.heap.size BI i V w9):=hid (fun j hj=>⟨own_keptS (HDN.out j hj).1 hkS (fun g hg=>⟨fun e=>by
       rcases zbp (HDN.out j hj).1 HRW.out (by decide) with h | h
       ·rw [hg] at h;cases h
       ·exact h (by rw [hg,e];rfl),hne g (Nat.le_of_lt ((HDN.out j hj).2 g hg))⟩),(HDN.out j hj).2⟩)
      rw [HV_set V hlt] at HR9
      rw [← hc9, ← rowI_succ] at HW9
      obtain⟨⟨a0,a1,a2⟩,a4,a5,a6⟩:=HI9.out
      have k9:(k:Int)≤8:=by omega
      have hwb:w.heap.size < BI:=by have:=HSZ.out;have:=HTB.out;have:=HBIW.out;omega
      clear hc9 ho9 hm9 hne hrows hrow hbT hkS HGO HEND HRW HOV HDN HIA HUR HBR HBW HSB HSX
      subst hz
      go_wp2_with fail
      go_roundw
      case rel =>
       have hTBI:(Value.slice (some ⟨W0.heap.size,0,none⟩) n n).ownBlock≠some BI:=fun e=>by have h:W0.heap.size=BI:=Option.some.inj e;have:=HBIW.out;have:=HTB.out;omega
       refine⟨k+1,by omega,by go_num,HM9,⟨A7,c7,hid (own_set3n HR9.out hTBI _ _ _),hid (own_set3 HW9.out (lt_succ_self _) _ _ _)⟩,hid (fun j hj=>⟨own_set3n (HD9.out j hj).1 (fun e=>by have:=(HD9.out j hj).2 BI e;omega) _ _ _,(HD9.out j hj).2⟩),hid (by rw [HO9.out];exact HI9.out.set o),hid ?_,hid ?_,hid (((HB9.out.setCell (p:=⟨BI,0,none⟩) HBIw.out _).setCell (p:=⟨BI,1,none⟩) HBIw.out _).setCell (p:=⟨BI,2,none⟩) HBIw.out _),hid (by simp only [World.size_setCell];exact HS9.out)⟩
       ·have hbb:Below BI w9 (((w9.setCell ⟨BI,0,none⟩ (.int .i64 o.1)).setCell ⟨BI,1,none⟩ (.int .i64 o.2.1)).setCell ⟨BI,2,none⟩ (.int .i64 o.2.2)):=(((Below.refl _ _).setCell (p:=⟨BI,0,none⟩) (le_refl _) _).setCell (p:=⟨BI,1,none⟩) (le_refl _) _).setCell (p:=⟨BI,2,none⟩) (le_refl _) _
        exact HU9.out.below hwb hbb
       ·have hbb:Below BI w9 (((w9.setCell ⟨BI,0,none⟩ (.int .i64 o.1)).setCell ⟨BI,1,none⟩ (.int .i64 o.2.1)).setCell ⟨BI,2,none⟩ (.int .i64 o.2.2)):=(((Below.refl _ _).setCell (p:=⟨BI,0,none⟩) (le_refl _) _).setCell (p:=⟨BI,1,none⟩) (le_refl _) _).setCell (p:=⟨BI,2,none⟩) (le_refl _) _
        exact (hbb.cell (p:=⟨w2.heap.size,0,none⟩) HBIW.out).trans HT9.out
      case measure=>simp [intOf];omega
    ·obtain rfl:k=m:=by omega
     have hgo:=HGO0.out (by rw [HM.out];exact hsk.out)
     have HGO9:=hid hgo
     have i9:(i:Int)≤4:=by omega
     clear hgo HEND0 HGO0
     go_wp2_with fail
     go_roundw
     case rel=>exact⟨i+1,by omega,by go_num,HGO9,⟨fun j=>if j=i then .slice A6 k c6 else V j,hid (by rw [← HV_next];exact HRW.out),hid (fun j hj=>by
      by_cases hji:j=i
      ·subst hji
       dsimp only
       rw [if_pos rfl]
       refine⟨?_,fun g hg=>za7 HOV.out g hg⟩
       rw [HMDE.out,HM.out,show mdT0 u=t0 by unfold mdT0;exact HT0.out.symm]
       exact Kit.own_base HOV.out (by have:=HSZ.out;have:=HTB.out;have:=HBIW.out;omega)
      ·dsimp only
       rw [if_neg hji]
       exact⟨(HDN.out j (by omega)).1,fun g hg=>by have:=(HDN.out j (by omega)).2 g hg;have:=HSB.out;omega⟩)⟩,HUR,HBR,HBW,hid (by have:=HSB.out;have:=HBIW.out;omega)⟩
     case measure=>simp [intOf];omega
  ·obtain rfl:i=n:=by omega
   obtain⟨c0,c1,c2,c3,c4⟩:=HUR.out
   have c9:=HBR.out
   obtain⟨A9,c9',he, -, -,hrd⟩:=Kit.zbw HRW.out
   cases he
   have HR9:=hid hrd
   clear hrd
   go_wp2_with fail
   refine bodyPost_ret (zbm rfl _ _ _) rfl ?_
   refine⟨.inr ⟨by rw [HN.out];exact hst.out,some ⟨W0.heap.size,0,none⟩,i,V,by rw [HN.out];rfl,by rw [HN.out, ← HV_done V i];exact HR9.out,fun j hj=>(HDN.out j (by have:=HN.out;omega)).1⟩,HBW.out⟩
end CCost
end
end Go.Proofs.YtjhlkmnpfibgaaaDoor
