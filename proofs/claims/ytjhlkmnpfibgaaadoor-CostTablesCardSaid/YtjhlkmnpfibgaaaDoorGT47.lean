/- -/
import Derived.Test.YtjhlkmnpfibgaaaDoorGT46
open Go.Lib (hid)
open Nat (le_refl lt_of_succ_lt lt_succ_self)
set_option linter.unusedVariables false
set_option linter.unusedSimpArgs false
set_option maxRecDepth 100000
set_option maxHeartbeats 16000000
namespace Go.Proofs.YtjhlkmnpfibgaaaDoor
namespace CConv
end CConv
namespace CDense
end CDense
namespace CSat
end CSat
namespace CTensor
end CTensor
open Go Go.ChangeShapes Go.WideShapes Go.ChangeAt Go.RowKit Go.Deep
section
namespace CCost
open Plain CSat CFix CShape CTensor CConv CKind CGraph CDense CBund
theorem za7 {w:World} {base s n:Nat} {e:TypeId} {v:Value} {xs:List Value} (h:w.ownsRow base e s v n xs):∀ k,v.ownBlock=some k→k < w.heap.size:=by
 intro k hk
 rcases h.2 with ⟨rfl, -⟩ | ⟨g,cap,cur,rfl, -,hh, -⟩
 ·cases hk
 ·obtain rfl:g=k:=Option.some.inj hk
  rcases Nat.lt_or_ge g w.heap.size with h | h
  ·exact h
  ·rw [Array.getElem?_eq_none h] at hh;cases hh
theorem in_lt {B:Nat} {t:Tri} {w:World} (h:InAt B t w):B+1≤w.heap.size:=Kit.block_lt h.1.1
theorem one_cell {w:World} {base s n:Nat} {e:TypeId} {v:Value} {xs:List Value} (h:w.ownsRow base e s v n xs):∀ u∈[v],u.oneCell'=true:=by
 intro u hu
 simp at hu
 subst hu
 rcases h.2 with ⟨rfl, -⟩ | ⟨g,cap,cur,rfl, -⟩ <;> rfl
theorem bx_kept {w w1:World} {bx:Nat} {v:Value} {o:Tri} {ob:Obj} (h:TriAt bx o w) (hg:(w.alloc ob).grownBy w1 v.ownBlock) (hb:bx < w.heap.size) (hne:some bx≠v.ownBlock):TriAt bx o w1:=by
 have hk:∀ j,w1.cell? ⟨bx,j,none⟩=w.cell? ⟨bx,j,none⟩:=fun j =>
  (World.cell?_of_block (a:=⟨bx,j,none⟩) (hg.block bx (by simp;omega) hne)).trans (((Below.refl w.heap.size w).alloc (le_refl _) ob).cell (p:=⟨bx,j,none⟩) hb)
 exact⟨(hk 0).trans h.1,(hk 1).trans h.2.1,(hk 2).trans h.2.2⟩
theorem rtable_to (u:Bu) (w:World) (hu:BuOk w w.heap.size u) (hf:FewU u) :
  Calls Tryd.prog 14 #[.agg u.val.toArray] w (TabPost u w):=by
 have HU:=hid hu
 have HF:=hid hf
 have HB0:=hid ((Below.refl w.heap.size w).alloc (le_refl _) (.cells u.val.toArray 42))
 have HUA:=hid (UAt.new u 42 w)
 have HSZ:Hid (w.heap.size < (w.alloc (.cells u.val.toArray 42)).heap.size):=hid (by simp)
 obtain⟨i0,hi0,hi1,hi2,hi3⟩:=info_parts info_rows
 obtain⟨i1,hj0,hj1,hj2,hj3⟩:=info_parts info_int8c
 have HN4:=hid hf.1
 clear hu hf
 go_enter Tryd.func14,Tryd.ntmps14
 go_upto_region 1 with fail
 generalize w.alloc (.cells u.val.toArray 42)=W0 at HB0 HUA HSZ ⊢
 obtain⟨n,hn⟩:∃ n,u.n=n:=⟨_,rfl⟩
 have HN:=hid hn
 clear hn
 go_wp2_with fail
 go_loopw [4,5] (fun v s wr=>∃ i:Nat,i≤n∧s=.int .i64 i∧Hid (buS u i=0)∧(∃ V:Nat→Value,Hid (wr.ownsRow W0.heap.size 60 1 v i (vL V i))∧Hid (∀ j,j < i→wr.ownsRow w.heap.size 3 1 (V j) (u.M j).n (rowI (bcZ (u.M j) (mdT0 u) u.cl) (u.M j).n)))∧Hid (Below W0.heap.size W0 wr)) (fun _ s _=>n - (intOf s).toNat)
 case atStart=>exact⟨0,Nat.zero_le _,rfl,hid rfl,⟨fun _=>undef,hid (World.ownsRow_nil _ _ _ _),hid (fun j hj=>by omega)⟩,hid (Below.refl _ _)⟩
 case round =>
  obtain⟨i,hi,rfl,hst,⟨V,HOT,HRS⟩,HB⟩:=hrel
  have HUR:=hid (HUA.out.below HSZ.out HB.out)
  have HBW:=hid (HB0.out.trans (HB.out.mono HB0.out.size))
  obtain⟨c0,c1,c2,c3,c4⟩:=HUR.out
  rw [HN.out] at c4
  by_cases hlt:i < n
  ·have i5:(0:Int)≤(i:Int):=by omega
   have i6:(i:Int) < (n:Int):=by omega
   have hin:i < u.n:=by have:=HN.out;omega
   obtain⟨bm,om,hAe,hbm,hcm⟩:=mod_cells (HU.out.below HBW.out) hin
   have HMD:=hid ((HU.out.each i hin).below HBW.out)
   have HFM:=hid (HF.out.2 i hin)
   rw [hAe] at c4
   clear hAe
   obtain⟨md,hmd⟩:∃ md,u.M i=md:=⟨_,rfl⟩
   rw [hmd] at hcm HMD HFM
   obtain⟨t0,ht0⟩:∃ t0:Tri,t0=(u.H,u.W,u.C):=⟨_,rfl⟩
   have HT0:=hid ht0
   have hend:mdS md t0 md.n≠0→buS u u.n=mdS md t0 md.n:=fun h=>by
    have:=buS_end (u:=u) (i:=i) (n:=u.n) hin hst.out (by rw [hmd];unfold mdT0;rw [← ht0];exact h)
    rw [hmd] at this
    unfold mdT0 at this
    rw [← ht0] at this
    exact this
   have hgo:mdS md t0 md.n=0→buS u (i+1)=0:=fun h=>buS_go hst.out (by rw [hmd];unfold mdT0;rw [← ht0];exact h)
   have HMDE:=hid hmd
   have HEND0:=hid hend
   have HGO0:=hid hgo
   obtain⟨m,hm⟩:∃ m,md.n=m:=⟨_,rfl⟩
   rw [hm] at hcm
   have HM:=hid hm
   have e0:u.H=t0.1:=by rw [ht0]
   have e1:u.W=t0.2.1:=by rw [ht0]
   have e2:u.C=t0.2.2:=by rw [ht0]
   rw [e0] at c0
   rw [e1] at c1
   rw [e2] at c2
   have l0:w.heap.size < wr.heap.size:=Nat.lt_of_lt_of_le HSZ.out HB.out.size
   have l1:bm < wr.heap.size:=Nat.lt_of_lt_of_le hbm HBW.out.size
   have HWL:=hid l0
   clear hmd ht0 hend hgo hm hbm e0 e1 e2
   go_wp2_with fail
   clear c0 c1 c2 c4 hcm l0 l1
   have HWB:Hid (w.heap.size≤wr.heap.size):=hid HBW.out.size
   have HIN0:=hid (InAt.new t0 30 wr)
   have hal:Below wr.heap.size wr (wr.alloc (.cells #[.int .i64 t0.1,.int .i64 t0.2.1,.int .i64 t0.2.2] 30)):=(Below.refl _ _).alloc (le_refl _) _
   have HAL:=hid hal
   have HBIx:Hid (wr.heap.size+1≤(wr.alloc (.cells #[.int .i64 t0.1,.int .i64 t0.2.1,.int .i64 t0.2.2] 30)).heap.size):=hid (by simp)
   have HC3:=hid c3
   clear hal c3
   obtain⟨wo,hwo⟩:∃ wo,wo=wr:=⟨_,rfl⟩
   obtain⟨BI,hBI⟩:∃ BI,BI=wr.heap.size:=⟨_,rfl⟩
   rw [← hBI] at HIN0 HBIx HAL
   have HBE:=hid hBI
   try rw [← hBI]
   generalize wr.alloc (.cells #[.int .i64 t0.1,.int .i64 t0.2.1,.int .i64 t0.2.2] 30)=WA at HIN0 HBIx HAL ⊢
   subst hwo
   clear hBI
   go_loopw [6,9] (fun v6 s wi=>∃ k:Nat,k≤m∧s=.int .i64 k∧Hid (mdS md t0 k=0)∧Hid (wi.ownsRow (BI+1) 3 1 v6 k (rowI (bcZ md t0 u.cl) k))∧Hid (InAt BI (inT md t0 k) wi)∧Hid (Below BI wo wi)) (fun _ s _=>m - (intOf s).toNat)
   case atStart=>exact⟨0,Nat.zero_le _,rfl,hid rfl,hid (World.ownsRow_nil _ _ _ _),HIN0,HAL⟩
   case round =>
    obtain⟨k,hk,rfl,hsk,HOV,HIA,HBR⟩:=hrel
    obtain⟨wi,hwi⟩:∃ wi,wi=wr:=⟨_,rfl⟩
    subst hwi
    obtain⟨v6,hv6⟩:∃ v6,v6=u6:=⟨_,rfl⟩
    subst hv6
    clear HIN0 HBIx HAL
    by_cases hlk:k < m
    ·have k5:(0:Int)≤(k:Int):=by omega
     have k6:(k:Int) < (m:Int):=by omega
     have hkn:k < md.n:=by have:=HM.out;omega
     have HWI:=hid ((HBW.out.trans (HBR.out.mono (by have:=HWB.out;have:=HBE.out;omega))))
     obtain⟨bb,ob,hBe,hbb,hb0,hb1,hb2,hb3,hb4⟩:=blk_cells (HMD.out.below (HBR.out.mono (by have:=HWB.out;have:=HBE.out;omega))) hkn
     obtain⟨bk,hbk⟩:∃ bk,md.K k=bk:=⟨_,rfl⟩
     rw [hbk] at hb0 hb1 hb2 hb3 hb4
     obtain⟨cc,hcc⟩:∃ cc,cZ bk.X (inT md t0 k) bk.n bk.ex u.cl=cc:=⟨_,rfl⟩
     obtain⟨o,hoo⟩:∃ o,oT bk.X (inT md t0 k) bk.n=o:=⟨_,rfl⟩
     obtain⟨z,hzz⟩:∃ z,outZ bk.X (inT md t0 k) bk.n=z:=⟨_,rfl⟩
     have hok:BkOk wi w.heap.size bk:=by rw [← hbk];exact ((HMD.out.below (HBR.out.mono (by have:=HWB.out;have:=HBE.out;omega))).each k hkn)
     have hfb:bk.n≤12:=by rw [← hbk];exact (HFM.out.2 k hkn).1
     have HEND:Hid (¬ z=0→buS u u.n=z):=hid (fun hz=>by
      have h1:=mdS_end (m:=md) (t0:=t0) (k:=k) (n:=md.n) hkn hsk.out (by rw [hbk,hzz];exact hz)
      rw [hbk,hzz] at h1
      rw [← h1]
      exact HEND0.out (by rw [h1];exact hz))
     have HGO:Hid (z=0→bcZ md t0 u.cl k=cc∧inT md t0 (k+1)=o∧mdS md t0 (k+1)=0):=hid (fun hz=>by
      have h1:outZ bk.X (inT md t0 k) bk.n=0:=by rw [hzz];exact hz
      refine⟨?_,?_,?_⟩
      ·rw [← hcc,fine_c h1];unfold bcZ;rw [hbk]
      ·rw [← hoo,fine_o h1,inT,hbk]
      ·exact mdS_go hsk.out (by rw [hbk];exact h1))
     obtain⟨ti,hti⟩:∃ ti,inT md t0 k=ti:=⟨_,rfl⟩
     rw [hti] at hcc hoo hzz HIA
     have CB:Hid (∀ wx,Below wi.heap.size wi wx→Calls Tryd.prog 10 #[.agg #[.slice bk.A bk.n bk.c,.bool bk.ex,.slice bk.hd.WA bk.hd.nW bk.hd.cW,.slice bk.hd.BA bk.hd.nB bk.hd.cB,.int .i32 bk.hd.D],.agg #[.int .i64 ti.1,.int .i64 ti.2.1,.int .i64 ti.2.2],.int .i64 u.cl] wx fun e w'=>e=.returned (.tuple #[.int .i64 cc,.agg #[.int .i64 o.1,.int .i64 o.2.1,.int .i64 o.2.2],.int .i64 z])∧Below wx.heap.size wx w') :=
      hid (fun wx hb=>(rblock_to bk ti u.cl (by omega) wx (((hok.nodes.more HWI.out.size).below hb).more hb.size)).mono fun e w' h=>by have h:=blk_view h;rw [hcc,hoo,hzz] at h;exact h)
     have HBI:Hid (BI+1≤wi.heap.size):=hid (in_lt HIA.out)
     have hwb:w.heap.size < BI:=by have:=HWL.out;have:=HBE.out;omega
     have hwl:w.heap.size < wi.heap.size:=by have:=HWL.out;have:=HBE.out;have:=HBI.out;omega
     have HBC:Hid (∀ wS,Below wi.heap.size wi wS→wS.cell? ⟨bb,ob+k * 5,none⟩=some (.slice bk.A bk.n bk.c)∧wS.cell? ⟨bb,ob+k * 5+1,none⟩=some (.bool bk.ex)∧wS.cell? ⟨bb,ob+k * 5+2,none⟩=some (.slice bk.hd.WA bk.hd.nW bk.hd.cW)∧wS.cell? ⟨bb,ob+k * 5+3,none⟩=some (.slice bk.hd.BA bk.hd.nB bk.hd.cB)∧wS.cell? ⟨bb,ob+k * 5+4,none⟩=some (.int .i32 bk.hd.D)) :=
      hid (fun wS h=>by
       have hlb:bb < wi.heap.size:=Nat.lt_trans hbb hwl
       exact⟨(h.cell (p:=⟨bb,ob+k * 5,none⟩) hlb).trans hb0,(h.cell (p:=⟨bb,ob+k * 5+1,none⟩) hlb).trans hb1,(h.cell (p:=⟨bb,ob+k * 5+2,none⟩) hlb).trans hb2,(h.cell (p:=⟨bb,ob+k * 5+3,none⟩) hlb).trans hb3,(h.cell (p:=⟨bb,ob+k * 5+4,none⟩) hlb).trans hb4⟩)
     have HIN:Hid (∀ wS,Below wi.heap.size wi wS→TriAt BI ti wS):=hid (fun wS h=>HIA.out.1.below (by have:=HBI.out;omega) h)
     have HUC:Hid (∀ wS,Below wi.heap.size wi wS→wS.cell? ⟨w.heap.size,3,none⟩=some (.int .i64 u.cl)):=hid (fun wS h=>(h.cell (p:=⟨w.heap.size,3,none⟩) hwl).trans (((HBR.out.cell (p:=⟨w.heap.size,3,none⟩) hwb)).trans HC3.out))
     have HK8:Hid (k≤8):=hid (by have:=HFM.out.1;omega)
     rw [hBe]
     clear hBe hbb hb0 hb1 hb2 hb3 hb4 hbk hok hfb hcc hoo hzz hti hwl hwb hkn
     go_upto_region 11 with fail
     refine wp_region_held_drew (S:=fun wx=>Below wi.heap.size wi wx) (by kernel_rfl) (Below.refl _ _).drew (fun hHeld=>?_)
     generalize wi.drew=W1 at hHeld ⊢
     refine Tk.x 0 rfl ?_
     try simp only [Tk.put]
     refine Tk.x 1 rfl ?_
     try simp only [Tk.put]
     refine Tk.x 2 rfl ?_
     try simp only [Tk.put]
     refine Tk.y 3 (v:=.agg #[.slice bk.A bk.n bk.c,.bool bk.ex,.slice bk.hd.WA bk.hd.nW bk.hd.cW,.slice bk.hd.BA bk.hd.nB bk.hd.cB,.int .i32 bk.hd.D]) rfl ?_ ?_
     ·intro wS hSw
      obtain⟨q0,q1,q2,q3,q4⟩:=HBC.out wS hSw
      first | (go_simp;done) | (go_simp;with_reducible rfl)
     try simp only [Tk.put]
     refine Tk.y 4 (v:=.agg #[.int .i64 ti.1,.int .i64 ti.2.1,.int .i64 ti.2.2]) rfl ?_ ?_
     ·intro wS hSw
      obtain⟨q0,q1,q2⟩:=HIN.out wS hSw
      first | (go_simp;done) | (go_simp;with_reducible rfl)
     try simp only [Tk.put]
     refine Tk.x 5 rfl ?_
     try simp only [Tk.put]
     refine Tk.y 6 (v:=.int .i64 u.cl) rfl ?_ ?_
     ·intro wS hSw
      have q3:=HUC.out wS hSw
      first | (go_simp;done) | (go_simp;with_reducible rfl)
     try simp only [Tk.put]
     refine wpAnyH_ready (rs:=[7,12]) (by kernel_rfl) (by simp) ?_
     refine Tk.c rfl (fun Kq hK=>?_) (Tk.c rfl (fun Kq hK=>?_) AllReadyH.nil)
     ·skip
      go_simp
      go_at_call 10
      refine (CB.out _ hHeld).mono ?_
      rintro e W2 ⟨rfl,hb⟩
      have hS2:=hHeld.trans (hb.mono hHeld.size)
      clear hHeld hb
      dsimp only
      refine hK.out _ _ hS2 (fun hHeld=>?_)
      clear hK Kq hS2
      try simp only [Tk.put]
      refine Tk.x 8 rfl ?_
      try simp only [Tk.put]
      refine Tk.x 9 rfl ?_
      try simp only [Tk.put]
      refine Tk.x 10 rfl ?_
      try simp only [Tk.put]
      refine Tk.x 11 rfl ?_
      try simp only [Tk.put]
      refine Tk.s 12 rfl (fun Kq hK=>?_)
      go_simp
      have hS2:=hHeld.alloc hHeld.size (.cells #[.int .i64 0,.int .i64 0,.int .i64 0] 30)
      have HFX:=hid (zbt.new 30 W2)
      have HFL:Hid (W2.heap.size < (W2.alloc (.cells #[.int .i64 0,.int .i64 0,.int .i64 0] 30)).heap.size):=hid (by simp)
      have HFG:Hid (wi.heap.size≤W2.heap.size):=hid hHeld.size
      generalize hbx:W2.heap.size=bx at *
      generalize W2.alloc (.cells #[.int .i64 0,.int .i64 0,.int .i64 0] 30)=W3 at hS2 HFX HFL ⊢
      clear hHeld hbx
      refine hK.out _ _ hS2 (fun hHeld=>?_)
      clear hK Kq hS2
      try simp only [Tk.put]
      refine Tk.x 13 rfl ?_
      try simp only [Tk.put]
      obtain⟨⟨z0,z1,z2⟩,z4,z5,z6⟩:=HFX.out
      refine Tk.s 14 rfl (fun Kq hK=>?_)
      go_simp
      have hS2:Below wi.heap.size wi (((W3.setCell ⟨bx,0,none⟩ (.int .i64 o.1)).setCell ⟨bx,1,none⟩ (.int .i64 o.2.1)).setCell ⟨bx,2,none⟩ (.int .i64 o.2.2)):=((hHeld.setCell (p:=⟨bx,0,none⟩) HFG.out _).setCell (p:=⟨bx,1,none⟩) HFG.out _).setCell (p:=⟨bx,2,none⟩) HFG.out _
      have HTX:Hid (TriAt bx o (((W3.setCell ⟨bx,0,none⟩ (.int .i64 o.1)).setCell ⟨bx,1,none⟩ (.int .i64 o.2.1)).setCell ⟨bx,2,none⟩ (.int .i64 o.2.2))):=hid ⟨by go_cell,by go_cell,by go_cell⟩
      have HLX:Hid (bx < (((W3.setCell ⟨bx,0,none⟩ (.int .i64 o.1)).setCell ⟨bx,1,none⟩ (.int .i64 o.2.1)).setCell ⟨bx,2,none⟩ (.int .i64 o.2.2)).heap.size):=hid (by simp only [World.size_setCell];exact HFL.out)
      clear z0 z1 z2 z4 z5 z6 HFX HFL
      generalize ((W3.setCell ⟨bx,0,none⟩ (.int .i64 o.1)).setCell ⟨bx,1,none⟩ (.int .i64 o.2.1)).setCell ⟨bx,2,none⟩ (.int .i64 o.2.2)=W5 at hS2 HTX HLX ⊢
      clear hHeld
      refine hK.out _ _ hS2 (fun hHeld=>?_)
      clear hK Kq hS2
      try simp only [Tk.put]
      refine Tk.x 15 rfl ?_
      try simp only [Tk.put]
      refine wpAnyH_done (by kernel_rfl) ?_ _
      by_cases hz0:z=0
      ·obtain⟨hc0,ho0,hm0⟩:=HGO.out hz0
       have HC9:=hid hc0
       have HO9:=hid ho0
       have HM9:=hid hm0
       have HNE:Hid (some bx≠v6.ownBlock):=hid (fun e=>by have:=za7 HOV.out bx e.symm;have:=HFG.out;omega)
       subst hz0
       have HOR:=hid (Kit.own_below HOV.out hHeld)
       have HI5:=hid (HIA.out.below HBI.out hHeld)
       have HS5:Hid (BI+1≤W5.heap.size):=hid (Nat.le_trans HBI.out hHeld.size)
       have HBB:=hid (HBR.out.trans (hHeld.mono (by have:=HBI.out;omega)))
       clear HOV HIA HBR hHeld
       obtain⟨⟨p0,p1,p2⟩,p4,p5,p6⟩:=HI5.out
       obtain⟨x0,x1,x2⟩:=HTX.out
       have hbx5:bx < W5.heap.size:=HLX.out
       go_upto_region 15 with (at_builtin;refine Kit.zaq _ rfl (.tmp 49) (.tmp 51) _ rfl (BI+1) 3 i1 (.int .i64 0) 1 8 Tryd.underlying60 hj0 hj1 hj2 hj3 rfl (by decide) _ k (rowI (bcZ md t0 u.cl) k) rfl (HOR.out.alloc _) _ _ 1 1 [.int .i64 cc] rfl rfl (Kit.Rd.new _ _ _ (lt_succ_self _)) (Kit.zbs .i64 [cc]) (by have:=HK8.out;unfold maxLen;omega) (by have:=HK8.out;omega) (by have:=HS5.out;simp;omega) ?_;intro v5 w5 hown5 hg5 hat5;(have hB5:Below (BI+1) W5 w5:=((Below.refl (BI+1) W5).alloc HS5.out _).grown hg5 (by have:=HS5.out;simp;omega) (fun q hq=>Kit.zan HOR.out q hq));(have e5:rowI (bcZ md t0 u.cl) k ++ [.int .i64 cc]=rowI (bcZ md t0 u.cl) (k+1):=by rw [rowI_succ,HC9.out]);rw [e5] at hown5;(have HO5:=hid hown5);(have HB5:=hid hB5);(have HX5:=hid (bx_kept HTX.out hg5 hbx5 HNE.out));(have HS6:=hid (Nat.le_trans HS5.out hB5.size));clear hown5 hg5 hat5 hB5 e5 x0 x1 x2 p0 p1 p2 p4 p5 p6)
       obtain⟨⟨p0,p1,p2⟩,p4,p5,p6⟩:=HI5.out.below (lt_succ_self _) HB5.out
       obtain⟨x0,x1,x2⟩:=HX5.out
       have hne:¬ bx=BI:=by have:=HFG.out;have:=HBI.out;omega
       have hne2:¬ BI=bx:=fun h=>hne h.symm
       have k9:(k:Int)≤8:=by have:=HK8.out;omega
       go_wp2_with fail
       go_roundw
       case rel=>exact⟨k+1,by omega,by go_num,HM9,hid (own_set3 HO5.out (lt_succ_self _) _ _ _),hid (by rw [HO9.out];exact (HI5.out.below (lt_succ_self _) HB5.out).set o),hid ((((HBB.out.trans (HB5.out.mono (Nat.le_succ _))).setCell (p:=⟨BI,0,none⟩) (le_refl _) _).setCell (p:=⟨BI,1,none⟩) (le_refl _) _).setCell (p:=⟨BI,2,none⟩) (le_refl _) _)⟩
       case measure=>simp [intOf];omega
      ·have hz2:(z != 0)=true:=by simpa using hz0
       have HE9:=hid (HEND.out hz0)
       clear HGO HEND CB HTX HLX
       have HBB:=hid (HBR.out.trans (hHeld.mono (by have:=HBI.out;omega)))
       go_wp2_with fail
       refine bodyPost_ret (zbm rfl _ _ _) rfl ?_
       exact⟨.inl ⟨by rw [HE9.out];exact hz0,by rw [HE9.out];rfl⟩,HBW.out.trans (HBB.out.mono (by have:=HWB.out;have:=HBE.out;omega))⟩
     ·skip
      go_simp
      have hS2:=hHeld.alloc hHeld.size (.cells #[.int .i64 0,.int .i64 0,.int .i64 0] 30)
      have HFX:=hid (zbt.new 30 W1)
      have HFL:Hid (W1.heap.size < (W1.alloc (.cells #[.int .i64 0,.int .i64 0,.int .i64 0] 30)).heap.size):=hid (by simp)
      have HFG:Hid (wi.heap.size≤W1.heap.size):=hid hHeld.size
      generalize hbx:W1.heap.size=bx at *
      generalize W1.alloc (.cells #[.int .i64 0,.int .i64 0,.int .i64 0] 30)=W2 at hS2 HFX HFL ⊢
      clear hHeld hbx
      refine hK.out _ _ hS2 (fun hHeld=>?_)
      clear hK Kq hS2
      try simp only [Tk.put]
      refine Tk.s 7 rfl (fun Kq hK=>?_)
      go_simp
      go_at_call 10
      refine (CB.out _ hHeld).mono ?_
      rintro e W3 ⟨rfl,hb⟩
      have hS2:=hHeld.trans (hb.mono hHeld.size)
      replace HFX:=hid (HFX.out.below HFL.out hb)
      replace HFL:=hid (Nat.lt_of_lt_of_le HFL.out hb.size)
      clear hHeld hb
      dsimp only
      refine hK.out _ _ hS2 (fun hHeld=>?_)
      clear hK Kq hS2
      try simp only [Tk.put]
      refine Tk.x 8 rfl ?_
      try simp only [Tk.put]
      refine Tk.x 9 rfl ?_
      try simp only [Tk.put]
      refine Tk.x 10 rfl ?_
      try simp only [Tk.put]
      refine Tk.x 11 rfl ?_
      try simp only [Tk.put]
      refine Tk.x 13 rfl ?_
      try simp only [Tk.put]
      obtain⟨⟨z0,z1,z2⟩,z4,z5,z6⟩:=HFX.out
      refine Tk.s 14 rfl (fun Kq hK=>?_)
      go_simp
      have hS2:Below wi.heap.size wi (((W3.setCell ⟨bx,0,none⟩ (.int .i64 o.1)).setCell ⟨bx,1,none⟩ (.int .i64 o.2.1)).setCell ⟨bx,2,none⟩ (.int .i64 o.2.2)):=((hHeld.setCell (p:=⟨bx,0,none⟩) HFG.out _).setCell (p:=⟨bx,1,none⟩) HFG.out _).setCell (p:=⟨bx,2,none⟩) HFG.out _
      have HTX:Hid (TriAt bx o (((W3.setCell ⟨bx,0,none⟩ (.int .i64 o.1)).setCell ⟨bx,1,none⟩ (.int .i64 o.2.1)).setCell ⟨bx,2,none⟩ (.int .i64 o.2.2))):=hid ⟨by go_cell,by go_cell,by go_cell⟩
      have HLX:Hid (bx < (((W3.setCell ⟨bx,0,none⟩ (.int .i64 o.1)).setCell ⟨bx,1,none⟩ (.int .i64 o.2.1)).setCell ⟨bx,2,none⟩ (.int .i64 o.2.2)).heap.size):=hid (by simp only [World.size_setCell];exact HFL.out)
      clear z0 z1 z2 z4 z5 z6 HFX HFL
      generalize ((W3.setCell ⟨bx,0,none⟩ (.int .i64 o.1)).setCell ⟨bx,1,none⟩ (.int .i64 o.2.1)).setCell ⟨bx,2,none⟩ (.int .i64 o.2.2)=W5 at hS2 HTX HLX ⊢
      clear hHeld
      refine hK.out _ _ hS2 (fun hHeld=>?_)
      clear hK Kq hS2
      try simp only [Tk.put]
      refine Tk.x 15 rfl ?_
      try simp only [Tk.put]
      refine wpAnyH_done (by kernel_rfl) ?_ _
      by_cases hz0:z=0
      ·obtain⟨hc0,ho0,hm0⟩:=HGO.out hz0
       have HC9:=hid hc0
       have HO9:=hid ho0
       have HM9:=hid hm0
       have HNE:Hid (some bx≠v6.ownBlock):=hid (fun e=>by have:=za7 HOV.out bx e.symm;have:=HFG.out;omega)
       subst hz0
       have HOR:=hid (Kit.own_below HOV.out hHeld)
       have HI5:=hid (HIA.out.below HBI.out hHeld)
       have HS5:Hid (BI+1≤W5.heap.size):=hid (Nat.le_trans HBI.out hHeld.size)
       have HBB:=hid (HBR.out.trans (hHeld.mono (by have:=HBI.out;omega)))
       clear HOV HIA HBR hHeld
       obtain⟨⟨p0,p1,p2⟩,p4,p5,p6⟩:=HI5.out
       obtain⟨x0,x1,x2⟩:=HTX.out
       have hbx5:bx < W5.heap.size:=HLX.out
       go_upto_region 15 with (at_builtin;refine Kit.zaq _ rfl (.tmp 49) (.tmp 51) _ rfl (BI+1) 3 i1 (.int .i64 0) 1 8 Tryd.underlying60 hj0 hj1 hj2 hj3 rfl (by decide) _ k (rowI (bcZ md t0 u.cl) k) rfl (HOR.out.alloc _) _ _ 1 1 [.int .i64 cc] rfl rfl (Kit.Rd.new _ _ _ (lt_succ_self _)) (Kit.zbs .i64 [cc]) (by have:=HK8.out;unfold maxLen;omega) (by have:=HK8.out;omega) (by have:=HS5.out;simp;omega) ?_;intro v5 w5 hown5 hg5 hat5;(have hB5:Below (BI+1) W5 w5:=((Below.refl (BI+1) W5).alloc HS5.out _).grown hg5 (by have:=HS5.out;simp;omega) (fun q hq=>Kit.zan HOR.out q hq));(have e5:rowI (bcZ md t0 u.cl) k ++ [.int .i64 cc]=rowI (bcZ md t0 u.cl) (k+1):=by rw [rowI_succ,HC9.out]);rw [e5] at hown5;(have HO5:=hid hown5);(have HB5:=hid hB5);(have HX5:=hid (bx_kept HTX.out hg5 hbx5 HNE.out));(have HS6:=hid (Nat.le_trans HS5.out hB5.size));clear hown5 hg5 hat5 hB5 e5 x0 x1 x2 p0 p1 p2 p4 p5 p6)
       obtain⟨⟨p0,p1,p2⟩,p4,p5,p6⟩:=HI5.out.below (lt_succ_self _) HB5.out
       obtain⟨x0,x1,x2⟩:=HX5.out
       have hne:¬ bx=BI:=by have:=HFG.out;have:=HBI.out;omega
       have hne2:¬ BI=bx:=fun h=>hne h.symm
       have k9:(k:Int)≤8:=by have:=HK8.out;omega
       go_wp2_with fail
       go_roundw
       case rel=>exact⟨k+1,by omega,by go_num,HM9,hid (own_set3 HO5.out (lt_succ_self _) _ _ _),hid (by rw [HO9.out];exact (HI5.out.below (lt_succ_self _) HB5.out).set o),hid ((((HBB.out.trans (HB5.out.mono (Nat.le_succ _))).setCell (p:=⟨BI,0,none⟩) (le_refl _) _).setCell (p:=⟨BI,1,none⟩) (le_refl _) _).setCell (p:=⟨BI,2,none⟩) (le_refl _) _)⟩
       case measure=>simp [intOf];omega
      ·have hz2:(z != 0)=true:=by simpa using hz0
       have HE9:=hid (HEND.out hz0)
       clear HGO HEND CB HTX HLX
       have HBB:=hid (HBR.out.trans (hHeld.mono (by have:=HBI.out;omega)))
       go_wp2_with fail
       refine bodyPost_ret (zbm rfl _ _ _) rfl ?_
       exact⟨.inl ⟨by rw [HE9.out];exact hz0,by rw [HE9.out];rfl⟩,HBW.out.trans (HBB.out.mono (by have:=HWB.out;have:=HBE.out;omega))⟩
    ·obtain rfl:k=m:=by omega
     obtain⟨A6,c6,rfl, -, -, -⟩:=Kit.zbw HOV.out
     have hgo:=HGO0.out (by rw [HM.out];exact hsk.out)
     have HGO9:=hid hgo
     have HOTi:=hid (Kit.own_below HOT.out (by rw [← HBE.out];exact HBR.out))
     have HRSi:Hid (∀ j,j < i→wi.ownsRow w.heap.size 3 1 (V j) (u.M j).n (rowI (bcZ (u.M j) (mdT0 u) u.cl) (u.M j).n)):=hid (fun j hj=>Kit.own_below (HRS.out j hj) (by rw [← HBE.out];exact HBR.out))
     have HOVi:=hid (Kit.own_base HOV.out (show w.heap.size≤BI+1 by have:=HWB.out;have:=HBE.out;omega))
     have HBWi:=hid (HBW.out.trans (HBR.out.mono (by have:=HWB.out;have:=HBE.out;omega)))
     have HB0i:=hid (HB.out.trans (HBR.out.mono (by have:=HB.out.size;have:=HBE.out;omega)))
     clear hgo HOT HRS HOV HBR HIA HEND0 HGO0
     have i9:(i:Int)≤4:=by have:=HN4.out;have:=HN.out;omega
     obtain⟨v4,hv4⟩:∃ v4,v4=u4:=⟨_,rfl⟩
     subst hv4
     go_wp2_with (at_builtin;refine Kit.zaq _ rfl (.tmp 54) (.tmp 56) _ rfl W0.heap.size 60 i0 (.slice none 0 0) 1 24 Tryd.underlying54 hi0 hi1 hi2 hi3 rfl (by decide) _ i (vL V i) rfl (HOTi.out.alloc _) _ _ 1 1 [.slice A6 k c6] rfl rfl (Kit.Rd.new _ _ _ (lt_succ_self _)) (one_cell HOVi.out) (by have:=HN4.out;have:=HN.out;unfold maxLen;omega) (by have:=HN4.out;have:=HN.out;omega) (by have:=HB0i.out.size;simp;omega) ?_;intro v5 w5 hown5 hg5 hat5;(have hg6:=hg5);(have HO5:=hid hown5);(have HV5:=hid ((HOVi.out.alloc (.cells #[.slice A6 k c6] 60)).kept hg5 (zbp HOVi.out HOTi.out (by decide))));(have HR5:Hid (∀ j,j < i→w5.ownsRow w.heap.size 3 1 (V j) (u.M j).n (rowI (bcZ (u.M j) (mdT0 u) u.cl) (u.M j).n)):=hid (fun j hj=>((HRSi.out j hj).alloc (.cells #[.slice A6 k c6] 60)).kept hg5 (zbp (HRSi.out j hj) HOTi.out (by decide))));(have HB5:=hid ((HB0i.out.alloc HB0i.out.size (.cells #[.slice A6 k c6] 60)).grown hg5 (by have:=HB0i.out.size;simp;omega) (fun q hq=>Kit.zan HOTi.out q hq)));clear hown5 hg5 hat5 hg6)
     go_roundw
     case rel=>exact⟨i+1,by omega,by go_num,HGO9,⟨fun j=>if j=i then .slice A6 k c6 else V j,hid (by rw [vL_succ,vL_congr (V:=fun j=>if j=i then .slice A6 k c6 else V j) (U:=V) (fun q hq=>if_neg (by omega)),if_pos rfl];exact HO5.out),hid (fun j hj=>by
      by_cases hji:j=i
      ·subst hji
       dsimp only
       rw [if_pos rfl]
       rw [HMDE.out,HM.out]
       have h:=HV5.out
       rw [show mdT0 u=t0 by unfold mdT0;exact HT0.out.symm]
       exact h
      ·dsimp only;rw [if_neg hji];exact HR5.out j (by omega))⟩,HB5⟩
     case measure=>simp [intOf];omega
  ·obtain rfl:i=n:=by omega
   obtain⟨A9,c9,rfl, -, -,hrd⟩:=Kit.zbw HOT.out
   have HR9:=hid hrd
   clear hrd
   go_wp2_with fail
   refine bodyPost_ret (zbm rfl _ _ _) rfl ?_
   refine⟨.inr ⟨by rw [HN.out];exact hst.out,A9,c9,V,by rw [HN.out];rfl,by rw [HN.out];exact HR9.out,fun j hj=>HRS.out j (by have:=HN.out;omega)⟩,HBW.out⟩
end CCost
end
end Go.Proofs.YtjhlkmnpfibgaaaDoor
