/- -/
import Derived.Test.YtfgdfignoakkaaaGreatDoorGBC30
open Go.Lib (hid)
open Nat (le_refl lt_of_succ_lt lt_succ_self)
set_option linter.unusedVariables false
set_option linter.unusedSimpArgs false
set_option maxRecDepth 100000
set_option maxHeartbeats 16000000
namespace Go.Proofs.YtfgdfignoakkaaaGreatDoor
namespace CConv
end CConv
namespace CGraph
end CGraph
namespace CKind
end CKind
namespace CSat
end CSat
namespace CShape
end CShape
namespace CTensor
end CTensor
namespace Kit
end Kit
namespace Plain
end Plain
open Go Go.ChangeShapes Go.WideShapes Go.ChangeAt Go.RowKit Go.Deep
section
namespace CBunM
open Kit Plain CSat CShape CTensor CConv CKind CGraph CBund
def MVal (A:Option Addr) (n c:Nat):List Value:=[.slice A n c]
theorem smod_yes {m1 m2:Bool} {l1 h1 l2 h2:Nat} (x y:Md) (p:PM) (hf:p.few) (w:World) (hx:MdIn m1 w l1 h1 x p) (hy:MdIn m2 w l2 h2 y p) (g1:h1≤w.heap.size) (g2:h2≤w.heap.size) :
  Calls Tryz.prog 30 #[.agg x.val.toArray,.agg y.val.toArray] w fun e w'=>e=.returned (.bool true)∧Below w.heap.size w w':=by
 obtain⟨A,n,c,X⟩:=x
 obtain⟨A',n',c',X'⟩:=y
 obtain⟨e1,_,hN,hE⟩:=hx
 obtain⟨f1,_,hN',hE'⟩:=hy
 dsimp only at e1 f1 hN hE hN' hE'
 obtain rfl:n=n':=e1.trans f1.symm
 obtain⟨q1,q2⟩:=hf
 obtain⟨W0,hW0⟩:∃ W0,W0=(w.alloc (.cells (MVal A n c).toArray 42)).alloc (.cells (MVal A' n c').toArray 42):=⟨_,rfl⟩
 have hsz0:W0.heap.size=w.heap.size+2:=by rw [hW0];simp
 have hb0:Below w.heap.size w W0:=by rw [hW0];exact ((Below.refl _ w).alloc (le_refl _) _).alloc (by simp) _
 have hbx:CBox 1 w.heap.size (MVal A n c) W0:=by
  rw [hW0]
  exact (CBox.new (MVal A n c) 42 w).below (B:=w.heap.size+1) (lt_succ_self _) ((Below.refl _ _).alloc (by simp) _)
 have hby:CBox 1 (w.heap.size+1) (MVal A' n c') W0:=by
  rw [hW0]
  have:=CBox.new (MVal A' n c') 42 (w.alloc (.cells (MVal A n c).toArray 42))
  rwa [World.size_alloc] at this
 have hcells:∀ wS,Below W0.heap.size W0 wS→wS.cell? ⟨w.heap.size,0,none⟩=some (.slice A n c)∧wS.cell? ⟨w.heap.size+1,0,none⟩=some (.slice A' n c'):=fun wS h =>
  ⟨(hbx.below (by omega) h).at 0 _ rfl,(hby.below (by omega) h).at 0 _ rfl⟩
 have a0:W0.cell? ⟨w.heap.size,0,none⟩=some (.slice A n c):=hbx.at 0 _ rfl
 have d0:W0.cell? ⟨w.heap.size+1,0,none⟩=some (.slice A' n c'):=hby.at 0 _ rfl
 have HSZ0:=hid hsz0
 have HB0:=hid hb0
 have HC:=hid hcells
 have HN:=hid hN
 have HN':=hid hN'
 have HE:=hid hE
 have HE':=hid hE'
 have HQ:=hid q2
 have hn8:n≤8:=by rw [e1];exact q1
 have HNP:=hid e1
 clear hbx hby hcells hsz0 hb0 hN hN' hE hE' q1 q2 e1 f1
 go_enter Tryz.func30,Tryz.ntmps30
 go_upto_region 1 with fail
 simp only [MVal] at hW0
 simp only [Md.val]
 rw [← hW0]
 clear hW0
 go_wp2_with fail
 go_loopw [5] (fun v wr=>∃ i:Nat,i≤n∧v=.int .i64 i∧Hid (Below W0.heap.size W0 wr)) (fun v _=>n - (intOf v).toNat)
 case atStart=>exact⟨0,Nat.zero_le _,rfl,hid (Below.refl _ _)⟩
 case round =>
  obtain⟨i,hii,rfl,HB⟩:=hrel
  have hc:=HC.out wr HB.out
  obtain⟨a0,d0⟩:=hc
  have HBW:=hid (HB0.out.trans (HB.out.mono (by have:=HSZ0.out;omega)))
  by_cases hlt:i < n
  ·have k0:(0:Int)≤(i:Int):=by omega
   have k1:(i:Int) < (n:Int):=by omega
   have hk1:Kept l1 h1 w wr:=Kept.of_below HBW.out g1
   have hk2:Kept l2 h2 w wr:=Kept.of_below HBW.out g2
   obtain⟨ga,oa,rfl,u1,u2,hra,_⟩:=(HN.out.keep hk1) i hlt
   obtain⟨gb,ob,rfl,v1,v2,hrb,_⟩:=(HN'.out.keep hk2) i hlt
   have hr:∀ wS,Below wr.heap.size wr wS→wS.rangeAt ga (oa+i * 5) (X i).val∧wS.rangeAt gb (ob+i * 5) (X' i).val:=fun wS h =>
    ⟨fun q v hq=>(h.cell (p:=⟨ga,_,none⟩) (Nat.lt_of_lt_of_le u2 (Nat.le_trans g1 HBW.out.size))).trans (hra q v hq),fun q v hq=>(h.cell (p:=⟨gb,_,none⟩) (Nat.lt_of_lt_of_le v2 (Nat.le_trans g2 HBW.out.size))).trans (hrb q v hq)⟩
   have HR:=hid hr
   have HCW:Hid (∀ wS,Below wr.heap.size wr wS→wS.cell? ⟨w.heap.size,0,none⟩=some (.slice (some ⟨ga,oa,none⟩) n c)∧wS.cell? ⟨w.heap.size+1,0,none⟩=some (.slice (some ⟨gb,ob,none⟩) n c')):=hid (fun wS h=>HC.out wS (HB.out.trans (h.mono HB.out.size)))
   have HCL:Hid (∀ wS,Below wr.heap.size wr wS→Calls Tryz.prog 55 #[.agg (X i).val.toArray,.agg (X' i).val.toArray] wS fun e w'=>e=.returned (.bool true)∧Below wS.heap.size wS w'):=hid (fun wS h =>
    sblk_yes (X i) (X' i) (p.K i) (HQ.out i (by rw [← HNP.out];exact hlt)) wS (((HE.out i hlt).keep hk1).keep (Kept.of_below h (Nat.le_trans g1 HBW.out.size))) (((HE'.out i hlt).keep hk2).keep (Kept.of_below h (Nat.le_trans g2 HBW.out.size))) (Nat.le_trans (Nat.le_trans g1 HBW.out.size) h.size) (Nat.le_trans (Nat.le_trans g2 HBW.out.size) h.size))
   clear hk1 hk2 hra hrb hr u1 u2 v1 v2
   go_upto_region 6 with fail
   refine wp_region_held_drew (S:=fun wS=>Below wr.heap.size wr wS) (by kernel_rfl) (Below.refl _ _).drew (fun hHeld=>?_)
   generalize hw3:wr.drew=w3 at hHeld
   clear hw3
   refine Tk.x 0 rfl ?_
   try simp only [Tk.put]
   refine Tk.y 1 (v:=.slice (some ⟨ga,oa,none⟩) n c) rfl ?_ ?_
   ·intro wS hSw
    obtain⟨q0,q1⟩:=HCW.out wS hSw
    first | (go_simp;done) | (go_simp;with_reducible rfl)
   try simp only [Tk.put]
   refine Tk.x 2 rfl ?_
   try simp only [Tk.put]
   refine Tk.x 3 rfl ?_
   try simp only [Tk.put]
   refine Tk.t 4 (v:=.agg (X i).val.toArray) rfl (yieldsIf_load_mid (by rfl) 49 _ rfl ga (oa+i * 5) (by rfl) (X i).val _ (fun wS h=>(HR.out wS h).1) Tryz.underlying49 rfl (by kernel_rfl)) (by assumption) ?_
   try simp only [Tk.put]
   refine Tk.x 5 rfl ?_
   try simp only [Tk.put]
   refine Tk.y 6 (v:=.slice (some ⟨gb,ob,none⟩) n c') rfl ?_ ?_
   ·intro wS hSw
    obtain⟨q0,q1⟩:=HCW.out wS hSw
    first | (go_simp;done) | (go_simp;with_reducible rfl)
   try simp only [Tk.put]
   refine Tk.x 7 rfl ?_
   try simp only [Tk.put]
   refine Tk.x 8 rfl ?_
   try simp only [Tk.put]
   refine Tk.t 9 (v:=.agg (X' i).val.toArray) rfl (yieldsIf_load_mid (by rfl) 49 _ rfl gb (ob+i * 5) (by rfl) (X' i).val _ (fun wS h=>(HR.out wS h).2) Tryz.underlying49 rfl (by kernel_rfl)) (by assumption) ?_
   try simp only [Tk.put]
   refine Tk.s 10 rfl (fun Kq hK=>?_)
   go_simp
   go_at_call 55
   refine (HCL.out _ hHeld).mono ?_
   rintro e w4 ⟨rfl,hb⟩
   have hS2:=hHeld.trans (hb.mono hHeld.size)
   clear hHeld hb
   dsimp only
   refine hK.out _ _ hS2 (fun hHeld=>?_)
   clear hK Kq hS2
   try simp only [Tk.put]
   refine Tk.x 11 rfl ?_
   try simp only [Tk.put]
   refine wpAnyH_done (by kernel_rfl) ?_ _
   have HH9:=hid hHeld
   clear hHeld a0 d0
   go_wp2_with fail
   go_roundw
   case rel=>exact⟨i+1,by omega,by go_num,hid (HB.out.trans (HH9.out.mono HB.out.size))⟩
   case measure=>simp [intOf];omega
  ·obtain rfl:i=n:=by omega
   go_wp2_with fail
   go_ret
   exact⟨rfl,HBW.out⟩
end CBunM
end
end Go.Proofs.YtfgdfignoakkaaaGreatDoor
