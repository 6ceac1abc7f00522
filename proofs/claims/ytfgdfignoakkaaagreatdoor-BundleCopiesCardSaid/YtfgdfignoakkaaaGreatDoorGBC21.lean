/- -/
import Derived.Test.YtfgdfignoakkaaaGreatDoorGBC19
import Derived.Test.YtfgdfignoakkaaaGreatDoorGBC20
open Go.Lib (hid)
open Nat (le_refl lt_of_succ_lt lt_succ_self)
set_option linter.unusedVariables false
set_option linter.unusedSimpArgs false
set_option maxRecDepth 100000
set_option maxHeartbeats 16000000
namespace Go.Proofs.YtfgdfignoakkaaaGreatDoor
namespace CConv
end CConv
namespace CGraph
end CGraph
namespace CKind
end CKind
namespace CSat
end CSat
namespace CShape
end CShape
namespace CTensor
end CTensor
namespace Kit
end Kit
namespace Plain
end Plain
open Go Go.ChangeShapes Go.WideShapes Go.ChangeAt Go.RowKit Go.Deep
section
namespace CBunM
open Kit Plain CSat CShape CTensor CConv CKind CGraph CBund
def NdsOwn (w:World) (n:Nat) (p:Nat→PN) (e:Ending) (w':World):Prop :=
 ∃ A c Y,e=.returned (.slice A n c)∧n≤c∧c≤maxLen∧NdsX true w' w.heap.size w'.heap.size A n Y∧(∀ j,j < n→NdIn true w' w.heap.size w'.heap.size (Y j) (p j))∧Below w.heap.size w w'
theorem ccopyN_to (A:Option Addr) (X:Nat→Nd) (p:Nat→PN) (n c:Nat) (hn:n≤1000) {m:Bool} {lo hi:Nat} (w:World) (hw:hi≤w.heap.size) (hA:NdsX m w lo hi A n X) (hE:∀ j,j < n→NdIn m w lo hi (X j) (p j)) (hS:∀ j,j < n→(p j).ws.length≤1000∧(p j).bs.length≤1000) :
  Calls Tryz.prog 59 #[.slice A n c] w (NdsOwn w n p):=by
 have HE:=hid hE
 have HS:=hid hS
 have HA:=hid hA
 have CL:=hid (bclone_n A (flatE (fun x:Nd=>x.val.toList) X n) n c (flatE_len (s:=19) (val:=fun x:Nd=>x.val.toList) (fun _=>rfl) X n) hn (flatE_mem nd_ones X n) w hw (zab.rdx (s:=19) (val:=fun x:Nd=>x.val.toList) (fun _=>rfl) (by decide) hA).rd)
 clear hE hS hA
 go_enter Tryz.func59,Tryz.ntmps59
 go_wp2_with (first
  | (go_at_call 90
     refine CL.out.mono ?_
     rintro e w1 ⟨A1,c1,rfl,h1,h2,h3,h4⟩
     have HX1:=hid (zab.of_rdx (s:=19) (val:=fun x:Nd=>x.val.toList) (fun _=>rfl) (by decide) h3)
     have HB1:=hid h4
     have HC1:=hid (And.intro h1 h2)
     clear h1 h2 h3 h4))
 go_loopw [10] (fun u wr=>∃ i:Nat,i≤n∧u=.int .i64 i∧Hid (∃ Y,NdsX true wr w.heap.size w1.heap.size A1 n Y∧(∀ j,i≤j→j < n→Y j=X j)∧(∀ j,j < i→NdIn true wr w1.heap.size wr.heap.size (Y j) (p j)))∧Hid (Below w.heap.size w wr)∧Hid (w1.heap.size≤wr.heap.size)) (fun u _=>n - (intOf u).toNat)
 case atStart=>exact⟨0,Nat.zero_le _,rfl,hid ⟨X,HX1.out,fun j _ _=>rfl,fun j hj=>by omega⟩,HB1,hid (le_refl _)⟩
 case round =>
  obtain⟨i,hii,rfl,HY,HB,HZ⟩:=hrel
  by_cases hlt:i < n
  ·obtain⟨Y,hY1,hY2,hY3⟩:=HY.out
   obtain⟨g,o,rfl,hg1,hg2,hra,hfz⟩:=hY1 i hlt
   have hyi:=hY2 i (le_refl _) hlt
   have HNi:=hid (HE.out i hlt)
   have hsz:=HS.out i hlt
   rw [hyi] at hra
   have k0:(0:Int)≤(i:Int):=by omega
   have k1:(i:Int) < (n:Int):=by omega
   have HRA:=hid hra
   have HFZ:=hid hfz
   have HYI:=hid hyi
   have HY1:=hid hY1
   have HY2:=hid hY2
   have HY3:=hid hY3
   have HG:=hid (And.intro hg1 hg2)
   have HSI:=hid hsz
   have hi9:w.heap.size≤wr.heap.size:=HB.out.size
   have HI9:=hid hi9
   generalize hx:X i=x at HNi HRA HYI
   generalize hp:p i=pi at HNi HSI
   have HXI:=hid hx
   have HPI:=hid hp
   clear hra hfz hyi hY1 hY2 hY3 hg1 hg2 hsz hi9 hx hp HY
   have c8:∀ wx,Below wr.heap.size wr wx→Calls Tryz.prog 60 #[.slice x.WA x.nW x.cW] wx (OwnX wx x.nW (pi.ws.map (.int .i8))):=fun wx hb =>
    bclone_8 x.WA _ x.nW x.cW (by rw [List.length_map,HNi.out.lw.len,Nat.mul_one]) (by have:=HNi.out.lw.len;have:=HSI.out.1;omega) (Kit.zai .i8 _) wx (B:=hi) (by have:=hb.size;have:=HI9.out;omega) ((HNi.out.lw.rd.rd.below (HB.out.mono hw)).below (hb.mono (by have:=HI9.out;omega)))
   have c32:∀ wx,Below wr.heap.size wr wx→Calls Tryz.prog 61 #[.slice x.BA x.nB x.cB] wx (OwnX wx x.nB (pi.bs.map (.int .i32))):=fun wx hb =>
    bclone_32 x.BA _ x.nB x.cB (by rw [List.length_map,HNi.out.lb.len,Nat.mul_one]) (by have:=HNi.out.lb.len;have:=HSI.out.2;omega) (Kit.zai .i32 _) wx (B:=hi) (by have:=hb.size;have:=HI9.out;omega) ((HNi.out.lb.rd.rd.below (HB.out.mono hw)).below (hb.mono (by have:=HI9.out;omega)))
   have C8:=hid c8
   have C32:=hid c32
   clear c8 c32
   go_upto_region 5 with (first
    | (refine nd_load_mid rfl _ rfl g (o+i * 19) x rfl HRA.out ?_)
    | (refine nd_store rfl _ _ rfl wr.heap.size nd0 x rfl rfl (NdBox.new nd0 _ wr) ?_
       intro w2 hbx hbl hs2
       have HBX:=hid hbx
       have HH:=hid (show Below wr.heap.size wr w2 from ((Below.refl _ _).alloc (le_refl _) _).trans hbl)
       have HSX:=hid (show wr.heap.size+1≤w2.heap.size from by rw [hs2];simp)
       clear hbx hbl hs2))
   have bw:Hid (∀ wS,Below w2.heap.size w2 wS→wS.cell? ⟨wr.heap.size,9,none⟩=some (.slice x.WA x.nW x.cW)∧wS.cell? ⟨wr.heap.size,10,none⟩=some (.slice x.BA x.nB x.cB)):=hid (fun wS h=>by
    have hb:=HBX.out.below (by have:=HSX.out;omega) h
    exact⟨hb.1.at 9 _ rfl,hb.1.at 10 _ rfl⟩)
   refine wp_region_held_drew (S:=fun wS=>wS.cell? ⟨wr.heap.size,9,none⟩=some (.slice x.WA x.nW x.cW)∧wS.cell? ⟨wr.heap.size,10,none⟩=some (.slice x.BA x.nB x.cB)) (by kernel_rfl) (bw.out _ (Below.refl _ _).drew) (fun hHeld=>?_)
   generalize hw3:w2.drew=w3 at hHeld
   have HH3:=hid (show Below wr.heap.size wr w3 from by rw [← hw3];exact HH.out.drew)
   have BW3:Hid (Below w2.heap.size w2 w3):=hid (by rw [← hw3];exact (Below.refl _ _).drew)
   clear hw3
   refine Tk.x 0 rfl ?_
   try simp only [Tk.put]
   refine Tk.x 1 rfl ?_
   try simp only [Tk.put]
   refine Tk.x 2 rfl ?_
   try simp only [Tk.put]
   refine Tk.x 3 rfl ?_
   try simp only [Tk.put]
   refine Tk.x 4 rfl ?_
   try simp only [Tk.put]
   refine Tk.x 7 rfl ?_
   try simp only [Tk.put]
   refine Tk.y 5 (v:=.slice x.WA x.nW x.cW) rfl ?_ ?_
   ·intro wS hSw
    obtain⟨q9,q10⟩:=hSw
    first | (go_simp;done) | (go_simp;with_reducible rfl)
   try simp only [Tk.put]
   refine Tk.y 8 (v:=.slice x.BA x.nB x.cB) rfl ?_ ?_
   ·intro wS hSw
    obtain⟨q9,q10⟩:=hSw
    first | (go_simp;done) | (go_simp;with_reducible rfl)
   try simp only [Tk.put]
   refine Tk.s 6 rfl (fun Kq hK=>?_)
   go_simp
   go_at_call 60
   refine (C8.out _ HH3.out).mono ?_
   rintro e w4 ⟨A4,c4,rfl,p1,p2,p3,p4⟩
   have h34:=BW3.out.trans (p4.mono BW3.out.size)
   have hS2:=bw.out _ h34
   have HB4:=hid p4
   have HR4:=hid p3
   have HC4:=hid (And.intro p1 p2)
   have H34:=hid h34
   clear p1 p2 p3 p4 h34 hHeld
   dsimp only
   refine hK.out _ _ hS2 (fun hHeld=>?_)
   clear hK Kq hS2
   try simp only [Tk.put]
   refine Tk.s 9 rfl (fun Kq hK=>?_)
   go_simp
   go_at_call 61
   refine (C32.out _ (HH3.out.trans (HB4.out.mono HH3.out.size))).mono ?_
   rintro e w5 ⟨A5,c5,rfl,p1,p2,p3,p4⟩
   have h35:=H34.out.trans (p4.mono H34.out.size)
   have hS2:=bw.out _ h35
   have HB5:=hid p4
   have HR5:=hid p3
   have HC5:=hid (And.intro p1 p2)
   have H35:=hid h35
   clear p1 p2 p3 p4 h35 hHeld
   dsimp only
   refine hK.out _ _ hS2 (fun hHeld=>?_)
   clear hK Kq hS2
   try simp only [Tk.put]
   -- the row's own cells in this world
   have hge:w1.heap.size≤wr.heap.size:=HZ.out
   have hwr5:Below wr.heap.size wr w5:=HH3.out.trans ((HB4.out.mono HH3.out.size).trans (HB5.out.mono (HH3.out.trans (HB4.out.mono HH3.out.size)).size))
   have hY5:NdsX true w5 w.heap.size w1.heap.size (some ⟨g,o,none⟩) n Y:=HY1.out.keep (Kept.of_below hwr5 hge)
   obtain⟨g',o',e',_,_,hra5,hfz5⟩:=hY5 i hlt
   simp only [Option.some.injEq,Addr.mk.injEq] at e'
   obtain⟨rfl,rfl,_⟩:=e'
   rw [HYI.out] at hra5
   have u9:w5.cell? ⟨g,o+i * 19+9,none⟩=some (.slice x.WA x.nW x.cW):=hra5 9 _ rfl
   have z9:w5.frozen? ⟨g,o+i * 19+9,none⟩=false:=hfz5 rfl 9 (by decide)
   have u10:w5.cell? ⟨g,o+i * 19+10,none⟩=some (.slice x.BA x.nB x.cB):=hra5 10 _ rfl
   have z10:w5.frozen? ⟨g,o+i * 19+10,none⟩=false:=hfz5 rfl 10 (by decide)
   have hgl:g < w1.heap.size:=HG.out.2
   have HY5:=hid hY5
   have HWR5:=hid hwr5
   have HGE:=hid hge
   clear hra5 hfz5 hY5 hwr5 hge
   refine Tk.x 10 rfl ?_
   try simp only [Tk.put]
   refine Tk.x 11 rfl ?_
   try simp only [Tk.put]
   refine Tk.s 12 rfl (fun Kq hK=>?_)
   go_simp
   have hS6:=bw.out _ H35.out
   have hne:¬ wr.heap.size=g:=by have:=HGE.out;omega
   have hne2:¬ g=wr.heap.size:=by have:=HGE.out;omega
   have u10b:(w5.setCell ⟨g,o+i * 19+9,none⟩ (.slice A4 x.nW c4)).cell? ⟨g,o+i * 19+10,none⟩=some (.slice x.BA x.nB x.cB):=(World.cell?_setCell_other _ _ _ _ (fun hh=>by injection hh with h1 h2;omega)).trans u10
   have z10b:(w5.setCell ⟨g,o+i * 19+9,none⟩ (.slice A4 x.nW c4)).frozen? ⟨g,o+i * 19+10,none⟩=false:=(World.frozen?_setCell _ _ _ _).trans z10
   have hS7:(w5.setCell ⟨g,o+i * 19+9,none⟩ (.slice A4 x.nW c4)).cell? ⟨wr.heap.size,9,none⟩=some (.slice x.WA x.nW x.cW)∧(w5.setCell ⟨g,o+i * 19+9,none⟩ (.slice A4 x.nW c4)).cell? ⟨wr.heap.size,10,none⟩=some (.slice x.BA x.nB x.cB):=⟨(World.cell?_setCell_other _ _ _ _ (fun hh=>by injection hh with h1 h2;omega)).trans hS6.1,(World.cell?_setCell_other _ _ _ _ (fun hh=>by injection hh with h1 h2;omega)).trans hS6.2⟩
   have HW6:Hid (w5.setCell ⟨g,o+i * 19+9,none⟩ (.slice A4 x.nW c4)=w5.setCell ⟨g,o+i * 19+9,none⟩ (.slice A4 x.nW c4)):=hid rfl
   generalize hw6:w5.setCell ⟨g,o+i * 19+9,none⟩ (.slice A4 x.nW c4)=w6 at u10b z10b hS7 HW6 ⊢
   have HE6:=hid hw6
   clear hHeld hS6 u9 z9 u10 z10 hw6 HW6
   refine hK.out _ _ hS7 (fun hHeld=>?_)
   clear hK Kq hS7
   try simp only [Tk.put]
   refine Tk.x 13 rfl ?_
   try simp only [Tk.put]
   refine Tk.x 14 rfl ?_
   try simp only [Tk.put]
   refine Tk.s 15 rfl (fun Kq hK=>?_)
   go_simp
   have hS7:(w6.setCell ⟨g,o+i * 19+10,none⟩ (.slice A5 x.nB c5)).cell? ⟨wr.heap.size,9,none⟩=some (.slice x.WA x.nW x.cW)∧(w6.setCell ⟨g,o+i * 19+10,none⟩ (.slice A5 x.nB c5)).cell? ⟨wr.heap.size,10,none⟩=some (.slice x.BA x.nB x.cB):=⟨(World.cell?_setCell_other _ _ _ _ (fun hh=>by injection hh with h1 h2;omega)).trans hHeld.1,(World.cell?_setCell_other _ _ _ _ (fun hh=>by injection hh with h1 h2;omega)).trans hHeld.2⟩
   generalize hw7:w6.setCell ⟨g,o+i * 19+10,none⟩ (.slice A5 x.nB c5)=w7 at hS7 ⊢
   have HE7:=hid hw7
   clear hHeld hw7 u10b z10b
   refine hK.out _ _ hS7 (fun hHeld=>?_)
   clear hK Kq hS7 hHeld
   try simp only [Tk.put]
   refine wpAnyH_done (by kernel_rfl) ?_ _
   have hstep:(∃ Y',NdsX true w7 w.heap.size w1.heap.size (some ⟨g,o,none⟩) n Y'∧(∀ j,i+1≤j→j < n→Y' j=X j)∧(∀ j,j < i+1→NdIn true w7 w1.heap.size w7.heap.size (Y' j) (p j)))∧Below w.heap.size w w7∧w1.heap.size≤w7.heap.size:=by
    have e6:=HE6.out
    have e7:=HE7.out
    have hge:=HGE.out
    have s6:w6.heap.size=w5.heap.size:=by rw [← e6];simp [World.setCell]
    have s7:w7.heap.size=w5.heap.size:=by rw [← e7];simp [World.setCell];exact s6
    have s45:w4.heap.size≤w5.heap.size:=HB5.out.size
    have s34:w3.heap.size≤w4.heap.size:=HB4.out.size
    have swr3:wr.heap.size≤w3.heap.size:=HH3.out.size
    have n6:NdsX true w6 w.heap.size w1.heap.size (some ⟨g,o,none⟩) n (fun j=>if j=i then ndW (Y i) A4 x.nW c4 else Y j):=by
     rw [← e6]
     exact zab.set (s:=19) (val:=fun x:Nd=>x.val.toList) (fun _=>rfl) HY5.out hlt (by decide) _ _ (ndW_val _ _ _ _)
    have n7:NdsX true w7 w.heap.size w1.heap.size (some ⟨g,o,none⟩) n (fun j=>if j=i then ndB (ndW (Y i) A4 x.nW c4) A5 x.nB c5 else (if j=i then ndW (Y i) A4 x.nW c4 else Y j)):=by
     rw [← e7]
     refine zab.set (s:=19) (val:=fun x:Nd=>x.val.toList) (fun _=>rfl) n6 hlt (by decide) _ _ ?_
     try dsimp only
     rw [if_pos rfl]
     exact ndB_val _ _ _ _
    have k67:∀ {l h:Nat},w1.heap.size≤l→Kept l h w5 w7:=fun hl=>by
     rw [← e7, ← e6]
     exact (Kept.setCell _ (Or.inl (by omega))).trans (Kept.setCell _ (Or.inl (by omega)))
    refine⟨⟨_,n7,fun j h1 h2=>?_,fun j hj=>?_⟩,?_,?_⟩
    ·try dsimp only
     rw [if_neg (by omega),if_neg (by omega)]
     exact HY2.out j (by omega) h2
    ·try dsimp only
     by_cases e:j=i
     ·subst e
      rw [if_pos rfl,HYI.out,HPI.out]
      refine⟨HNi.out.like,⟨HNi.out.lw.len,HC4.out,?_⟩,⟨HNi.out.lb.len,HC5.out,?_⟩⟩
      ·exact (((HR4.out.keep (Kept.of_below HB5.out (le_refl _))).keep (k67 (by omega))).more (by omega) (by omega))
      ·exact ((HR5.out.keep (k67 (by omega))).more (by omega) (by omega))
     ·rw [if_neg e,if_neg e]
      exact (((HY3.out j (by omega)).keep (Kept.of_below HWR5.out (le_refl _))).keep (k67 (le_refl _))).more (le_refl _) (by omega)
    ·rw [← e7, ← e6]
     exact ((HB.out.trans (HWR5.out.mono HI9.out)).setCell (p:=⟨g,o+i * 19+9,none⟩) HG.out.1 _).setCell (p:=⟨g,o+i * 19+10,none⟩) HG.out.1 _
    ·omega
   obtain⟨hs1,hs2,hs3⟩:=hstep
   have HS1:=hid hs1
   have HS2:=hid hs2
   have HS3:=hid hs3
   clear hs1 hs2 hs3
   go_wp2_with fail
   go_roundw
   case rel=>exact⟨i+1,by omega,by go_num,HS1,HS2,HS3⟩
   case measure=>simp [intOf];omega
  ·obtain rfl:i=n:=by omega
   go_wp2_with fail
   go_ret
   obtain⟨Y,h1,h2,h3⟩:=HY.out
   exact⟨A1,c1,Y,rfl,HC1.out.1,HC1.out.2,h1.more (le_refl _) HZ.out,fun j hj=>(h3 j hj).more HB1.out.size (le_refl _),HB.out⟩
end CBunM
end
end Go.Proofs.YtfgdfignoakkaaaGreatDoor
