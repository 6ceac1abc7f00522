/- -/
import Derived.Test.YtchpdhhpkljdhaaGreatDoorGD19
open Go.Value renaming int→Jj
open Go.IntKind renaming i64→Jq
open Go.Lib (hid)
open Nat (le_refl lt_of_succ_lt lt_succ_self)
set_option linter.unusedVariables false
set_option linter.unusedSimpArgs false
set_option maxRecDepth 100000
set_option maxHeartbeats 16000000
namespace Go.Proofs.YtchpdhhpkljdhaaGreatDoor
namespace CSat
end CSat
open Go Go.ChangeShapes Go.WideShapes Go.ChangeAt Go.RowKit
section
namespace CConv
open Plain CSat CShape CTensor
theorem psum_le {G:Nat→Int} {b:Int} {n m:Nat} (hb:0≤b) (h:∀ k,k < n → -b≤G k∧G k≤b) (hnm:n≤m) : -(b * m)≤psum G n∧psum G n≤b * m:=by
 have h1:=psum_bd h
 have h2:b * (n:Int)≤b * (m:Int):=Int.mul_le_mul_of_nonneg_left Zb3 hb
 omega
theorem placeF_bd (zs ws:List Int) (H W C top left:Int) (d kk o:Nat) (Z:Int) (i j:Nat) (hz:I8b zs) (hw:I8b ws) (hd:d≤1024) (z1 : -128≤Z) (z2:Z≤127) :
  -33423360≤zcb zs ws H W C top left d kk o Z i j∧zcb zs ws H W C top left d kk o Z i j≤33423360:=by
 unfold zcb
 split
 ·have:=psum_le (m:=1024) (b:=32640) Zb3 (G:=termF zs ws (((top+(i:Int)) * W+(left+(j:Int))) * C).toNat (((o * kk+i) * kk+j) * d) Z) (fun k _=>termF_bd (o:=((o * kk+i) * kk+j) * d) (st:=(((top+(i:Int)) * W+(left+(j:Int))) * C).toNat) (c:=k) hz hw z1 z2) hd
  omega
 ·omega
theorem rowF_bd (zs ws:List Int) (H W C top left:Int) (d kk o:Nat) (Z:Int) (i:Nat) (hz:I8b zs) (hw:I8b ws) (hd:d≤1024) (hk:kk≤7) (z1 : -128≤Z) (z2:Z≤127) :
  -233963520≤rowF zs ws H W C top left d kk o Z i∧rowF zs ws H W C top left d kk o Z i≤233963520:=by
 unfold rowF
 have:=psum_le (m:=7) (b:=33423360) Zb3 (fun k _=>placeF_bd zs ws H W C top left d kk o Z i k hz hw hd z1 z2) hk
 omega
theorem part_bd (zs ws:List Int) (H W C top left:Int) (d kk o:Nat) (Z:Int) (i j:Nat) (hz:I8b zs) (hw:I8b ws) (hd:d≤1024) (hk:kk≤7) (z1 : -128≤Z) (z2:Z≤127) (hi:i≤kk) (hj:j≤kk) :
  -1900000000≤psum (rowF zs ws H W C top left d kk o Z) i+psum (zcb zs ws H W C top left d kk o Z i) j∧psum (rowF zs ws H W C top left d kk o Z) i+psum (zcb zs ws H W C top left d kk o Z i) j≤1900000000:=by
 have h1:=psum_le (m:=7) (b:=233963520) Zb3 (fun k _=>rowF_bd zs ws H W C top left d kk o Z k hz hw hd hk z1 z2) (show i≤7 by omega)
 have h2:=psum_le (m:=7) (b:=33423360) Zb3 (fun k _=>placeF_bd zs ws H W C top left d kk o Z i k hz hw hd z1 z2) (show j≤7 by omega)
 omega
theorem terms_bd (zs ws:List Int) (st o:Nat) (Z:Int) (d k:Nat) (hz:I8b zs) (hw:I8b ws) (hd:d≤1024) (hk:k≤d) (z1 : -128≤Z) (z2:Z≤127) : -33423360≤psum (termF zs ws st o Z) k∧psum (termF zs ws st o Z) k≤33423360:=by
 have:=psum_le (m:=1024) (b:=32640) Zb3 (G:=termF zs ws st o Z) (fun c _=>termF_bd (zs:=zs) (ws:=ws) (o:=o) (st:=st) (c:=c) hz hw z1 z2) (show k≤1024 by omega)
 omega
theorem refSum_to (H W C:Int) (A:Option Addr) (zs:List Int) (n c:Nat) (hn:zs.length=n) (ht:tensB H W C n=true) (hz:I8b zs) (x0 x1 x2 x8 x11 x12 x13 x14 x15 x16 x17 x18:Value) (K S P O Z:Int) (WA BA:Option Addr) (nW cW nB cB:Nat) (ws:List Int) (hws:ws.length=nW) (hwb:I8b ws) (bs:List Int) (hbs:bs.length=nB) (hb32:∀ q, -2147483648≤bs.getD q 0∧bs.getD q 0≤2147483647)
  (d kk o oo:Nat) (hd:C=(d:Int)) (hk:K=(kk:Int)) (hk1:1≤kk) (hk7:kk≤7) (ho:o < oo) (hoB:oo=nB) (hnW:oo * kk * kk * d=nW) (hn16:nW≤16384) (z1 : -128≤Z) (z2:Z≤127)
  (h v:Nat) (hh:h≤16) (hv:v≤16) (s1:1≤S) (s4:S≤4) (p0:0≤P) (p4:P≤4) (w:World) (hr:Kit.Rd w w.heap.size A (I8s zs)) (hrw:Kit.Rd w w.heap.size WA (I8s ws)) (hrb:Kit.Rd w w.heap.size BA (I32v bs))
  (R:Int) (hR:bs.getD o 0+winF zs ws H W C ((h:Int) * S - P) ((v:Int) * S - P) d kk o Z=R) :
  Calls Tryz.prog 87 #[.agg #[Jj Jq H,Jj Jq W,Jj Jq C,.slice A n c],.agg #[x0,x1,x2,Jj Jq K,Jj Jq S,Jj Jq P,Jj Jq O,.int .i8 Z,x8,.slice WA nW cW,.slice BA nB cB,x11,x12,x13,x14,x15,x16,x17,x18],Jj Jq (h:Int),Jj Jq (v:Int),Jj Jq (o:Int)] w fun e w'=>e=.returned (Jj Jq R)∧Below w.heap.size w w':=by
 refine Z7u ?_;intro hs hm
 obtain⟨g1,g2,g3,g4,g5,g6,g7⟩:=zac hs
 have hd1:1≤d:=by omega
 have hd2:d≤1024:=by omega
 have hle:=place_le (d:=d) ho (show 0 < kk by omega) (show 0 < kk by omega)
 rw [hnW] at hle
 have hw1:0 < nW:=by omega
 obtain⟨bw,ow,rfl,hbw,hcw⟩:=zax hrw (j:=0) Zb3
 obtain⟨bb,ob,rfl,hbb,hcb⟩:=zax hrb (j:=0) Zb3
 refine Z9l ?_;intro hs0 hhs vs0 hvs b1 b2
 rw [hhs,hvs] at hR
 obtain⟨b3,b4⟩:=b1
 obtain⟨b5,b6⟩:=b2
 obtain⟨c1,c2⟩:=hb32 o
 have hcbo:w.cell? ⟨bb,ob+o,none⟩=some (.int .i32 (bs.getD o 0)):=hcb o Zb3
 generalize bs.getD o 0=bo at c1 c2 hR hcbo
 refine Z9v ?_;intro w1 w2 w3 hK0 ho0 hoB2 top htop left hleft
 rw [htop,hleft] at hR
 have HT:=hid ht
 have HM:=hid hm
 have HSH:=hid hs
 refine Z9n ?_;intro HN HZ HWS HWB
 have HD:=hid hd
 have HNW:=hid hnW
 have HR:=hid hr
 have HCW:=hid hcw
 have HRR:=hid hR
 have HO:=hid ho
 have HTP:=hid htop
 have HLF:=hid hleft
 subst hk
 clear ht hm hn hz hws hwb hd hnW hr hrw hrb hR ho hs g7 hle hcb hbs hb32 hoB htop hleft hcw
 go_enter Tryz.func87,Tryz.ntmps87
 refine Z8j ?_;intro hcb1
 go_wp2_with fail
 clear hcb1 hcbo
 refine Z76 ?_;intro TB TN HB0 zz
 generalize (w.alloc (.cells #[Jj Jq H,Jj Jq W,Jj Jq C,.slice A n c] 32)).alloc (.cells #[x0,x1,x2,Jj Jq (kk:Int),Jj Jq S,Jj Jq P,Jj Jq O,.int .i8 Z,x8,.slice (some ⟨bw,ow,none⟩) nW cW,.slice (some ⟨bb,ob,none⟩) nB cB,x11,x12,x13,x14,x15,x16,x17,x18] 28)=Wm at TB TN HB0 zz ⊢
 go_loopw [11,12] (fun s u wr=>∃ i:Nat,i≤kk∧u=Jj Jq i∧s=Jj Jq (bo+psum (rowF zs ws H W C top left d kk o Z) i)∧Hid (BoxAt w.heap.size H W C A n c wr)∧Hid (zae (w.heap.size+1) x0 x1 x2 x8 x11 x12 x13 x14 x15 x16 x17 x18 (kk:Int) S P O Z (some ⟨bw,ow,none⟩) (some ⟨bb,ob,none⟩) nW cW nB cB wr)∧Hid (Below w.heap.size w wr)∧w.heap.size+2≤wr.heap.size) (fun _ u _=>kk - (intOf u).toNat)
 case atStart=>exact⟨0,Nat.zero_le _,rfl,congrArg (Value.int .i64) (by simp [psum]),TB,TN,HB0,zz⟩
 case round =>
  obtain⟨i,hi,rfl,rfl,TB1,TN1,HB1,zz1⟩:=hrel
  clear TB TN HB0 zz
  have n3:=TN1.out.at 3 _ rfl
  by_cases hlt:i < kk
  ·have hiI:(i:Int) < (kk:Int):=by omega
   have hst:bo+psum (rowF zs ws H W C top left d kk o Z) i=bo+(psum (rowF zs ws H W C top left d kk o Z) i+psum (zcb zs ws H W C top left d kk o Z i) 0):=by simp [psum]
   generalize bo+psum (rowF zs ws H W C top left d kk o Z) i=a0 at hst ⊢
   go_wp2_with fail
   go_loopw [11,13] (fun s u wr=>∃ j:Nat,j≤kk∧u=Jj Jq j∧s=Jj Jq (bo+(psum (rowF zs ws H W C top left d kk o Z) i+psum (zcb zs ws H W C top left d kk o Z i) j))∧Hid (BoxAt w.heap.size H W C A n c wr)∧Hid (zae (w.heap.size+1) x0 x1 x2 x8 x11 x12 x13 x14 x15 x16 x17 x18 (kk:Int) S P O Z (some ⟨bw,ow,none⟩) (some ⟨bb,ob,none⟩) nW cW nB cB wr)∧Hid (Below w.heap.size w wr)∧w.heap.size+2≤wr.heap.size) (fun _ u _=>kk - (intOf u).toNat)
   case atStart=>exact⟨0,Nat.zero_le _,rfl,congrArg (Value.int .i64) hst,TB1,TN1,HB1,zz1⟩
   case round =>
    obtain⟨j,hj,rfl,rfl,TB2,TN2,HB2,zz2⟩:=hrel
    clear TB1 TN1 HB1 zz1 n3 hst
    have n3:=TN2.out.at 3 _ rfl
    by_cases hltj:j < kk
    ·have hjI:(j:Int) < (kk:Int):=by omega
     have n4:=TN2.out.at 4 _ rfl
     have n5:=TN2.out.at 5 _ rfl
     have hpb:=part_bd zs ws H W C top left d kk o Z i j HZ.out HWB.out hd2 hk7 z1 z2 Zb3 Zb3
     have hnext:bo+(psum (rowF zs ws H W C top left d kk o Z) i+psum (zcb zs ws H W C top left d kk o Z i) (j+1))=bo+(psum (rowF zs ws H W C top left d kk o Z) i+psum (zcb zs ws H W C top left d kk o Z i) j)+zcb zs ws H W C top left d kk o Z i j:=by
      simp only [psum];omega
     generalize psum (rowF zs ws H W C top left d kk o Z) i+psum (zcb zs ws H W C top left d kk o Z i) j=u0 at hpb hnext ⊢
     have HNX:=hid hnext
     clear hnext
     obtain⟨q1,q2⟩:=hpb
     refine Z7g ?_;intro yv hyv xv hxv e1 e2 e3 e4
     have HYV:=hid hyv
     have HXV:=hid hxv
     clear hyv hxv
     go_wp2_with fail
     go_quiet (fail)
     go_wp2_with fail
     clear e1 e2 e3 e4 n4 n5
     by_cases hin:0≤yv∧yv < H∧0≤xv∧xv < W
     ·obtain⟨i1,i2,i3,i4⟩:=hin
      have hst0:0≤(yv * W+xv) * C:=Int.mul_nonneg (by have:=Int.mul_nonneg i1 (show (0:Int)≤W by omega);omega) Zb3
      obtain⟨st,hst⟩:∃ st:Nat,(yv * W+xv) * C=(st:Int):=⟨((yv * W+xv) * C).toNat,(Int.toNat_of_nonneg hst0).symm⟩
      have hlast:=(CPad.place_bd HSH.out HM.out i1 i2 i3 i4 (k:=C - 1) Zb3 Zb3)
      have hsn:st+d≤n:=by have:=HD.out;omega
      have hle:=place_le (d:=d) HO.out hlt hltj
      rw [HNW.out] at hle
      obtain⟨P5,hP5⟩:∃ P5,((o * kk+i) * kk+j) * d=P5:=⟨_,rfl⟩
      have hpl:zcb zs ws H W C top left d kk o Z i j=psum (termF zs ws st P5 Z) d:=by
       unfold zcb
       rw [HYV.out,HXV.out,if_pos ⟨i1,i2,i3,i4⟩,hst,hP5,Int.toNat_natCast]
      have HPL:=hid hpl
      refine Z89 ?_;intro m1 m2 m3 m4
      have m5:(((o * kk+i) * kk+j:Nat):Int) * C=((((o * kk+i) * kk+j) * d:Nat):Int):=by rw [HD.out];simp
      have f4:(o * kk+i) * kk+j≤((o * kk+i) * kk+j) * d:=Nat.le_mul_of_pos_right _ Zb3
      have f2:o * kk+i≤(o * kk+i) * kk:=Nat.le_mul_of_pos_right _ Zb3
      rw [hP5] at hle m5 f4
      obtain⟨P4,hP4⟩:∃ P4,(o * kk+i) * kk+j=P4:=⟨_,rfl⟩
      rw [hP4] at m4 m5 f4
      obtain⟨P3,hP3⟩:∃ P3,(o * kk+i) * kk=P3:=⟨_,rfl⟩
      rw [hP3] at m3 m4 hP4 f2
      obtain⟨P2,hP2⟩:∃ P2,o * kk+i=P2:=⟨_,rfl⟩
      rw [hP2] at m2 m3 f2
      obtain⟨P1,hP1⟩:∃ P1,o * kk=P1:=⟨_,rfl⟩
      rw [hP1] at m1 m2 hP2
      refine Z83 ?_;intro r1 r2 r3 r4
      have r5:IntKind.i64.wrap (P5:Int)=(P5:Int):=IntWalk.i64_in _ Zb3
      clear hP5 hP4 hP3 hP2 hP1 hpl f4 f2 hlast hst0
      have HST:=hid hst
      clear hst
      go_loopw [11,16] (fun s u wr=>∃ k:Nat,k≤d∧u=Jj Jq k∧s=Jj Jq (bo+u0+psum (termF zs ws st P5 Z) k)∧Hid (BoxAt w.heap.size H W C A n c wr)∧Hid (zae (w.heap.size+1) x0 x1 x2 x8 x11 x12 x13 x14 x15 x16 x17 x18 (kk:Int) S P O Z (some ⟨bw,ow,none⟩) (some ⟨bb,ob,none⟩) nW cW nB cB wr)∧Hid (Below w.heap.size w wr)∧w.heap.size+2≤wr.heap.size) (fun _ u _=>d - (intOf u).toNat)
      case atStart=>exact⟨0,Nat.zero_le _,rfl,congrArg (Value.int .i64) (by simp [psum]),hid (TB2.out.below (B':=wr.heap.size) Zb3 (Kit.below_drewN (Below.refl _ _) _)),hid (TN2.out.below (B':=wr.heap.size) Zb3 (Kit.below_drewN (Below.refl _ _) _)),hid (Kit.below_drewN HB2.out _),zz2⟩
      case round =>
       obtain⟨k,hk,rfl,rfl,TB3,TN3,HB3,zz3⟩:=hrel
       clear TB2 TN2 HB2 zz2 n3
       obtain⟨tb0,tb1,tb2,tb3⟩:=TB3.out
       by_cases hltk:k < d
       ·have hkI:(k:Int) < C:=by have:=HD.out;omega
        refine Z93 ?_;intro hk0
        obtain⟨P6,hP6⟩:∃ P6,P5+k=P6:=⟨_,rfl⟩
        have m6:(P5:Int)+(k:Int)=(P6:Int):=by omega
        have r6:IntKind.i64.wrap (P6:Int)=(P6:Int):=IntWalk.i64_in _ Zb3
        have h60:(0:Int)≤(P6:Int):=by omega
        have h61:(P6:Int) < (nW:Int):=by omega
        have hwl:P6 < ws.length:=by have:=HWS.out;omega
        have hcy:wr.cell? ⟨bw,ow+P6,none⟩=some (.int .i8 (ws.getD P6 0)):=(HB3.out.cell (p:=⟨bw,ow+P6,none⟩) hbw).trans (HCW.out P6 hwl)
        obtain⟨y1,y2⟩:=HWB.out P6
        have hxx:zs.getD ((yv * W+xv) * C+(k:Int)).toNat 0=zs.getD (st+k) 0:=by
         rw [HST.out];congr 1
        obtain⟨xa,xb⟩:=HZ.out (st+k)
        obtain⟨t1,t2⟩:=term_bd xa xb y1 y2 z1 z2
        obtain⟨q3,q4⟩:=terms_bd zs ws st P5 Z d k HZ.out HWB.out hd2 hk z1 z2
        have hnx:bo+u0+psum (termF zs ws st P5 Z) (k+1)=bo+u0+psum (termF zs ws st P5 Z) k+ws.getD P6 0 * (zs.getD (st+k) 0 - Z):=by
         simp only [psum,termF];rw [hP6];omega
        generalize zs.getD (st+k) 0=x at hxx xa xb t1 t2 hnx
        generalize ws.getD P6 0=y at hcy y1 y2 t1 t2 hnx
        obtain⟨s9,hs9⟩:∃ s9,bo+u0+psum (termF zs ws st P5 Z) (k+1)=s9:=⟨_,rfl⟩
        have HS9:=hid hs9
        rw [hs9] at hnx
        generalize psum (termF zs ws st P5 Z) k=tk at q3 q4 hnx ⊢
        refine Z9m ?_;intro k1 k2 k3 k4 k5
        have k6:IntKind.i64.wrap (bo+u0+tk+y * (x - Z))=s9:=by rw [hnx];exact IntWalk.i64_in _ Zb3
        have HXX:=hid hxx
        clear hxx hnx hs9 hP6 t1 t2
        go_wp2_with fail
        refine wp_region_held_drew (S:=fun w'=>BoxAt w.heap.size H W C A n c w'∧zae (w.heap.size+1) x0 x1 x2 x8 x11 x12 x13 x14 x15 x16 x17 x18 (kk:Int) S P O Z (some ⟨bw,ow,none⟩) (some ⟨bb,ob,none⟩) nW cW nB cB w'∧w'.cell? ⟨bw,ow+P6,none⟩=some (.int .i8 y)) Zb5 ⟨TB3.out,TN3.out,hcy⟩ (fun hHeld=>?_)
        clear hcy tb0 tb1 tb2 tb3
        have TB4:Hid (BoxAt w.heap.size H W C A n c wr.drew):=TB3
        have TN4:Hid (zae (w.heap.size+1) x0 x1 x2 x8 x11 x12 x13 x14 x15 x16 x17 x18 (kk:Int) S P O Z (some ⟨bw,ow,none⟩) (some ⟨bb,ob,none⟩) nW cW nB cB wr.drew):=TN3
        have HB4:=hid HB3.out.drew
        have zz4:w.heap.size+2≤wr.drew.heap.size:=zz3
        clear TB3 TN3 HB3 zz3
        generalize wr.drew=Wa at TB4 TN4 HB4 zz4 hHeld ⊢
        refine Z8l ?_
        refine Z5y ?_
        refine Tk.x 1 rfl ?_
        refine Z5y ?_
        refine Tk.y 2 (v:=?_) rfl ?_ ?_
        rotate_left
        ·intro wS hSw
         obtain⟨hq1,hq2,hq3⟩:=hSw
         have hn9:=hq2.at 9 _ rfl;clear hq1 hq2
         exact Z0
        refine Z5y ?_
        refine Z94 ?_
        refine Z5y ?_
        refine Z9b ?_
        refine Z5y ?_
        refine Tk.y 5 (v:=?_) rfl ?_ ?_
        rotate_left
        ·exact Z5s
        refine Z5y ?_
        refine Z9e ?_
        refine Z5y ?_
        refine Z9w ?_
        refine Z5y ?_
        refine Z9f ?_
        refine Z5y ?_
        refine Zan ?_
        refine Z5y ?_
        refine Tk.y 10 (v:=?_) rfl ?_ ?_
        rotate_left
        ·exact Z5s
        refine Z5y ?_
        refine Za5 ?_
        refine Z5y ?_
        refine Zag ?_
        refine Z5y ?_
        refine Za6 ?_
        refine Z5y ?_
        refine Tk.x 14 rfl ?_
        refine Z5y ?_
        refine Tk.x 15 rfl ?_
        refine Z5y ?_
        refine Tk.y 16 (v:=?_) rfl ?_ ?_
        rotate_left
        ·exact Z5p
        refine Z5y ?_
        refine Tk.x 17 rfl ?_
        refine Z5y ?_
        refine Tk.x 18 rfl ?_
        refine Z5y ?_
        refine Tk.x 19 rfl ?_
        refine Z5y ?_
        refine Tk.x 20 rfl ?_
        refine Z5y ?_
        refine Tk.y 21 (v:=?_) rfl ?_ ?_
        rotate_left
        ·exact Z4y
        refine Z5y ?_
        refine Tk.x 22 rfl ?_
        refine Z5y ?_
        refine Tk.y 23 (v:=?_) rfl ?_ ?_
        rotate_left
        ·exact Z5p
        refine Z5y ?_
        refine Tk.x 24 rfl ?_
        refine Z5y ?_
        refine Tk.x 25 rfl ?_
        refine Z5y ?_
        refine Tk.x 26 rfl ?_
        refine Z5y ?_
        refine Tk.x 29 rfl ?_
        refine Z5y ?_
        refine Tk.y 30 (v:=?_) rfl ?_ ?_
        rotate_left
        ·intro wS hSw
         obtain⟨hq1,hq2,hq3⟩:=hSw
         have hn9:=hq2.at 7 _ rfl;clear hq1 hq2
         exact Z0
        refine Z5y ?_
        refine Tk.x 31 rfl ?_
        refine Z5y ?_
        refine Tk.s 27 rfl (fun Kq hK=>?_)
        go_simp
        go_at_call 111
        refine (CPad.get_to H W C A zs n c HN.out HT.out yv xv (k:Int) i1 i2 i3 i4 hk0 hkI x HXX.out (B:=w.heap.size) _ HB4.out.size (HR.out.below HB4.out)).mono ?_
        rintro e Wb ⟨rfl,hb1⟩
        have hS1:BoxAt w.heap.size H W C A n c _∧zae (w.heap.size+1) x0 x1 x2 x8 x11 x12 x13 x14 x15 x16 x17 x18 (kk:Int) S P O Z (some ⟨bw,ow,none⟩) (some ⟨bb,ob,none⟩) nW cW nB cB _∧_:=⟨hHeld.1.below (B':=_) Zb3 hb1,hHeld.2.1.below (B':=_) Zb3 hb1,(hb1.cell (p:=⟨bw,ow+P6,none⟩) Zbr).trans hHeld.2.2⟩
        replace TB4:=hid hS1.1
        replace TN4:=hid hS1.2.1
        replace HB4:=hid (HB4.out.trans (hb1.mono HB4.out.size))
        replace zz4:=Nat.le_trans zz4 hb1.size
        clear hb1 hHeld
        dsimp only
        refine hK.out _ _ ?_ (fun hHeld=>?_)
        ·exact hS1
        clear hK Kq
        refine Z5y ?_
        refine Tk.x 28 rfl ?_
        refine Z5y ?_
        refine Tk.x 32 rfl ?_
        refine Z5y ?_
        refine Tk.x 33 rfl ?_
        refine Z5y ?_
        refine Tk.x 34 rfl ?_
        refine Z5y ?_
        refine Tk.x 35 rfl ?_
        refine Z5y ?_
        refine Z6y ?_
        clear hHeld k1 k2 k3 k4 k5 k6
        go_wp2_with fail
        go_roundw
        case rel=>exact⟨k+1,by omega,by go_num,by rw [HS9.out],TB4,TN4,HB4,zz4⟩
        case measure=>simp [intOf];omega
       ·obtain rfl:k=d:=by omega
        have hkI:¬ (k:Int) < C:=by have:=HD.out;omega
        go_wp2_with fail
        go_roundw
        case rel=>exact⟨j+1,by omega,by go_num,congrArg (Value.int .i64) (by rw [HNX.out,HPL.out]),TB3,TN3,HB3,zz3⟩
        case measure=>simp [intOf];omega
     ·have hpl:zcb zs ws H W C top left d kk o Z i j=0:=by
       unfold zcb
       rw [HYV.out,HXV.out,if_neg hin]
      have HPL:=hid hpl
      have hC0:(0:Int) < C:=by omega
      clear hpl
      go_loopw [11,16] (fun s u wr=>u=Jj Jq 0∧s=Jj Jq (bo+u0)∧Hid (BoxAt w.heap.size H W C A n c wr)∧Hid (zae (w.heap.size+1) x0 x1 x2 x8 x11 x12 x13 x14 x15 x16 x17 x18 (kk:Int) S P O Z (some ⟨bw,ow,none⟩) (some ⟨bb,ob,none⟩) nW cW nB cB wr)∧Hid (Below w.heap.size w wr)∧w.heap.size+2≤wr.heap.size) (fun _ _ _=>0)
      case atStart=>exact⟨rfl,rfl,hid (TB2.out.below (B':=wr.heap.size) Zb3 (Kit.below_drewN (Below.refl _ _) _)),hid (TN2.out.below (B':=wr.heap.size) Zb3 (Kit.below_drewN (Below.refl _ _) _)),hid (Kit.below_drewN HB2.out _),zz2⟩
      case round =>
       obtain⟨rfl,rfl,TB3,TN3,HB3,zz3⟩:=hrel
       clear TB2 TN2 HB2 zz2 n3
       obtain⟨tb0,tb1,tb2,tb3⟩:=TB3.out
       rcases (show yv < 0∨(0≤yv∧H≤yv)∨(0≤yv∧yv < H∧xv < 0)∨(0≤yv∧yv < H∧0≤xv∧W≤xv) by omega) with i1 | ⟨i1,i2⟩ | ⟨i1,i2,i3⟩ | ⟨i1,i2,i3,i4⟩
       all_goals
        clear hin
        go_wp2_with fail
        go_roundw
        case rel=>exact⟨j+1,by omega,by go_num,congrArg (Value.int .i64) (by rw [HNX.out,HPL.out,Int.add_zero]),TB3,TN3,HB3,zz3⟩
        case measure=>simp [intOf];omega
    ·obtain rfl:j=kk:=by omega
     exact Z27
  ·obtain rfl:i=kk:=by omega
   have hfin:bo+psum (rowF zs ws H W C top left d i o Z) i=R:=HRR.out
   rw [hfin]
   go_wp2_with fail
   go_ret
   exact⟨rfl,HB1.out⟩
end CConv
end
section
namespace CPad
open Plain CSat CShape CTensor
def zdd (w0:World) (g:Nat) (U V H W C:Int) (A:Option Addr) (n c:Nat) (v:Value) (wd:World):Prop :=
 zbt g U V C wd∧BoxAt (g+1) H W C A n c wd∧zbs (g+2) wd∧(wd.cell? ⟨g+3,0,none⟩=some (Jj Jq U)∧wd.cell? ⟨g+3,1,none⟩=some (Jj Jq V)∧wd.cell? ⟨g+3,2,none⟩=some (Jj Jq C)∧wd.cell? ⟨g+3,3,none⟩=some v∧wd.frozen? ⟨g+3,3,none⟩=false) ∧
 Below g w0 wd∧g+4≤wd.heap.size
theorem zdd.below {w0:World} {g:Nat} {U V H W C:Int} {A:Option Addr} {n c:Nat} {v:Value} {wd w':World} (h:zdd w0 g U V H W C A n c v wd) (hb:Below (g+4) wd w'):zdd w0 g U V H W C A n c v w':=by
 obtain⟨h1,h0,h2,⟨h3,h4,h5,h6,h7⟩,h8,h9⟩:=h
 exact⟨h1.below Zb3 hb,h0.below Zb3 hb,h2.below Zb3 hb,⟨(hb.cell (p:=⟨g+3,0,none⟩) Zb7).trans h3,(hb.cell (p:=⟨g+3,1,none⟩) Zb7).trans h4,(hb.cell (p:=⟨g+3,2,none⟩) Zb7).trans h5,(hb.cell (p:=⟨g+3,3,none⟩) Zb7).trans h6,(hb.frozen (p:=⟨g+3,3,none⟩) Zb7).trans h7⟩,
  h8.trans (hb.mono Zb3),Nat.le_trans h9 hb.size⟩
theorem zdd.store {w0:World} {g:Nat} {U V H W C:Int} {A:Option Addr} {n c:Nat} {v:Value} {wd:World} (h:zdd w0 g U V H W C A n c v wd) (u:Value):zdd w0 g U V H W C A n c u (wd.setCell ⟨g+3,3,none⟩ u):=by
 obtain⟨⟨a1,a2,a3⟩,⟨b1,b2,b3,b4⟩,⟨⟨f1,f2,f3,f4⟩,f5,f6,f7,f8⟩,⟨h3,h4,h5,h6,h7⟩,h8,h9⟩:=h
 have k:∀ (b i:Nat),b≠g+3∨i≠3→(wd.setCell ⟨g+3,3,none⟩ u).cell? ⟨b,i,none⟩=wd.cell? ⟨b,i,none⟩:=fun b i hne=>World.cell?_setCell_other _ _ _ _ (fun e=>by injection e;omega)
 have fz:∀ (b i:Nat),(wd.setCell ⟨g+3,3,none⟩ u).frozen? ⟨b,i,none⟩=wd.frozen? ⟨b,i,none⟩:=fun b i=>World.frozen?_setCell _ _ _ _
 refine⟨⟨?_,?_,?_⟩,⟨?_,?_,?_,?_⟩,⟨⟨?_,?_,?_,?_⟩,?_,?_,?_,?_⟩,⟨?_,?_,?_,World.cell?_setCell_same _ _ _ h6,?_⟩,h8.setCell (p:=⟨g+3,3,none⟩) Zb7 _,by simpa using h9⟩
 all_goals first | (rw [k _ _ Zb3];assumption) | (rw [fz];assumption)
theorem BoxAt.newq (H W C:Int) (A:Option Addr) (n c:Nat) (T:TypeId) (w:World):BoxAt w.heap.size H W C A n c (w.alloc (.cells #[Jj Jq H,Jj Jq W,Jj Jq C,.slice A n c] T)):=BoxAt.new H W C A n c T w
theorem zdd.new (w:World) (U V H W C:Int) (A:Option Addr) (n c:Nat):zdd w w.heap.size U V H W C A n c (.slice none 0 0) ((((w.alloc (.cells #[Jj Jq U,Jj Jq V,Jj Jq C] 30)).alloc (.cells #[Jj Jq H,Jj Jq W,Jj Jq C,.slice A n c] 32)).alloc (.cells #[Jj Jq 0,Jj Jq 0,Jj Jq 0,.slice none 0 0] 32)).alloc (.cells #[Jj Jq U,Jj Jq V,Jj Jq C,.slice none 0 0] 32)):=by
 have s1:(w.alloc (.cells #[Jj Jq U,Jj Jq V,Jj Jq C] 30)).heap.size=w.heap.size+1:=by simp
 have s2:((w.alloc (.cells #[Jj Jq U,Jj Jq V,Jj Jq C] 30)).alloc (.cells #[Jj Jq H,Jj Jq W,Jj Jq C,.slice A n c] 32)).heap.size=w.heap.size+2:=by simp
 have s3:(((w.alloc (.cells #[Jj Jq U,Jj Jq V,Jj Jq C] 30)).alloc (.cells #[Jj Jq H,Jj Jq W,Jj Jq C,.slice A n c] 32)).alloc (.cells #[Jj Jq 0,Jj Jq 0,Jj Jq 0,.slice none 0 0] 32)).heap.size=w.heap.size+3:=by simp
 have b4:Below (w.heap.size+3) (((w.alloc (.cells #[Jj Jq U,Jj Jq V,Jj Jq C] 30)).alloc (.cells #[Jj Jq H,Jj Jq W,Jj Jq C,.slice A n c] 32)).alloc (.cells #[Jj Jq 0,Jj Jq 0,Jj Jq 0,.slice none 0 0] 32)) ((((w.alloc (.cells #[Jj Jq U,Jj Jq V,Jj Jq C] 30)).alloc (.cells #[Jj Jq H,Jj Jq W,Jj Jq C,.slice A n c] 32)).alloc (.cells #[Jj Jq 0,Jj Jq 0,Jj Jq 0,.slice none 0 0] 32)).alloc (.cells #[Jj Jq U,Jj Jq V,Jj Jq C,.slice none 0 0] 32)):=(Below.refl _ _).alloc Zb3 _
 have b3:Below (w.heap.size+2) ((w.alloc (.cells #[Jj Jq U,Jj Jq V,Jj Jq C] 30)).alloc (.cells #[Jj Jq H,Jj Jq W,Jj Jq C,.slice A n c] 32)) ((((w.alloc (.cells #[Jj Jq U,Jj Jq V,Jj Jq C] 30)).alloc (.cells #[Jj Jq H,Jj Jq W,Jj Jq C,.slice A n c] 32)).alloc (.cells #[Jj Jq 0,Jj Jq 0,Jj Jq 0,.slice none 0 0] 32)).alloc (.cells #[Jj Jq U,Jj Jq V,Jj Jq C,.slice none 0 0] 32)):=Below.trans ((Below.refl _ _).alloc Zb3 _) (b4.mono Zb3)
 have b2:Below (w.heap.size+1) (w.alloc (.cells #[Jj Jq U,Jj Jq V,Jj Jq C] 30)) ((((w.alloc (.cells #[Jj Jq U,Jj Jq V,Jj Jq C] 30)).alloc (.cells #[Jj Jq H,Jj Jq W,Jj Jq C,.slice A n c] 32)).alloc (.cells #[Jj Jq 0,Jj Jq 0,Jj Jq 0,.slice none 0 0] 32)).alloc (.cells #[Jj Jq U,Jj Jq V,Jj Jq C,.slice none 0 0] 32)):=Below.trans ((Below.refl _ _).alloc Zb3 _) (b3.mono Zb3)
 have h1:=(zbt.new U V C 30 w).below (lt_succ_self _) b2
 have h0:BoxAt (w.heap.size+1) H W C A n c ((((w.alloc (.cells #[Jj Jq U,Jj Jq V,Jj Jq C] 30)).alloc (.cells #[Jj Jq H,Jj Jq W,Jj Jq C,.slice A n c] 32)).alloc (.cells #[Jj Jq 0,Jj Jq 0,Jj Jq 0,.slice none 0 0] 32)).alloc (.cells #[Jj Jq U,Jj Jq V,Jj Jq C,.slice none 0 0] 32)):=by
  have:=BoxAt.newq H W C A n c 32 (w.alloc (.cells #[Jj Jq U,Jj Jq V,Jj Jq C] 30))
  rw [s1] at this
  exact this.below Zb3 b3
 have h2:=(zbs.new 32 ((w.alloc (.cells #[Jj Jq U,Jj Jq V,Jj Jq C] 30)).alloc (.cells #[Jj Jq H,Jj Jq W,Jj Jq C,.slice A n c] 32)) (w.heap.size+2) s2.symm).below Zb3 b4
 have cc:∀ j,((((w.alloc (.cells #[Jj Jq U,Jj Jq V,Jj Jq C] 30)).alloc (.cells #[Jj Jq H,Jj Jq W,Jj Jq C,.slice A n c] 32)).alloc (.cells #[Jj Jq 0,Jj Jq 0,Jj Jq 0,.slice none 0 0] 32)).alloc (.cells #[Jj Jq U,Jj Jq V,Jj Jq C,.slice none 0 0] 32)).cell? ⟨w.heap.size+3,j,none⟩=#[Jj Jq U,Jj Jq V,Jj Jq C,.slice none 0 0][j]?:=fun j=>by
  rw [← s3];exact Kit.zan _ _ _ _
 refine⟨h1,h0,h2,⟨cc 0,cc 1,cc 2,cc 3,?_⟩,((((Below.refl _ _).alloc (le_refl _) _).alloc Zb3 _).alloc Zb3 _).alloc Zb3 _,by simp⟩
 rw [← s3];exact World.frozen?_alloc_at _ _ _ _ rfl
def rowL (F:Nat→Int) (k:Nat):List Int:=(List.range k).map F
theorem zby (F:Nat→Int) (k:Nat) (x:Int) (h:F k=x):I8s (rowL F k) ++ [.int .i8 x]=I8s (rowL F (k+1)):=by
 simp [I8s,rowL,List.range_succ,h]
theorem zbx (F:Nat→Int) (k:Nat):(rowL F k).length=k:=by simp [rowL]
theorem at_lt {a b d i j k:Nat} (hi:i < a) (hj:j < b) (hk:k < d):(i * b+j) * d+k < a * b * d:=by
 exact Z23
theorem refMove_to (U V H W C:Int) (A:Option Addr) (zs:List Int) (n c:Nat) (hn:zs.length=n) (ht:tensB H W C n=true) (a b d:Nat) (hU:U=(a:Int)) (hV:V=(b:Int)) (hC:C=(d:Int)) (ha:a≤16) (hb:b≤16) (hd:d≤1024) (m:Nat) (hm:a * b * d=m) (hm2:m≤1024)
  (p q z:Int) (p1 : -20≤p) (p2:p≤20) (q1 : -20≤q) (q2:q≤20) (F:Nat→Int) (hF:∀ i j k:Nat,i < a→j < b→k < d→pixZ zs H W C ((i:Int) - p) ((j:Int) - q) (k:Int) z=F ((i * b+j) * d+k))
  {B:Nat} (w:World) (hB:B≤w.heap.size) (hr:Kit.Rd w B A (I8s zs)) :
  Calls Tryz.prog 72 #[.agg #[Jj Jq U,Jj Jq V,Jj Jq C],.agg #[Jj Jq H,Jj Jq W,Jj Jq C,.slice A n c],Jj Jq p,Jj Jq q,.int .i8 z] w (Cloned w U V C m (rowL F m)):=by
 have HN:=hid hn
 have HT:=hid ht
 have HF:=hid hF
 have HM:=hid hm
 have HR:=hid hr
 have HU:=hid hU
 have HV:=hid hV
 have HCd:=hid hC
 have hUI:U≤16:=by omega
 have hVI:V≤16:=by omega
 have hCI:C≤1024:=by omega
 clear hn ht hF hm hr hU hV hC
 obtain⟨i0,hi0,hi1,hi2,hi3⟩:=info_parts info_i8
 go_enter Tryz.func72,Tryz.ntmps72
 go_wp2_with fail
 have HW:=hid (zdd.new w U V H W C A n c)
 have HO:Hid (((((w.alloc (.cells #[Jj Jq U,Jj Jq V,Jj Jq C] 30)).alloc (.cells #[Jj Jq H,Jj Jq W,Jj Jq C,.slice A n c] 32)).alloc (.cells #[Jj Jq 0,Jj Jq 0,Jj Jq 0,.slice none 0 0] 32)).alloc (.cells #[Jj Jq U,Jj Jq V,Jj Jq C,.slice none 0 0] 32)).ownsRow (w.heap.size+4) 22 1 (.slice none 0 0) 0 (I8s (rowL F 0))):=hid ⟨by simp [I8s,rowL],.inl ⟨rfl,rfl⟩⟩
 try rw [show w.heap.size+1+1+1=w.heap.size+3 from rfl]
 try rw [show w.heap.size+1+1=w.heap.size+2 from rfl]
 generalize ((((w.alloc (.cells #[Jj Jq U,Jj Jq V,Jj Jq C] 30)).alloc (.cells #[Jj Jq H,Jj Jq W,Jj Jq C,.slice A n c] 32)).alloc (.cells #[Jj Jq 0,Jj Jq 0,Jj Jq 0,.slice none 0 0] 32)).alloc (.cells #[Jj Jq U,Jj Jq V,Jj Jq C,.slice none 0 0] 32))=Wm at HW HO ⊢
 go_loopw [12,13,14] (fun x _ _ wr=>∃ (i:Nat) (v:Value),i≤a∧x=Jj Jq i∧Hid (zdd w w.heap.size U V H W C A n c v wr)∧Hid (wr.ownsRow (w.heap.size+4) 22 1 v (i * b * d) (I8s (rowL F (i * b * d))))) (fun x _ _ _=>a - (intOf x).toNat)
 case atStart=>exact⟨0,_,Nat.zero_le _,rfl,HW,by simpa using HO⟩
 case round =>
  obtain⟨i,v0,hi,rfl,hW0,hO0⟩:=hrel
  clear HW HO
  obtain⟨⟨a1,a2,a3⟩, -, -, -, -,hz⟩:=hW0.out
  by_cases hlt:i < a
  ·have hiI:(i:Int) < U:=by have:=HU.out;omega
   go_wp2_with fail
   go_loopw [13,14] (fun x _ wr=>∃ (j:Nat) (v:Value),j≤b∧x=Jj Jq j∧Hid (zdd w w.heap.size U V H W C A n c v wr)∧Hid (wr.ownsRow (w.heap.size+4) 22 1 v ((i * b+j) * d) (I8s (rowL F ((i * b+j) * d))))) (fun x _ _=>b - (intOf x).toNat)
   case atStart=>exact⟨0,_,Nat.zero_le _,rfl,hW0,by simpa using hO0⟩
   case round =>
    obtain⟨j,v1,hj,rfl,hW1,hO1⟩:=hrel
    clear hW0 hO0 a1 a2 a3 hz
    obtain⟨⟨a1,a2,a3⟩, -, -, -, -,hz⟩:=hW1.out
    by_cases hltj:j < b
    ·have hjI:(j:Int) < V:=by have:=HV.out;omega
     obtain⟨o,ho⟩:∃ o,(i * b+j) * d=o:=⟨_,rfl⟩
     rw [ho] at hO1
     have HOO:=hid ho
     clear ho
     go_wp2_with fail
     go_loopw [14] (fun x wr=>∃ (k:Nat) (v:Value),k≤d∧x=Jj Jq k∧Hid (zdd w w.heap.size U V H W C A n c v wr)∧Hid (wr.ownsRow (w.heap.size+4) 22 1 v (o+k) (I8s (rowL F (o+k))))) (fun x _=>d - (intOf x).toNat)
     case atStart=>exact⟨0,_,Nat.zero_le _,rfl,hW1,hO1⟩
     case round =>
      obtain⟨k,v,hk,rfl,hW2,hO2⟩:=hrel
      clear hW1 hO1 a1 a2 a3 hz
      obtain⟨Av,cv,rfl, -, -, -⟩:=Kit.zaj hO2.out
      obtain⟨⟨a1,a2,a3⟩,hbx, -,⟨-, -, -,h6,h7⟩,hbw,hz⟩:=hW2.out
      by_cases hltk:k < d
      ·have hkI:(k:Int) < C:=by have:=HCd.out;omega
       refine Z93 ?_;intro hk0
       have hom:o+k < m:=by rw [← HOO.out, ← HM.out];exact at_lt hlt hltj hltk
       obtain⟨x,hx⟩:∃ x,F (o+k)=x:=⟨_,rfl⟩
       have HX:=hid (show pixZ zs H W C ((i:Int) - p) ((j:Int) - q) (k:Int) z=x by rw [← hx, ← HOO.out];exact HF.out i j k hlt hltj hltk)
       have HXX:=hid hx
       have HBW:=hid hbw
       have hiI2:(i:Int)≤16:=by omega
       have hjI2:(j:Int)≤16:=by omega
       clear hx hbw
       go_wp2_with fail
       refine wp_region_held_drew (S:=BoxAt (w.heap.size+1) H W C A n c) Zb5 hbx (fun hHeld=>?_)
       clear hbx
       replace HBW:=hid HBW.out.drew
       have h6:wr.drew.cell? ⟨w.heap.size+3,3,none⟩=some (.slice Av (o+k) cv):=h6
       have h7:wr.drew.frozen? ⟨w.heap.size+3,3,none⟩=false:=h7
       have HW2:Hid (zdd w w.heap.size U V H W C A n c (.slice Av (o+k) cv) wr.drew):=hid (hW2.out.below (Below.refl _ _).drew)
       have HO2:Hid (wr.drew.ownsRow (w.heap.size+4) 22 1 (.slice Av (o+k) cv) (o+k) (I8s (rowL F (o+k)))):=hid (Kit.own_below hO2.out (Below.refl _ _).drew)
       have hz:w.heap.size+4≤wr.drew.heap.size:=hz
       clear hW2 hO2 a1 a2 a3
       generalize wr.drew=Wa at HBW h6 h7 HW2 HO2 hz hHeld ⊢
       have hwi:IntKind.i64.wrap ((i:Int) - p)=(i:Int) - p:=IntWalk.i64_in _ Zb3
       have hwj:IntKind.i64.wrap ((j:Int) - q)=(j:Int) - q:=IntWalk.i64_in _ Zb3
       refine Z8l ?_
       refine Z5y ?_
       refine Tk.y 2 (v:=?_) rfl ?_ ?_
       rotate_left
       ·exact Z3d
       refine Z5y ?_
       refine Z94 ?_
       refine Z5y ?_
       refine Z9b ?_
       refine Z5y ?_
       refine Za1 ?_
       refine Z5y ?_
       refine Z9e ?_
       refine Z5y ?_
       refine Z9w ?_
       refine Z5y ?_
       refine Z9f ?_
       refine Z5y ?_
       refine Zan ?_
       refine Z5y ?_
       refine Z9o ?_
       refine Z5y ?_
       refine wpAnyH_ready (rs:=[1,11]) Zb5 Zb7 ?_
       refine Tk.c rfl (fun K hK=>?_) ?_
       ·go_simp
        refine hK.out _ _ ?_ (fun hHeld=>?_)
        ·exact hHeld
        clear hK K
        refine Z5y ?_
        refine Tk.s 11 rfl (fun K hK=>?_)
        go_simp
        go_at_call 116
        refine (pix_to H W C A zs n c HN.out HT.out ((i:Int) - p) ((j:Int) - q) (k:Int) z hk0 hkI x HX.out (B:=B) _ Zb3 ((HR.out.below (HBW.out.mono hB)))).mono ?_
        rintro e Wb1 ⟨rfl,hb1⟩
        have hS1:=hHeld.below (B':=_) Zb3 hb1
        replace HBW:=hid (HBW.out.trans (hb1.mono Zb3))
        replace HW2:=hid (HW2.out.below (hb1.mono hz))
        replace HO2:=hid (Kit.own_below HO2.out hb1)
        replace hz:=Nat.le_trans hz hb1.size
        clear hb1 hHeld h6 h7
        obtain⟨-, -, -,⟨-, -, -,h6,h7⟩, -, -⟩:=HW2.out
        dsimp only
        refine hK.out _ _ ?_ (fun hHeld=>?_)
        ·exact hS1
        clear hK K
        refine Z5y ?_
        refine Tk.s 12 rfl (fun K hK=>?_)
        go_simp
        refine hK.out _ _ ?_ (fun hHeld=>?_)
        ·exact hHeld.below (B':=Wb1.heap.size) Zb3 ((Below.refl _ _).alloc (le_refl _) _)
        clear hK K
        refine Z5y ?_
        refine Z97 ?_;try clear HBW HW2 HO2;intro HBW HW2 HO2
        have HXR:=hid (Kit.Rd.new Wb1 [.int .i8 x] 22 (lt_succ_self _))
        clear h6 h7
        have hgx:w.heap.size+4≤Wb1.heap.size:=hz
        replace hz:w.heap.size+4≤(Wb1.alloc (.cells #[.int .i8 x] 22)).heap.size:=by simp;omega
        obtain⟨-, -, -,⟨-, -, -,h6,h7⟩, -, -⟩:=HW2.out
        generalize Wb1.alloc (.cells #[.int .i8 x] 22)=Wc2 at HBW HW2 HO2 HXR hz h6 h7 hHeld ⊢
        exact Z3t
       refine Tk.c rfl (fun K hK=>?_) ?_
       ·go_simp
        go_at_call 116
        refine (pix_to H W C A zs n c HN.out HT.out ((i:Int) - p) ((j:Int) - q) (k:Int) z hk0 hkI x HX.out (B:=B) _ Zb3 ((HR.out.below (HBW.out.mono hB)))).mono ?_
        rintro e Wb0 ⟨rfl,hb1⟩
        have hS1:=hHeld.below (B':=_) Zb3 hb1
        replace HBW:=hid (HBW.out.trans (hb1.mono Zb3))
        replace HW2:=hid (HW2.out.below (hb1.mono hz))
        replace HO2:=hid (Kit.own_below HO2.out hb1)
        replace hz:=Nat.le_trans hz hb1.size
        clear hb1 hHeld h6 h7
        obtain⟨-, -, -,⟨-, -, -,h6,h7⟩, -, -⟩:=HW2.out
        dsimp only
        refine hK.out _ _ ?_ (fun hHeld=>?_)
        ·exact hS1
        clear hK K
        refine Z5y ?_
        refine wpAnyH_ready (rs:=[1,12]) Zb5 Zb7 ?_
        refine Tk.c rfl (fun K hK=>?_) ?_
        ·go_simp
         refine hK.out _ _ ?_ (fun hHeld=>?_)
         ·exact hHeld
         clear hK K
         refine Z5y ?_
         refine Tk.s 12 rfl (fun K hK=>?_)
         go_simp
         refine hK.out _ _ ?_ (fun hHeld=>?_)
         ·exact hHeld.below (B':=Wb0.heap.size) Zb3 ((Below.refl _ _).alloc (le_refl _) _)
         clear hK K
         refine Z5y ?_
         refine Z97 ?_;try clear HBW HW2 HO2;intro HBW HW2 HO2
         have HXR:=hid (Kit.Rd.new Wb0 [.int .i8 x] 22 (lt_succ_self _))
         clear h6 h7
         have hgx:w.heap.size+4≤Wb0.heap.size:=hz
         replace hz:w.heap.size+4≤(Wb0.alloc (.cells #[.int .i8 x] 22)).heap.size:=by simp;omega
         obtain⟨-, -, -,⟨-, -, -,h6,h7⟩, -, -⟩:=HW2.out
         generalize Wb0.alloc (.cells #[.int .i8 x] 22)=Wc2 at HBW HW2 HO2 HXR hz h6 h7 hHeld ⊢
         exact Z3t
        refine Tk.c rfl (fun K hK=>?_) ?_
        ·go_simp
         refine hK.out _ _ ?_ (fun hHeld=>?_)
         ·exact hHeld.below (B':=Wb0.heap.size) Zb3 ((Below.refl _ _).alloc (le_refl _) _)
         clear hK K
         refine Z5y ?_
         refine Z97 ?_;try clear HBW HW2 HO2;intro HBW HW2 HO2
         have HXR:=hid (Kit.Rd.new Wb0 [.int .i8 x] 22 (lt_succ_self _))
         clear h6 h7
         have hgx:w.heap.size+4≤Wb0.heap.size:=hz
         replace hz:w.heap.size+4≤(Wb0.alloc (.cells #[.int .i8 x] 22)).heap.size:=by simp;omega
         obtain⟨-, -, -,⟨-, -, -,h6,h7⟩, -, -⟩:=HW2.out
         generalize Wb0.alloc (.cells #[.int .i8 x] 22)=Wc1 at HBW HW2 HO2 HXR hz h6 h7 hHeld ⊢
         refine Tk.s 1 rfl (fun K hK=>?_)
         go_simp
         refine hK.out _ _ ?_ (fun hHeld=>?_)
         ·exact hHeld
         clear hK K
         refine Z5y ?_
         refine Tk.s 13 rfl (fun K hK=>?_)
         refine Kit.zar _ rfl (.tmp 36) (.tmp 47) _ rfl (w.heap.size+4) 22 i0 (.int .i8 0) 1 1 Tryz.underlying23 hi0 hi1 hi2 hi3 rfl Zbc _ (o+k) (I8s (rowL F (o+k))) rfl HO2.out _ _ 1 1 [.int .i8 x] rfl rfl HXR.out (Kit.za5 .i8 [x]) (by unfold maxLen;omega) Zb3 Zb3 ?_
         intro v5 w5 hown5 hg5 _
         obtain⟨A5,c5,rfl, -, -, -⟩:=Kit.zaj hown5
         have hb5:Below (w.heap.size+4) Wc1 w5:=(Below.refl _ _).grown hg5 hz (Kit.zaq HO2.out)
         exact Zs
        exact AllReadyH.nil
       exact AllReadyH.nil
      ·obtain rfl:k=d:=by omega
       have hkI:¬ (k:Int) < C:=by have:=HCd.out;omega
       refine Z9t ?_;intro e
       have hO3:Hid (wr.ownsRow (w.heap.size+4) 22 1 (.slice Av (o+k) cv) ((i * b+(j+1)) * k) (I8s (rowL F ((i * b+(j+1)) * k)))):=by rw [e];exact hO2
       go_wp2_with fail
       go_roundw
       case rel=>exact⟨j+1,_,by omega,by go_num,hW2,hO3⟩
       case measure=>simp [intOf];omega
    ·obtain rfl:j=b:=by omega
     have hjI:¬ (j:Int) < V:=by have:=HV.out;omega
     have e:(i+1) * j * d=(i * j+j) * d:=by rw [Nat.add_mul i 1,Nat.one_mul]
     rw [← e] at hO1
     go_wp2_with fail
     go_roundw
     case rel=>exact⟨i+1,_,by omega,by go_num,hW1,hO1⟩
     case measure=>simp [intOf];omega
  ·obtain rfl:i=a:=by omega
   have hiI:¬ (i:Int) < U:=by have:=HU.out;omega
   rw [HM.out] at hO0
   obtain⟨Av,cv,rfl, -, -, -⟩:=Kit.zaj hO0.out
   clear a1 a2 a3
   obtain⟨⟨a1,a2,a3⟩, -,⟨⟨z0,z1,z2,z3⟩,z4,z5,z6,z7⟩,⟨h3,h4,h5,h6,h7⟩,hbw, -⟩:=hW0.out
   have HBW:=hid hbw
   clear hbw
   go_wp2_with fail
   refine bodyPost_ret (Kit.zbi rfl _ _ (w.heap.size+2) 0 [Jj Jq U,Jj Jq V,Jj Jq C,.slice Av m cv] _ rfl (zao Zb6 Zb6 Zb6 Zb6) Tryz.underlying32 rfl Zb5) rfl ?_
   refine⟨_,rfl,Kit.zah (zat (zat (zat (zat hO0.out _ _ ?_) _ _ ?_) _ _ ?_) _ _ ?_) ?_,?_⟩
   any_goals (first | omega | (simp;done) | (simp;omega))
   exact (((HBW.out.setCell (p:=⟨w.heap.size+2,0,none⟩) Zb7 _).setCell (p:=⟨w.heap.size+2,1,none⟩) Zb7 _).setCell (p:=⟨w.heap.size+2,2,none⟩) Zb7 _).setCell (p:=⟨w.heap.size+2,3,none⟩) Zb7 _
end CPad
end
end Go.Proofs.YtchpdhhpkljdhaaGreatDoor
