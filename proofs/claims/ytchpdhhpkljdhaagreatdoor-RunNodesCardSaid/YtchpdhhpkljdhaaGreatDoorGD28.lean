/- -/
import Derived.Test.YtchpdhhpkljdhaaGreatDoorGD25
open Go.Value renaming int→Jj
open Go.IntKind renaming i64→Jq
open Go.Lib (hid)
open Nat (le_refl lt_of_succ_lt lt_succ_self)
set_option linter.unusedVariables false
set_option linter.unusedSimpArgs false
set_option maxRecDepth 100000
set_option maxHeartbeats 16000000
namespace Go.Proofs.YtchpdhhpkljdhaaGreatDoor
namespace CConv
end CConv
namespace CSat
end CSat
open Go Go.ChangeShapes Go.WideShapes Go.ChangeAt Go.RowKit
section
namespace CDepth
open Plain CSat CShape CTensor CConv
def zbn (zs ws:List Int) (H W C top left:Int) (kk o:Nat) (Z:Int) (i j:Nat):Int :=
 if 0≤top+(i:Int)∧top+(i:Int) < H∧0≤left+(j:Int)∧left+(j:Int) < W then ws.getD ((o * kk+i) * kk+j) 0 * (zs.getD (((top+(i:Int)) * W+(left+(j:Int))) * C+(o:Int)).toNat 0 - Z) else 0
def rowD (zs ws:List Int) (H W C top left:Int) (kk o:Nat) (Z:Int) (i:Nat):Int:=psum (zbn zs ws H W C top left kk o Z i) kk
def winD (zs ws:List Int) (H W C top left:Int) (kk o:Nat) (Z:Int):Int:=psum (rowD zs ws H W C top left kk o Z) kk
theorem psum_stop {G:Nat→Int} {j n:Nat} (hj:j≤n) (h:∀ k,j≤k→k < n→G k=0):psum G n=psum G j:=by
 induction n with
 | zero => obtain rfl : j = 0 := by omega
           rfl
 | succ n ih =>
   rcases (show j=n+1∨j≤n by omega) with rfl | hle
   ·rfl
   ·simp only [psum]
    rw [ih hle (fun k h1 h2=>h k h1 Zb3),h n hle Zb3,Int.add_zero]
theorem place_le2 {a b c i j k:Nat} (hi:i < a) (hj:j < b) (hk:k < c):(i * b+j) * c+k < a * b * c:=by
 have:=place_le (d:=1) hi hj hk
 rw [Nat.mul_one,Nat.mul_one] at this
 omega
theorem placeD_zero {zs ws:List Int} {H W C top left:Int} {kk o:Nat} {Z:Int} {i j:Nat} (h:¬ (0≤top+(i:Int)∧top+(i:Int) < H∧0≤left+(j:Int)∧left+(j:Int) < W)):zbn zs ws H W C top left kk o Z i j=0:=if_neg h
theorem dwindow_to (H W C:Int) (A:Option Addr) (zs:List Int) (n c:Nat) (hn:zs.length=n) (ht:tensB H W C n=true) (hz:I8b zs) (x0 x1 x2 x8 x11 x12 x13 x14 x15 x16 x17 x18:Value) (K S P O Z:Int) (WA BA:Option Addr) (nW cW nB cB:Nat) (ws:List Int) (hws:ws.length=nW) (hwc:nW≤cW) (hwb:I8b ws)
  (d kk o:Nat) (hd:C=(d:Int)) (hk:K=(kk:Int)) (hk1:1≤kk) (hk7:kk≤7) (ho:o < d) (hnW:d * kk * kk=nW) (hn16:nW≤16384) (z1 : -128≤Z) (z2:Z≤127)
  (top left:Int) (t1 : -100≤top) (t2:top≤10000) (l1 : -100≤left) (l2:left≤10000) (w:World) (hr:Kit.Rd w w.heap.size A (I8s zs)) (hrw:Kit.Rd w w.heap.size WA (I8s ws)) (R:Int) (hR:IntKind.i32.wrap (winD zs ws H W C top left kk o Z)=R) :
  Calls Tryz.prog 83 #[.agg #[Jj Jq H,Jj Jq W,Jj Jq C,.slice A n c],.agg #[x0,x1,x2,Jj Jq K,Jj Jq S,Jj Jq P,Jj Jq O,.int .i8 Z,x8,.slice WA nW cW,.slice BA nB cB,x11,x12,x13,x14,x15,x16,x17,x18],Jj Jq top,Jj Jq left,Jj Jq (o:Int)] w fun e w'=>e=.returned (.int .i32 R)∧Below w.heap.size w w':=by
 refine Z7u ?_;intro hs hm
 obtain⟨g1,g2,g3,g4,g5,g6,g7⟩:=zac hs
 have hn2:n≤1024:=by rw [← hm] at g7;omega
 have hw1:0 < nW:=by have:=place_le2 ho (show 0 < kk by omega) (show 0 < kk by omega);omega
 have hn1:0 < n:=by
  have e:(1:Int)≤H * W * C:=by
   have h1:1 * 1≤H * W:=Int.mul_le_mul g1 g3 Zb3 Zb3
   have h2:1 * 1≤H * W * C:=Int.mul_le_mul h1 g5 Zb3 Zb3
   omega
  omega
 obtain⟨bw,ow,rfl,hbw,hcw⟩:=zax hrw (j:=0) Zb3
 obtain⟨bz,oz,rfl,hbz,hcz⟩:=zax hr (j:=0) Zb3
 have hK0:(kk:Int)≤7:=by omega
 have HT:=hid ht
 have HM:=hid hm
 have HS:=hid hs
 refine Z9n ?_;intro HN HZ HWS HWB
 have HD:=hid hd
 have HNW:=hid hnW
 have HCW:=hid hcw
 have HCZ:=hid hcz
 have HRR:=hid hR
 have HO:=hid ho
 subst hk
 clear ht hn hz hws hwb hd hnW hr hrw hR ho hs g7 hcw hcz hm
 go_enter Tryz.func83,Tryz.ntmps83
 go_wp2
 go_step3
 go_wp2
 go_step3
 go_wp2
 have TB:=hid ((zav H W C (some ⟨bz,oz,none⟩) n c 32 w).below (B':=w.heap.size+1) Zb3 ((Below.refl _ _).alloc Zb7 (.cells #[x0,x1,x2,Jj Jq (kk:Int),Jj Jq S,Jj Jq P,Jj Jq O,.int .i8 Z,x8,.slice (some ⟨bw,ow,none⟩) nW cW,.slice BA nB cB,x11,x12,x13,x14,x15,x16,x17,x18] 28)))
 have hnd:=zae.new x0 x1 x2 x8 x11 x12 x13 x14 x15 x16 x17 x18 (kk:Int) S P O Z (some ⟨bw,ow,none⟩) BA nW cW nB cB 28 (w.alloc (.cells #[Jj Jq H,Jj Jq W,Jj Jq C,.slice (some ⟨bz,oz,none⟩) n c] 32))
 rw [World.size_alloc] at hnd
 have TN:=hid hnd
 have HB0:Hid (Below w.heap.size w ((w.alloc (.cells #[Jj Jq H,Jj Jq W,Jj Jq C,.slice (some ⟨bz,oz,none⟩) n c] 32)).alloc (.cells #[x0,x1,x2,Jj Jq (kk:Int),Jj Jq S,Jj Jq P,Jj Jq O,.int .i8 Z,x8,.slice (some ⟨bw,ow,none⟩) nW cW,.slice BA nB cB,x11,x12,x13,x14,x15,x16,x17,x18] 28))):=hid (((Below.refl _ _).alloc (le_refl _) _).alloc Zb7 _)
 have zz:w.heap.size+2≤((w.alloc (.cells #[Jj Jq H,Jj Jq W,Jj Jq C,.slice (some ⟨bz,oz,none⟩) n c] 32)).alloc (.cells #[x0,x1,x2,Jj Jq (kk:Int),Jj Jq S,Jj Jq P,Jj Jq O,.int .i8 Z,x8,.slice (some ⟨bw,ow,none⟩) nW cW,.slice BA nB cB,x11,x12,x13,x14,x15,x16,x17,x18] 28)).heap.size:=by simp
 clear hnd
 generalize (w.alloc (.cells #[Jj Jq H,Jj Jq W,Jj Jq C,.slice (some ⟨bz,oz,none⟩) n c] 32)).alloc (.cells #[x0,x1,x2,Jj Jq (kk:Int),Jj Jq S,Jj Jq P,Jj Jq O,.int .i8 Z,x8,.slice (some ⟨bw,ow,none⟩) nW cW,.slice BA nB cB,x11,x12,x13,x14,x15,x16,x17,x18] 28)=Wm at TB TN HB0 zz ⊢
 go_loopw [11,18] (fun s u wr=>∃ i:Nat,i≤kk∧u=Jj Jq i∧s=.int .i32 (IntKind.i32.wrap (psum (rowD zs ws H W C top left kk o Z) i))∧Hid (BoxAt w.heap.size H W C (some ⟨bz,oz,none⟩) n c wr)∧Hid (zae (w.heap.size+1) x0 x1 x2 x8 x11 x12 x13 x14 x15 x16 x17 x18 (kk:Int) S P O Z (some ⟨bw,ow,none⟩) BA nW cW nB cB wr)∧Hid (Below w.heap.size w wr)∧w.heap.size+2≤wr.heap.size) (fun _ u _=>kk - (intOf u).toNat)
 case atStart=>exact⟨0,Nat.zero_le _,rfl,congrArg (Value.int .i32) Zbs,TB,TN,HB0,zz⟩
 case round =>
  obtain⟨i,hi,rfl,rfl,TB1,TN1,HB1,zz1⟩:=hrel
  clear TB TN HB0 zz
  have n3:=TN1.out.at 3 _ rfl
  by_cases hlt:i < kk
  ·have hiI:(i:Int) < (kk:Int):=by omega
   obtain⟨a0,ha0⟩:∃ a0,IntKind.i32.wrap (psum (rowD zs ws H W C top left kk o Z) i)=a0:=⟨_,rfl⟩
   have hst:a0=IntKind.i32.wrap (psum (rowD zs ws H W C top left kk o Z) i+psum (zbn zs ws H W C top left kk o Z i) 0):=by rw [← ha0];simp [psum]
   rw [ha0]
   clear ha0
   go_wp2_with fail
   go_loopw [11,23] (fun s u wr=>∃ j:Nat,j≤kk∧u=Jj Jq j∧s=.int .i32 (IntKind.i32.wrap (psum (rowD zs ws H W C top left kk o Z) i+psum (zbn zs ws H W C top left kk o Z i) j))∧Hid (BoxAt w.heap.size H W C (some ⟨bz,oz,none⟩) n c wr)∧Hid (zae (w.heap.size+1) x0 x1 x2 x8 x11 x12 x13 x14 x15 x16 x17 x18 (kk:Int) S P O Z (some ⟨bw,ow,none⟩) BA nW cW nB cB wr)∧Hid (Below w.heap.size w wr)∧w.heap.size+2≤wr.heap.size) (fun _ u _=>kk - (intOf u).toNat)
   case atStart=>exact⟨0,Nat.zero_le _,rfl,congrArg (Value.int .i32) hst,TB1,TN1,HB1,zz1⟩
   case round =>
    obtain⟨j,hj,rfl,rfl,TB2,TN2,HB2,zz2⟩:=hrel
    clear TB1 TN1 HB1 zz1 n3 hst
    obtain⟨tb0,tb1,tb2,tb3⟩:=TB2.out
    have n3:=TN2.out.at 3 _ rfl
    by_cases hltj:j < kk
    ·have hjI:(j:Int) < (kk:Int):=by omega
     have r6:IntKind.i64.wrap (top+(i:Int))=top+(i:Int):=IntWalk.i64_in _ Zb3
     have r7:IntKind.i64.wrap (left+(j:Int))=left+(j:Int):=IntWalk.i64_in _ Zb3
     by_cases hin:0≤top+(i:Int)∧top+(i:Int) < H∧0≤left+(j:Int)∧left+(j:Int) < W
     ·have hoC:(o:Int) < C:=by have:=HO.out;have:=HD.out;omega
      have hpd:=CPad.place_bd HS.out HM.out hin.1 hin.2.1 hin.2.2.1 hin.2.2.2 (k:=(o:Int)) Zb3 hoC
      obtain⟨p,hp⟩:∃ p:Nat,((top+(i:Int)) * W+(left+(j:Int))) * C+(o:Int)=(p:Int):=⟨_,(Int.toNat_of_nonneg hpd.2.2.2.2.2.2.1).symm⟩
      have hpn:p < n:=by omega
      have HIX:=fun w'=>index_yes H W C (top+(i:Int)) (left+(j:Int)) (o:Int) (p:Int) HS.out hin.1 hin.2.1 hin.2.2.1 hin.2.2.2 Zb3 hoC hp w'
      have HIX:=hid HIX
      have hle:=place_le2 HO.out hlt hltj
      rw [HNW.out] at hle
      have hpl:zbn zs ws H W C top left kk o Z i j=ws.getD ((o * kk+i) * kk+j) 0 * (zs.getD p 0 - Z):=by
       unfold zbn
       rw [if_pos hin,hp,Int.toNat_natCast]
      refine Z89 ?_;intro m1 m2 m3 m4
      have f2:o * kk+i≤(o * kk+i) * kk:=Nat.le_mul_of_pos_right _ Zb3
      obtain⟨P4,hP4⟩:∃ P4,(o * kk+i) * kk+j=P4:=⟨_,rfl⟩
      rw [hP4] at m4 hle hpl
      obtain⟨P3,hP3⟩:∃ P3,(o * kk+i) * kk=P3:=⟨_,rfl⟩
      rw [hP3] at m3 m4 hP4 f2
      obtain⟨P2,hP2⟩:∃ P2,o * kk+i=P2:=⟨_,rfl⟩
      rw [hP2] at m2 m3 f2
      obtain⟨P1,hP1⟩:∃ P1,o * kk=P1:=⟨_,rfl⟩
      rw [hP1] at m1 m2 hP2
      refine Z83 ?_;intro r1 r2 r3 r4
      have q0:(0:Int)≤(P4:Int):=by omega
      have q1:(P4:Int) < (nW:Int):=by omega
      have q2:(0:Int)≤(p:Int):=by omega
      have q3:(p:Int) < (n:Int):=by omega
      obtain⟨x1,x2⟩:=HZ.out p
      obtain⟨y1,y2⟩:=HWB.out P4
      obtain⟨e1,e2⟩:=term_bd x1 x2 y1 y2 z1 z2
      have hcx0:=HCZ.out p Zbe
      have hcy0:=HCW.out P4 Zbm
      have hnext:IntKind.i32.wrap (IntKind.i32.wrap (psum (rowD zs ws H W C top left kk o Z) i+psum (zbn zs ws H W C top left kk o Z i) j)+ws.getD P4 0 * (zs.getD p 0 - Z))=IntKind.i32.wrap (psum (rowD zs ws H W C top left kk o Z) i+psum (zbn zs ws H W C top left kk o Z i) (j+1)):=by
       rw [zc6]
       simp only [psum]
       rw [hpl,Int.add_assoc]
      refine Z9u ?_;intro u0 hu0
      obtain⟨u1,hu1⟩:∃ u1,IntKind.i32.wrap (psum (rowD zs ws H W C top left kk o Z) i+psum (zbn zs ws H W C top left kk o Z i) (j+1))=u1:=⟨_,rfl⟩
      have HU1:=hid hu1
      rw [hu0,hu1] at hnext
      rw [hu0]
      generalize zs.getD p 0=x at hcx0 x1 x2 e1 e2 hnext
      generalize ws.getD P4 0=y at hcy0 y1 y2 e1 e2 hnext
      have v1:IntKind.i32.wrap x=x:=IntWalk.i32_in _ Zb3
      have v2:IntKind.i32.wrap y=y:=IntWalk.i32_in _ Zb3
      have v3:IntKind.i32.wrap Z=Z:=IntWalk.i32_in _ Zb3
      have v4:IntKind.i32.wrap (x - Z)=x - Z:=IntWalk.i32_in _ Zb3
      have v5:IntKind.i32.wrap (y * (x - Z))=y * (x - Z):=IntWalk.i32_in _ Zb3
      have HX0:=hid hcx0
      have HY0:=hid hcy0
      clear hu0 hu1 hP4 hP3 hP2 hP1 hle f2 hpl hcx0 hcy0 hpd hp e1 e2
      go_wp2_with (go_at_call 130;(refine (HIX.out _).mono ?_);rintro e w1 ⟨rfl,hb⟩;(have TB3:=hid (TB2.out.below Zb3 hb));(have TN3:=hid (TN2.out.below Zb3 hb));(have HB3:=hid (HB2.out.trans (hb.mono HB2.out.size)));(have zz3:=Nat.le_trans zz2 hb.size);clear hb tb0 tb1 tb2 tb3 n3)
      obtain⟨-, -, -,s3⟩:=TB3.out
      have n3:=TN3.out.at 3 _ rfl
      have n7:=TN3.out.at 7 _ rfl
      have n9:=TN3.out.at 9 _ rfl
      have hcx:=(HB3.out.cell (p:=⟨bz,oz+p,none⟩) hbz).trans HX0.out
      have hcy:=(HB3.out.cell (p:=⟨bw,ow+P4,none⟩) hbw).trans HY0.out
      refine wp_region_held_drew (S:=fun w'=>w'.cell? ⟨w.heap.size,3,none⟩=some (.slice (some ⟨bz,oz,none⟩) n c)∧w'.cell? ⟨w.heap.size+1,3,none⟩=some (Jj Jq (kk:Int))∧w'.cell? ⟨w.heap.size+1,7,none⟩=some (.int .i8 Z)∧w'.cell? ⟨w.heap.size+1,9,none⟩=some (.slice (some ⟨bw,ow,none⟩) nW cW)∧w'.cell? ⟨bz,oz+p,none⟩=some (.int .i8 x)∧w'.cell? ⟨bw,ow+P4,none⟩=some (.int .i8 y)) Zb5 ⟨s3,n3,n7,n9,hcx,hcy⟩ (fun hHeld=>?_)
      clear s3 n3 n7 n9 hcx hcy
      refine Z8l ?_
      refine Z5y ?_
      refine Tk.x 1 rfl ?_
      refine Z5y ?_
      refine Tk.y 2 (v:=?_) rfl ?_ ?_
      rotate_left
      ·exact Z4c
      refine Z5y ?_
      refine Z94 ?_
      refine Z5y ?_
      refine Z9b ?_
      refine Z5y ?_
      refine Tk.y 5 (v:=?_) rfl ?_ ?_
      rotate_left
      ·exact Z4c
      refine Z5y ?_
      refine Z9e ?_
      refine Z5y ?_
      refine Z9w ?_
      refine Z5y ?_
      refine Z9f ?_
      refine Z5y ?_
      refine Zan ?_
      refine Z5y ?_
      refine Tk.y 10 (v:=?_) rfl ?_ ?_
      rotate_left
      ·exact Z4c
      refine Z5y ?_
      refine Za5 ?_
      refine Z5y ?_
      refine Zag ?_
      refine Z5y ?_
      refine Za6 ?_
      refine Z5y ?_
      refine Tk.x 14 rfl ?_
      refine Z5y ?_
      refine Tk.y 15 (v:=?_) rfl ?_ ?_
      rotate_left
      ·exact Z4c
      refine Z5y ?_
      refine Zak ?_
      refine Z5y ?_
      refine Tk.x 17 rfl ?_
      refine Z5y ?_
      refine Tk.y 18 (v:=?_) rfl ?_ ?_
      rotate_left
      ·exact Z4c
      refine Z5y ?_
      refine Tk.x 19 rfl ?_
      refine Z5y ?_
      refine Tk.x 20 rfl ?_
      refine Z5y ?_
      refine Tk.y 21 (v:=?_) rfl ?_ ?_
      rotate_left
      ·exact Z4c
      refine Z5y ?_
      refine Tk.x 22 rfl ?_
      refine Z5y ?_
      refine Tk.x 23 rfl ?_
      refine Z5y ?_
      refine Tk.y 24 (v:=?_) rfl ?_ ?_
      rotate_left
      ·exact Z4c
      refine Z5y ?_
      refine Tk.x 25 rfl ?_
      refine Z5y ?_
      refine Tk.x 26 rfl ?_
      refine Z5y ?_
      refine Tk.x 27 rfl ?_
      refine Z5y ?_
      refine Tk.x 28 rfl ?_
      refine Z5y ?_
      refine Tk.x 29 rfl ?_
      refine Z5y ?_
      refine Z6y ?_
      clear hHeld v1 v2 v3 v4 v5 hnext
      replace TB3:=hid (TB3.out.below (Nat.lt_of_lt_of_le Zb3 zz3) (Below.refl _ _).drew)
      replace TN3:=hid (TN3.out.below (Nat.lt_of_lt_of_le Zb3 zz3) (Below.refl _ _).drew)
      replace HB3:=hid HB3.out.drew
      replace zz3:w.heap.size+2≤w1.drew.heap.size:=zz3
      go_wp2_with fail
      go_roundw
      case rel=>exact⟨j+1,by omega,by go_num,by rw [HU1.out],TB3,TN3,HB3,zz3⟩
      case measure=>simp [intOf];omega
     ·have hno:inB H W C (top+(i:Int)) (left+(j:Int)) (o:Int)=false:=by
       cases hb:inB H W C (top+(i:Int)) (left+(j:Int)) (o:Int)
       ·rfl
       ·simp only [inB,Bool.and_eq_true,decide_eq_true_eq] at hb
        exact absurd ⟨hb.2.1,hb.2.2.1,hb.2.2.2.1,hb.2.2.2.2.1⟩ hin
      have HNO:=hid hno
      clear hno
      by_cases hl0:0≤left+(j:Int)
      ·have hrest:psum (zbn zs ws H W C top left kk o Z i) kk=psum (zbn zs ws H W C top left kk o Z i) j:=psum_stop hj (fun k h1 h2=>placeD_zero Zb3)
       have hsum:IntKind.i32.wrap (psum (rowD zs ws H W C top left kk o Z) i+psum (zbn zs ws H W C top left kk o Z i) j)=IntKind.i32.wrap (psum (rowD zs ws H W C top left kk o Z) (i+1)):=by
        simp only [psum]
        rw [← hrest]
        rfl
       refine Z9u ?_;intro u0 hu0
       rw [hu0] at hsum ⊢
       have HSUM:=hid hsum
       clear hu0 hsum hrest hin
       go_wp2_with (go_at_call 130;(refine (index_no H W C (top+(i:Int)) (left+(j:Int)) (o:Int) HNO.out _).mono ?_);rintro e w1 ⟨rfl,hb⟩;(have TB3:=hid (TB2.out.below Zb3 hb));(have TN3:=hid (TN2.out.below Zb3 hb));(have HB3:=hid (HB2.out.trans (hb.mono HB2.out.size)));(have zz3:=Nat.le_trans zz2 hb.size);clear hb tb0 tb1 tb2 tb3 n3)
       go_roundw
       case rel=>exact⟨i+1,by omega,by go_num,by rw [HSUM.out],TB3,TN3,HB3,zz3⟩
       case measure=>simp [intOf];omega
      ·have hz0:zbn zs ws H W C top left kk o Z i j=0:=placeD_zero hin
       have hsum:IntKind.i32.wrap (psum (rowD zs ws H W C top left kk o Z) i+psum (zbn zs ws H W C top left kk o Z i) j)=IntKind.i32.wrap (psum (rowD zs ws H W C top left kk o Z) i+psum (zbn zs ws H W C top left kk o Z i) (j+1)):=by
        simp only [psum]
        rw [hz0,Int.add_zero]
       refine Z9u ?_;intro u0 hu0
       rw [hu0] at hsum ⊢
       have HSUM:=hid hsum
       clear hu0 hsum hz0 hin
       go_wp2_with (go_at_call 130;(refine (index_no H W C (top+(i:Int)) (left+(j:Int)) (o:Int) HNO.out _).mono ?_);rintro e w1 ⟨rfl,hb⟩;(have TB3:=hid (TB2.out.below Zb3 hb));(have TN3:=hid (TN2.out.below Zb3 hb));(have HB3:=hid (HB2.out.trans (hb.mono HB2.out.size)));(have zz3:=Nat.le_trans zz2 hb.size);clear hb tb0 tb1 tb2 tb3 n3)
       go_roundw
       case rel=>exact⟨j+1,by omega,by go_num,by rw [HSUM.out],TB3,TN3,HB3,zz3⟩
       case measure=>simp [intOf];omega
    ·obtain rfl:j=kk:=by omega
     go_wp2_with fail
     go_roundw
     case rel=>exact⟨i+1,by omega,by go_num,congrArg (Value.int .i32) (by simp only [psum];rfl),TB2,TN2,HB2,zz2⟩
     case measure=>simp [intOf];omega
  ·obtain rfl:i=kk:=by omega
   have hfin:IntKind.i32.wrap (psum (rowD zs ws H W C top left i o Z) i)=R:=HRR.out
   rw [hfin]
   go_wp2_with fail
   first | rw [jump_ret] | rw [Exit.noGoto_ret] | (trace_state; fail "end")
   go_ret
   exact⟨rfl,HB1.out⟩
theorem placeD_bd (zs ws:List Int) (H W C top left:Int) (kk o:Nat) (Z:Int) (i j:Nat) (hz:I8b zs) (hw:I8b ws) (z1 : -128≤Z) (z2:Z≤127) :
  -32640≤zbn zs ws H W C top left kk o Z i j∧zbn zs ws H W C top left kk o Z i j≤32640:=by
 unfold zbn
 split
 ·exact term_bd (hz _).1 (hz _).2 (hw _).1 (hw _).2 z1 z2
 ·omega
theorem rowD_bd (zs ws:List Int) (H W C top left:Int) (kk o:Nat) (Z:Int) (i:Nat) (hz:I8b zs) (hw:I8b ws) (hk:kk≤7) (z1 : -128≤Z) (z2:Z≤127) :
  -228480≤rowD zs ws H W C top left kk o Z i∧rowD zs ws H W C top left kk o Z i≤228480:=by
 unfold rowD
 have:=psum_le (m:=7) (b:=32640) Zb3 (fun k _=>placeD_bd zs ws H W C top left kk o Z i k hz hw z1 z2) hk
 omega
theorem partD_bd (zs ws:List Int) (H W C top left:Int) (kk o:Nat) (Z:Int) (i j:Nat) (hz:I8b zs) (hw:I8b ws) (hk:kk≤7) (z1 : -128≤Z) (z2:Z≤127) (hi:i≤kk) (hj:j≤kk) :
  -2000000≤psum (rowD zs ws H W C top left kk o Z) i+psum (zbn zs ws H W C top left kk o Z i) j∧psum (rowD zs ws H W C top left kk o Z) i+psum (zbn zs ws H W C top left kk o Z i) j≤2000000:=by
 have h1:=psum_le (m:=7) (b:=228480) Zb3 (fun k _=>rowD_bd zs ws H W C top left kk o Z k hz hw hk z1 z2) (show i≤7 by omega)
 have h2:=psum_le (m:=7) (b:=32640) Zb3 (fun k _=>placeD_bd zs ws H W C top left kk o Z i k hz hw z1 z2) (show j≤7 by omega)
 omega
theorem drefSum_to (H W C:Int) (A:Option Addr) (zs:List Int) (n c:Nat) (hn:zs.length=n) (ht:tensB H W C n=true) (hz:I8b zs) (x0 x1 x2 x8 x11 x12 x13 x14 x15 x16 x17 x18:Value) (K S P O Z:Int) (WA BA:Option Addr) (nW cW nB cB:Nat) (ws:List Int) (hws:ws.length=nW) (hwb:I8b ws) (bs:List Int) (hbs:bs.length=nB) (hb32:∀ q, -2147483648≤bs.getD q 0∧bs.getD q 0≤2147483647)
  (d kk o:Nat) (hd:C=(d:Int)) (hk:K=(kk:Int)) (hk1:1≤kk) (hk7:kk≤7) (ho:o < d) (hoB:d=nB) (hnW:d * kk * kk=nW) (hn16:nW≤16384) (z1 : -128≤Z) (z2:Z≤127)
  (h v:Nat) (hh:h≤16) (hv:v≤16) (s1:1≤S) (s4:S≤4) (p0:0≤P) (p4:P≤4) (w:World) (hr:Kit.Rd w w.heap.size A (I8s zs)) (hrw:Kit.Rd w w.heap.size WA (I8s ws)) (hrb:Kit.Rd w w.heap.size BA (I32v bs))
  (R:Int) (hR:bs.getD o 0+winD zs ws H W C ((h:Int) * S - P) ((v:Int) * S - P) kk o Z=R) :
  Calls Tryz.prog 89 #[.agg #[Jj Jq H,Jj Jq W,Jj Jq C,.slice A n c],.agg #[x0,x1,x2,Jj Jq K,Jj Jq S,Jj Jq P,Jj Jq O,.int .i8 Z,x8,.slice WA nW cW,.slice BA nB cB,x11,x12,x13,x14,x15,x16,x17,x18],Jj Jq (h:Int),Jj Jq (v:Int),Jj Jq (o:Int)] w fun e w'=>e=.returned (Jj Jq R)∧Below w.heap.size w w':=by
 refine Z7u ?_;intro hs hm
 obtain⟨g1,g2,g3,g4,g5,g6,g7⟩:=zac hs
 have hd1:1≤d:=by omega
 have hd2:d≤1024:=by omega
 have hle:=place_le2 ho (show 0 < kk by omega) (show 0 < kk by omega)
 rw [hnW] at hle
 have hw1:0 < nW:=by omega
 obtain⟨bw,ow,rfl,hbw,hcw⟩:=zax hrw (j:=0) Zb3
 obtain⟨bb,ob,rfl,hbb,hcb⟩:=zax hrb (j:=0) Zb3
 refine Z9l ?_;intro hs0 hhs vs0 hvs b1 b2
 rw [hhs,hvs] at hR
 obtain⟨b3,b4⟩:=b1
 obtain⟨b5,b6⟩:=b2
 obtain⟨c1,c2⟩:=hb32 o
 have hcbo:w.cell? ⟨bb,ob+o,none⟩=some (.int .i32 (bs.getD o 0)):=hcb o Zb3
 generalize bs.getD o 0=bo at c1 c2 hR hcbo
 refine Z9v ?_;intro w1 w2 w3 hK0 ho0 hoB2 top htop left hleft
 rw [htop,hleft] at hR
 have HT:=hid ht
 have HM:=hid hm
 have HSH:=hid hs
 refine Z9n ?_;intro HN HZ HWS HWB
 have HD:=hid hd
 have HNW:=hid hnW
 have HR:=hid hr
 have HCW:=hid hcw
 have HRR:=hid hR
 have HO:=hid ho
 have HTP:=hid htop
 have HLF:=hid hleft
 subst hk
 clear ht hm hn hz hws hwb hd hnW hr hrw hrb hR ho hs g7 hle hcb hbs hb32 hoB htop hleft hcw
 go_enter Tryz.func89,Tryz.ntmps89
 refine Z8j ?_;intro hcb1
 go_wp2_with fail
 clear hcb1 hcbo
 refine Z76 ?_;intro TB TN HB0 zz
 generalize (w.alloc (.cells #[Jj Jq H,Jj Jq W,Jj Jq C,.slice A n c] 32)).alloc (.cells #[x0,x1,x2,Jj Jq (kk:Int),Jj Jq S,Jj Jq P,Jj Jq O,.int .i8 Z,x8,.slice (some ⟨bw,ow,none⟩) nW cW,.slice (some ⟨bb,ob,none⟩) nB cB,x11,x12,x13,x14,x15,x16,x17,x18] 28)=Wm at TB TN HB0 zz ⊢
 go_loopw [11,12] (fun s u wr=>∃ i:Nat,i≤kk∧u=Jj Jq i∧s=Jj Jq (bo+psum (rowD zs ws H W C top left kk o Z) i)∧Hid (BoxAt w.heap.size H W C A n c wr)∧Hid (zae (w.heap.size+1) x0 x1 x2 x8 x11 x12 x13 x14 x15 x16 x17 x18 (kk:Int) S P O Z (some ⟨bw,ow,none⟩) (some ⟨bb,ob,none⟩) nW cW nB cB wr)∧Hid (Below w.heap.size w wr)∧w.heap.size+2≤wr.heap.size) (fun _ u _=>kk - (intOf u).toNat)
 case atStart=>exact⟨0,Nat.zero_le _,rfl,congrArg (Value.int .i64) (by simp [psum]),TB,TN,HB0,zz⟩
 case round =>
  obtain⟨i,hi,rfl,rfl,TB1,TN1,HB1,zz1⟩:=hrel
  clear TB TN HB0 zz
  have n3:=TN1.out.at 3 _ rfl
  by_cases hlt:i < kk
  ·have hiI:(i:Int) < (kk:Int):=by omega
   have hst:bo+psum (rowD zs ws H W C top left kk o Z) i=bo+(psum (rowD zs ws H W C top left kk o Z) i+psum (zbn zs ws H W C top left kk o Z i) 0):=by simp [psum]
   generalize bo+psum (rowD zs ws H W C top left kk o Z) i=a0 at hst ⊢
   go_wp2_with fail
   go_loopw [11,13] (fun s u wr=>∃ j:Nat,j≤kk∧u=Jj Jq j∧s=Jj Jq (bo+(psum (rowD zs ws H W C top left kk o Z) i+psum (zbn zs ws H W C top left kk o Z i) j))∧Hid (BoxAt w.heap.size H W C A n c wr)∧Hid (zae (w.heap.size+1) x0 x1 x2 x8 x11 x12 x13 x14 x15 x16 x17 x18 (kk:Int) S P O Z (some ⟨bw,ow,none⟩) (some ⟨bb,ob,none⟩) nW cW nB cB wr)∧Hid (Below w.heap.size w wr)∧w.heap.size+2≤wr.heap.size) (fun _ u _=>kk - (intOf u).toNat)
   case atStart=>exact⟨0,Nat.zero_le _,rfl,congrArg (Value.int .i64) hst,TB1,TN1,HB1,zz1⟩
   case round =>
    obtain⟨j,hj,rfl,rfl,TB2,TN2,HB2,zz2⟩:=hrel
    clear TB1 TN1 HB1 zz1 n3 hst
    have n3:=TN2.out.at 3 _ rfl
    by_cases hltj:j < kk
    ·have hjI:(j:Int) < (kk:Int):=by omega
     have n4:=TN2.out.at 4 _ rfl
     have n5:=TN2.out.at 5 _ rfl
     have hpb:=partD_bd zs ws H W C top left kk o Z i j HZ.out HWB.out hk7 z1 z2 Zb3 Zb3
     have hnext:bo+(psum (rowD zs ws H W C top left kk o Z) i+psum (zbn zs ws H W C top left kk o Z i) (j+1))=bo+(psum (rowD zs ws H W C top left kk o Z) i+psum (zbn zs ws H W C top left kk o Z i) j)+zbn zs ws H W C top left kk o Z i j:=by
      simp only [psum];omega
     generalize psum (rowD zs ws H W C top left kk o Z) i+psum (zbn zs ws H W C top left kk o Z i) j=u0 at hpb hnext ⊢
     have HNX:=hid hnext
     clear hnext
     obtain⟨q1,q2⟩:=hpb
     refine Z7g ?_;intro yv hyv xv hxv e1 e2 e3 e4
     have HYV:=hid hyv
     have HXV:=hid hxv
     clear hyv hxv
     go_wp2_with fail
     go_quiet (fail)
     clear e1 e2 e3 e4 n4 n5
     by_cases hin:0≤yv∧yv < H∧0≤xv∧xv < W
     ·obtain⟨i1,i2,i3,i4⟩:=hin
      have hoC:(o:Int) < C:=by have:=HO.out;have:=HD.out;omega
      have hpd:=CPad.place_bd HSH.out HM.out i1 i2 i3 i4 (k:=(o:Int)) Zb3 hoC
      obtain⟨p,hp⟩:∃ p:Nat,(yv * W+xv) * C+(o:Int)=(p:Int):=⟨_,(Int.toNat_of_nonneg hpd.2.2.2.2.2.2.1).symm⟩
      have hle:=place_le2 HO.out hlt hltj
      rw [HNW.out] at hle
      have hpl:zbn zs ws H W C top left kk o Z i j=ws.getD ((o * kk+i) * kk+j) 0 * (zs.getD p 0 - Z):=by
       unfold zbn
       rw [HYV.out,HXV.out,if_pos ⟨i1,i2,i3,i4⟩,hp,Int.toNat_natCast]
      refine Z89 ?_;intro m1 m2 m3 m4
      have f2:o * kk+i≤(o * kk+i) * kk:=Nat.le_mul_of_pos_right _ Zb3
      obtain⟨P4,hP4⟩:∃ P4,(o * kk+i) * kk+j=P4:=⟨_,rfl⟩
      rw [hP4] at m4 hle hpl
      obtain⟨P3,hP3⟩:∃ P3,(o * kk+i) * kk=P3:=⟨_,rfl⟩
      rw [hP3] at m3 m4 hP4 f2
      obtain⟨P2,hP2⟩:∃ P2,o * kk+i=P2:=⟨_,rfl⟩
      rw [hP2] at m2 m3 f2
      obtain⟨P1,hP1⟩:∃ P1,o * kk=P1:=⟨_,rfl⟩
      rw [hP1] at m1 m2 hP2
      refine Z83 ?_;intro r1 r2 r3 r4
      have h60:(0:Int)≤(P4:Int):=by omega
      have h61:(P4:Int) < (nW:Int):=by omega
      have hwl:P4 < ws.length:=by have:=HWS.out;omega
      refine Z88 ?_;intro HBq TBq TNq zzq
      have hcy:(wr.drewN nq).cell? ⟨bw,ow+P4,none⟩=some (.int .i8 (ws.getD P4 0)):=(HBq.out.cell (p:=⟨bw,ow+P4,none⟩) hbw).trans (HCW.out P4 hwl)
      obtain⟨y1,y2⟩:=HWB.out P4
      have hxx:zs.getD ((yv * W+xv) * C+(o:Int)).toNat 0=zs.getD p 0:=by
       rw [hp];rfl
      obtain⟨xa,xb⟩:=HZ.out p
      obtain⟨t1,t2⟩:=term_bd xa xb y1 y2 z1 z2
      have hnx:bo+u0+ws.getD P4 0 * (zs.getD p 0 - Z)=bo+(psum (rowD zs ws H W C top left kk o Z) i+psum (zbn zs ws H W C top left kk o Z i) (j+1)):=by rw [HNX.out,hpl]
      obtain⟨s9,hs9⟩:∃ s9,bo+(psum (rowD zs ws H W C top left kk o Z) i+psum (zbn zs ws H W C top left kk o Z i) (j+1))=s9:=⟨_,rfl⟩
      have HS9:=hid hs9
      rw [hs9] at hnx
      generalize zs.getD p 0=x at hxx xa xb t1 t2 hnx
      generalize ws.getD P4 0=y at hcy y1 y2 t1 t2 hnx
      refine Z9m ?_;intro k1 k2 k3 k4 k5
      have k6:IntKind.i64.wrap (bo+u0+y * (x - Z))=s9:=by rw [← hnx];exact IntWalk.i64_in _ Zb3
      have HXX:=hid hxx
      obtain⟨tb0,tb1,tb2,tb3⟩:=TBq.out
      clear hP4 hP3 hP2 hP1 hpl f2 hpd hp hxx hnx hs9 t1 t2 hle TB2 TN2 HB2 zz2 n3
      generalize wr.drewN nq=Wq at HBq TBq TNq zzq hcy tb0 tb1 tb2 tb3 ⊢
      go_wp2_with fail
      refine wp_region_held_drew (S:=fun w'=>BoxAt w.heap.size H W C A n c w'∧zae (w.heap.size+1) x0 x1 x2 x8 x11 x12 x13 x14 x15 x16 x17 x18 (kk:Int) S P O Z (some ⟨bw,ow,none⟩) (some ⟨bb,ob,none⟩) nW cW nB cB w'∧w'.cell? ⟨bw,ow+P4,none⟩=some (.int .i8 y)) Zb5 ⟨TBq.out,TNq.out,hcy⟩ (fun hHeld=>?_)
      clear hcy tb0 tb1 tb2 tb3
      have TB4:Hid (BoxAt w.heap.size H W C A n c Wq.drew):=TBq
      have TN4:Hid (zae (w.heap.size+1) x0 x1 x2 x8 x11 x12 x13 x14 x15 x16 x17 x18 (kk:Int) S P O Z (some ⟨bw,ow,none⟩) (some ⟨bb,ob,none⟩) nW cW nB cB Wq.drew):=TNq
      have HB4:=hid HBq.out.drew
      have zz4:w.heap.size+2≤Wq.drew.heap.size:=zzq
      clear TBq TNq HBq zzq
      generalize Wq.drew=Wa at TB4 TN4 HB4 zz4 hHeld ⊢
      refine Z8l ?_
      refine Z5y ?_
      refine Tk.x 1 rfl ?_
      refine Z5y ?_
      refine Tk.y 2 (v:=?_) rfl ?_ ?_
      rotate_left
      ·intro wS hSw
       obtain⟨hq1,hq2,hq3⟩:=hSw
       have hn9:=hq2.at 9 _ rfl;clear hq1 hq2
       exact Z0
      refine Z5y ?_
      refine Z94 ?_
      refine Z5y ?_
      refine Z9b ?_
      refine Z5y ?_
      refine Tk.y 5 (v:=?_) rfl ?_ ?_
      rotate_left
      ·exact Z5s
      refine Z5y ?_
      refine Z9e ?_
      refine Z5y ?_
      refine Z9w ?_
      refine Z5y ?_
      refine Z9f ?_
      refine Z5y ?_
      refine Zan ?_
      refine Z5y ?_
      refine Tk.y 10 (v:=?_) rfl ?_ ?_
      rotate_left
      ·exact Z5s
      refine Z5y ?_
      refine Za5 ?_
      refine Z5y ?_
      refine Zag ?_
      refine Z5y ?_
      refine Za6 ?_
      refine Z5y ?_
      refine Tk.x 14 rfl ?_
      refine Z5y ?_
      refine Tk.y 15 (v:=?_) rfl ?_ ?_
      rotate_left
      ·exact Z4y
      refine Z5y ?_
      refine Zak ?_
      refine Z5y ?_
      refine Tk.y 17 (v:=?_) rfl ?_ ?_
      rotate_left
      ·exact Z5p
      refine Z5y ?_
      refine Tk.x 18 rfl ?_
      refine Z5y ?_
      refine Tk.x 19 rfl ?_
      refine Z5y ?_
      refine Tk.x 20 rfl ?_
      refine Z5y ?_
      refine Tk.x 23 rfl ?_
      refine Z5y ?_
      refine Tk.y 24 (v:=?_) rfl ?_ ?_
      rotate_left
      ·intro wS hSw
       obtain⟨hq1,hq2,hq3⟩:=hSw
       have hn9:=hq2.at 7 _ rfl;clear hq1 hq2
       exact Z0
      refine Z5y ?_
      refine Tk.x 25 rfl ?_
      refine Z5y ?_
      refine Tk.s 21 rfl (fun Kq hK=>?_)
      go_simp
      go_at_call 111
      refine (CPad.get_to H W C A zs n c HN.out HT.out yv xv (o:Int) i1 i2 i3 i4 Zb3 hoC x HXX.out (B:=w.heap.size) _ HB4.out.size (HR.out.below HB4.out)).mono ?_
      rintro e Wb ⟨rfl,hb1⟩
      have hS1:BoxAt w.heap.size H W C A n c _∧zae (w.heap.size+1) x0 x1 x2 x8 x11 x12 x13 x14 x15 x16 x17 x18 (kk:Int) S P O Z (some ⟨bw,ow,none⟩) (some ⟨bb,ob,none⟩) nW cW nB cB _∧_:=⟨hHeld.1.below (B':=_) Zb3 hb1,hHeld.2.1.below (B':=_) Zb3 hb1,(hb1.cell (p:=⟨bw,ow+P4,none⟩) Zbr).trans hHeld.2.2⟩
      replace TB4:=hid hS1.1
      replace TN4:=hid hS1.2.1
      replace HB4:=hid (HB4.out.trans (hb1.mono HB4.out.size))
      replace zz4:=Nat.le_trans zz4 hb1.size
      clear hb1 hHeld
      dsimp only
      refine hK.out _ _ ?_ (fun hHeld=>?_)
      ·exact hS1
      clear hK Kq
      refine Z5y ?_
      refine Tk.x 22 rfl ?_
      refine Z5y ?_
      refine Tk.x 26 rfl ?_
      refine Z5y ?_
      refine Tk.x 27 rfl ?_
      refine Z5y ?_
      refine Tk.x 28 rfl ?_
      refine Z5y ?_
      refine Tk.x 29 rfl ?_
      refine Z5y ?_
      refine Z6y ?_
      clear hHeld k1 k2 k3 k4 k5 k6
      go_wp2_with fail
      go_roundw
      case rel=>exact⟨j+1,by omega,by go_num,by rw [HS9.out],TB4,TN4,HB4,zz4⟩
      case measure=>simp [intOf];omega
     ·have hpl:zbn zs ws H W C top left kk o Z i j=0:=by
       unfold zbn
       rw [HYV.out,HXV.out,if_neg hin]
      have HPL:=hid hpl
      refine Z88 ?_;intro HBq TBq TNq zzq
      obtain⟨tb0,tb1,tb2,tb3⟩:=TBq.out
      clear hpl TB2 TN2 HB2 zz2 n3
      generalize wr.drewN nq=Wq at HBq TBq TNq zzq tb0 tb1 tb2 tb3 ⊢
      rcases (show yv < 0∨(0≤yv∧H≤yv)∨(0≤yv∧yv < H∧xv < 0)∨(0≤yv∧yv < H∧0≤xv∧W≤xv) by omega) with i1 | ⟨i1,i2⟩ | ⟨i1,i2,i3⟩ | ⟨i1,i2,i3,i4⟩
      all_goals
       clear hin
       go_wp2_with fail
       go_roundw
       case rel=>exact⟨j+1,by omega,by go_num,congrArg (Value.int .i64) (by rw [HNX.out,HPL.out,Int.add_zero]),TBq,TNq,HBq,zzq⟩
       case measure=>simp [intOf];omega
    ·obtain rfl:j=kk:=by omega
     exact Z27
  ·obtain rfl:i=kk:=by omega
   have hfin:bo+psum (rowD zs ws H W C top left i o Z) i=R:=HRR.out
   rw [hfin]
   go_wp2_with fail
   go_ret
   exact⟨rfl,HB1.out⟩
end CDepth
end
end Go.Proofs.YtchpdhhpkljdhaaGreatDoor
