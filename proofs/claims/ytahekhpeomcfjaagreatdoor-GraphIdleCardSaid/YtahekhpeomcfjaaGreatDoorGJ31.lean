/- -/
import Derived.Test.YtahekhpeomcfjaaGreatDoorGJ30
open Go.Lib (hid)
open Nat (le_refl lt_of_succ_lt lt_succ_self)
set_option linter.unusedVariables false
set_option linter.unusedSimpArgs false
set_option maxRecDepth 100000
set_option maxHeartbeats 16000000
namespace Go.Proofs.YtahekhpeomcfjaaGreatDoor
namespace CConv
end CConv
namespace CSat
end CSat
namespace CShape
end CShape
namespace CTensor
end CTensor
open Go Go.ChangeShapes Go.WideShapes Go.ChangeAt Go.RowKit
section
namespace CDepth
open Plain CSat CShape CTensor CConv
def zb7 (zs ws:List Int) (H W C top left:Int) (kk o:Nat) (Z:Int) (i j:Nat):Int :=
 if 0≤top+(i:Int)∧top+(i:Int) < H∧0≤left+(j:Int)∧left+(j:Int) < W then ws.getD ((o * kk+i) * kk+j) 0 * (zs.getD (((top+(i:Int)) * W+(left+(j:Int))) * C+(o:Int)).toNat 0 - Z) else 0
def rowD (zs ws:List Int) (H W C top left:Int) (kk o:Nat) (Z:Int) (i:Nat):Int:=psum (zb7 zs ws H W C top left kk o Z i) kk
def winD (zs ws:List Int) (H W C top left:Int) (kk o:Nat) (Z:Int):Int:=psum (rowD zs ws H W C top left kk o Z) kk
theorem psum_stop {G:Nat→Int} {j n:Nat} (hj:j≤n) (h:∀ k,j≤k→k < n→G k=0):psum G n=psum G j:=by
 induction n with
 | zero => obtain rfl : j = 0 := by omega
           rfl
 | succ n ih =>
   rcases (show j=n+1∨j≤n by omega) with rfl | hle
   ·rfl
   ·simp only [psum]
    rw [ih hle (fun k h1 h2=>h k h1 (by omega)),h n hle (by omega),Int.add_zero]
theorem place_le2 {a b c i j k:Nat} (hi:i < a) (hj:j < b) (hk:k < c):(i * b+j) * c+k < a * b * c:=by
 have:=place_le (d:=1) hi hj hk
 rw [Nat.mul_one,Nat.mul_one] at this
 omega
theorem placeD_zero {zs ws:List Int} {H W C top left:Int} {kk o:Nat} {Z:Int} {i j:Nat} (h:¬ (0≤top+(i:Int)∧top+(i:Int) < H∧0≤left+(j:Int)∧left+(j:Int) < W)):zb7 zs ws H W C top left kk o Z i j=0:=if_neg h
theorem dwindow_to (H W C:Int) (A:Option Addr) (zs:List Int) (n c:Nat) (hn:zs.length=n) (ht:tensB H W C n=true) (hz:I8b zs) (x0 x1 x2 x8 x11 x12 x13 x14 x15 x16 x17 x18:Value) (K S P O Z:Int) (WA BA:Option Addr) (nW cW nB cB:Nat) (ws:List Int) (hws:ws.length=nW) (hwc:nW≤cW) (hwb:I8b ws)
  (d kk o:Nat) (hd:C=(d:Int)) (hk:K=(kk:Int)) (hk1:1≤kk) (hk7:kk≤7) (ho:o < d) (hnW:d * kk * kk=nW) (hn16:nW≤16384) (z1 : -128≤Z) (z2:Z≤127)
  (top left:Int) (t1 : -100≤top) (t2:top≤10000) (l1 : -100≤left) (l2:left≤10000) (w:World) (hr:Kit.Rd w w.heap.size A (I8s zs)) (hrw:Kit.Rd w w.heap.size WA (I8s ws)) (R:Int) (hR:IntKind.i32.wrap (winD zs ws H W C top left kk o Z)=R) :
  Calls Tryz.prog 145 #[.agg #[.int .i64 H,.int .i64 W,.int .i64 C,.slice A n c],.agg #[x0,x1,x2,.int .i64 K,.int .i64 S,.int .i64 P,.int .i64 O,.int .i8 Z,x8,.slice WA nW cW,.slice BA nB cB,x11,x12,x13,x14,x15,x16,x17,x18],.int .i64 top,.int .i64 left,.int .i64 (o:Int)] w fun e w'=>e=.returned (.int .i32 R)∧Below w.heap.size w w':=by
 have hs:zad H W C=true:=by simp only [tensB,Bool.and_eq_true] at ht;exact ht.1
 have hm:(n:Int)=H * W * C:=by simp only [tensB,Bool.and_eq_true,decide_eq_true_eq] at ht;exact ht.2
 obtain⟨g1,g2,g3,g4,g5,g6,g7⟩:=zab hs
 have hn2:n≤1024:=by rw [← hm] at g7;omega
 have hw1:0 < nW:=by have:=place_le2 ho (show 0 < kk by omega) (show 0 < kk by omega);omega
 have hn1:0 < n:=by
  have e:(1:Int)≤H * W * C:=by
   have h1:1 * 1≤H * W:=Int.mul_le_mul g1 g3 (by omega) (by omega)
   have h2:1 * 1≤H * W * C:=Int.mul_le_mul h1 g5 (by omega) (by omega)
   omega
  omega
 obtain⟨bw,ow,rfl,hbw,hcw⟩:=zav hrw (j:=0) (by omega)
 obtain⟨bz,oz,rfl,hbz,hcz⟩:=zav hr (j:=0) (by omega)
 have hK0:(kk:Int)≤7:=by omega
 have HT:=hid ht
 have HM:=hid hm
 have HS:=hid hs
 have HN:=hid hn
 have HZ:=hid hz
 have HWS:=hid hws
 have HWB:=hid hwb
 have HD:=hid hd
 have HNW:=hid hnW
 have HCW:=hid hcw
 have HCZ:=hid hcz
 have HRR:=hid hR
 have HO:=hid ho
 subst hk
 clear ht hn hz hws hwb hd hnW hr hrw hR ho hs g7 hcw hcz hm
 go_enter Tryz.func145,Tryz.ntmps145
 go_wp2
 go_step3
 go_wp2
 go_step3
 go_wp2
 have TB:=hid ((zbd H W C (some ⟨bz,oz,none⟩) n c 27 w).below (B':=w.heap.size+1) (by omega) ((Below.refl _ _).alloc (by simp) (.cells #[x0,x1,x2,.int .i64 (kk:Int),.int .i64 S,.int .i64 P,.int .i64 O,.int .i8 Z,x8,.slice (some ⟨bw,ow,none⟩) nW cW,.slice BA nB cB,x11,x12,x13,x14,x15,x16,x17,x18] 44)))
 have hnd:=zai.new x0 x1 x2 x8 x11 x12 x13 x14 x15 x16 x17 x18 (kk:Int) S P O Z (some ⟨bw,ow,none⟩) BA nW cW nB cB 44 (w.alloc (.cells #[.int .i64 H,.int .i64 W,.int .i64 C,.slice (some ⟨bz,oz,none⟩) n c] 27))
 rw [World.size_alloc] at hnd
 have TN:=hid hnd
 have HB0:Hid (Below w.heap.size w ((w.alloc (.cells #[.int .i64 H,.int .i64 W,.int .i64 C,.slice (some ⟨bz,oz,none⟩) n c] 27)).alloc (.cells #[x0,x1,x2,.int .i64 (kk:Int),.int .i64 S,.int .i64 P,.int .i64 O,.int .i8 Z,x8,.slice (some ⟨bw,ow,none⟩) nW cW,.slice BA nB cB,x11,x12,x13,x14,x15,x16,x17,x18] 44))):=hid (((Below.refl _ _).alloc (le_refl _) _).alloc (by simp) _)
 have zz:w.heap.size+2≤((w.alloc (.cells #[.int .i64 H,.int .i64 W,.int .i64 C,.slice (some ⟨bz,oz,none⟩) n c] 27)).alloc (.cells #[x0,x1,x2,.int .i64 (kk:Int),.int .i64 S,.int .i64 P,.int .i64 O,.int .i8 Z,x8,.slice (some ⟨bw,ow,none⟩) nW cW,.slice BA nB cB,x11,x12,x13,x14,x15,x16,x17,x18] 44)).heap.size:=by simp
 clear hnd
 generalize (w.alloc (.cells #[.int .i64 H,.int .i64 W,.int .i64 C,.slice (some ⟨bz,oz,none⟩) n c] 27)).alloc (.cells #[x0,x1,x2,.int .i64 (kk:Int),.int .i64 S,.int .i64 P,.int .i64 O,.int .i8 Z,x8,.slice (some ⟨bw,ow,none⟩) nW cW,.slice BA nB cB,x11,x12,x13,x14,x15,x16,x17,x18] 44)=Wm at TB TN HB0 zz ⊢
 go_loopw [11,18] (fun s u wr=>∃ i:Nat,i≤kk∧u=.int .i64 i∧s=.int .i32 (IntKind.i32.wrap (psum (rowD zs ws H W C top left kk o Z) i))∧Hid (BoxAt w.heap.size H W C (some ⟨bz,oz,none⟩) n c wr)∧Hid (zai (w.heap.size+1) x0 x1 x2 x8 x11 x12 x13 x14 x15 x16 x17 x18 (kk:Int) S P O Z (some ⟨bw,ow,none⟩) BA nW cW nB cB wr)∧Hid (Below w.heap.size w wr)∧w.heap.size+2≤wr.heap.size) (fun _ u _=>kk - (intOf u).toNat)
 case atStart=>exact⟨0,Nat.zero_le _,rfl,congrArg (Value.int .i32) (by simp [psum,IntKind.wrap_i32]),TB,TN,HB0,zz⟩
 case round =>
  obtain⟨i,hi,rfl,rfl,TB1,TN1,HB1,zz1⟩:=hrel
  clear TB TN HB0 zz
  have n3:=TN1.out.at 3 _ rfl
  by_cases hlt:i < kk
  ·have hiI:(i:Int) < (kk:Int):=by omega
   obtain⟨a0,ha0⟩:∃ a0,IntKind.i32.wrap (psum (rowD zs ws H W C top left kk o Z) i)=a0:=⟨_,rfl⟩
   have hst:a0=IntKind.i32.wrap (psum (rowD zs ws H W C top left kk o Z) i+psum (zb7 zs ws H W C top left kk o Z i) 0):=by rw [← ha0];simp [psum]
   rw [ha0]
   clear ha0
   go_wp2_with fail
   go_loopw [11,23] (fun s u wr=>∃ j:Nat,j≤kk∧u=.int .i64 j∧s=.int .i32 (IntKind.i32.wrap (psum (rowD zs ws H W C top left kk o Z) i+psum (zb7 zs ws H W C top left kk o Z i) j))∧Hid (BoxAt w.heap.size H W C (some ⟨bz,oz,none⟩) n c wr)∧Hid (zai (w.heap.size+1) x0 x1 x2 x8 x11 x12 x13 x14 x15 x16 x17 x18 (kk:Int) S P O Z (some ⟨bw,ow,none⟩) BA nW cW nB cB wr)∧Hid (Below w.heap.size w wr)∧w.heap.size+2≤wr.heap.size) (fun _ u _=>kk - (intOf u).toNat)
   case atStart=>exact⟨0,Nat.zero_le _,rfl,congrArg (Value.int .i32) hst,TB1,TN1,HB1,zz1⟩
   case round =>
    obtain⟨j,hj,rfl,rfl,TB2,TN2,HB2,zz2⟩:=hrel
    clear TB1 TN1 HB1 zz1 n3 hst
    obtain⟨tb0,tb1,tb2,tb3⟩:=TB2.out
    have n3:=TN2.out.at 3 _ rfl
    by_cases hltj:j < kk
    ·have hjI:(j:Int) < (kk:Int):=by omega
     have r6:IntKind.i64.wrap (top+(i:Int))=top+(i:Int):=IntWalk.i64_in _ (by omega)
     have r7:IntKind.i64.wrap (left+(j:Int))=left+(j:Int):=IntWalk.i64_in _ (by omega)
     by_cases hin:0≤top+(i:Int)∧top+(i:Int) < H∧0≤left+(j:Int)∧left+(j:Int) < W
     ·have hoC:(o:Int) < C:=by have:=HO.out;have:=HD.out;omega
      have hpd:=CPad.place_bd HS.out HM.out hin.1 hin.2.1 hin.2.2.1 hin.2.2.2 (k:=(o:Int)) (by omega) hoC
      obtain⟨p,hp⟩:∃ p:Nat,((top+(i:Int)) * W+(left+(j:Int))) * C+(o:Int)=(p:Int):=⟨_,(Int.toNat_of_nonneg hpd.2.2.2.2.2.2.1).symm⟩
      have hpn:p < n:=by omega
      have HIX:=fun w'=>index_yes H W C (top+(i:Int)) (left+(j:Int)) (o:Int) (p:Int) HS.out hin.1 hin.2.1 hin.2.2.1 hin.2.2.2 (by omega) hoC hp w'
      have HIX:=hid HIX
      have hle:=place_le2 HO.out hlt hltj
      rw [HNW.out] at hle
      have hpl:zb7 zs ws H W C top left kk o Z i j=ws.getD ((o * kk+i) * kk+j) 0 * (zs.getD p 0 - Z):=by
       unfold zb7
       rw [if_pos hin,hp,Int.toNat_natCast]
      have m1:(o:Int) * (kk:Int)=((o * kk:Nat):Int):=by simp
      have m2:((o * kk:Nat):Int)+(i:Int)=((o * kk+i:Nat):Int):=by simp
      have m3:((o * kk+i:Nat):Int) * (kk:Int)=(((o * kk+i) * kk:Nat):Int):=by simp
      have m4:(((o * kk+i) * kk:Nat):Int)+(j:Int)=(((o * kk+i) * kk+j:Nat):Int):=by simp
      have f2:o * kk+i≤(o * kk+i) * kk:=Nat.le_mul_of_pos_right _ (by omega)
      obtain⟨P4,hP4⟩:∃ P4,(o * kk+i) * kk+j=P4:=⟨_,rfl⟩
      rw [hP4] at m4 hle hpl
      obtain⟨P3,hP3⟩:∃ P3,(o * kk+i) * kk=P3:=⟨_,rfl⟩
      rw [hP3] at m3 m4 hP4 f2
      obtain⟨P2,hP2⟩:∃ P2,o * kk+i=P2:=⟨_,rfl⟩
      rw [hP2] at m2 m3 f2
      obtain⟨P1,hP1⟩:∃ P1,o * kk=P1:=⟨_,rfl⟩
      rw [hP1] at m1 m2 hP2
      have r1:IntKind.i64.wrap (P1:Int)=(P1:Int):=IntWalk.i64_in _ (by omega)
      have r2:IntKind.i64.wrap (P2:Int)=(P2:Int):=IntWalk.i64_in _ (by omega)
      have r3:IntKind.i64.wrap (P3:Int)=(P3:Int):=IntWalk.i64_in _ (by omega)
      have r4:IntKind.i64.wrap (P4:Int)=(P4:Int):=IntWalk.i64_in _ (by omega)
      have q0:(0:Int)≤(P4:Int):=by omega
      have q1:(P4:Int) < (nW:Int):=by omega
      have q2:(0:Int)≤(p:Int):=by omega
      have q3:(p:Int) < (n:Int):=by omega
      obtain⟨x1,x2⟩:=HZ.out p
      obtain⟨y1,y2⟩:=HWB.out P4
      obtain⟨e1,e2⟩:=term_bd x1 x2 y1 y2 z1 z2
      have hcx0:=HCZ.out p (by have:=HN.out;omega)
      have hcy0:=HCW.out P4 (by have:=HWS.out;omega)
      have hnext:IntKind.i32.wrap (IntKind.i32.wrap (psum (rowD zs ws H W C top left kk o Z) i+psum (zb7 zs ws H W C top left kk o Z i) j)+ws.getD P4 0 * (zs.getD p 0 - Z))=IntKind.i32.wrap (psum (rowD zs ws H W C top left kk o Z) i+psum (zb7 zs ws H W C top left kk o Z i) (j+1)):=by
       rw [zcq]
       simp only [psum]
       rw [hpl,Int.add_assoc]
      obtain⟨u0,hu0⟩:∃ u0,IntKind.i32.wrap (psum (rowD zs ws H W C top left kk o Z) i+psum (zb7 zs ws H W C top left kk o Z i) j)=u0:=⟨_,rfl⟩
      obtain⟨u1,hu1⟩:∃ u1,IntKind.i32.wrap (psum (rowD zs ws H W C top left kk o Z) i+psum (zb7 zs ws H W C top left kk o Z i) (j+1))=u1:=⟨_,rfl⟩
      have HU1:=hid hu1
      rw [hu0,hu1] at hnext
      rw [hu0]
      generalize zs.getD p 0=x at hcx0 x1 x2 e1 e2 hnext
      generalize ws.getD P4 0=y at hcy0 y1 y2 e1 e2 hnext
      have v1:IntKind.i32.wrap x=x:=IntWalk.i32_in _ (by omega)
      have v2:IntKind.i32.wrap y=y:=IntWalk.i32_in _ (by omega)
      have v3:IntKind.i32.wrap Z=Z:=IntWalk.i32_in _ (by omega)
      have v4:IntKind.i32.wrap (x - Z)=x - Z:=IntWalk.i32_in _ (by omega)
      have v5:IntKind.i32.wrap (y * (x - Z))=y * (x - Z):=IntWalk.i32_in _ (by omega)
      have HX0:=hid hcx0
      have HY0:=hid hcy0
      clear hu0 hu1 hP4 hP3 hP2 hP1 hle f2 hpl hcx0 hcy0 hpd hp e1 e2
      go_wp2_with (go_at_call 133;(refine (HIX.out _).mono ?_);rintro e w1 ⟨rfl,hb⟩;(have TB3:=hid (TB2.out.below (by omega) hb));(have TN3:=hid (TN2.out.below (by omega) hb));(have HB3:=hid (HB2.out.trans (hb.mono HB2.out.size)));(have zz3:=Nat.le_trans zz2 hb.size);clear hb tb0 tb1 tb2 tb3 n3)
      obtain⟨-, -, -,s3⟩:=TB3.out
      have n3:=TN3.out.at 3 _ rfl
      have n7:=TN3.out.at 7 _ rfl
      have n9:=TN3.out.at 9 _ rfl
      have hcx:=(HB3.out.cell (p:=⟨bz,oz+p,none⟩) hbz).trans HX0.out
      have hcy:=(HB3.out.cell (p:=⟨bw,ow+P4,none⟩) hbw).trans HY0.out
      refine wp_region_held_drew (S:=fun w'=>w'.cell? ⟨w.heap.size,3,none⟩=some (.slice (some ⟨bz,oz,none⟩) n c)∧w'.cell? ⟨w.heap.size+1,3,none⟩=some (.int .i64 (kk:Int))∧w'.cell? ⟨w.heap.size+1,7,none⟩=some (.int .i8 Z)∧w'.cell? ⟨w.heap.size+1,9,none⟩=some (.slice (some ⟨bw,ow,none⟩) nW cW)∧w'.cell? ⟨bz,oz+p,none⟩=some (.int .i8 x)∧w'.cell? ⟨bw,ow+P4,none⟩=some (.int .i8 y)) (by kernel_rfl) ⟨s3,n3,n7,n9,hcx,hcy⟩ (fun hHeld=>?_)
      clear s3 n3 n7 n9 hcx hcy
      refine Tk.x 0 rfl ?_
      try simp only [Tk.put]
      refine Tk.x 1 rfl ?_
      try simp only [Tk.put]
      refine Tk.y 2 (v:=?_) rfl ?_ ?_
      rotate_left
      ·intro wS hSw
       obtain⟨k1,k2,k3,k4,k5,k6⟩:=hSw
       first | (go_simp;done) | (go_simp;with_reducible rfl)
      try simp only [Tk.put]
      refine Tk.x 3 rfl ?_
      try simp only [Tk.put]
      refine Tk.x 4 rfl ?_
      try simp only [Tk.put]
      refine Tk.y 5 (v:=?_) rfl ?_ ?_
      rotate_left
      ·intro wS hSw
       obtain⟨k1,k2,k3,k4,k5,k6⟩:=hSw
       first | (go_simp;done) | (go_simp;with_reducible rfl)
      try simp only [Tk.put]
      refine Tk.x 6 rfl ?_
      try simp only [Tk.put]
      refine Tk.x 7 rfl ?_
      try simp only [Tk.put]
      refine Tk.x 8 rfl ?_
      try simp only [Tk.put]
      refine Tk.x 9 rfl ?_
      try simp only [Tk.put]
      refine Tk.y 10 (v:=?_) rfl ?_ ?_
      rotate_left
      ·intro wS hSw
       obtain⟨k1,k2,k3,k4,k5,k6⟩:=hSw
       first | (go_simp;done) | (go_simp;with_reducible rfl)
      try simp only [Tk.put]
      refine Tk.x 11 rfl ?_
      try simp only [Tk.put]
      refine Tk.x 12 rfl ?_
      try simp only [Tk.put]
      refine Tk.x 13 rfl ?_
      try simp only [Tk.put]
      refine Tk.x 14 rfl ?_
      try simp only [Tk.put]
      refine Tk.y 15 (v:=?_) rfl ?_ ?_
      rotate_left
      ·intro wS hSw
       obtain⟨k1,k2,k3,k4,k5,k6⟩:=hSw
       first | (go_simp;done) | (go_simp;with_reducible rfl)
      try simp only [Tk.put]
      refine Tk.x 16 rfl ?_
      try simp only [Tk.put]
      refine Tk.x 17 rfl ?_
      try simp only [Tk.put]
      refine Tk.y 18 (v:=?_) rfl ?_ ?_
      rotate_left
      ·intro wS hSw
       obtain⟨k1,k2,k3,k4,k5,k6⟩:=hSw
       first | (go_simp;done) | (go_simp;with_reducible rfl)
      try simp only [Tk.put]
      refine Tk.x 19 rfl ?_
      try simp only [Tk.put]
      refine Tk.x 20 rfl ?_
      try simp only [Tk.put]
      refine Tk.y 21 (v:=?_) rfl ?_ ?_
      rotate_left
      ·intro wS hSw
       obtain⟨k1,k2,k3,k4,k5,k6⟩:=hSw
       first | (go_simp;done) | (go_simp;with_reducible rfl)
      try simp only [Tk.put]
      refine Tk.x 22 rfl ?_
      try simp only [Tk.put]
      refine Tk.x 23 rfl ?_
      try simp only [Tk.put]
      refine Tk.y 24 (v:=?_) rfl ?_ ?_
      rotate_left
      ·intro wS hSw
       obtain⟨k1,k2,k3,k4,k5,k6⟩:=hSw
       first | (go_simp;done) | (go_simp;with_reducible rfl)
      try simp only [Tk.put]
      refine Tk.x 25 rfl ?_
      try simp only [Tk.put]
      refine Tk.x 26 rfl ?_
      try simp only [Tk.put]
      refine Tk.x 27 rfl ?_
      try simp only [Tk.put]
      refine Tk.x 28 rfl ?_
      try simp only [Tk.put]
      refine Tk.x 29 rfl ?_
      try simp only [Tk.put]
      refine wpAnyH_done (by kernel_rfl) ?_ _
      clear hHeld v1 v2 v3 v4 v5 hnext
      replace TB3:=hid (TB3.out.below (Nat.lt_of_lt_of_le (by omega) zz3) (Below.refl _ _).drew)
      replace TN3:=hid (TN3.out.below (Nat.lt_of_lt_of_le (by omega) zz3) (Below.refl _ _).drew)
      replace HB3:=hid HB3.out.drew
      replace zz3:w.heap.size+2≤w1.drew.heap.size:=zz3
      go_wp2_with fail
      go_roundw
      case rel=>exact⟨j+1,by omega,by go_num,by rw [HU1.out],TB3,TN3,HB3,zz3⟩
      case measure=>simp [intOf];omega
     ·have hno:inB H W C (top+(i:Int)) (left+(j:Int)) (o:Int)=false:=by
       cases hb:inB H W C (top+(i:Int)) (left+(j:Int)) (o:Int)
       ·rfl
       ·simp only [inB,Bool.and_eq_true,decide_eq_true_eq] at hb
        exact absurd ⟨hb.2.1,hb.2.2.1,hb.2.2.2.1,hb.2.2.2.2.1⟩ hin
      have HNO:=hid hno
      clear hno
      by_cases hl0:0≤left+(j:Int)
      ·have hrest:psum (zb7 zs ws H W C top left kk o Z i) kk=psum (zb7 zs ws H W C top left kk o Z i) j:=psum_stop hj (fun k h1 h2=>placeD_zero (by omega))
       have hsum:IntKind.i32.wrap (psum (rowD zs ws H W C top left kk o Z) i+psum (zb7 zs ws H W C top left kk o Z i) j)=IntKind.i32.wrap (psum (rowD zs ws H W C top left kk o Z) (i+1)):=by
        simp only [psum]
        rw [← hrest]
        rfl
       obtain⟨u0,hu0⟩:∃ u0,IntKind.i32.wrap (psum (rowD zs ws H W C top left kk o Z) i+psum (zb7 zs ws H W C top left kk o Z i) j)=u0:=⟨_,rfl⟩
       rw [hu0] at hsum ⊢
       have HSUM:=hid hsum
       clear hu0 hsum hrest hin
       go_wp2_with (go_at_call 133;(refine (index_no H W C (top+(i:Int)) (left+(j:Int)) (o:Int) HNO.out _).mono ?_);rintro e w1 ⟨rfl,hb⟩;(have TB3:=hid (TB2.out.below (by omega) hb));(have TN3:=hid (TN2.out.below (by omega) hb));(have HB3:=hid (HB2.out.trans (hb.mono HB2.out.size)));(have zz3:=Nat.le_trans zz2 hb.size);clear hb tb0 tb1 tb2 tb3 n3)
       go_roundw
       case rel=>exact⟨i+1,by omega,by go_num,by rw [HSUM.out],TB3,TN3,HB3,zz3⟩
       case measure=>simp [intOf];omega
      ·have hz0:zb7 zs ws H W C top left kk o Z i j=0:=placeD_zero hin
       have hsum:IntKind.i32.wrap (psum (rowD zs ws H W C top left kk o Z) i+psum (zb7 zs ws H W C top left kk o Z i) j)=IntKind.i32.wrap (psum (rowD zs ws H W C top left kk o Z) i+psum (zb7 zs ws H W C top left kk o Z i) (j+1)):=by
        simp only [psum]
        rw [hz0,Int.add_zero]
       obtain⟨u0,hu0⟩:∃ u0,IntKind.i32.wrap (psum (rowD zs ws H W C top left kk o Z) i+psum (zb7 zs ws H W C top left kk o Z i) j)=u0:=⟨_,rfl⟩
       rw [hu0] at hsum ⊢
       have HSUM:=hid hsum
       clear hu0 hsum hz0 hin
       go_wp2_with (go_at_call 133;(refine (index_no H W C (top+(i:Int)) (left+(j:Int)) (o:Int) HNO.out _).mono ?_);rintro e w1 ⟨rfl,hb⟩;(have TB3:=hid (TB2.out.below (by omega) hb));(have TN3:=hid (TN2.out.below (by omega) hb));(have HB3:=hid (HB2.out.trans (hb.mono HB2.out.size)));(have zz3:=Nat.le_trans zz2 hb.size);clear hb tb0 tb1 tb2 tb3 n3)
       go_roundw
       case rel=>exact⟨j+1,by omega,by go_num,by rw [HSUM.out],TB3,TN3,HB3,zz3⟩
       case measure=>simp [intOf];omega
    ·obtain rfl:j=kk:=by omega
     go_wp2_with fail
     go_roundw
     case rel=>exact⟨i+1,by omega,by go_num,congrArg (Value.int .i32) (by simp only [psum];rfl),TB2,TN2,HB2,zz2⟩
     case measure=>simp [intOf];omega
  ·obtain rfl:i=kk:=by omega
   have hfin:IntKind.i32.wrap (psum (rowD zs ws H W C top left i o Z) i)=R:=HRR.out
   rw [hfin]
   go_wp2_with fail
   first | rw [jump_ret] | rw [Exit.noGoto_ret] | (trace_state; fail "end")
   go_ret
   exact⟨rfl,HB1.out⟩
end CDepth
end
end Go.Proofs.YtahekhpeomcfjaaGreatDoor
