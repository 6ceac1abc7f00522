/- Texts of this seat, one behind the other: KindNames, DepthWin, PoolRef, ActOf, ActBothR, PadMove, KindLaid. -/
import Derived.Deep.CutRange
import Derived.Handy
import Derived.BigQuiet
import Derived.Laws.AppendOwn
import Derived.Laws.MakeOwn
import Derived.Deep.RegionHeld3
import Derived.ProofKit
import Derived.LaidMore
import Derived.OpenShut
import Derived.Stop.Joined
import Derived.Test.YtkpngknbiecdiaaGreatDoorGB3
import Derived.Test.YtkpngknbiecdiaaGreatDoorGB5
import Derived.Test.YtkpngknbiecdiaaGreatDoorGB8
import Derived.Test.YtkpngknbiecdiaaGreatDoorGB10
import Derived.Test.YtkpngknbiecdiaaGreatDoorGB11
import Derived.Test.YtkpngknbiecdiaaGreatDoorGB13
import Derived.Test.YtkpngknbiecdiaaGreatDoorGB17
import Derived.Test.YtkpngknbiecdiaaGreatDoorGB22
import Derived.Test.YtkpngknbiecdiaaGreatDoorGB29
import Derived.Test.YtkpngknbiecdiaaGreatDoorGB30
section
namespace Go.Proofs.YtkpngknbiecdiaaGreatDoor.CKind
open Go Go.ChangeShapes Go.WideShapes Go.ChangeAt Go.RowKit Go.Deep
open Plain CSat CFix CShape CTensor CConv
set_option linter.unusedVariables false
set_option linter.unusedSimpArgs false
def NamesIn (w:World):Prop:=∀ n:Nat,n < 10→w.cell? ⟨0,n,none⟩=some (.string (kname n))
theorem NamesIn.size {w:World} (h:NamesIn w):0 < w.heap.size:=by
 have h0:=h 0 (by decide)
 unfold World.cell? at h0
 rcases Nat.lt_or_ge 0 w.heap.size with hlt | hge
 ·exact hlt
 ·rw [show w.heap[(⟨0,0,none⟩:Addr).block]?=none from Array.getElem?_eq_none hge] at h0
  cases h0
theorem NamesIn.below {w w':World} {n:Nat} (h:NamesIn w) (hb:Below n w w') (hn:0 < n):NamesIn w':=fun j hj=>(hb.cell (p:=⟨0,j,none⟩) hn).trans (h j hj)
theorem NamesIn.grown {w w':World} (h:NamesIn w) (hb:Below w.heap.size w w'):NamesIn w':=h.below hb h.size
set_option maxRecDepth 100000 in
set_option maxHeartbeats 4000000 in
theorem name_to (k:Int) (w:World) (hT:NamesIn w):Calls Tryz.prog 96 #[.int .i64 k] w fun e w'=>e=.returned (.string (kname k))∧w=w':=by
 by_cases h:k < 0∨9 < k
 ·have HK:=Lib.hid (kname_no (k:=k) (by omega))
  rcases h with h | h
  ·go_enter Tryz.func96,Tryz.ntmps96
   go_wp2_with fail
   go_ret
   exact⟨by rw [HK.out];rfl,rfl⟩
  ·have h2:¬ k < 0:=by omega
   have h3:(10:Int)≤k:=by omega
   go_enter Tryz.func96,Tryz.ntmps96
   go_wp2_with fail
   go_ret
   exact⟨by rw [HK.out];rfl,rfl⟩
 ·obtain⟨n,rfl⟩:∃ n:Nat,k=(n:Int):=⟨k.toNat,by omega⟩
  have h9:n < 10:=by omega
  have hc:=hT n h9
  obtain⟨s,hs⟩:∃ s,kname (n:Int)=s:=⟨_,rfl⟩
  rw [hs] at hc ⊢
  have h0:¬ (n:Int) < 0:=by omega
  have h10:¬ (10:Int)≤(n:Int):=by omega
  have h11:(n:Int) < 10:=by omega
  clear hs hT h
  go_enter Tryz.func96,Tryz.ntmps96
  go_wp2_with fail
  go_ret
  exact⟨rfl,rfl⟩
def knownB (k:Int):Bool:=decide (1≤k∧k≤9)
theorem kname_ne (k:Int):(kname k).toList.isEmpty = !knownB k:=by
 rw [ByteArray.toList_eq]
 by_cases h:k < 1∨9 < k
 ·rw [kname_no h,show knownB k=false from decide_eq_false (by omega)];decide
 ·have:k=1∨k=2∨k=3∨k=4∨k=5∨k=6∨k=7∨k=8∨k=9:=by omega
  rcases this with rfl | rfl | rfl | rfl | rfl | rfl | rfl | rfl | rfl <;> decide
set_option maxRecDepth 100000 in
set_option maxHeartbeats 4000000 in
theorem known_to (k:Int) (w:World) (hT:NamesIn w):Calls Tryz.prog 46 #[.int .i64 k] w fun e w'=>e=.returned (.bool (knownB k))∧w=w':=by
 have HN:=Lib.hid (name_to k w hT)
 have hne:=kname_ne k
 clear hT
 obtain⟨s,hs⟩:∃ s,kname k=s:=⟨_,rfl⟩
 rw [hs] at HN hne
 clear hs
 cases hb:knownB k
 all_goals
  rw [hb] at hne
  simp only [Bool.not_false,Bool.not_true] at hne
  clear hb
  go_enter Tryz.func46,Tryz.ntmps46
  go_wp2_with (go_at_call 96;(with_reducible refine HN.out.mono ?_);rintro e w1 ⟨rfl,rfl⟩)
  go_ret
  exact⟨rfl,rfl⟩
theorem sums_to (k:Int) (w:World):Calls Tryz.prog 98 #[.int .i64 k] w fun e w'=>e=.returned (.bool (sumsB k))∧w=w':=by
 go_enter Tryz.func98,Tryz.ntmps98
 go_wp2_with fail
 all_goals go_ret
 all_goals exact⟨by simp_all [sumsB],rfl⟩
theorem scaled_to (k:Int) (w:World):Calls Tryz.prog 49 #[.int .i64 k] w fun e w'=>e=.returned (.bool (scaledB k))∧w=w':=by
 have HS:=Lib.hid (sums_to k)
 obtain⟨b,hb⟩:∃ b,sumsB k=b:=⟨_,rfl⟩
 have HZ:Hid (scaledB k=(b || k == 6 || k == 7)):=Lib.hid (by rw [← hb];rfl)
 rw [hb] at HS
 clear hb
 cases b
 all_goals
  go_enter Tryz.func49,Tryz.ntmps49
  go_wp2_with (go_at_call 98;(with_reducible refine (HS.out _).mono ?_);rintro e w1 ⟨rfl,rfl⟩)
  all_goals go_ret
  all_goals exact⟨by rw [HZ.out];simp_all,rfl⟩
end Go.Proofs.YtkpngknbiecdiaaGreatDoor.CKind
end
section
namespace Go.Proofs.YtkpngknbiecdiaaGreatDoor.CDepth
open Go Go.ChangeShapes Go.WideShapes Go.ChangeAt Go.RowKit
open Plain CSat CShape CTensor CConv
set_option linter.unusedVariables false
def placeD (zs ws:List Int) (H W C top left:Int) (kk o:Nat) (Z:Int) (i j:Nat):Int :=
 if 0≤top+(i:Int)∧top+(i:Int) < H∧0≤left+(j:Int)∧left+(j:Int) < W then ws.getD ((o * kk+i) * kk+j) 0 * (zs.getD (((top+(i:Int)) * W+(left+(j:Int))) * C+(o:Int)).toNat 0 - Z) else 0
def rowD (zs ws:List Int) (H W C top left:Int) (kk o:Nat) (Z:Int) (i:Nat):Int:=psum (placeD zs ws H W C top left kk o Z i) kk
def winD (zs ws:List Int) (H W C top left:Int) (kk o:Nat) (Z:Int):Int:=psum (rowD zs ws H W C top left kk o Z) kk
theorem psum_stop {G:Nat→Int} {j n:Nat} (hj:j≤n) (h:∀ k,j≤k→k < n→G k=0):psum G n=psum G j:=by
 induction n with
 | zero => obtain rfl : j = 0 := by omega
           rfl
 | succ n ih =>
   rcases (show j=n+1∨j≤n by omega) with rfl | hle
   ·rfl
   ·simp only [psum]
    rw [ih hle (fun k h1 h2=>h k h1 (by omega)),h n hle (by omega),Int.add_zero]
theorem place_le2 {a b c i j k:Nat} (hi:i < a) (hj:j < b) (hk:k < c):(i * b+j) * c+k < a * b * c:=by
 have:=place_le (d:=1) hi hj hk
 rw [Nat.mul_one,Nat.mul_one] at this
 omega
theorem placeD_zero {zs ws:List Int} {H W C top left:Int} {kk o:Nat} {Z:Int} {i j:Nat} (h:¬ (0≤top+(i:Int)∧top+(i:Int) < H∧0≤left+(j:Int)∧left+(j:Int) < W)):placeD zs ws H W C top left kk o Z i j=0:=if_neg h
set_option maxRecDepth 100000 in
set_option maxHeartbeats 4000000 in
theorem dwindow_to (H W C:Int) (A:Option Addr) (zs:List Int) (n c:Nat) (hn:zs.length=n) (ht:tensB H W C n=true) (hz:I8b zs) (x0 x1 x2 x8 x11 x12 x13 x14 x15 x16 x17 x18:Value) (K S P O Z:Int) (WA BA:Option Addr) (nW cW nB cB:Nat) (ws:List Int) (hws:ws.length=nW) (hwc:nW≤cW) (hwb:I8b ws)
  (d kk o:Nat) (hd:C=(d:Int)) (hk:K=(kk:Int)) (hk1:1≤kk) (hk7:kk≤7) (ho:o < d) (hnW:d * kk * kk=nW) (hn16:nW≤16384) (z1 : -128≤Z) (z2:Z≤127)
  (top left:Int) (t1 : -100≤top) (t2:top≤10000) (l1 : -100≤left) (l2:left≤10000) (w:World) (hr:Kit.Rd w w.heap.size A (I8s zs)) (hrw:Kit.Rd w w.heap.size WA (I8s ws)) (R:Int) (hR:IntKind.i32.wrap (winD zs ws H W C top left kk o Z)=R) :
  Calls Tryz.prog 89 #[.agg #[.int .i64 H,.int .i64 W,.int .i64 C,.slice A n c],.agg #[x0,x1,x2,.int .i64 K,.int .i64 S,.int .i64 P,.int .i64 O,.int .i8 Z,x8,.slice WA nW cW,.slice BA nB cB,x11,x12,x13,x14,x15,x16,x17,x18],.int .i64 top,.int .i64 left,.int .i64 (o:Int)] w fun e w'=>e=.returned (.int .i32 R)∧Below w.heap.size w w':=by
 have hs:shapeB H W C=true:=by simp only [tensB,Bool.and_eq_true] at ht;exact ht.1
 have hm:(n:Int)=H * W * C:=by simp only [tensB,Bool.and_eq_true,decide_eq_true_eq] at ht;exact ht.2
 obtain⟨g1,g2,g3,g4,g5,g6,g7⟩:=shapeB_yes hs
 have hn2:n≤1024:=by rw [← hm] at g7;omega
 have hw1:0 < nW:=by have:=place_le2 ho (show 0 < kk by omega) (show 0 < kk by omega);omega
 have hn1:0 < n:=by
  have e:(1:Int)≤H * W * C:=by
   have h1:1 * 1≤H * W:=Int.mul_le_mul g1 g3 (by omega) (by omega)
   have h2:1 * 1≤H * W * C:=Int.mul_le_mul h1 g5 (by omega) (by omega)
   omega
  omega
 obtain⟨bw,ow,rfl,hbw,hcw⟩:=ints_getD hrw (j:=0) (by omega)
 obtain⟨bz,oz,rfl,hbz,hcz⟩:=ints_getD hr (j:=0) (by omega)
 have hK0:(kk:Int)≤7:=by omega
 have HT:=Lib.hid ht
 have HM:=Lib.hid hm
 have HS:=Lib.hid hs
 have HN:=Lib.hid hn
 have HZ:=Lib.hid hz
 have HWS:=Lib.hid hws
 have HWB:=Lib.hid hwb
 have HD:=Lib.hid hd
 have HNW:=Lib.hid hnW
 have HCW:=Lib.hid hcw
 have HCZ:=Lib.hid hcz
 have HRR:=Lib.hid hR
 have HO:=Lib.hid ho
 subst hk
 clear ht hn hz hws hwb hd hnW hr hrw hR ho hs g7 hcw hcz hm
 go_enter Tryz.func89,Tryz.ntmps89
 go_wp2
 go_step3
 go_wp2
 go_step3
 go_wp2
 have TB:=Lib.hid ((boxNew H W C (some ⟨bz,oz,none⟩) n c 32 w).below (B':=w.heap.size+1) (by omega) ((Below.refl _ _).alloc (by simp) (.cells #[x0,x1,x2,.int .i64 (kk:Int),.int .i64 S,.int .i64 P,.int .i64 O,.int .i8 Z,x8,.slice (some ⟨bw,ow,none⟩) nW cW,.slice BA nB cB,x11,x12,x13,x14,x15,x16,x17,x18] 28)))
 have hnd:=NodeAt.new x0 x1 x2 x8 x11 x12 x13 x14 x15 x16 x17 x18 (kk:Int) S P O Z (some ⟨bw,ow,none⟩) BA nW cW nB cB 28 (w.alloc (.cells #[.int .i64 H,.int .i64 W,.int .i64 C,.slice (some ⟨bz,oz,none⟩) n c] 32))
 rw [World.size_alloc] at hnd
 have TN:=Lib.hid hnd
 have HB0:Hid (Below w.heap.size w ((w.alloc (.cells #[.int .i64 H,.int .i64 W,.int .i64 C,.slice (some ⟨bz,oz,none⟩) n c] 32)).alloc (.cells #[x0,x1,x2,.int .i64 (kk:Int),.int .i64 S,.int .i64 P,.int .i64 O,.int .i8 Z,x8,.slice (some ⟨bw,ow,none⟩) nW cW,.slice BA nB cB,x11,x12,x13,x14,x15,x16,x17,x18] 28))):=Lib.hid (((Below.refl _ _).alloc (Nat.le_refl _) _).alloc (by simp) _)
 have zz:w.heap.size+2≤((w.alloc (.cells #[.int .i64 H,.int .i64 W,.int .i64 C,.slice (some ⟨bz,oz,none⟩) n c] 32)).alloc (.cells #[x0,x1,x2,.int .i64 (kk:Int),.int .i64 S,.int .i64 P,.int .i64 O,.int .i8 Z,x8,.slice (some ⟨bw,ow,none⟩) nW cW,.slice BA nB cB,x11,x12,x13,x14,x15,x16,x17,x18] 28)).heap.size:=by simp
 clear hnd
 generalize (w.alloc (.cells #[.int .i64 H,.int .i64 W,.int .i64 C,.slice (some ⟨bz,oz,none⟩) n c] 32)).alloc (.cells #[x0,x1,x2,.int .i64 (kk:Int),.int .i64 S,.int .i64 P,.int .i64 O,.int .i8 Z,x8,.slice (some ⟨bw,ow,none⟩) nW cW,.slice BA nB cB,x11,x12,x13,x14,x15,x16,x17,x18] 28)=Wm at TB TN HB0 zz ⊢
 go_loopw [11,18] (fun s u wr=>∃ i:Nat,i≤kk∧u=.int .i64 i∧s=.int .i32 (IntKind.i32.wrap (psum (rowD zs ws H W C top left kk o Z) i))∧Hid (BoxAt w.heap.size H W C (some ⟨bz,oz,none⟩) n c wr)∧Hid (NodeAt (w.heap.size+1) x0 x1 x2 x8 x11 x12 x13 x14 x15 x16 x17 x18 (kk:Int) S P O Z (some ⟨bw,ow,none⟩) BA nW cW nB cB wr)∧Hid (Below w.heap.size w wr)∧w.heap.size+2≤wr.heap.size) (fun _ u _=>kk - (intOf u).toNat)
 case atStart=>exact⟨0,Nat.zero_le _,rfl,congrArg (Value.int .i32) (by simp [psum,IntKind.wrap_i32]),TB,TN,HB0,zz⟩
 case round =>
  obtain⟨i,hi,rfl,rfl,TB1,TN1,HB1,zz1⟩:=hrel
  clear TB TN HB0 zz
  have n3:=TN1.out.at 3 _ rfl
  by_cases hlt:i < kk
  ·have hiI:(i:Int) < (kk:Int):=by omega
   obtain⟨a0,ha0⟩:∃ a0,IntKind.i32.wrap (psum (rowD zs ws H W C top left kk o Z) i)=a0:=⟨_,rfl⟩
   have hst:a0=IntKind.i32.wrap (psum (rowD zs ws H W C top left kk o Z) i+psum (placeD zs ws H W C top left kk o Z i) 0):=by rw [← ha0];simp [psum]
   rw [ha0]
   clear ha0
   go_wp2_with fail
   go_loopw [11,23] (fun s u wr=>∃ j:Nat,j≤kk∧u=.int .i64 j∧s=.int .i32 (IntKind.i32.wrap (psum (rowD zs ws H W C top left kk o Z) i+psum (placeD zs ws H W C top left kk o Z i) j))∧Hid (BoxAt w.heap.size H W C (some ⟨bz,oz,none⟩) n c wr)∧Hid (NodeAt (w.heap.size+1) x0 x1 x2 x8 x11 x12 x13 x14 x15 x16 x17 x18 (kk:Int) S P O Z (some ⟨bw,ow,none⟩) BA nW cW nB cB wr)∧Hid (Below w.heap.size w wr)∧w.heap.size+2≤wr.heap.size) (fun _ u _=>kk - (intOf u).toNat)
   case atStart=>exact⟨0,Nat.zero_le _,rfl,congrArg (Value.int .i32) hst,TB1,TN1,HB1,zz1⟩
   case round =>
    obtain⟨j,hj,rfl,rfl,TB2,TN2,HB2,zz2⟩:=hrel
    clear TB1 TN1 HB1 zz1 n3 hst
    obtain⟨tb0,tb1,tb2,tb3⟩:=TB2.out
    have n3:=TN2.out.at 3 _ rfl
    by_cases hltj:j < kk
    ·have hjI:(j:Int) < (kk:Int):=by omega
     have r6:IntKind.i64.wrap (top+(i:Int))=top+(i:Int):=IntWalk.i64_in _ (by omega)
     have r7:IntKind.i64.wrap (left+(j:Int))=left+(j:Int):=IntWalk.i64_in _ (by omega)
     by_cases hin:0≤top+(i:Int)∧top+(i:Int) < H∧0≤left+(j:Int)∧left+(j:Int) < W
     ·have hoC:(o:Int) < C:=by have:=HO.out;have:=HD.out;omega
      have hpd:=CPad.place_bd HS.out HM.out hin.1 hin.2.1 hin.2.2.1 hin.2.2.2 (k:=(o:Int)) (by omega) hoC
      obtain⟨p,hp⟩:∃ p:Nat,((top+(i:Int)) * W+(left+(j:Int))) * C+(o:Int)=(p:Int):=⟨_,(Int.toNat_of_nonneg hpd.2.2.2.2.2.2.1).symm⟩
      have hpn:p < n:=by omega
      have HIX:=fun w'=>index_yes H W C (top+(i:Int)) (left+(j:Int)) (o:Int) (p:Int) HS.out hin.1 hin.2.1 hin.2.2.1 hin.2.2.2 (by omega) hoC hp w'
      have HIX:=Lib.hid HIX
      have hle:=place_le2 HO.out hlt hltj
      rw [HNW.out] at hle
      have hpl:placeD zs ws H W C top left kk o Z i j=ws.getD ((o * kk+i) * kk+j) 0 * (zs.getD p 0 - Z):=by
       unfold placeD
       rw [if_pos hin,hp,Int.toNat_natCast]
      have m1:(o:Int) * (kk:Int)=((o * kk:Nat):Int):=by simp
      have m2:((o * kk:Nat):Int)+(i:Int)=((o * kk+i:Nat):Int):=by simp
      have m3:((o * kk+i:Nat):Int) * (kk:Int)=(((o * kk+i) * kk:Nat):Int):=by simp
      have m4:(((o * kk+i) * kk:Nat):Int)+(j:Int)=(((o * kk+i) * kk+j:Nat):Int):=by simp
      have f2:o * kk+i≤(o * kk+i) * kk:=Nat.le_mul_of_pos_right _ (by omega)
      obtain⟨P4,hP4⟩:∃ P4,(o * kk+i) * kk+j=P4:=⟨_,rfl⟩
      rw [hP4] at m4 hle hpl
      obtain⟨P3,hP3⟩:∃ P3,(o * kk+i) * kk=P3:=⟨_,rfl⟩
      rw [hP3] at m3 m4 hP4 f2
      obtain⟨P2,hP2⟩:∃ P2,o * kk+i=P2:=⟨_,rfl⟩
      rw [hP2] at m2 m3 f2
      obtain⟨P1,hP1⟩:∃ P1,o * kk=P1:=⟨_,rfl⟩
      rw [hP1] at m1 m2 hP2
      have r1:IntKind.i64.wrap (P1:Int)=(P1:Int):=IntWalk.i64_in _ (by omega)
      have r2:IntKind.i64.wrap (P2:Int)=(P2:Int):=IntWalk.i64_in _ (by omega)
      have r3:IntKind.i64.wrap (P3:Int)=(P3:Int):=IntWalk.i64_in _ (by omega)
      have r4:IntKind.i64.wrap (P4:Int)=(P4:Int):=IntWalk.i64_in _ (by omega)
      have q0:(0:Int)≤(P4:Int):=by omega
      have q1:(P4:Int) < (nW:Int):=by omega
      have q2:(0:Int)≤(p:Int):=by omega
      have q3:(p:Int) < (n:Int):=by omega
      obtain⟨x1,x2⟩:=HZ.out p
      obtain⟨y1,y2⟩:=HWB.out P4
      obtain⟨e1,e2⟩:=term_bd x1 x2 y1 y2 z1 z2
      have hcx0:=HCZ.out p (by have:=HN.out;omega)
      have hcy0:=HCW.out P4 (by have:=HWS.out;omega)
      have hnext:IntKind.i32.wrap (IntKind.i32.wrap (psum (rowD zs ws H W C top left kk o Z) i+psum (placeD zs ws H W C top left kk o Z i) j)+ws.getD P4 0 * (zs.getD p 0 - Z))=IntKind.i32.wrap (psum (rowD zs ws H W C top left kk o Z) i+psum (placeD zs ws H W C top left kk o Z i) (j+1)):=by
       rw [wrap32_add]
       simp only [psum]
       rw [hpl,Int.add_assoc]
      obtain⟨u0,hu0⟩:∃ u0,IntKind.i32.wrap (psum (rowD zs ws H W C top left kk o Z) i+psum (placeD zs ws H W C top left kk o Z i) j)=u0:=⟨_,rfl⟩
      obtain⟨u1,hu1⟩:∃ u1,IntKind.i32.wrap (psum (rowD zs ws H W C top left kk o Z) i+psum (placeD zs ws H W C top left kk o Z i) (j+1))=u1:=⟨_,rfl⟩
      have HU1:=Lib.hid hu1
      rw [hu0,hu1] at hnext
      rw [hu0]
      generalize zs.getD p 0=x at hcx0 x1 x2 e1 e2 hnext
      generalize ws.getD P4 0=y at hcy0 y1 y2 e1 e2 hnext
      have v1:IntKind.i32.wrap x=x:=IntWalk.i32_in _ (by omega)
      have v2:IntKind.i32.wrap y=y:=IntWalk.i32_in _ (by omega)
      have v3:IntKind.i32.wrap Z=Z:=IntWalk.i32_in _ (by omega)
      have v4:IntKind.i32.wrap (x - Z)=x - Z:=IntWalk.i32_in _ (by omega)
      have v5:IntKind.i32.wrap (y * (x - Z))=y * (x - Z):=IntWalk.i32_in _ (by omega)
      have HX0:=Lib.hid hcx0
      have HY0:=Lib.hid hcy0
      clear hu0 hu1 hP4 hP3 hP2 hP1 hle f2 hpl hcx0 hcy0 hpd hp e1 e2
      go_wp2_with (go_at_call 133;(refine (HIX.out _).mono ?_);rintro e w1 ⟨rfl,hb⟩;(have TB3:=Lib.hid (TB2.out.below (by omega) hb));(have TN3:=Lib.hid (TN2.out.below (by omega) hb));(have HB3:=Lib.hid (HB2.out.trans (hb.mono HB2.out.size)));(have zz3:=Nat.le_trans zz2 hb.size);clear hb tb0 tb1 tb2 tb3 n3)
      obtain⟨-, -, -,s3⟩:=TB3.out
      have n3:=TN3.out.at 3 _ rfl
      have n7:=TN3.out.at 7 _ rfl
      have n9:=TN3.out.at 9 _ rfl
      have hcx:=(HB3.out.cell (p:=⟨bz,oz+p,none⟩) hbz).trans HX0.out
      have hcy:=(HB3.out.cell (p:=⟨bw,ow+P4,none⟩) hbw).trans HY0.out
      refine wp_region_held_drew (S:=fun w'=>w'.cell? ⟨w.heap.size,3,none⟩=some (.slice (some ⟨bz,oz,none⟩) n c)∧w'.cell? ⟨w.heap.size+1,3,none⟩=some (.int .i64 (kk:Int))∧w'.cell? ⟨w.heap.size+1,7,none⟩=some (.int .i8 Z)∧w'.cell? ⟨w.heap.size+1,9,none⟩=some (.slice (some ⟨bw,ow,none⟩) nW cW)∧w'.cell? ⟨bz,oz+p,none⟩=some (.int .i8 x)∧w'.cell? ⟨bw,ow+P4,none⟩=some (.int .i8 y)) (by kernel_rfl) ⟨s3,n3,n7,n9,hcx,hcy⟩ (fun hHeld=>?_)
      clear s3 n3 n7 n9 hcx hcy
      refine Tk.x 0 rfl ?_
      try simp only [Tk.put]
      refine Tk.x 1 rfl ?_
      try simp only [Tk.put]
      refine Tk.y 2 (v:=?_) rfl ?_ ?_
      rotate_left
      ·intro wS hSw
       obtain⟨k1,k2,k3,k4,k5,k6⟩:=hSw
       first | (go_simp;done) | (go_simp;with_reducible rfl)
      try simp only [Tk.put]
      refine Tk.x 3 rfl ?_
      try simp only [Tk.put]
      refine Tk.x 4 rfl ?_
      try simp only [Tk.put]
      refine Tk.y 5 (v:=?_) rfl ?_ ?_
      rotate_left
      ·intro wS hSw
       obtain⟨k1,k2,k3,k4,k5,k6⟩:=hSw
       first | (go_simp;done) | (go_simp;with_reducible rfl)
      try simp only [Tk.put]
      refine Tk.x 6 rfl ?_
      try simp only [Tk.put]
      refine Tk.x 7 rfl ?_
      try simp only [Tk.put]
      refine Tk.x 8 rfl ?_
      try simp only [Tk.put]
      refine Tk.x 9 rfl ?_
      try simp only [Tk.put]
      refine Tk.y 10 (v:=?_) rfl ?_ ?_
      rotate_left
      ·intro wS hSw
       obtain⟨k1,k2,k3,k4,k5,k6⟩:=hSw
       first | (go_simp;done) | (go_simp;with_reducible rfl)
      try simp only [Tk.put]
      refine Tk.x 11 rfl ?_
      try simp only [Tk.put]
      refine Tk.x 12 rfl ?_
      try simp only [Tk.put]
      refine Tk.x 13 rfl ?_
      try simp only [Tk.put]
      refine Tk.x 14 rfl ?_
      try simp only [Tk.put]
      refine Tk.y 15 (v:=?_) rfl ?_ ?_
      rotate_left
      ·intro wS hSw
       obtain⟨k1,k2,k3,k4,k5,k6⟩:=hSw
       first | (go_simp;done) | (go_simp;with_reducible rfl)
      try simp only [Tk.put]
      refine Tk.x 16 rfl ?_
      try simp only [Tk.put]
      refine Tk.x 17 rfl ?_
      try simp only [Tk.put]
      refine Tk.y 18 (v:=?_) rfl ?_ ?_
      rotate_left
      ·intro wS hSw
       obtain⟨k1,k2,k3,k4,k5,k6⟩:=hSw
       first | (go_simp;done) | (go_simp;with_reducible rfl)
      try simp only [Tk.put]
      refine Tk.x 19 rfl ?_
      try simp only [Tk.put]
      refine Tk.x 20 rfl ?_
      try simp only [Tk.put]
      refine Tk.y 21 (v:=?_) rfl ?_ ?_
      rotate_left
      ·intro wS hSw
       obtain⟨k1,k2,k3,k4,k5,k6⟩:=hSw
       first | (go_simp;done) | (go_simp;with_reducible rfl)
      try simp only [Tk.put]
      refine Tk.x 22 rfl ?_
      try simp only [Tk.put]
      refine Tk.x 23 rfl ?_
      try simp only [Tk.put]
      refine Tk.y 24 (v:=?_) rfl ?_ ?_
      rotate_left
      ·intro wS hSw
       obtain⟨k1,k2,k3,k4,k5,k6⟩:=hSw
       first | (go_simp;done) | (go_simp;with_reducible rfl)
      try simp only [Tk.put]
      refine Tk.x 25 rfl ?_
      try simp only [Tk.put]
      refine Tk.x 26 rfl ?_
      try simp only [Tk.put]
      refine Tk.x 27 rfl ?_
      try simp only [Tk.put]
      refine Tk.x 28 rfl ?_
      try simp only [Tk.put]
      refine Tk.x 29 rfl ?_
      try simp only [Tk.put]
      refine wpAnyH_done (by kernel_rfl) ?_ _
      clear hHeld v1 v2 v3 v4 v5 hnext
      replace TB3:=Lib.hid (TB3.out.below (Nat.lt_of_lt_of_le (by omega) zz3) (Below.refl _ _).drew)
      replace TN3:=Lib.hid (TN3.out.below (Nat.lt_of_lt_of_le (by omega) zz3) (Below.refl _ _).drew)
      replace HB3:=Lib.hid HB3.out.drew
      replace zz3:w.heap.size+2≤w1.drew.heap.size:=zz3
      go_wp2_with fail
      go_roundw
      case rel=>exact⟨j+1,by omega,by go_num,by rw [HU1.out],TB3,TN3,HB3,zz3⟩
      case measure=>simp [intOf];omega
     ·have hno:inB H W C (top+(i:Int)) (left+(j:Int)) (o:Int)=false:=by
       cases hb:inB H W C (top+(i:Int)) (left+(j:Int)) (o:Int)
       ·rfl
       ·simp only [inB,Bool.and_eq_true,decide_eq_true_eq] at hb
        exact absurd ⟨hb.2.1,hb.2.2.1,hb.2.2.2.1,hb.2.2.2.2.1⟩ hin
      have HNO:=Lib.hid hno
      clear hno
      by_cases hl0:0≤left+(j:Int)
      ·have hrest:psum (placeD zs ws H W C top left kk o Z i) kk=psum (placeD zs ws H W C top left kk o Z i) j:=psum_stop hj (fun k h1 h2=>placeD_zero (by omega))
       have hsum:IntKind.i32.wrap (psum (rowD zs ws H W C top left kk o Z) i+psum (placeD zs ws H W C top left kk o Z i) j)=IntKind.i32.wrap (psum (rowD zs ws H W C top left kk o Z) (i+1)):=by
        simp only [psum]
        rw [← hrest]
        rfl
       obtain⟨u0,hu0⟩:∃ u0,IntKind.i32.wrap (psum (rowD zs ws H W C top left kk o Z) i+psum (placeD zs ws H W C top left kk o Z i) j)=u0:=⟨_,rfl⟩
       rw [hu0] at hsum ⊢
       have HSUM:=Lib.hid hsum
       clear hu0 hsum hrest hin
       go_wp2_with (go_at_call 133;(refine (index_no H W C (top+(i:Int)) (left+(j:Int)) (o:Int) HNO.out _).mono ?_);rintro e w1 ⟨rfl,hb⟩;(have TB3:=Lib.hid (TB2.out.below (by omega) hb));(have TN3:=Lib.hid (TN2.out.below (by omega) hb));(have HB3:=Lib.hid (HB2.out.trans (hb.mono HB2.out.size)));(have zz3:=Nat.le_trans zz2 hb.size);clear hb tb0 tb1 tb2 tb3 n3)
       go_roundw
       case rel=>exact⟨i+1,by omega,by go_num,by rw [HSUM.out],TB3,TN3,HB3,zz3⟩
       case measure=>simp [intOf];omega
      ·have hz0:placeD zs ws H W C top left kk o Z i j=0:=placeD_zero hin
       have hsum:IntKind.i32.wrap (psum (rowD zs ws H W C top left kk o Z) i+psum (placeD zs ws H W C top left kk o Z i) j)=IntKind.i32.wrap (psum (rowD zs ws H W C top left kk o Z) i+psum (placeD zs ws H W C top left kk o Z i) (j+1)):=by
        simp only [psum]
        rw [hz0,Int.add_zero]
       obtain⟨u0,hu0⟩:∃ u0,IntKind.i32.wrap (psum (rowD zs ws H W C top left kk o Z) i+psum (placeD zs ws H W C top left kk o Z i) j)=u0:=⟨_,rfl⟩
       rw [hu0] at hsum ⊢
       have HSUM:=Lib.hid hsum
       clear hu0 hsum hz0 hin
       go_wp2_with (go_at_call 133;(refine (index_no H W C (top+(i:Int)) (left+(j:Int)) (o:Int) HNO.out _).mono ?_);rintro e w1 ⟨rfl,hb⟩;(have TB3:=Lib.hid (TB2.out.below (by omega) hb));(have TN3:=Lib.hid (TN2.out.below (by omega) hb));(have HB3:=Lib.hid (HB2.out.trans (hb.mono HB2.out.size)));(have zz3:=Nat.le_trans zz2 hb.size);clear hb tb0 tb1 tb2 tb3 n3)
       go_roundw
       case rel=>exact⟨j+1,by omega,by go_num,by rw [HSUM.out],TB3,TN3,HB3,zz3⟩
       case measure=>simp [intOf];omega
    ·obtain rfl:j=kk:=by omega
     go_wp2_with fail
     go_roundw
     case rel=>exact⟨i+1,by omega,by go_num,congrArg (Value.int .i32) (by simp only [psum];rfl),TB2,TN2,HB2,zz2⟩
     case measure=>simp [intOf];omega
  ·obtain rfl:i=kk:=by omega
   have hfin:IntKind.i32.wrap (psum (rowD zs ws H W C top left i o Z) i)=R:=HRR.out
   rw [hfin]
   go_wp2_with fail
   first | rw [jump_ret] | rw [Exit.noGoto_ret] | (trace_state; fail "end")
   go_ret
   exact⟨rfl,HB1.out⟩
end Go.Proofs.YtkpngknbiecdiaaGreatDoor.CDepth
end
section
namespace Go.Proofs.YtkpngknbiecdiaaGreatDoor.CPool
open Go Go.ChangeShapes Go.WideShapes Go.ChangeAt Go.RowKit
open Plain CSat CShape CTensor CConv
set_option linter.unusedVariables false
def meanZ (zs:List Int):Int:=IntKind.i8.wrap (nearZ (psum (fun i=>zs.getD i 0) zs.length) zs.length)
end Go.Proofs.YtkpngknbiecdiaaGreatDoor.CPool
end
section
namespace Go.Proofs.YtkpngknbiecdiaaGreatDoor.CAct
open Go Go.ChangeShapes Go.WideShapes Go.ChangeAt Go.RowKit Go.Deep
open Plain CSat CFix CShape CTensor CConv
set_option linter.unusedVariables false
set_option maxRecDepth 100000 in
set_option maxHeartbeats 4000000 in
theorem aof_yes (H W C:Int) (A:Option Addr) (n c:Nat) (zs:List Int) (hn:zs.length=n) (hn6:n≤1000000) (hz:I8b zs) (x0 x1 x2:Value) (K S P O Z Y:Int) (WA BA:Option Addr) (nW cW nB cB:Nat) (m1 s1 z1 m2 s2 z2 lo hi:Int) (hnb:NBd Z Y m1 z1 m2 z2 lo hi) (h1:tensB H W C n=true) (hq:rightB m1 s1=true) (F:Nat→Int) (hF:∀ k,F k=heldZ (zs.getD k 0 - Z) m1 s1 z1 lo hi) (w:World) (hr:Kit.Rd w w.heap.size A (I8s zs)) :
  Calls Tryz.prog 21 #[.agg #[.int .i64 H,.int .i64 W,.int .i64 C,.slice A n c],.agg #[x0,x1,x2,.int .i64 K,.int .i64 S,.int .i64 P,.int .i64 O,.int .i8 Z,.int .i8 Y,.slice WA nW cW,.slice BA nB cB,.int .i32 m1,.int .i64 s1,.int .i8 z1,.int .i32 m2,.int .i64 s2,.int .i8 z2,.int .i8 lo,.int .i8 hi]] w (MadeT w H W C n (rowL F n) (.int .i64 0)):=by
 have HT1:=Lib.hid h1
 have HQ:=Lib.hid hq
 have HN:=Lib.hid hn
 have HZ:=Lib.hid hz
 have HNB:=Lib.hid hnb
 have HF:=Lib.hid hF
 have HRA:=Lib.hid hr
 clear h1 hq hn hz hnb hF hr
 go_enter Tryz.func21,Tryz.ntmps21
 go_wp2_with (first
 | (go_at_call 17
    have hal:Below w.heap.size w (((w.alloc (.cells #[.int .i64 H,.int .i64 W,.int .i64 C,.slice A n c] 32)).alloc (.cells #[x0,x1,x2,.int .i64 K,.int .i64 S,.int .i64 P,.int .i64 O,.int .i8 Z,.int .i8 Y,.slice WA nW cW,.slice BA nB cB,.int .i32 m1,.int .i64 s1,.int .i8 z1,.int .i32 m2,.int .i64 s2,.int .i8 z2,.int .i8 lo,.int .i8 hi] 28)).alloc (.cells #[.int .i64 0,.int .i64 0,.int .i64 0,.slice none 0 0] 32)):=(((Below.refl _ _).alloc (by first | exact Nat.le_refl _ | (simp;done) | (simp;omega)) _).alloc (by first | exact Nat.le_refl _ | (simp;done) | (simp;omega)) _).alloc (by first | exact Nat.le_refl _ | (simp;done) | (simp;omega)) _
    refine (right_to H W C A n c true HT1.out _).mono ?_
    rintro e w1 ⟨rfl,hb⟩
    have hh:Below w.heap.size w w1:=hal.trans (hb.mono hal.size)
    have qTA:=(boxNew H W C A n c 32) w
    try simp only [World.size_alloc] at qTA
    have TA:=Lib.hid ((qTA.below (B':=w.heap.size+1) (by omega) ((((Below.refl _ _).alloc (by first | exact Nat.le_refl _ | (simp;done) | (simp;omega)) _).alloc (by first | exact Nat.le_refl _ | (simp;done) | (simp;omega)) _).mono (by simp))).below (by first | (simp;done) | (simp;omega)) hb)
    have yTA:w.heap.size < w1.heap.size:=by have:=hb.size;simp at this;omega
    clear qTA
    have qTN:=(NodeAt.new x0 x1 x2 (.int .i8 Y) (.int .i32 m1) (.int .i64 s1) (.int .i8 z1) (.int .i32 m2) (.int .i64 s2) (.int .i8 z2) (.int .i8 lo) (.int .i8 hi) K S P O Z WA BA nW cW nB cB 28) (w.alloc (.cells #[.int .i64 H,.int .i64 W,.int .i64 C,.slice A n c] 32))
    try simp only [World.size_alloc] at qTN
    have TN:=Lib.hid ((qTN.below (B':=w.heap.size+2) (by omega) (((Below.refl _ _).alloc (by first | exact Nat.le_refl _ | (simp;done) | (simp;omega)) _).mono (by simp))).below (by first | (simp;done) | (simp;omega)) hb)
    have yTN:w.heap.size+1 < w1.heap.size:=by have:=hb.size;simp at this;omega
    clear qTN
    have qFR:=(freshNew 32) ((w.alloc (.cells #[.int .i64 H,.int .i64 W,.int .i64 C,.slice A n c] 32)).alloc (.cells #[x0,x1,x2,.int .i64 K,.int .i64 S,.int .i64 P,.int .i64 O,.int .i8 Z,.int .i8 Y,.slice WA nW cW,.slice BA nB cB,.int .i32 m1,.int .i64 s1,.int .i8 z1,.int .i32 m2,.int .i64 s2,.int .i8 z2,.int .i8 lo,.int .i8 hi] 28))
    try simp only [World.size_alloc] at qFR
    have FR:=Lib.hid (qFR.below (by first | (simp;done) | (simp;omega)) hb)
    have yFR:w.heap.size+2 < w1.heap.size:=by have:=hb.size;simp at this;omega
    clear qFR
    replace HRA:=Lib.hid ((HRA.out.below hh).more hh.size)
    have HBW:Hid (Below w.heap.size w w1):=Lib.hid hh
    obtain⟨tap0,tap1,tap2,tap3⟩:=TA.out
    have n11:=TN.out.at 11 _ rfl
    have n12:=TN.out.at 12 _ rfl
    have n13:=TN.out.at 13 _ rfl
    clear hb hh hal)
 | (go_at_call 50
    have hal:Below w1.heap.size w1 w1:=Below.refl _ _
    refine (isRight_to _ _ _ _).mono ?_
    rintro e w2 ⟨rfl,hb⟩
    have hh:Below w1.heap.size w1 w2:=hal.trans (hb.mono hal.size)
    replace TA:=Lib.hid (TA.out.below yTA hh)
    replace yTA:=Nat.lt_of_lt_of_le yTA hh.size
    replace TN:=Lib.hid (TN.out.below yTN hh)
    replace yTN:=Nat.lt_of_lt_of_le yTN hh.size
    replace FR:=Lib.hid (FR.out.below yFR hh)
    replace yFR:=Nat.lt_of_lt_of_le yFR hh.size
    replace HRA:=Lib.hid ((HRA.out.below hh).more hh.size)
    replace HBW:=Lib.hid (HBW.out.trans (hh.mono HBW.out.size))
    clear tap0 tap1 tap2 tap3 n11 n12 n13
    rw [HQ.out]
    obtain⟨tap0,tap1,tap2,tap3⟩:=TA.out
    have n11:=TN.out.at 11 _ rfl
    have n12:=TN.out.at 12 _ rfl
    have n13:=TN.out.at 13 _ rfl
    clear hb hh hal)
 | (go_at_call 60
    have HBW2:=HBW
    have YFR2:=Lib.hid yFR
    have hal:Below w2.heap.size w2 w2:=Below.refl _ _
    refine (each_of H W C A zs n c HN.out hn6 HZ.out (w.heap.size+1) x0 x1 x2 K S P O Z Y WA BA nW cW nB cB m1 s1 z1 m2 s2 z2 lo hi HNB.out F HF.out _ TN.out yTN HRA.out).mono ?_
    rintro e w3 ⟨v3,rfl,ho3,hb⟩
    have hh:Below w2.heap.size w2 w3:=hal.trans (hb.mono hal.size)
    replace TA:=Lib.hid (TA.out.below yTA hh)
    replace yTA:=Nat.lt_of_lt_of_le yTA hh.size
    replace TN:=Lib.hid (TN.out.below yTN hh)
    replace yTN:=Nat.lt_of_lt_of_le yTN hh.size
    replace FR:=Lib.hid (FR.out.below yFR hh)
    replace yFR:=Nat.lt_of_lt_of_le yFR hh.size
    replace HRA:=Lib.hid ((HRA.out.below hh).more hh.size)
    replace HBW:=Lib.hid (HBW.out.trans (hh.mono HBW.out.size))
    clear tap0 tap1 tap2 tap3 n11 n12 n13
    obtain⟨⟨z0,z1,z2,z3⟩,z4,z5,z6,z7⟩:=FR.out
    have HGE:Hid (w.heap.size≤w2.heap.size):=Lib.hid HBW2.out.size
    have HGT:Hid (w.heap.size+2 < w2.heap.size):=Lib.hid YFR2.out
    obtain⟨A3,c3,rfl, -, -, -⟩:=Kit.own_rd ho3
    have HO3:=Lib.hid ho3
    clear ho3
    obtain⟨tap0,tap1,tap2,tap3⟩:=TA.out
    have n11:=TN.out.at 11 _ rfl
    have n12:=TN.out.at 12 _ rfl
    have n13:=TN.out.at 13 _ rfl
    clear hb hh hal))
 refine bodyPost_ret (Kit.results_ct rfl _ _ (w.heap.size+2) 0 [.int .i64 H,.int .i64 W,.int .i64 C,.slice A3 n c3] _ rfl (range_4 (by go_cell) (by go_cell) (by go_cell) (by go_cell)) Tryz.underlying32 rfl (by kernel_rfl)) rfl ?_
 refine⟨_,rfl,Kit.own_base (own_set4 HO3.out ?_) ?_,?_⟩
 any_goals (first | exact HGE.out | exact HGT.out | omega | (simp;done) | (simp;omega))
 exact (((HBW.out.setCell (p:=⟨w.heap.size+2,0,none⟩) (by simp) _).setCell (p:=⟨w.heap.size+2,1,none⟩) (by simp) _).setCell (p:=⟨w.heap.size+2,2,none⟩) (by simp) _).setCell (p:=⟨w.heap.size+2,3,none⟩) (by simp) _
end Go.Proofs.YtkpngknbiecdiaaGreatDoor.CAct
end
section
namespace Go.Proofs.YtkpngknbiecdiaaGreatDoor.CAct
set_option maxRecDepth 100000
open Go Go.ChangeShapes Go.WideShapes Go.ChangeAt Go.RowKit Go.Deep
open Plain CSat CFix CShape CTensor CConv
set_option linter.unusedVariables false
theorem i8b_of {zs:List Int} (h:∀ n∈zs,(Lit.int .i8 n).wf=true):I8b zs:=fun q=>by
 rw [List.getD_eq_getElem?_getD]
 cases hq:zs[q]? with
 | none=>simp
 | some x =>
   have hx:=h x (List.mem_of_getElem? hq)
   have ⟨a,b⟩ : -128≤x∧x≤127:=by simpa [Lit.wf,IntKind.min,IntKind.max,IntKind.signed,IntKind.bits] using hx
   simpa using ⟨a,b⟩
end Go.Proofs.YtkpngknbiecdiaaGreatDoor.CAct
end
section
namespace Go.Proofs.YtkpngknbiecdiaaGreatDoor.CPad
open Go Go.ChangeShapes Go.WideShapes Go.ChangeAt Go.RowKit
open Plain CSat CShape CTensor
set_option linter.unusedVariables false
theorem BoxAt.newq (H W C:Int) (A:Option Addr) (n c:Nat) (T:TypeId) (w:World):BoxAt w.heap.size H W C A n c (w.alloc (.cells #[.int .i64 H,.int .i64 W,.int .i64 C,.slice A n c] T)):=BoxAt.new H W C A n c T w
def rowL (F:Nat→Int) (k:Nat):List Int:=(List.range k).map F
end Go.Proofs.YtkpngknbiecdiaaGreatDoor.CPad
end
section
namespace Go.Proofs.YtkpngknbiecdiaaGreatDoor.CKind
open Go Go.ChangeShapes Go.WideShapes Go.ChangeAt Go.RowKit Go.Deep Go.WideElems
open Plain CSat CFix CShape CTensor CConv
set_option linter.unusedVariables false
set_option linter.unusedSimpArgs false
theorem gVar : Tryz.prog.globalNamed "stepwell/kinds.names" = some 0 := by kernel_rfl
theorem tVar:(Tryz.prog.globals[0]?).map (·.type)=some 168:=by kernel_rfl
def namesZ:List (List UInt8):=[[],[99,111,110,118],[100,101,112,116,104],[100,101,110,115,101],[109,97,120,112,111,111,108],[97,118,103,112,111,111,108],[106,111,105,110],[97,99,116],[112,97,100],[102,108,97,116]]
theorem namesZ_at:∀ n:Nat,n < 10→namesZ[n]?=some (kname n).data.toList:=by decide +kernel
theorem of_laid {W : World} (h : laidMetH Tryz.prog [("stepwell/kinds.names", Rows.laid_stepwell_kinds_names)] W) : NamesIn W := by
 rw [MakeChecks.laidMetH_plain _ _ _ (by kernel_rfl)] at h
 obtain⟨ps,⟨g0,t0,cs0,f0,p0,q0,hg0,ht0,hv0,hd0,_⟩,_,_⟩:=h
 obtain rfl:=Option.some.inj (gVar.symm.trans hg0)
 obtain rfl:=Option.some.inj (tVar.symm.trans ht0)
 obtain⟨xs,m1,rfl,hx1,hlen,hn3,hel⟩:=DataW.trod_array Tryz.underlying168 hd0
 have c1:Tryz.prog.cellsOf 9=1:=by kernel_rfl
 intro n hn
 rw [World.var?_cell hg0 hv0 n]
 have hi:=hel n hn
 rw [c1] at hi
 have hxs:xs.map (·.1)=namesZ.map fun z=>.lit (.string z):=by
  have:=congrArg Prod.fst hx1
  simp only [Rows.laid_stepwell_kinds_names,DataW.agg.injEq] at this
  exact this.symm
 have hxn:(xs.map (·.1))[n]?=some (.lit (.string (kname n).data.toList)):=by
  rw [hxs,List.getElem?_map,namesZ_at n hn];rfl
 rw [List.getElem?_map] at hxn
 obtain⟨x,hx,hx2⟩:=Option.map_eq_some_iff.1 hxn
 rw [hx] at hi
 obtain⟨k,e1,e2,_⟩:=DataW.trod_string Tryz.underlying9 hi
 have hk:k=kname n:=by
  rw [e2] at hx2
  simp only [DataW.lit.injEq,Lit.string.injEq] at hx2
  exact ByteArray.ext (Array.toList_inj.1 hx2)
 subst hk
 have h0:=congrArg (fun l:List Value=>l[0]?) e1
 simpa using h0
end Go.Proofs.YtkpngknbiecdiaaGreatDoor.CKind
end
