/- -/
import Derived.Test.YtoffcaldhojjoaaGreatDoorGVU23
open Go.Lib (hid)
open Nat (le_refl lt_of_succ_lt lt_succ_self)
set_option linter.unusedVariables false
set_option linter.unusedSimpArgs false
set_option maxRecDepth 100000
set_option maxHeartbeats 16000000
namespace Go.Proofs.YtoffcaldhojjoaaGreatDoor
namespace CConv
end CConv
namespace CDense
end CDense
namespace CSat
end CSat
namespace CTensor
end CTensor
open Go Go.ChangeShapes Go.WideShapes Go.ChangeAt Go.RowKit Go.Deep
section
namespace CVerd
open Plain CSat CShape CTensor CConv CDense
theorem rchk_5 (H W C:Int) (WA BA:Option Addr) (nW cW nB cB:Nat) (D N:Int) (h1:zae H W C=false) (w:World) :
  Calls Tryz.prog 20 #[.agg #[.int .i64 H,.int .i64 W,.int .i64 C],.agg #[.slice WA nW cW,.slice BA nB cB,.int .i32 D],.int .i64 N] w fun e' w'=>e'=.returned (.int .i64 5)∧Below w.heap.size w w':=by
 have HB1:=hid (zbe h1)
 clear h1
 go_enter Tryz.func20,Tryz.ntmps20
 go_wp2_with fail
 go_at_call 13
 have hal:Below w.heap.size w ((w.alloc (.cells #[.int .i64 H,.int .i64 W,.int .i64 C] 23)).alloc (.cells #[.slice WA nW cW,.slice BA nB cB,.int .i32 D] 44)):=((Below.refl _ _).alloc (by first | exact le_refl _ | (simp;done) | (simp;omega)) _).alloc (by first | exact le_refl _ | (simp;done) | (simp;omega)) _
 refine (zaf H W C 0 HB1.out _).mono ?_
 rintro e w1 ⟨rfl,hb⟩
 have hh:Below w.heap.size w w1:=hal.trans (hb.mono hal.size)
 have qTS0:=(zao H W C 23) w
 try simp only [World.size_alloc] at qTS0
 have TS0:=hid ((qTS0.below (B':=w.heap.size+1) (by omega) (((Below.refl _ _).alloc (by first | exact le_refl _ | (simp;done) | (simp;omega)) _).mono (by simp))).below (by first | (simp;done) | (simp;omega)) hb)
 have yTS0:w.heap.size < w1.heap.size:=by have:=hb.size;simp at this;omega
 clear qTS0
 have qTH:=(zb0 WA BA nW cW nB cB D 44) (w.alloc (.cells #[.int .i64 H,.int .i64 W,.int .i64 C] 23))
 try simp only [World.size_alloc] at qTH
 have TH:=hid (qTH.below (by first | (simp;done) | (simp;omega)) hb)
 have yTH:w.heap.size+1 < w1.heap.size:=by have:=hb.size;simp at this;omega
 clear qTH
 have HBW:Hid (Below w.heap.size w w1):=hid hh
 obtain⟨ts0p0,ts0p1,ts0p2⟩:=TS0.out
 obtain⟨thp0,thp1,thp2⟩:=TH.out
 clear hb hh hal
 go_wp2_with fail
 go_ret
 exact⟨rfl,HBW.out⟩
theorem rchk_2a (H W C:Int) (WA BA:Option Addr) (nW cW nB cB:Nat) (D N:Int) (h1:zae H W C=true) (h2:N < 2) (w:World) :
  Calls Tryz.prog 20 #[.agg #[.int .i64 H,.int .i64 W,.int .i64 C],.agg #[.slice WA nW cW,.slice BA nB cB,.int .i32 D],.int .i64 N] w fun e' w'=>e'=.returned (.int .i64 2)∧Below w.heap.size w w':=by
 obtain⟨E,hE⟩:∃ E,zam H W C=E:=⟨_,rfl⟩
 have hE9:(E == 0)=false:=by rw [← hE];exact (zb5 H W C h1).1
 have HE:=hid hE
 clear hE
 have q1:(N < 2)=True:=by simp [h2]
 have q2:decide (N < 2)=true:=by simp [h2]
 clear h1
 go_enter Tryz.func20,Tryz.ntmps20
 go_wp2_with fail
 go_at_call 13
 have hal:Below w.heap.size w ((w.alloc (.cells #[.int .i64 H,.int .i64 W,.int .i64 C] 23)).alloc (.cells #[.slice WA nW cW,.slice BA nB cB,.int .i32 D] 44)):=((Below.refl _ _).alloc (by first | exact le_refl _ | (simp;done) | (simp;omega)) _).alloc (by first | exact le_refl _ | (simp;done) | (simp;omega)) _
 refine (zaf H W C E HE.out _).mono ?_
 rintro e w1 ⟨rfl,hb⟩
 have hh:Below w.heap.size w w1:=hal.trans (hb.mono hal.size)
 have qTS0:=(zao H W C 23) w
 try simp only [World.size_alloc] at qTS0
 have TS0:=hid ((qTS0.below (B':=w.heap.size+1) (by omega) (((Below.refl _ _).alloc (by first | exact le_refl _ | (simp;done) | (simp;omega)) _).mono (by simp))).below (by first | (simp;done) | (simp;omega)) hb)
 have yTS0:w.heap.size < w1.heap.size:=by have:=hb.size;simp at this;omega
 clear qTS0
 have qTH:=(zb0 WA BA nW cW nB cB D 44) (w.alloc (.cells #[.int .i64 H,.int .i64 W,.int .i64 C] 23))
 try simp only [World.size_alloc] at qTH
 have TH:=hid (qTH.below (by first | (simp;done) | (simp;omega)) hb)
 have yTH:w.heap.size+1 < w1.heap.size:=by have:=hb.size;simp at this;omega
 clear qTH
 have HBW:Hid (Below w.heap.size w w1):=hid hh
 obtain⟨ts0p0,ts0p1,ts0p2⟩:=TS0.out
 obtain⟨thp0,thp1,thp2⟩:=TH.out
 clear hb hh hal
 go_wp2_with fail
 go_ret
 exact⟨rfl,HBW.out⟩
theorem rchk_2b (H W C:Int) (WA BA:Option Addr) (nW cW nB cB:Nat) (D N:Int) (h1:zae H W C=true) (h2:¬ N < 2) (h3:16 < N) (w:World) :
  Calls Tryz.prog 20 #[.agg #[.int .i64 H,.int .i64 W,.int .i64 C],.agg #[.slice WA nW cW,.slice BA nB cB,.int .i32 D],.int .i64 N] w fun e' w'=>e'=.returned (.int .i64 2)∧Below w.heap.size w w':=by
 obtain⟨E,hE⟩:∃ E,zam H W C=E:=⟨_,rfl⟩
 have hE9:(E == 0)=false:=by rw [← hE];exact (zb5 H W C h1).1
 have HE:=hid hE
 clear hE
 have q1:decide (N < 2)=false:=by simp [h2]
 have q2:(16 < N)=True:=by simp [h3]
 have q3:decide (16 < N)=true:=by simp [h3]
 clear h1
 go_enter Tryz.func20,Tryz.ntmps20
 go_wp2_with fail
 go_at_call 13
 have hal:Below w.heap.size w ((w.alloc (.cells #[.int .i64 H,.int .i64 W,.int .i64 C] 23)).alloc (.cells #[.slice WA nW cW,.slice BA nB cB,.int .i32 D] 44)):=((Below.refl _ _).alloc (by first | exact le_refl _ | (simp;done) | (simp;omega)) _).alloc (by first | exact le_refl _ | (simp;done) | (simp;omega)) _
 refine (zaf H W C E HE.out _).mono ?_
 rintro e w1 ⟨rfl,hb⟩
 have hh:Below w.heap.size w w1:=hal.trans (hb.mono hal.size)
 have qTS0:=(zao H W C 23) w
 try simp only [World.size_alloc] at qTS0
 have TS0:=hid ((qTS0.below (B':=w.heap.size+1) (by omega) (((Below.refl _ _).alloc (by first | exact le_refl _ | (simp;done) | (simp;omega)) _).mono (by simp))).below (by first | (simp;done) | (simp;omega)) hb)
 have yTS0:w.heap.size < w1.heap.size:=by have:=hb.size;simp at this;omega
 clear qTS0
 have qTH:=(zb0 WA BA nW cW nB cB D 44) (w.alloc (.cells #[.int .i64 H,.int .i64 W,.int .i64 C] 23))
 try simp only [World.size_alloc] at qTH
 have TH:=hid (qTH.below (by first | (simp;done) | (simp;omega)) hb)
 have yTH:w.heap.size+1 < w1.heap.size:=by have:=hb.size;simp at this;omega
 clear qTH
 have HBW:Hid (Below w.heap.size w w1):=hid hh
 obtain⟨ts0p0,ts0p1,ts0p2⟩:=TS0.out
 obtain⟨thp0,thp1,thp2⟩:=TH.out
 clear hb hh hal
 go_wp2_with fail
 go_ret
 exact⟨rfl,HBW.out⟩
theorem rchk_w1 (H W C:Int) (WA BA:Option Addr) (nW cW nB cB:Nat) (D N:Int) (h1:zae H W C=true) (h2:¬ (N < 2∨16 < N)) (hw:(nW:Int)≠N * zam H W C) (w:World) :
  Calls Tryz.prog 20 #[.agg #[.int .i64 H,.int .i64 W,.int .i64 C],.agg #[.slice WA nW cW,.slice BA nB cB,.int .i32 D],.int .i64 N] w fun e' w'=>e'=.returned (.int .i64 9)∧Below w.heap.size w w':=by
 obtain⟨hN0,hN1,hN2⟩:=zb5 H W C h1
 obtain⟨E,hE⟩:∃ E,zam H W C=E:=⟨_,rfl⟩
 rw [hE] at hN0 hN1 hN2 hw
 obtain⟨q,hq⟩:∃ q,N * E=q:=⟨_,rfl⟩
 have hqb:0≤q∧q≤16384:=by
  rw [← hq]
  exact⟨Int.mul_nonneg (by omega) (by omega),Int.le_trans (Int.mul_le_mul (show N≤16 by omega) hN2 (by omega) (by omega)) (by omega)⟩
 have hmul:IntKind.i64.wrap (N * E)=q:=by rw [hq];exact IntWalk.i64_in _ (by omega)
 rw [hq] at hw
 have hE9:¬ E=0:=by omega
 have q1:decide (N < 2)=false:=by simp;omega
 have q2:decide (16 < N)=false:=by simp;omega
 have q3:¬ N < 2:=by omega
 have q4:¬ 16 < N:=by omega
 have hwb:((nW:Int) != q)=true:=by simpa using hw
 have hwd:¬ (nW:Int)=q:=hw
 have HB1:=hid h1
 have HE:=hid hE
 clear h1 hE hq h2 hw
 go_enter Tryz.func20,Tryz.ntmps20
 go_wp2_with fail
 go_at_call 13
 have hal:Below w.heap.size w ((w.alloc (.cells #[.int .i64 H,.int .i64 W,.int .i64 C] 23)).alloc (.cells #[.slice WA nW cW,.slice BA nB cB,.int .i32 D] 44)):=((Below.refl _ _).alloc (by first | exact le_refl _ | (simp;done) | (simp;omega)) _).alloc (by first | exact le_refl _ | (simp;done) | (simp;omega)) _
 refine (zaf H W C E HE.out _).mono ?_
 rintro e w1 ⟨rfl,hb⟩
 have hh:Below w.heap.size w w1:=hal.trans (hb.mono hal.size)
 have qTS0:=(zao H W C 23) w
 try simp only [World.size_alloc] at qTS0
 have TS0:=hid ((qTS0.below (B':=w.heap.size+1) (by omega) (((Below.refl _ _).alloc (by first | exact le_refl _ | (simp;done) | (simp;omega)) _).mono (by simp))).below (by first | (simp;done) | (simp;omega)) hb)
 have yTS0:w.heap.size < w1.heap.size:=by have:=hb.size;simp at this;omega
 clear qTS0
 have qTH:=(zb0 WA BA nW cW nB cB D 44) (w.alloc (.cells #[.int .i64 H,.int .i64 W,.int .i64 C] 23))
 try simp only [World.size_alloc] at qTH
 have TH:=hid (qTH.below (by first | (simp;done) | (simp;omega)) hb)
 have yTH:w.heap.size+1 < w1.heap.size:=by have:=hb.size;simp at this;omega
 clear qTH
 have HBW:Hid (Below w.heap.size w w1):=hid hh
 obtain⟨ts0p0,ts0p1,ts0p2⟩:=TS0.out
 obtain⟨thp0,thp1,thp2⟩:=TH.out
 clear hb hh hal
 go_upto_region 5 with fail
 refine wp_region_held_drew (S:=fun w'=>(w'.cell? ⟨w.heap.size,0,none⟩=some (.int .i64 H)∧w'.cell? ⟨w.heap.size,1,none⟩=some (.int .i64 W)∧w'.cell? ⟨w.heap.size,2,none⟩=some (.int .i64 C))∧HeadAt (w.heap.size+1) WA BA nW cW nB cB D w') (by kernel_rfl) ⟨⟨ts0p0,ts0p1,ts0p2⟩,TH.out⟩ (fun hHeld=>?_)
 replace HBW:=hid HBW.out.drew
 have hsz:w.heap.size+1 < w1.drew.heap.size:=yTH
 clear TH TS0 thp0 thp1 thp2 ts0p0 ts0p1 ts0p2 yTH yTS0
 generalize w1.drew=Wd at HBW hsz hHeld ⊢
 refine Tk.x 0 rfl ?_
 try simp only [Tk.put]
 refine Tk.y 1 (v:=?_) rfl ?_ ?_
 rotate_left
 ·intro wS hSw
  obtain⟨⟨s1,s2,s3⟩,s4,s5,s6⟩:=hSw
  first | (go_simp;done) | (go_simp;with_reducible rfl)
 try simp only [Tk.put]
 refine Tk.x 2 rfl ?_
 try simp only [Tk.put]
 refine Tk.x 3 rfl ?_
 try simp only [Tk.put]
 refine Tk.y 4 (v:=?_) rfl ?_ ?_
 rotate_left
 ·intro wS hSw
  obtain⟨⟨s1,s2,s3⟩,s4,s5,s6⟩:=hSw
  first | (go_simp;done) | (go_simp;with_reducible rfl)
 try simp only [Tk.put]
 refine Tk.s 5 rfl (fun K hK=>?_)
 go_simp
 go_at_call 13
 refine (zaf H W C E HE.out _).mono ?_
 rintro e we ⟨rfl,hb⟩
 have hS1:=And.intro (And.intro ((hb.cell (p:=⟨w.heap.size,0,none⟩) (by simp;omega)).trans hHeld.1.1) (And.intro ((hb.cell (p:=⟨w.heap.size,1,none⟩) (by simp;omega)).trans hHeld.1.2.1) ((hb.cell (p:=⟨w.heap.size,2,none⟩) (by simp;omega)).trans hHeld.1.2.2))) (hHeld.2.below hsz hb)
 replace HBW:=hid (HBW.out.trans (hb.mono HBW.out.size))
 replace hsz:=Nat.lt_of_lt_of_le hsz hb.size
 clear hb hHeld
 dsimp only
 refine hK.out _ _ ?_ (fun hHeld=>?_)
 ·exact hS1
 clear hK K
 try simp only [Tk.put]
 refine Tk.x 6 rfl ?_
 try simp only [Tk.put]
 refine Tk.x 7 rfl ?_
 try simp only [Tk.put]
 refine Tk.x 8 rfl ?_
 try simp only [Tk.put]
 refine Tk.t 9 (v:=undef) rfl (Or.inr ⟨by rfl,rfl⟩) (by assumption) ?_
 try simp only [Tk.put]
 refine Tk.t 10 (v:=undef) rfl (Or.inr ⟨by rfl,rfl⟩) (by assumption) ?_
 try simp only [Tk.put]
 refine Tk.t 11 (v:=undef) rfl (Or.inr ⟨by rfl,rfl⟩) (by assumption) ?_
 try simp only [Tk.put]
 refine Tk.t 12 (v:=undef) rfl (Or.inr ⟨by rfl,rfl⟩) (by assumption) ?_
 try simp only [Tk.put]
 refine Tk.x 13 rfl ?_
 try simp only [Tk.put]
 refine Tk.x 14 rfl ?_
 try simp only [Tk.put]
 refine Tk.t 15 (v:=undef) rfl (Or.inr ⟨by rfl,rfl⟩) (by assumption) ?_
 try simp only [Tk.put]
 refine Tk.t 16 (v:=undef) rfl (Or.inr ⟨by rfl,rfl⟩) (by assumption) ?_
 try simp only [Tk.put]
 refine Tk.t 17 (v:=undef) rfl (Or.inr ⟨by rfl,rfl⟩) (by assumption) ?_
 try simp only [Tk.put]
 refine Tk.t 18 (v:=undef) rfl (Or.inr ⟨by rfl,rfl⟩) (by assumption) ?_
 try simp only [Tk.put]
 refine Tk.t 19 (v:=undef) rfl (Or.inr ⟨by rfl,rfl⟩) (by assumption) ?_
 try simp only [Tk.put]
 refine Tk.x 20 rfl ?_
 try simp only [Tk.put]
 refine wpAnyH_done (by kernel_rfl) ?_ _
 obtain⟨⟨s1,s2,s3⟩,s4,s5,s6⟩:=hHeld
 go_wp2_with fail
 go_ret
 exact⟨rfl,HBW.out⟩
theorem rchk_w2 (H W C:Int) (WA BA:Option Addr) (nW cW nB cB:Nat) (D N:Int) (h1:zae H W C=true) (h2:¬ (N < 2∨16 < N)) (hw:(nW:Int)=N * zam H W C) (hw2:16384 < nW) (w:World) :
  Calls Tryz.prog 20 #[.agg #[.int .i64 H,.int .i64 W,.int .i64 C],.agg #[.slice WA nW cW,.slice BA nB cB,.int .i32 D],.int .i64 N] w fun e' w'=>e'=.returned (.int .i64 9)∧Below w.heap.size w w':=by
 obtain⟨hN0,hN1,hN2⟩:=zb5 H W C h1
 obtain⟨E,hE⟩:∃ E,zam H W C=E:=⟨_,rfl⟩
 rw [hE] at hN0 hN1 hN2 hw
 obtain⟨q,hq⟩:∃ q,N * E=q:=⟨_,rfl⟩
 have hqb:0≤q∧q≤16384:=by
  rw [← hq]
  exact⟨Int.mul_nonneg (by omega) (by omega),Int.le_trans (Int.mul_le_mul (show N≤16 by omega) hN2 (by omega) (by omega)) (by omega)⟩
 have hmul:IntKind.i64.wrap (N * E)=q:=by rw [hq];exact IntWalk.i64_in _ (by omega)
 rw [hq] at hw
 have hE9:¬ E=0:=by omega
 have q1:decide (N < 2)=false:=by simp;omega
 have q2:decide (16 < N)=false:=by simp;omega
 have q3:¬ N < 2:=by omega
 have q4:¬ 16 < N:=by omega
 subst hw
 have hw3:(16384:Int) < (nW:Int):=by omega
 have HB1:=hid h1
 have HE:=hid hE
 clear h1 hE hq h2
 go_enter Tryz.func20,Tryz.ntmps20
 go_wp2_with fail
 go_at_call 13
 have hal:Below w.heap.size w ((w.alloc (.cells #[.int .i64 H,.int .i64 W,.int .i64 C] 23)).alloc (.cells #[.slice WA nW cW,.slice BA nB cB,.int .i32 D] 44)):=((Below.refl _ _).alloc (by first | exact le_refl _ | (simp;done) | (simp;omega)) _).alloc (by first | exact le_refl _ | (simp;done) | (simp;omega)) _
 refine (zaf H W C E HE.out _).mono ?_
 rintro e w1 ⟨rfl,hb⟩
 have hh:Below w.heap.size w w1:=hal.trans (hb.mono hal.size)
 have qTS0:=(zao H W C 23) w
 try simp only [World.size_alloc] at qTS0
 have TS0:=hid ((qTS0.below (B':=w.heap.size+1) (by omega) (((Below.refl _ _).alloc (by first | exact le_refl _ | (simp;done) | (simp;omega)) _).mono (by simp))).below (by first | (simp;done) | (simp;omega)) hb)
 have yTS0:w.heap.size < w1.heap.size:=by have:=hb.size;simp at this;omega
 clear qTS0
 have qTH:=(zb0 WA BA nW cW nB cB D 44) (w.alloc (.cells #[.int .i64 H,.int .i64 W,.int .i64 C] 23))
 try simp only [World.size_alloc] at qTH
 have TH:=hid (qTH.below (by first | (simp;done) | (simp;omega)) hb)
 have yTH:w.heap.size+1 < w1.heap.size:=by have:=hb.size;simp at this;omega
 clear qTH
 have HBW:Hid (Below w.heap.size w w1):=hid hh
 obtain⟨ts0p0,ts0p1,ts0p2⟩:=TS0.out
 obtain⟨thp0,thp1,thp2⟩:=TH.out
 clear hb hh hal
 go_upto_region 5 with fail
 refine wp_region_held_drew (S:=fun w'=>(w'.cell? ⟨w.heap.size,0,none⟩=some (.int .i64 H)∧w'.cell? ⟨w.heap.size,1,none⟩=some (.int .i64 W)∧w'.cell? ⟨w.heap.size,2,none⟩=some (.int .i64 C))∧HeadAt (w.heap.size+1) WA BA nW cW nB cB D w') (by kernel_rfl) ⟨⟨ts0p0,ts0p1,ts0p2⟩,TH.out⟩ (fun hHeld=>?_)
 replace HBW:=hid HBW.out.drew
 have hsz:w.heap.size+1 < w1.drew.heap.size:=yTH
 clear TH TS0 thp0 thp1 thp2 ts0p0 ts0p1 ts0p2 yTH yTS0
 generalize w1.drew=Wd at HBW hsz hHeld ⊢
 refine Tk.x 0 rfl ?_
 try simp only [Tk.put]
 refine Tk.y 1 (v:=?_) rfl ?_ ?_
 rotate_left
 ·intro wS hSw
  obtain⟨⟨s1,s2,s3⟩,s4,s5,s6⟩:=hSw
  first | (go_simp;done) | (go_simp;with_reducible rfl)
 try simp only [Tk.put]
 refine Tk.x 2 rfl ?_
 try simp only [Tk.put]
 refine Tk.x 3 rfl ?_
 try simp only [Tk.put]
 refine Tk.y 4 (v:=?_) rfl ?_ ?_
 rotate_left
 ·intro wS hSw
  obtain⟨⟨s1,s2,s3⟩,s4,s5,s6⟩:=hSw
  first | (go_simp;done) | (go_simp;with_reducible rfl)
 try simp only [Tk.put]
 refine Tk.s 5 rfl (fun K hK=>?_)
 go_simp
 go_at_call 13
 refine (zaf H W C E HE.out _).mono ?_
 rintro e we ⟨rfl,hb⟩
 have hS1:=And.intro (And.intro ((hb.cell (p:=⟨w.heap.size,0,none⟩) (by simp;omega)).trans hHeld.1.1) (And.intro ((hb.cell (p:=⟨w.heap.size,1,none⟩) (by simp;omega)).trans hHeld.1.2.1) ((hb.cell (p:=⟨w.heap.size,2,none⟩) (by simp;omega)).trans hHeld.1.2.2))) (hHeld.2.below hsz hb)
 replace HBW:=hid (HBW.out.trans (hb.mono HBW.out.size))
 replace hsz:=Nat.lt_of_lt_of_le hsz hb.size
 clear hb hHeld
 dsimp only
 refine hK.out _ _ ?_ (fun hHeld=>?_)
 ·exact hS1
 clear hK K
 try simp only [Tk.put]
 refine Tk.x 6 rfl ?_
 try simp only [Tk.put]
 refine Tk.x 7 rfl ?_
 try simp only [Tk.put]
 refine Tk.x 8 rfl ?_
 try simp only [Tk.put]
 refine Tk.x 9 rfl ?_
 try simp only [Tk.put]
 refine Tk.y 10 (v:=?_) rfl ?_ ?_
 rotate_left
 ·intro wS hSw
  obtain⟨⟨s1,s2,s3⟩,s4,s5,s6⟩:=hSw
  first | (go_simp;done) | (go_simp;with_reducible rfl)
 try simp only [Tk.put]
 refine Tk.x 11 rfl ?_
 try simp only [Tk.put]
 refine Tk.x 12 rfl ?_
 try simp only [Tk.put]
 refine Tk.x 13 rfl ?_
 try simp only [Tk.put]
 refine Tk.x 14 rfl ?_
 try simp only [Tk.put]
 refine Tk.t 15 (v:=undef) rfl (Or.inr ⟨by rfl,rfl⟩) (by assumption) ?_
 try simp only [Tk.put]
 refine Tk.t 16 (v:=undef) rfl (Or.inr ⟨by rfl,rfl⟩) (by assumption) ?_
 try simp only [Tk.put]
 refine Tk.t 17 (v:=undef) rfl (Or.inr ⟨by rfl,rfl⟩) (by assumption) ?_
 try simp only [Tk.put]
 refine Tk.t 18 (v:=undef) rfl (Or.inr ⟨by rfl,rfl⟩) (by assumption) ?_
 try simp only [Tk.put]
 refine Tk.t 19 (v:=undef) rfl (Or.inr ⟨by rfl,rfl⟩) (by assumption) ?_
 try simp only [Tk.put]
 refine Tk.x 20 rfl ?_
 try simp only [Tk.put]
 refine wpAnyH_done (by kernel_rfl) ?_ _
 obtain⟨⟨s1,s2,s3⟩,s4,s5,s6⟩:=hHeld
 go_wp2_with fail
 go_ret
 exact⟨rfl,HBW.out⟩
theorem rchk_w3 (H W C:Int) (WA BA:Option Addr) (nW cW nB cB:Nat) (D N:Int) (h1:zae H W C=true) (h2:¬ (N < 2∨16 < N)) (hw:(nW:Int)=N * zam H W C) (hw2:nW≤16384) (hb:(nB:Int)≠N) (w:World) :
  Calls Tryz.prog 20 #[.agg #[.int .i64 H,.int .i64 W,.int .i64 C],.agg #[.slice WA nW cW,.slice BA nB cB,.int .i32 D],.int .i64 N] w fun e' w'=>e'=.returned (.int .i64 9)∧Below w.heap.size w w':=by
 obtain⟨hN0,hN1,hN2⟩:=zb5 H W C h1
 obtain⟨E,hE⟩:∃ E,zam H W C=E:=⟨_,rfl⟩
 rw [hE] at hN0 hN1 hN2 hw
 obtain⟨q,hq⟩:∃ q,N * E=q:=⟨_,rfl⟩
 have hqb:0≤q∧q≤16384:=by
  rw [← hq]
  exact⟨Int.mul_nonneg (by omega) (by omega),Int.le_trans (Int.mul_le_mul (show N≤16 by omega) hN2 (by omega) (by omega)) (by omega)⟩
 have hmul:IntKind.i64.wrap (N * E)=q:=by rw [hq];exact IntWalk.i64_in _ (by omega)
 rw [hq] at hw
 have hE9:¬ E=0:=by omega
 have q1:decide (N < 2)=false:=by simp;omega
 have q2:decide (16 < N)=false:=by simp;omega
 have q3:¬ N < 2:=by omega
 have q4:¬ 16 < N:=by omega
 subst hw
 have hw3:(nW:Int)≤16384:=by omega
 have hw4:¬ (16384:Int) < (nW:Int):=by omega
 have hd1:decide ((16384:Int) < (nW:Int))=false:=by simp;omega
 have hd2:decide (16384 < nW)=false:=by simp;omega
 have hbb:((nB:Int) != N)=true:=by simpa using hb
 have HB1:=hid h1
 have HE:=hid hE
 clear h1 hE hq h2 hb
 go_enter Tryz.func20,Tryz.ntmps20
 go_wp2_with fail
 go_at_call 13
 have hal:Below w.heap.size w ((w.alloc (.cells #[.int .i64 H,.int .i64 W,.int .i64 C] 23)).alloc (.cells #[.slice WA nW cW,.slice BA nB cB,.int .i32 D] 44)):=((Below.refl _ _).alloc (by first | exact le_refl _ | (simp;done) | (simp;omega)) _).alloc (by first | exact le_refl _ | (simp;done) | (simp;omega)) _
 refine (zaf H W C E HE.out _).mono ?_
 rintro e w1 ⟨rfl,hb⟩
 have hh:Below w.heap.size w w1:=hal.trans (hb.mono hal.size)
 have qTS0:=(zao H W C 23) w
 try simp only [World.size_alloc] at qTS0
 have TS0:=hid ((qTS0.below (B':=w.heap.size+1) (by omega) (((Below.refl _ _).alloc (by first | exact le_refl _ | (simp;done) | (simp;omega)) _).mono (by simp))).below (by first | (simp;done) | (simp;omega)) hb)
 have yTS0:w.heap.size < w1.heap.size:=by have:=hb.size;simp at this;omega
 clear qTS0
 have qTH:=(zb0 WA BA nW cW nB cB D 44) (w.alloc (.cells #[.int .i64 H,.int .i64 W,.int .i64 C] 23))
 try simp only [World.size_alloc] at qTH
 have TH:=hid (qTH.below (by first | (simp;done) | (simp;omega)) hb)
 have yTH:w.heap.size+1 < w1.heap.size:=by have:=hb.size;simp at this;omega
 clear qTH
 have HBW:Hid (Below w.heap.size w w1):=hid hh
 obtain⟨ts0p0,ts0p1,ts0p2⟩:=TS0.out
 obtain⟨thp0,thp1,thp2⟩:=TH.out
 clear hb hh hal
 go_upto_region 5 with fail
 refine wp_region_held_drew (S:=fun w'=>(w'.cell? ⟨w.heap.size,0,none⟩=some (.int .i64 H)∧w'.cell? ⟨w.heap.size,1,none⟩=some (.int .i64 W)∧w'.cell? ⟨w.heap.size,2,none⟩=some (.int .i64 C))∧HeadAt (w.heap.size+1) WA BA nW cW nB cB D w') (by kernel_rfl) ⟨⟨ts0p0,ts0p1,ts0p2⟩,TH.out⟩ (fun hHeld=>?_)
 replace HBW:=hid HBW.out.drew
 have hsz:w.heap.size+1 < w1.drew.heap.size:=yTH
 clear TH TS0 thp0 thp1 thp2 ts0p0 ts0p1 ts0p2 yTH yTS0
 generalize w1.drew=Wd at HBW hsz hHeld ⊢
 refine Tk.x 0 rfl ?_
 try simp only [Tk.put]
 refine Tk.y 1 (v:=?_) rfl ?_ ?_
 rotate_left
 ·intro wS hSw
  obtain⟨⟨s1,s2,s3⟩,s4,s5,s6⟩:=hSw
  first | (go_simp;done) | (go_simp;with_reducible rfl)
 try simp only [Tk.put]
 refine Tk.x 2 rfl ?_
 try simp only [Tk.put]
 refine Tk.x 3 rfl ?_
 try simp only [Tk.put]
 refine Tk.y 4 (v:=?_) rfl ?_ ?_
 rotate_left
 ·intro wS hSw
  obtain⟨⟨s1,s2,s3⟩,s4,s5,s6⟩:=hSw
  first | (go_simp;done) | (go_simp;with_reducible rfl)
 try simp only [Tk.put]
 refine Tk.s 5 rfl (fun K hK=>?_)
 go_simp
 go_at_call 13
 refine (zaf H W C E HE.out _).mono ?_
 rintro e we ⟨rfl,hb⟩
 have hS1:=And.intro (And.intro ((hb.cell (p:=⟨w.heap.size,0,none⟩) (by simp;omega)).trans hHeld.1.1) (And.intro ((hb.cell (p:=⟨w.heap.size,1,none⟩) (by simp;omega)).trans hHeld.1.2.1) ((hb.cell (p:=⟨w.heap.size,2,none⟩) (by simp;omega)).trans hHeld.1.2.2))) (hHeld.2.below hsz hb)
 replace HBW:=hid (HBW.out.trans (hb.mono HBW.out.size))
 replace hsz:=Nat.lt_of_lt_of_le hsz hb.size
 clear hb hHeld
 dsimp only
 refine hK.out _ _ ?_ (fun hHeld=>?_)
 ·exact hS1
 clear hK K
 try simp only [Tk.put]
 refine Tk.x 6 rfl ?_
 try simp only [Tk.put]
 refine Tk.x 7 rfl ?_
 try simp only [Tk.put]
 refine Tk.x 8 rfl ?_
 try simp only [Tk.put]
 refine Tk.x 9 rfl ?_
 try simp only [Tk.put]
 refine Tk.y 10 (v:=?_) rfl ?_ ?_
 rotate_left
 ·intro wS hSw
  obtain⟨⟨s1,s2,s3⟩,s4,s5,s6⟩:=hSw
  first | (go_simp;done) | (go_simp;with_reducible rfl)
 try simp only [Tk.put]
 refine Tk.x 11 rfl ?_
 try simp only [Tk.put]
 refine Tk.x 12 rfl ?_
 try simp only [Tk.put]
 refine Tk.x 13 rfl ?_
 try simp only [Tk.put]
 refine Tk.x 14 rfl ?_
 try simp only [Tk.put]
 refine Tk.x 15 rfl ?_
 try simp only [Tk.put]
 refine Tk.y 16 (v:=?_) rfl ?_ ?_
 rotate_left
 ·intro wS hSw
  obtain⟨⟨s1,s2,s3⟩,s4,s5,s6⟩:=hSw
  first | (go_simp;done) | (go_simp;with_reducible rfl)
 try simp only [Tk.put]
 refine Tk.x 17 rfl ?_
 try simp only [Tk.put]
 refine Tk.x 18 rfl ?_
 try simp only [Tk.put]
 refine Tk.x 19 rfl ?_
 try simp only [Tk.put]
 refine Tk.x 20 rfl ?_
 try simp only [Tk.put]
 refine wpAnyH_done (by kernel_rfl) ?_ _
 obtain⟨⟨s1,s2,s3⟩,s4,s5,s6⟩:=hHeld
 go_wp2_with fail
 go_ret
 exact⟨rfl,HBW.out⟩
theorem rchk_11 (H W C:Int) (WA BA:Option Addr) (nW cW nB cB:Nat) (D N:Int) (h1:zae H W C=true) (h2:¬ (N < 2∨16 < N)) (hw:(nW:Int)=N * zam H W C) (hw2:nW≤16384) (hb:(nB:Int)=N) (h4:D < 0) (w:World) :
  Calls Tryz.prog 20 #[.agg #[.int .i64 H,.int .i64 W,.int .i64 C],.agg #[.slice WA nW cW,.slice BA nB cB,.int .i32 D],.int .i64 N] w fun e' w'=>e'=.returned (.int .i64 11)∧Below w.heap.size w w':=by
 obtain⟨hN0,hN1,hN2⟩:=zb5 H W C h1
 obtain⟨E,hE⟩:∃ E,zam H W C=E:=⟨_,rfl⟩
 rw [hE] at hN0 hN1 hN2 hw
 obtain⟨q,hq⟩:∃ q,N * E=q:=⟨_,rfl⟩
 have hqb:0≤q∧q≤16384:=by
  rw [← hq]
  exact⟨Int.mul_nonneg (by omega) (by omega),Int.le_trans (Int.mul_le_mul (show N≤16 by omega) hN2 (by omega) (by omega)) (by omega)⟩
 have hmul:IntKind.i64.wrap (N * E)=q:=by rw [hq];exact IntWalk.i64_in _ (by omega)
 rw [hq] at hw
 have hE9:¬ E=0:=by omega
 have q1:decide (N < 2)=false:=by simp;omega
 have q2:decide (16 < N)=false:=by simp;omega
 have q3:¬ N < 2:=by omega
 have q4:¬ 16 < N:=by omega
 have q5:decide (D < 0)=true:=by simp [h4]
 have q6:(D < 0)=True:=by simp [h4]
 subst hw
 have hw3:(nW:Int)≤16384:=by omega
 have hw4:¬ (16384:Int) < (nW:Int):=by omega
 have hd1:decide ((16384:Int) < (nW:Int))=false:=by simp;omega
 have hd2:decide (16384 < nW)=false:=by simp;omega
 have hbb:((nB:Int) != N)=false:=by simpa using hb
 have HB1:=hid h1
 have HE:=hid hE
 clear h1 hE hq h2
 go_enter Tryz.func20,Tryz.ntmps20
 go_wp2_with fail
 go_at_call 13
 have hal:Below w.heap.size w ((w.alloc (.cells #[.int .i64 H,.int .i64 W,.int .i64 C] 23)).alloc (.cells #[.slice WA nW cW,.slice BA nB cB,.int .i32 D] 44)):=((Below.refl _ _).alloc (by first | exact le_refl _ | (simp;done) | (simp;omega)) _).alloc (by first | exact le_refl _ | (simp;done) | (simp;omega)) _
 refine (zaf H W C E HE.out _).mono ?_
 rintro e w1 ⟨rfl,hb⟩
 have hh:Below w.heap.size w w1:=hal.trans (hb.mono hal.size)
 have qTS0:=(zao H W C 23) w
 try simp only [World.size_alloc] at qTS0
 have TS0:=hid ((qTS0.below (B':=w.heap.size+1) (by omega) (((Below.refl _ _).alloc (by first | exact le_refl _ | (simp;done) | (simp;omega)) _).mono (by simp))).below (by first | (simp;done) | (simp;omega)) hb)
 have yTS0:w.heap.size < w1.heap.size:=by have:=hb.size;simp at this;omega
 clear qTS0
 have qTH:=(zb0 WA BA nW cW nB cB D 44) (w.alloc (.cells #[.int .i64 H,.int .i64 W,.int .i64 C] 23))
 try simp only [World.size_alloc] at qTH
 have TH:=hid (qTH.below (by first | (simp;done) | (simp;omega)) hb)
 have yTH:w.heap.size+1 < w1.heap.size:=by have:=hb.size;simp at this;omega
 clear qTH
 have HBW:Hid (Below w.heap.size w w1):=hid hh
 obtain⟨ts0p0,ts0p1,ts0p2⟩:=TS0.out
 obtain⟨thp0,thp1,thp2⟩:=TH.out
 clear hb hh hal
 go_upto_region 5 with fail
 refine wp_region_held_drew (S:=fun w'=>(w'.cell? ⟨w.heap.size,0,none⟩=some (.int .i64 H)∧w'.cell? ⟨w.heap.size,1,none⟩=some (.int .i64 W)∧w'.cell? ⟨w.heap.size,2,none⟩=some (.int .i64 C))∧HeadAt (w.heap.size+1) WA BA nW cW nB cB D w') (by kernel_rfl) ⟨⟨ts0p0,ts0p1,ts0p2⟩,TH.out⟩ (fun hHeld=>?_)
 replace HBW:=hid HBW.out.drew
 have hsz:w.heap.size+1 < w1.drew.heap.size:=yTH
 clear TH TS0 thp0 thp1 thp2 ts0p0 ts0p1 ts0p2 yTH yTS0
 generalize w1.drew=Wd at HBW hsz hHeld ⊢
 refine Tk.x 0 rfl ?_
 try simp only [Tk.put]
 refine Tk.y 1 (v:=?_) rfl ?_ ?_
 rotate_left
 ·intro wS hSw
  obtain⟨⟨s1,s2,s3⟩,s4,s5,s6⟩:=hSw
  first | (go_simp;done) | (go_simp;with_reducible rfl)
 try simp only [Tk.put]
 refine Tk.x 2 rfl ?_
 try simp only [Tk.put]
 refine Tk.x 3 rfl ?_
 try simp only [Tk.put]
 refine Tk.y 4 (v:=?_) rfl ?_ ?_
 rotate_left
 ·intro wS hSw
  obtain⟨⟨s1,s2,s3⟩,s4,s5,s6⟩:=hSw
  first | (go_simp;done) | (go_simp;with_reducible rfl)
 try simp only [Tk.put]
 refine Tk.s 5 rfl (fun K hK=>?_)
 go_simp
 go_at_call 13
 refine (zaf H W C E HE.out _).mono ?_
 rintro e we ⟨rfl,hb⟩
 have hS1:=And.intro (And.intro ((hb.cell (p:=⟨w.heap.size,0,none⟩) (by simp;omega)).trans hHeld.1.1) (And.intro ((hb.cell (p:=⟨w.heap.size,1,none⟩) (by simp;omega)).trans hHeld.1.2.1) ((hb.cell (p:=⟨w.heap.size,2,none⟩) (by simp;omega)).trans hHeld.1.2.2))) (hHeld.2.below hsz hb)
 replace HBW:=hid (HBW.out.trans (hb.mono HBW.out.size))
 replace hsz:=Nat.lt_of_lt_of_le hsz hb.size
 clear hb hHeld
 dsimp only
 refine hK.out _ _ ?_ (fun hHeld=>?_)
 ·exact hS1
 clear hK K
 try simp only [Tk.put]
 refine Tk.x 6 rfl ?_
 try simp only [Tk.put]
 refine Tk.x 7 rfl ?_
 try simp only [Tk.put]
 refine Tk.x 8 rfl ?_
 try simp only [Tk.put]
 refine Tk.x 9 rfl ?_
 try simp only [Tk.put]
 refine Tk.y 10 (v:=?_) rfl ?_ ?_
 rotate_left
 ·intro wS hSw
  obtain⟨⟨s1,s2,s3⟩,s4,s5,s6⟩:=hSw
  first | (go_simp;done) | (go_simp;with_reducible rfl)
 try simp only [Tk.put]
 refine Tk.x 11 rfl ?_
 try simp only [Tk.put]
 refine Tk.x 12 rfl ?_
 try simp only [Tk.put]
 refine Tk.x 13 rfl ?_
 try simp only [Tk.put]
 refine Tk.x 14 rfl ?_
 try simp only [Tk.put]
 refine Tk.x 15 rfl ?_
 try simp only [Tk.put]
 refine Tk.y 16 (v:=?_) rfl ?_ ?_
 rotate_left
 ·intro wS hSw
  obtain⟨⟨s1,s2,s3⟩,s4,s5,s6⟩:=hSw
  first | (go_simp;done) | (go_simp;with_reducible rfl)
 try simp only [Tk.put]
 refine Tk.x 17 rfl ?_
 try simp only [Tk.put]
 refine Tk.x 18 rfl ?_
 try simp only [Tk.put]
 refine Tk.x 19 rfl ?_
 try simp only [Tk.put]
 refine Tk.x 20 rfl ?_
 try simp only [Tk.put]
 refine wpAnyH_done (by kernel_rfl) ?_ _
 obtain⟨⟨s1,s2,s3⟩,s4,s5,s6⟩:=hHeld
 go_wp2_with fail
 go_ret
 exact⟨rfl,HBW.out⟩
theorem rchk_0 (H W C:Int) (WA BA:Option Addr) (nW cW nB cB:Nat) (D N:Int) (h1:zae H W C=true) (h2:¬ (N < 2∨16 < N)) (hw:(nW:Int)=N * zam H W C) (hw2:nW≤16384) (hb:(nB:Int)=N) (h4:¬ D < 0) (w:World) :
  Calls Tryz.prog 20 #[.agg #[.int .i64 H,.int .i64 W,.int .i64 C],.agg #[.slice WA nW cW,.slice BA nB cB,.int .i32 D],.int .i64 N] w fun e' w'=>e'=.returned (.int .i64 0)∧Below w.heap.size w w':=by
 obtain⟨hN0,hN1,hN2⟩:=zb5 H W C h1
 obtain⟨E,hE⟩:∃ E,zam H W C=E:=⟨_,rfl⟩
 rw [hE] at hN0 hN1 hN2 hw
 obtain⟨q,hq⟩:∃ q,N * E=q:=⟨_,rfl⟩
 have hqb:0≤q∧q≤16384:=by
  rw [← hq]
  exact⟨Int.mul_nonneg (by omega) (by omega),Int.le_trans (Int.mul_le_mul (show N≤16 by omega) hN2 (by omega) (by omega)) (by omega)⟩
 have hmul:IntKind.i64.wrap (N * E)=q:=by rw [hq];exact IntWalk.i64_in _ (by omega)
 rw [hq] at hw
 have hE9:¬ E=0:=by omega
 have q1:decide (N < 2)=false:=by simp;omega
 have q2:decide (16 < N)=false:=by simp;omega
 have q3:¬ N < 2:=by omega
 have q4:¬ 16 < N:=by omega
 have q5:decide (D < 0)=false:=by simp [h4]
 subst hw
 have hw3:(nW:Int)≤16384:=by omega
 have hw4:¬ (16384:Int) < (nW:Int):=by omega
 have hd1:decide ((16384:Int) < (nW:Int))=false:=by simp;omega
 have hd2:decide (16384 < nW)=false:=by simp;omega
 have hbb:((nB:Int) != N)=false:=by simpa using hb
 have HB1:=hid h1
 have HE:=hid hE
 clear h1 hE hq h2
 go_enter Tryz.func20,Tryz.ntmps20
 go_wp2_with fail
 go_at_call 13
 have hal:Below w.heap.size w ((w.alloc (.cells #[.int .i64 H,.int .i64 W,.int .i64 C] 23)).alloc (.cells #[.slice WA nW cW,.slice BA nB cB,.int .i32 D] 44)):=((Below.refl _ _).alloc (by first | exact le_refl _ | (simp;done) | (simp;omega)) _).alloc (by first | exact le_refl _ | (simp;done) | (simp;omega)) _
 refine (zaf H W C E HE.out _).mono ?_
 rintro e w1 ⟨rfl,hb⟩
 have hh:Below w.heap.size w w1:=hal.trans (hb.mono hal.size)
 have qTS0:=(zao H W C 23) w
 try simp only [World.size_alloc] at qTS0
 have TS0:=hid ((qTS0.below (B':=w.heap.size+1) (by omega) (((Below.refl _ _).alloc (by first | exact le_refl _ | (simp;done) | (simp;omega)) _).mono (by simp))).below (by first | (simp;done) | (simp;omega)) hb)
 have yTS0:w.heap.size < w1.heap.size:=by have:=hb.size;simp at this;omega
 clear qTS0
 have qTH:=(zb0 WA BA nW cW nB cB D 44) (w.alloc (.cells #[.int .i64 H,.int .i64 W,.int .i64 C] 23))
 try simp only [World.size_alloc] at qTH
 have TH:=hid (qTH.below (by first | (simp;done) | (simp;omega)) hb)
 have yTH:w.heap.size+1 < w1.heap.size:=by have:=hb.size;simp at this;omega
 clear qTH
 have HBW:Hid (Below w.heap.size w w1):=hid hh
 obtain⟨ts0p0,ts0p1,ts0p2⟩:=TS0.out
 obtain⟨thp0,thp1,thp2⟩:=TH.out
 clear hb hh hal
 go_upto_region 5 with fail
 refine wp_region_held_drew (S:=fun w'=>(w'.cell? ⟨w.heap.size,0,none⟩=some (.int .i64 H)∧w'.cell? ⟨w.heap.size,1,none⟩=some (.int .i64 W)∧w'.cell? ⟨w.heap.size,2,none⟩=some (.int .i64 C))∧HeadAt (w.heap.size+1) WA BA nW cW nB cB D w') (by kernel_rfl) ⟨⟨ts0p0,ts0p1,ts0p2⟩,TH.out⟩ (fun hHeld=>?_)
 replace HBW:=hid HBW.out.drew
 have hsz:w.heap.size+1 < w1.drew.heap.size:=yTH
 clear TH TS0 thp0 thp1 thp2 ts0p0 ts0p1 ts0p2 yTH yTS0
 generalize w1.drew=Wd at HBW hsz hHeld ⊢
 refine Tk.x 0 rfl ?_
 try simp only [Tk.put]
 refine Tk.y 1 (v:=?_) rfl ?_ ?_
 rotate_left
 ·intro wS hSw
  obtain⟨⟨s1,s2,s3⟩,s4,s5,s6⟩:=hSw
  first | (go_simp;done) | (go_simp;with_reducible rfl)
 try simp only [Tk.put]
 refine Tk.x 2 rfl ?_
 try simp only [Tk.put]
 refine Tk.x 3 rfl ?_
 try simp only [Tk.put]
 refine Tk.y 4 (v:=?_) rfl ?_ ?_
 rotate_left
 ·intro wS hSw
  obtain⟨⟨s1,s2,s3⟩,s4,s5,s6⟩:=hSw
  first | (go_simp;done) | (go_simp;with_reducible rfl)
 try simp only [Tk.put]
 refine Tk.s 5 rfl (fun K hK=>?_)
 go_simp
 go_at_call 13
 refine (zaf H W C E HE.out _).mono ?_
 rintro e we ⟨rfl,hb⟩
 have hS1:=And.intro (And.intro ((hb.cell (p:=⟨w.heap.size,0,none⟩) (by simp;omega)).trans hHeld.1.1) (And.intro ((hb.cell (p:=⟨w.heap.size,1,none⟩) (by simp;omega)).trans hHeld.1.2.1) ((hb.cell (p:=⟨w.heap.size,2,none⟩) (by simp;omega)).trans hHeld.1.2.2))) (hHeld.2.below hsz hb)
 replace HBW:=hid (HBW.out.trans (hb.mono HBW.out.size))
 replace hsz:=Nat.lt_of_lt_of_le hsz hb.size
 clear hb hHeld
 dsimp only
 refine hK.out _ _ ?_ (fun hHeld=>?_)
 ·exact hS1
 clear hK K
 try simp only [Tk.put]
 refine Tk.x 6 rfl ?_
 try simp only [Tk.put]
 refine Tk.x 7 rfl ?_
 try simp only [Tk.put]
 refine Tk.x 8 rfl ?_
 try simp only [Tk.put]
 refine Tk.x 9 rfl ?_
 try simp only [Tk.put]
 refine Tk.y 10 (v:=?_) rfl ?_ ?_
 rotate_left
 ·intro wS hSw
  obtain⟨⟨s1,s2,s3⟩,s4,s5,s6⟩:=hSw
  first | (go_simp;done) | (go_simp;with_reducible rfl)
 try simp only [Tk.put]
 refine Tk.x 11 rfl ?_
 try simp only [Tk.put]
 refine Tk.x 12 rfl ?_
 try simp only [Tk.put]
 refine Tk.x 13 rfl ?_
 try simp only [Tk.put]
 refine Tk.x 14 rfl ?_
 try simp only [Tk.put]
 refine Tk.x 15 rfl ?_
 try simp only [Tk.put]
 refine Tk.y 16 (v:=?_) rfl ?_ ?_
 rotate_left
 ·intro wS hSw
  obtain⟨⟨s1,s2,s3⟩,s4,s5,s6⟩:=hSw
  first | (go_simp;done) | (go_simp;with_reducible rfl)
 try simp only [Tk.put]
 refine Tk.x 17 rfl ?_
 try simp only [Tk.put]
 refine Tk.x 18 rfl ?_
 try simp only [Tk.put]
 refine Tk.x 19 rfl ?_
 try simp only [Tk.put]
 refine Tk.x 20 rfl ?_
 try simp only [Tk.put]
 refine wpAnyH_done (by kernel_rfl) ?_ _
 obtain⟨⟨s1,s2,s3⟩,s4,s5,s6⟩:=hHeld
 go_wp2_with fail
 go_ret
 exact⟨rfl,HBW.out⟩
theorem rchk_to (H W C:Int) (WA BA:Option Addr) (nW cW nB cB:Nat) (D N:Int) (e:Int) (he:verdE H W C nW nB D N=e) (w:World) :
  Calls Tryz.prog 20 #[.agg #[.int .i64 H,.int .i64 W,.int .i64 C],.agg #[.slice WA nW cW,.slice BA nB cB,.int .i32 D],.int .i64 N] w fun e' w'=>e'=.returned (.int .i64 e)∧Below w.heap.size w w':=by
 unfold verdE at he
 by_cases h1:zae H W C=false
 ·rw [if_pos h1] at he;subst he
  exact rchk_5 H W C WA BA nW cW nB cB D N h1 w
 ·rw [if_neg h1] at he
  replace h1:zae H W C=true:=by simpa using h1
  by_cases h2:N < 2∨16 < N
  ·rw [if_pos h2] at he;subst he
   by_cases h3:N < 2
   ·exact rchk_2a H W C WA BA nW cW nB cB D N h1 h3 w
   ·exact rchk_2b H W C WA BA nW cW nB cB D N h1 h3 (by omega) w
  ·rw [if_neg h2] at he
   by_cases h3:(nW:Int)=N * zam H W C∧nW≤16384∧(nB:Int)=N
   ·rw [if_pos h3] at he
    by_cases h4:D < 0
    ·rw [if_pos h4] at he;subst he
     exact rchk_11 H W C WA BA nW cW nB cB D N h1 h2 h3.1 h3.2.1 h3.2.2 h4 w
    ·rw [if_neg h4] at he;subst he
     exact rchk_0 H W C WA BA nW cW nB cB D N h1 h2 h3.1 h3.2.1 h3.2.2 h4 w
   ·rw [if_neg h3] at he;subst he
    by_cases h4:(nW:Int)=N * zam H W C
    ·by_cases h5:nW≤16384
     ·exact rchk_w3 H W C WA BA nW cW nB cB D N h1 h2 h4 h5 (fun h6=>h3 ⟨h4,h5,h6⟩) w
     ·exact rchk_w2 H W C WA BA nW cW nB cB D N h1 h2 h4 (by omega) w
    ·exact rchk_w1 H W C WA BA nW cW nB cB D N h1 h2 h4 w
end CVerd
end
end Go.Proofs.YtoffcaldhojjoaaGreatDoor
