/- -/
import Derived.Test.YtfgdfignoakkaaaGreatDoorGBT11
open Go.Lib (hid)
open Nat (le_refl lt_of_succ_lt lt_succ_self)
set_option linter.unusedVariables false
set_option linter.unusedSimpArgs false
set_option maxRecDepth 100000
set_option maxHeartbeats 16000000
namespace Go.Proofs.YtfgdfignoakkaaaGreatDoor
namespace CConv
end CConv
namespace CDense
end CDense
namespace CSat
end CSat
namespace CShape
end CShape
namespace CTensor
end CTensor
open Go Go.ChangeShapes Go.WideShapes Go.ChangeAt Go.RowKit Go.Deep
section
namespace CVerd
open Plain CSat CShape CTensor CConv CDense
def HeadAt (B:Nat) (WA BA:Option Addr) (nW cW nB cB:Nat) (D:Int) (wd:World):Prop :=
 wd.cell? ⟨B,0,none⟩=some (.slice WA nW cW)∧wd.cell? ⟨B,1,none⟩=some (.slice BA nB cB)∧wd.cell? ⟨B,2,none⟩=some (.int .i32 D)
theorem headNew (WA BA:Option Addr) (nW cW nB cB:Nat) (D:Int) (T:TypeId) (w:World):HeadAt w.heap.size WA BA nW cW nB cB D (w.alloc (.cells #[.slice WA nW cW,.slice BA nB cB,.int .i32 D] T)):=⟨Kit.zab _ _ _ _,Kit.zab _ _ _ _,Kit.zab _ _ _ _⟩
theorem HeadAt.below {B B':Nat} {WA BA:Option Addr} {nW cW nB cB:Nat} {D:Int} {w w':World} (h:HeadAt B WA BA nW cW nB cB D w) (hB:B < B') (hb:Below B' w w'):HeadAt B WA BA nW cW nB cB D w' :=
 ⟨(hb.cell (p:=⟨B,0,none⟩) hB).trans h.1,(hb.cell (p:=⟨B,1,none⟩) hB).trans h.2.1,(hb.cell (p:=⟨B,2,none⟩) hB).trans h.2.2⟩
def verdE (H W C:Int) (nW nB:Nat) (D N:Int):Int :=
 if zae H W C=false then 5 else if N < 2∨16 < N then 2 else if (nW:Int)=N * zas H W C∧nW≤16384∧(nB:Int)=N then (if D < 0 then 11 else 0) else 9
theorem one_right {N:Int} (h:¬ (N < 2∨16 < N)):zae 1 1 N=true:=by simp [zae];omega
theorem dense_ok {H W C:Int} {nW nB:Nat} {N:Int} (h1:zae H W C=true) (h2:¬ (N < 2∨16 < N)) (h3:(nW:Int)=N * zas H W C∧nW≤16384∧(nB:Int)=N):denseE H W C N nW nB=0:=by
 unfold denseE;rw [if_pos ⟨h1,one_right h2⟩,if_pos h3]
theorem dense_nine {H W C:Int} {nW nB:Nat} {N:Int} (h1:zae H W C=true) (h2:¬ (N < 2∨16 < N)) (h3:¬ ((nW:Int)=N * zas H W C∧nW≤16384∧(nB:Int)=N)):denseE H W C N nW nB=9:=by
 unfold denseE;rw [if_pos ⟨h1,one_right h2⟩,if_neg h3]
theorem chk_5 (H W C:Int) (WA BA:Option Addr) (nW cW nB cB:Nat) (D N:Int) (h1:zae H W C=false) (w:World) :
  Calls Tryz.prog 133 #[.agg #[.int .i64 H,.int .i64 W,.int .i64 C],.agg #[.slice WA nW cW,.slice BA nB cB,.int .i32 D],.int .i64 N] w fun e' w'=>e'=.returned (.int .i64 5)∧Below w.heap.size w w':=by
 have HB1:=hid h1
 clear h1
 go_enter Tryz.func133,Tryz.ntmps133
 go_wp2_with fail
 go_at_call 69
 have hal:Below w.heap.size w ((w.alloc (.cells #[.int .i64 H,.int .i64 W,.int .i64 C] 23)).alloc (.cells #[.slice WA nW cW,.slice BA nB cB,.int .i32 D] 46)):=((Below.refl _ _).alloc (by first | exact le_refl _ | (simp;done) | (simp;omega)) _).alloc (by first | exact le_refl _ | (simp;done) | (simp;omega)) _
 refine (CShape.zal H W C false HB1.out _).mono ?_
 rintro e w1 ⟨rfl,hb⟩
 have hh:Below w.heap.size w w1:=hal.trans (hb.mono hal.size)
 have qTS0:=(zaw H W C 23) w
 try simp only [World.size_alloc] at qTS0
 have TS0:=hid ((qTS0.below (B':=w.heap.size+1) (by omega) (((Below.refl _ _).alloc (by first | exact le_refl _ | (simp;done) | (simp;omega)) _).mono (by simp))).below (by first | (simp;done) | (simp;omega)) hb)
 have yTS0:w.heap.size < w1.heap.size:=by have:=hb.size;simp at this;omega
 clear qTS0
 have qTH:=(headNew WA BA nW cW nB cB D 46) (w.alloc (.cells #[.int .i64 H,.int .i64 W,.int .i64 C] 23))
 try simp only [World.size_alloc] at qTH
 have TH:=hid (qTH.below (by first | (simp;done) | (simp;omega)) hb)
 have yTH:w.heap.size+1 < w1.heap.size:=by have:=hb.size;simp at this;omega
 clear qTH
 have HBW:Hid (Below w.heap.size w w1):=hid hh
 obtain⟨ts0p0,ts0p1,ts0p2⟩:=TS0.out
 obtain⟨thp0,thp1,thp2⟩:=TH.out
 clear hb hh hal
 go_wp2_with fail
 go_ret
 exact⟨rfl,HBW.out⟩
theorem chk_2a (H W C:Int) (WA BA:Option Addr) (nW cW nB cB:Nat) (D N:Int) (h1:zae H W C=true) (h2:N < 2) (w:World) :
  Calls Tryz.prog 133 #[.agg #[.int .i64 H,.int .i64 W,.int .i64 C],.agg #[.slice WA nW cW,.slice BA nB cB,.int .i32 D],.int .i64 N] w fun e' w'=>e'=.returned (.int .i64 2)∧Below w.heap.size w w':=by
 have HB1:=hid h1
 have q1:(N < 2)=True:=by simp [h2]
 have q2:decide (N < 2)=true:=by simp [h2]
 clear h1
 go_enter Tryz.func133,Tryz.ntmps133
 go_wp2_with fail
 go_at_call 69
 have hal:Below w.heap.size w ((w.alloc (.cells #[.int .i64 H,.int .i64 W,.int .i64 C] 23)).alloc (.cells #[.slice WA nW cW,.slice BA nB cB,.int .i32 D] 46)):=((Below.refl _ _).alloc (by first | exact le_refl _ | (simp;done) | (simp;omega)) _).alloc (by first | exact le_refl _ | (simp;done) | (simp;omega)) _
 refine (CShape.zal H W C true HB1.out _).mono ?_
 rintro e w1 ⟨rfl,hb⟩
 have hh:Below w.heap.size w w1:=hal.trans (hb.mono hal.size)
 have qTS0:=(zaw H W C 23) w
 try simp only [World.size_alloc] at qTS0
 have TS0:=hid ((qTS0.below (B':=w.heap.size+1) (by omega) (((Below.refl _ _).alloc (by first | exact le_refl _ | (simp;done) | (simp;omega)) _).mono (by simp))).below (by first | (simp;done) | (simp;omega)) hb)
 have yTS0:w.heap.size < w1.heap.size:=by have:=hb.size;simp at this;omega
 clear qTS0
 have qTH:=(headNew WA BA nW cW nB cB D 46) (w.alloc (.cells #[.int .i64 H,.int .i64 W,.int .i64 C] 23))
 try simp only [World.size_alloc] at qTH
 have TH:=hid (qTH.below (by first | (simp;done) | (simp;omega)) hb)
 have yTH:w.heap.size+1 < w1.heap.size:=by have:=hb.size;simp at this;omega
 clear qTH
 have HBW:Hid (Below w.heap.size w w1):=hid hh
 obtain⟨ts0p0,ts0p1,ts0p2⟩:=TS0.out
 obtain⟨thp0,thp1,thp2⟩:=TH.out
 clear hb hh hal
 go_wp2_with fail
 go_ret
 exact⟨rfl,HBW.out⟩
theorem chk_2b (H W C:Int) (WA BA:Option Addr) (nW cW nB cB:Nat) (D N:Int) (h1:zae H W C=true) (h2:¬ N < 2) (h3:16 < N) (w:World) :
  Calls Tryz.prog 133 #[.agg #[.int .i64 H,.int .i64 W,.int .i64 C],.agg #[.slice WA nW cW,.slice BA nB cB,.int .i32 D],.int .i64 N] w fun e' w'=>e'=.returned (.int .i64 2)∧Below w.heap.size w w':=by
 have HB1:=hid h1
 have q1:decide (N < 2)=false:=by simp [h2]
 have q2:(16 < N)=True:=by simp [h3]
 have q3:decide (16 < N)=true:=by simp [h3]
 clear h1
 go_enter Tryz.func133,Tryz.ntmps133
 go_wp2_with fail
 go_at_call 69
 have hal:Below w.heap.size w ((w.alloc (.cells #[.int .i64 H,.int .i64 W,.int .i64 C] 23)).alloc (.cells #[.slice WA nW cW,.slice BA nB cB,.int .i32 D] 46)):=((Below.refl _ _).alloc (by first | exact le_refl _ | (simp;done) | (simp;omega)) _).alloc (by first | exact le_refl _ | (simp;done) | (simp;omega)) _
 refine (CShape.zal H W C true HB1.out _).mono ?_
 rintro e w1 ⟨rfl,hb⟩
 have hh:Below w.heap.size w w1:=hal.trans (hb.mono hal.size)
 have qTS0:=(zaw H W C 23) w
 try simp only [World.size_alloc] at qTS0
 have TS0:=hid ((qTS0.below (B':=w.heap.size+1) (by omega) (((Below.refl _ _).alloc (by first | exact le_refl _ | (simp;done) | (simp;omega)) _).mono (by simp))).below (by first | (simp;done) | (simp;omega)) hb)
 have yTS0:w.heap.size < w1.heap.size:=by have:=hb.size;simp at this;omega
 clear qTS0
 have qTH:=(headNew WA BA nW cW nB cB D 46) (w.alloc (.cells #[.int .i64 H,.int .i64 W,.int .i64 C] 23))
 try simp only [World.size_alloc] at qTH
 have TH:=hid (qTH.below (by first | (simp;done) | (simp;omega)) hb)
 have yTH:w.heap.size+1 < w1.heap.size:=by have:=hb.size;simp at this;omega
 clear qTH
 have HBW:Hid (Below w.heap.size w w1):=hid hh
 obtain⟨ts0p0,ts0p1,ts0p2⟩:=TS0.out
 obtain⟨thp0,thp1,thp2⟩:=TH.out
 clear hb hh hal
 go_wp2_with fail
 go_ret
 exact⟨rfl,HBW.out⟩
theorem chk_9 (H W C:Int) (WA BA:Option Addr) (nW cW nB cB:Nat) (D N:Int) (h1:zae H W C=true) (h2:¬ (N < 2∨16 < N)) (h3:¬ ((nW:Int)=N * zas H W C∧nW≤16384∧(nB:Int)=N)) (w:World) :
  Calls Tryz.prog 133 #[.agg #[.int .i64 H,.int .i64 W,.int .i64 C],.agg #[.slice WA nW cW,.slice BA nB cB,.int .i32 D],.int .i64 N] w fun e' w'=>e'=.returned (.int .i64 9)∧Below w.heap.size w w':=by
 have hE:denseE H W C N nW nB=9:=dense_nine h1 h2 h3
 have hS:denseS H W C N nW nB=#[.int .i64 0,.int .i64 0,.int .i64 0]:=by unfold denseS;rw [hE];rfl
 have HB1:=hid h1
 have HE:=hid hE
 have HS:=hid hS
 have q1:decide (N < 2)=false:=by simp;omega
 have q2:decide (16 < N)=false:=by simp;omega
 have q3:¬ N < 2:=by omega
 have q4:¬ 16 < N:=by omega
 clear h1 hE hS h2 h3
 go_enter Tryz.func133,Tryz.ntmps133
 go_wp2_with fail
 go_at_call 69
 have hal:Below w.heap.size w ((w.alloc (.cells #[.int .i64 H,.int .i64 W,.int .i64 C] 23)).alloc (.cells #[.slice WA nW cW,.slice BA nB cB,.int .i32 D] 46)):=((Below.refl _ _).alloc (by first | exact le_refl _ | (simp;done) | (simp;omega)) _).alloc (by first | exact le_refl _ | (simp;done) | (simp;omega)) _
 refine (CShape.zal H W C true HB1.out _).mono ?_
 rintro e w1 ⟨rfl,hb⟩
 have hh:Below w.heap.size w w1:=hal.trans (hb.mono hal.size)
 have qTS0:=(zaw H W C 23) w
 try simp only [World.size_alloc] at qTS0
 have TS0:=hid ((qTS0.below (B':=w.heap.size+1) (by omega) (((Below.refl _ _).alloc (by first | exact le_refl _ | (simp;done) | (simp;omega)) _).mono (by simp))).below (by first | (simp;done) | (simp;omega)) hb)
 have yTS0:w.heap.size < w1.heap.size:=by have:=hb.size;simp at this;omega
 clear qTS0
 have qTH:=(headNew WA BA nW cW nB cB D 46) (w.alloc (.cells #[.int .i64 H,.int .i64 W,.int .i64 C] 23))
 try simp only [World.size_alloc] at qTH
 have TH:=hid (qTH.below (by first | (simp;done) | (simp;omega)) hb)
 have yTH:w.heap.size+1 < w1.heap.size:=by have:=hb.size;simp at this;omega
 clear qTH
 have HBW:Hid (Below w.heap.size w w1):=hid hh
 obtain⟨ts0p0,ts0p1,ts0p2⟩:=TS0.out
 obtain⟨thp0,thp1,thp2⟩:=TH.out
 clear hb hh hal
 go_wp2_with fail
 go_at_call 150
 have hal:Below w1.heap.size w1 w1:=Below.refl _ _
 refine (dshape_to H W C _ _ _ _ _ _ _ _ _ _ _ _ _ _ _ _ _ _ _ _ _ _ _ 9 #[.int .i64 0,.int .i64 0,.int .i64 0] HE.out HS.out _).mono ?_
 rintro e w2 ⟨rfl,hb⟩
 have hh:Below w1.heap.size w1 w2:=hal.trans (hb.mono hal.size)
 replace TS0:=hid (TS0.out.below yTS0 hh)
 replace yTS0:=Nat.lt_of_lt_of_le yTS0 hh.size
 replace TH:=hid (TH.out.below yTH hh)
 replace yTH:=Nat.lt_of_lt_of_le yTH hh.size
 replace HBW:=hid (HBW.out.trans (hh.mono HBW.out.size))
 clear ts0p0 ts0p1 ts0p2 thp0 thp1 thp2
 obtain⟨ts0p0,ts0p1,ts0p2⟩:=TS0.out
 obtain⟨thp0,thp1,thp2⟩:=TH.out
 clear hb hh hal
 go_wp2_with fail
 go_ret
 exact⟨rfl,by have hbw:=HBW.out;go_grown⟩
theorem chk_11 (H W C:Int) (WA BA:Option Addr) (nW cW nB cB:Nat) (D N:Int) (h1:zae H W C=true) (h2:¬ (N < 2∨16 < N)) (h3:(nW:Int)=N * zas H W C∧nW≤16384∧(nB:Int)=N) (h4:D < 0) (w:World) :
  Calls Tryz.prog 133 #[.agg #[.int .i64 H,.int .i64 W,.int .i64 C],.agg #[.slice WA nW cW,.slice BA nB cB,.int .i32 D],.int .i64 N] w fun e' w'=>e'=.returned (.int .i64 11)∧Below w.heap.size w w':=by
 have hE:denseE H W C N nW nB=0:=dense_ok h1 h2 h3
 have hS:denseS H W C N nW nB=#[.int .i64 1,.int .i64 1,.int .i64 N]:=by unfold denseS;rw [hE];rfl
 have HB1:=hid h1
 have HE:=hid hE
 have HS:=hid hS
 have q1:decide (N < 2)=false:=by simp;omega
 have q2:decide (16 < N)=false:=by simp;omega
 have q3:¬ N < 2:=by omega
 have q4:¬ 16 < N:=by omega
 have q5:decide (D < 0)=true:=by simp [h4]
 have q6:(D < 0)=True:=by simp [h4]
 clear h1 hE hS h2 h3
 go_enter Tryz.func133,Tryz.ntmps133
 go_wp2_with fail
 go_at_call 69
 have hal:Below w.heap.size w ((w.alloc (.cells #[.int .i64 H,.int .i64 W,.int .i64 C] 23)).alloc (.cells #[.slice WA nW cW,.slice BA nB cB,.int .i32 D] 46)):=((Below.refl _ _).alloc (by first | exact le_refl _ | (simp;done) | (simp;omega)) _).alloc (by first | exact le_refl _ | (simp;done) | (simp;omega)) _
 refine (CShape.zal H W C true HB1.out _).mono ?_
 rintro e w1 ⟨rfl,hb⟩
 have hh:Below w.heap.size w w1:=hal.trans (hb.mono hal.size)
 have qTS0:=(zaw H W C 23) w
 try simp only [World.size_alloc] at qTS0
 have TS0:=hid ((qTS0.below (B':=w.heap.size+1) (by omega) (((Below.refl _ _).alloc (by first | exact le_refl _ | (simp;done) | (simp;omega)) _).mono (by simp))).below (by first | (simp;done) | (simp;omega)) hb)
 have yTS0:w.heap.size < w1.heap.size:=by have:=hb.size;simp at this;omega
 clear qTS0
 have qTH:=(headNew WA BA nW cW nB cB D 46) (w.alloc (.cells #[.int .i64 H,.int .i64 W,.int .i64 C] 23))
 try simp only [World.size_alloc] at qTH
 have TH:=hid (qTH.below (by first | (simp;done) | (simp;omega)) hb)
 have yTH:w.heap.size+1 < w1.heap.size:=by have:=hb.size;simp at this;omega
 clear qTH
 have HBW:Hid (Below w.heap.size w w1):=hid hh
 obtain⟨ts0p0,ts0p1,ts0p2⟩:=TS0.out
 obtain⟨thp0,thp1,thp2⟩:=TH.out
 clear hb hh hal
 go_wp2_with fail
 go_at_call 150
 have hal:Below w1.heap.size w1 w1:=Below.refl _ _
 refine (dshape_to H W C _ _ _ _ _ _ _ _ _ _ _ _ _ _ _ _ _ _ _ _ _ _ _ 0 #[.int .i64 1,.int .i64 1,.int .i64 N] HE.out HS.out _).mono ?_
 rintro e w2 ⟨rfl,hb⟩
 have hh:Below w1.heap.size w1 w2:=hal.trans (hb.mono hal.size)
 replace TS0:=hid (TS0.out.below yTS0 hh)
 replace yTS0:=Nat.lt_of_lt_of_le yTS0 hh.size
 replace TH:=hid (TH.out.below yTH hh)
 replace yTH:=Nat.lt_of_lt_of_le yTH hh.size
 replace HBW:=hid (HBW.out.trans (hh.mono HBW.out.size))
 clear ts0p0 ts0p1 ts0p2 thp0 thp1 thp2
 obtain⟨ts0p0,ts0p1,ts0p2⟩:=TS0.out
 obtain⟨thp0,thp1,thp2⟩:=TH.out
 clear hb hh hal
 go_wp2_with fail
 go_ret
 exact⟨rfl,by have hbw:=HBW.out;go_grown⟩
theorem chk_0 (H W C:Int) (WA BA:Option Addr) (nW cW nB cB:Nat) (D N:Int) (h1:zae H W C=true) (h2:¬ (N < 2∨16 < N)) (h3:(nW:Int)=N * zas H W C∧nW≤16384∧(nB:Int)=N) (h4:¬ D < 0) (w:World) :
  Calls Tryz.prog 133 #[.agg #[.int .i64 H,.int .i64 W,.int .i64 C],.agg #[.slice WA nW cW,.slice BA nB cB,.int .i32 D],.int .i64 N] w fun e' w'=>e'=.returned (.int .i64 0)∧Below w.heap.size w w':=by
 have hE:denseE H W C N nW nB=0:=dense_ok h1 h2 h3
 have hS:denseS H W C N nW nB=#[.int .i64 1,.int .i64 1,.int .i64 N]:=by unfold denseS;rw [hE];rfl
 have HB1:=hid h1
 have HE:=hid hE
 have HS:=hid hS
 have q1:decide (N < 2)=false:=by simp;omega
 have q2:decide (16 < N)=false:=by simp;omega
 have q3:¬ N < 2:=by omega
 have q4:¬ 16 < N:=by omega
 have q5:decide (D < 0)=false:=by simp [h4]
 clear h1 hE hS h2 h3
 go_enter Tryz.func133,Tryz.ntmps133
 go_wp2_with fail
 go_at_call 69
 have hal:Below w.heap.size w ((w.alloc (.cells #[.int .i64 H,.int .i64 W,.int .i64 C] 23)).alloc (.cells #[.slice WA nW cW,.slice BA nB cB,.int .i32 D] 46)):=((Below.refl _ _).alloc (by first | exact le_refl _ | (simp;done) | (simp;omega)) _).alloc (by first | exact le_refl _ | (simp;done) | (simp;omega)) _
 refine (CShape.zal H W C true HB1.out _).mono ?_
 rintro e w1 ⟨rfl,hb⟩
 have hh:Below w.heap.size w w1:=hal.trans (hb.mono hal.size)
 have qTS0:=(zaw H W C 23) w
 try simp only [World.size_alloc] at qTS0
 have TS0:=hid ((qTS0.below (B':=w.heap.size+1) (by omega) (((Below.refl _ _).alloc (by first | exact le_refl _ | (simp;done) | (simp;omega)) _).mono (by simp))).below (by first | (simp;done) | (simp;omega)) hb)
 have yTS0:w.heap.size < w1.heap.size:=by have:=hb.size;simp at this;omega
 clear qTS0
 have qTH:=(headNew WA BA nW cW nB cB D 46) (w.alloc (.cells #[.int .i64 H,.int .i64 W,.int .i64 C] 23))
 try simp only [World.size_alloc] at qTH
 have TH:=hid (qTH.below (by first | (simp;done) | (simp;omega)) hb)
 have yTH:w.heap.size+1 < w1.heap.size:=by have:=hb.size;simp at this;omega
 clear qTH
 have HBW:Hid (Below w.heap.size w w1):=hid hh
 obtain⟨ts0p0,ts0p1,ts0p2⟩:=TS0.out
 obtain⟨thp0,thp1,thp2⟩:=TH.out
 clear hb hh hal
 go_wp2_with fail
 go_at_call 150
 have hal:Below w1.heap.size w1 w1:=Below.refl _ _
 refine (dshape_to H W C _ _ _ _ _ _ _ _ _ _ _ _ _ _ _ _ _ _ _ _ _ _ _ 0 #[.int .i64 1,.int .i64 1,.int .i64 N] HE.out HS.out _).mono ?_
 rintro e w2 ⟨rfl,hb⟩
 have hh:Below w1.heap.size w1 w2:=hal.trans (hb.mono hal.size)
 replace TS0:=hid (TS0.out.below yTS0 hh)
 replace yTS0:=Nat.lt_of_lt_of_le yTS0 hh.size
 replace TH:=hid (TH.out.below yTH hh)
 replace yTH:=Nat.lt_of_lt_of_le yTH hh.size
 replace HBW:=hid (HBW.out.trans (hh.mono HBW.out.size))
 clear ts0p0 ts0p1 ts0p2 thp0 thp1 thp2
 obtain⟨ts0p0,ts0p1,ts0p2⟩:=TS0.out
 obtain⟨thp0,thp1,thp2⟩:=TH.out
 clear hb hh hal
 go_wp2_with fail
 go_ret
 exact⟨rfl,by have hbw:=HBW.out;go_grown⟩
theorem chk_to (H W C:Int) (WA BA:Option Addr) (nW cW nB cB:Nat) (D N:Int) (e:Int) (he:verdE H W C nW nB D N=e) (w:World) :
  Calls Tryz.prog 133 #[.agg #[.int .i64 H,.int .i64 W,.int .i64 C],.agg #[.slice WA nW cW,.slice BA nB cB,.int .i32 D],.int .i64 N] w fun e' w'=>e'=.returned (.int .i64 e)∧Below w.heap.size w w':=by
 unfold verdE at he
 by_cases h1:zae H W C=false
 ·rw [if_pos h1] at he;subst he
  exact chk_5 H W C WA BA nW cW nB cB D N h1 w
 ·rw [if_neg h1] at he
  replace h1:zae H W C=true:=by simpa using h1
  by_cases h2:N < 2∨16 < N
  ·rw [if_pos h2] at he;subst he
   by_cases h3:N < 2
   ·exact chk_2a H W C WA BA nW cW nB cB D N h1 h3 w
   ·exact chk_2b H W C WA BA nW cW nB cB D N h1 h3 (by omega) w
  ·rw [if_neg h2] at he
   by_cases h3:(nW:Int)=N * zas H W C∧nW≤16384∧(nB:Int)=N
   ·rw [if_pos h3] at he
    by_cases h4:D < 0
    ·rw [if_pos h4] at he;subst he
     exact chk_11 H W C WA BA nW cW nB cB D N h1 h2 h3 h4 w
    ·rw [if_neg h4] at he;subst he
     exact chk_0 H W C WA BA nW cW nB cB D N h1 h2 h3 h4 w
   ·rw [if_neg h3] at he;subst he
    exact chk_9 H W C WA BA nW cW nB cB D N h1 h2 h3 w
end CVerd
end
end Go.Proofs.YtfgdfignoakkaaaGreatDoor
