/- -/
import Derived.Test.YtfgdfignoakkaaaGreatDoorGBT10
open Go.Lib (hid)
open Nat (le_refl lt_of_succ_lt lt_succ_self)
set_option linter.unusedVariables false
set_option linter.unusedSimpArgs false
set_option maxRecDepth 100000
set_option maxHeartbeats 16000000
namespace Go.Proofs.YtfgdfignoakkaaaGreatDoor
namespace CConv
end CConv
namespace CSat
end CSat
namespace CShape
end CShape
namespace CTensor
end CTensor
open Go Go.ChangeShapes Go.WideShapes Go.ChangeAt Go.RowKit
section
namespace CDense
open Plain CSat CShape CTensor CConv
def zbz (B:Nat) (wd:World):Prop :=
 (wd.cell? ⟨B,0,none⟩=some (.int .i64 0)∧wd.cell? ⟨B,1,none⟩=some (.int .i64 0)∧wd.cell? ⟨B,2,none⟩=some (.int .i64 0)) ∧
 wd.frozen? ⟨B,0,none⟩=false∧wd.frozen? ⟨B,1,none⟩=false∧wd.frozen? ⟨B,2,none⟩=false
theorem zbz.new (T:TypeId) (w:World):zbz w.heap.size (w.alloc (.cells #[.int .i64 0,.int .i64 0,.int .i64 0] T)) :=
 ⟨⟨Kit.zab _ _ _ _,Kit.zab _ _ _ _,Kit.zab _ _ _ _⟩,World.frozen?_alloc_at _ _ _ _ rfl,World.frozen?_alloc_at _ _ _ _ rfl,World.frozen?_alloc_at _ _ _ _ rfl⟩
theorem zbz.below {B B':Nat} {w w':World} (h:zbz B w) (hB:B < B') (hb:Below B' w w'):zbz B w':=by
 obtain⟨⟨h1,h2,h3⟩,h5,h6,h7⟩:=h
 exact⟨⟨(hb.cell (p:=⟨B,0,none⟩) hB).trans h1,(hb.cell (p:=⟨B,1,none⟩) hB).trans h2,(hb.cell (p:=⟨B,2,none⟩) hB).trans h3⟩,
  (hb.frozen (p:=⟨B,0,none⟩) hB).trans h5,(hb.frozen (p:=⟨B,1,none⟩) hB).trans h6,(hb.frozen (p:=⟨B,2,none⟩) hB).trans h7⟩
def denseE (H W C O:Int) (nW nB:Nat):Int :=
 if zae H W C=true∧zae 1 1 O=true then (if (nW:Int)=O * zas H W C∧nW≤16384∧(nB:Int)=O then 0 else 9) else 5
def denseS (H W C O:Int) (nW nB:Nat):Array Value:=if denseE H W C O nW nB=0 then #[.int .i64 1,.int .i64 1,.int .i64 O] else #[.int .i64 0,.int .i64 0,.int .i64 0]
theorem el_pos (H W C:Int) (h:zae H W C=true):(zas H W C == 0)=false∧1≤zas H W C∧zas H W C≤1024:=by
 obtain⟨a1,a2,a3,a4,a5,a6,a7⟩:=zah h
 have e:=zbc h
 have:1≤H * W * C:=by
  have h1:1 * 1≤H * W:=Int.mul_le_mul a1 a3 (by omega) (by omega)
  have h2:1 * 1≤H * W * C:=Int.mul_le_mul h1 a5 (by omega) (by omega)
  omega
 rw [e]
 refine⟨?_,this,a7⟩
 simp;omega
theorem dshape5a (H W C:Int) (x0 x1 x2 x8 x11 x12 x13 x14 x15 x16 x17 x18:Value) (K S P O Z:Int) (WA BA:Option Addr) (nW cW nB cB:Nat) (h1:zae H W C=false) (w:World) :
  Calls Tryz.prog 150 #[.agg #[.int .i64 H,.int .i64 W,.int .i64 C],.agg #[x0,x1,x2,.int .i64 K,.int .i64 S,.int .i64 P,.int .i64 O,.int .i8 Z,x8,.slice WA nW cW,.slice BA nB cB,x11,x12,x13,x14,x15,x16,x17,x18]] w fun e' w'=>e'=.returned (.tuple #[.agg #[.int .i64 0,.int .i64 0,.int .i64 0],.int .i64 5])∧Below w.heap.size w w':=by
 have HB1:=hid h1
 clear h1
 go_enter Tryz.func150,Tryz.ntmps150
 go_wp2_with fail
 go_at_call 69
 have hal:Below w.heap.size w ((((w.alloc (.cells #[.int .i64 H,.int .i64 W,.int .i64 C] 23)).alloc (.cells #[x0,x1,x2,.int .i64 K,.int .i64 S,.int .i64 P,.int .i64 O,.int .i8 Z,x8,.slice WA nW cW,.slice BA nB cB,x11,x12,x13,x14,x15,x16,x17,x18] 54)).alloc (.cells #[.int .i64 0,.int .i64 0,.int .i64 0] 23)).alloc (.cells #[.int .i64 1,.int .i64 1,.int .i64 O] 23)):=((((Below.refl _ _).alloc (by first | exact le_refl _ | (simp;done) | (simp;omega)) _).alloc (by first | exact le_refl _ | (simp;done) | (simp;omega)) _).alloc (by first | exact le_refl _ | (simp;done) | (simp;omega)) _).alloc (by first | exact le_refl _ | (simp;done) | (simp;omega)) _
 refine (CShape.zal H W C false HB1.out _).mono ?_
 rintro e w1 ⟨rfl,hb⟩
 have hh:Below w.heap.size w w1:=hal.trans (hb.mono hal.size)
 have qTS0:=(zaw H W C 23) w
 try simp only [World.size_alloc] at qTS0
 have TS0:=hid ((qTS0.below (B':=w.heap.size+1) (by omega) (((((Below.refl _ _).alloc (by first | exact le_refl _ | (simp;done) | (simp;omega)) _).alloc (by first | exact le_refl _ | (simp;done) | (simp;omega)) _).alloc (by first | exact le_refl _ | (simp;done) | (simp;omega)) _).mono (by simp))).below (by first | (simp;done) | (simp;omega)) hb)
 have yTS0:w.heap.size < w1.heap.size:=by have:=hb.size;simp at this;omega
 clear qTS0
 have qTN:=(zat.new x0 x1 x2 x8 x11 x12 x13 x14 x15 x16 x17 x18 K S P O Z WA BA nW cW nB cB 54) (w.alloc (.cells #[.int .i64 H,.int .i64 W,.int .i64 C] 23))
 try simp only [World.size_alloc] at qTN
 have TN:=hid ((qTN.below (B':=w.heap.size+2) (by omega) ((((Below.refl _ _).alloc (by first | exact le_refl _ | (simp;done) | (simp;omega)) _).alloc (by first | exact le_refl _ | (simp;done) | (simp;omega)) _).mono (by simp))).below (by first | (simp;done) | (simp;omega)) hb)
 have yTN:w.heap.size+1 < w1.heap.size:=by have:=hb.size;simp at this;omega
 clear qTN
 have qFS:=(zbz.new 23) ((w.alloc (.cells #[.int .i64 H,.int .i64 W,.int .i64 C] 23)).alloc (.cells #[x0,x1,x2,.int .i64 K,.int .i64 S,.int .i64 P,.int .i64 O,.int .i8 Z,x8,.slice WA nW cW,.slice BA nB cB,x11,x12,x13,x14,x15,x16,x17,x18] 54))
 try simp only [World.size_alloc] at qFS
 have FS:=hid ((qFS.below (B':=w.heap.size+3) (by omega) (((Below.refl _ _).alloc (by first | exact le_refl _ | (simp;done) | (simp;omega)) _).mono (by simp))).below (by first | (simp;done) | (simp;omega)) hb)
 have yFS:w.heap.size+2 < w1.heap.size:=by have:=hb.size;simp at this;omega
 clear qFS
 have qTF:=(zaw 1 1 O 23) (((w.alloc (.cells #[.int .i64 H,.int .i64 W,.int .i64 C] 23)).alloc (.cells #[x0,x1,x2,.int .i64 K,.int .i64 S,.int .i64 P,.int .i64 O,.int .i8 Z,x8,.slice WA nW cW,.slice BA nB cB,x11,x12,x13,x14,x15,x16,x17,x18] 54)).alloc (.cells #[.int .i64 0,.int .i64 0,.int .i64 0] 23))
 try simp only [World.size_alloc] at qTF
 have TF:=hid (qTF.below (by first | (simp;done) | (simp;omega)) hb)
 have yTF:w.heap.size+3 < w1.heap.size:=by have:=hb.size;simp at this;omega
 clear qTF
 have HBW:Hid (Below w.heap.size w w1):=hid hh
 obtain⟨ts0p0,ts0p1,ts0p2⟩:=TS0.out
 obtain⟨tfp0,tfp1,tfp2⟩:=TF.out
 clear hb hh hal
 obtain⟨⟨z0,z1,z2⟩,z4,z5,z6⟩:=FS.out
 go_wp2_with fail
 refine bodyPost_ret (Kit.zaa rfl _ _ (w.heap.size+2) 0 [.int .i64 0,.int .i64 0,.int .i64 0] _ rfl (Kit.zak (by go_cell) (by go_cell) (by go_cell)) Tryz.underlying23 rfl (by kernel_rfl)) rfl ?_
 exact⟨rfl,((HBW.out.setCell (p:=⟨w.heap.size+2,0,none⟩) (by simp) _).setCell (p:=⟨w.heap.size+2,1,none⟩) (by simp) _).setCell (p:=⟨w.heap.size+2,2,none⟩) (by simp) _⟩
theorem dshape5b (H W C:Int) (x0 x1 x2 x8 x11 x12 x13 x14 x15 x16 x17 x18:Value) (K S P O Z:Int) (WA BA:Option Addr) (nW cW nB cB:Nat) (h1:zae H W C=true) (h2:zae 1 1 O=false) (w:World) :
  Calls Tryz.prog 150 #[.agg #[.int .i64 H,.int .i64 W,.int .i64 C],.agg #[x0,x1,x2,.int .i64 K,.int .i64 S,.int .i64 P,.int .i64 O,.int .i8 Z,x8,.slice WA nW cW,.slice BA nB cB,x11,x12,x13,x14,x15,x16,x17,x18]] w fun e' w'=>e'=.returned (.tuple #[.agg #[.int .i64 0,.int .i64 0,.int .i64 0],.int .i64 5])∧Below w.heap.size w w':=by
 have HB1:=hid h1
 have HB2:=hid h2
 clear h1 h2
 go_enter Tryz.func150,Tryz.ntmps150
 go_wp2_with fail
 go_at_call 69
 have hal:Below w.heap.size w ((((w.alloc (.cells #[.int .i64 H,.int .i64 W,.int .i64 C] 23)).alloc (.cells #[x0,x1,x2,.int .i64 K,.int .i64 S,.int .i64 P,.int .i64 O,.int .i8 Z,x8,.slice WA nW cW,.slice BA nB cB,x11,x12,x13,x14,x15,x16,x17,x18] 54)).alloc (.cells #[.int .i64 0,.int .i64 0,.int .i64 0] 23)).alloc (.cells #[.int .i64 1,.int .i64 1,.int .i64 O] 23)):=((((Below.refl _ _).alloc (by first | exact le_refl _ | (simp;done) | (simp;omega)) _).alloc (by first | exact le_refl _ | (simp;done) | (simp;omega)) _).alloc (by first | exact le_refl _ | (simp;done) | (simp;omega)) _).alloc (by first | exact le_refl _ | (simp;done) | (simp;omega)) _
 refine (CShape.zal H W C true HB1.out _).mono ?_
 rintro e w1 ⟨rfl,hb⟩
 have hh:Below w.heap.size w w1:=hal.trans (hb.mono hal.size)
 have qTS0:=(zaw H W C 23) w
 try simp only [World.size_alloc] at qTS0
 have TS0:=hid ((qTS0.below (B':=w.heap.size+1) (by omega) (((((Below.refl _ _).alloc (by first | exact le_refl _ | (simp;done) | (simp;omega)) _).alloc (by first | exact le_refl _ | (simp;done) | (simp;omega)) _).alloc (by first | exact le_refl _ | (simp;done) | (simp;omega)) _).mono (by simp))).below (by first | (simp;done) | (simp;omega)) hb)
 have yTS0:w.heap.size < w1.heap.size:=by have:=hb.size;simp at this;omega
 clear qTS0
 have qTN:=(zat.new x0 x1 x2 x8 x11 x12 x13 x14 x15 x16 x17 x18 K S P O Z WA BA nW cW nB cB 54) (w.alloc (.cells #[.int .i64 H,.int .i64 W,.int .i64 C] 23))
 try simp only [World.size_alloc] at qTN
 have TN:=hid ((qTN.below (B':=w.heap.size+2) (by omega) ((((Below.refl _ _).alloc (by first | exact le_refl _ | (simp;done) | (simp;omega)) _).alloc (by first | exact le_refl _ | (simp;done) | (simp;omega)) _).mono (by simp))).below (by first | (simp;done) | (simp;omega)) hb)
 have yTN:w.heap.size+1 < w1.heap.size:=by have:=hb.size;simp at this;omega
 clear qTN
 have qFS:=(zbz.new 23) ((w.alloc (.cells #[.int .i64 H,.int .i64 W,.int .i64 C] 23)).alloc (.cells #[x0,x1,x2,.int .i64 K,.int .i64 S,.int .i64 P,.int .i64 O,.int .i8 Z,x8,.slice WA nW cW,.slice BA nB cB,x11,x12,x13,x14,x15,x16,x17,x18] 54))
 try simp only [World.size_alloc] at qFS
 have FS:=hid ((qFS.below (B':=w.heap.size+3) (by omega) (((Below.refl _ _).alloc (by first | exact le_refl _ | (simp;done) | (simp;omega)) _).mono (by simp))).below (by first | (simp;done) | (simp;omega)) hb)
 have yFS:w.heap.size+2 < w1.heap.size:=by have:=hb.size;simp at this;omega
 clear qFS
 have qTF:=(zaw 1 1 O 23) (((w.alloc (.cells #[.int .i64 H,.int .i64 W,.int .i64 C] 23)).alloc (.cells #[x0,x1,x2,.int .i64 K,.int .i64 S,.int .i64 P,.int .i64 O,.int .i8 Z,x8,.slice WA nW cW,.slice BA nB cB,x11,x12,x13,x14,x15,x16,x17,x18] 54)).alloc (.cells #[.int .i64 0,.int .i64 0,.int .i64 0] 23))
 try simp only [World.size_alloc] at qTF
 have TF:=hid (qTF.below (by first | (simp;done) | (simp;omega)) hb)
 have yTF:w.heap.size+3 < w1.heap.size:=by have:=hb.size;simp at this;omega
 clear qTF
 have HBW:Hid (Below w.heap.size w w1):=hid hh
 obtain⟨ts0p0,ts0p1,ts0p2⟩:=TS0.out
 obtain⟨tfp0,tfp1,tfp2⟩:=TF.out
 clear hb hh hal
 go_wp2_with fail
 go_at_call 69
 have hal:Below w1.heap.size w1 w1:=Below.refl _ _
 refine (CShape.zal 1 1 O false HB2.out _).mono ?_
 rintro e w2 ⟨rfl,hb⟩
 have hh:Below w1.heap.size w1 w2:=hal.trans (hb.mono hal.size)
 replace TS0:=hid (TS0.out.below yTS0 hh)
 replace yTS0:=Nat.lt_of_lt_of_le yTS0 hh.size
 replace TN:=hid (TN.out.below yTN hh)
 replace yTN:=Nat.lt_of_lt_of_le yTN hh.size
 replace FS:=hid (FS.out.below yFS hh)
 replace yFS:=Nat.lt_of_lt_of_le yFS hh.size
 replace TF:=hid (TF.out.below yTF hh)
 replace yTF:=Nat.lt_of_lt_of_le yTF hh.size
 replace HBW:=hid (HBW.out.trans (hh.mono HBW.out.size))
 clear ts0p0 ts0p1 ts0p2 tfp0 tfp1 tfp2
 obtain⟨ts0p0,ts0p1,ts0p2⟩:=TS0.out
 obtain⟨tfp0,tfp1,tfp2⟩:=TF.out
 clear hb hh hal
 obtain⟨⟨z0,z1,z2⟩,z4,z5,z6⟩:=FS.out
 go_wp2_with fail
 refine bodyPost_ret (Kit.zaa rfl _ _ (w.heap.size+2) 0 [.int .i64 0,.int .i64 0,.int .i64 0] _ rfl (Kit.zak (by go_cell) (by go_cell) (by go_cell)) Tryz.underlying23 rfl (by kernel_rfl)) rfl ?_
 exact⟨rfl,((HBW.out.setCell (p:=⟨w.heap.size+2,0,none⟩) (by simp) _).setCell (p:=⟨w.heap.size+2,1,none⟩) (by simp) _).setCell (p:=⟨w.heap.size+2,2,none⟩) (by simp) _⟩
theorem dshape_w1 (H W C:Int) (x0 x1 x2 x8 x11 x12 x13 x14 x15 x16 x17 x18:Value) (K S P O Z:Int) (WA BA:Option Addr) (nW cW nB cB:Nat) (h1:zae H W C=true) (h2:zae 1 1 O=true) (hw:(nW:Int)≠O * zas H W C) (w:World) :
  Calls Tryz.prog 150 #[.agg #[.int .i64 H,.int .i64 W,.int .i64 C],.agg #[x0,x1,x2,.int .i64 K,.int .i64 S,.int .i64 P,.int .i64 O,.int .i8 Z,x8,.slice WA nW cW,.slice BA nB cB,x11,x12,x13,x14,x15,x16,x17,x18]] w fun e' w'=>e'=.returned (.tuple #[.agg #[.int .i64 0,.int .i64 0,.int .i64 0],.int .i64 9])∧Below w.heap.size w w':=by
 obtain⟨hN0,hN1,hN2⟩:=el_pos H W C h1
 obtain⟨-, -, -, -,o1,o2, -⟩:=zah h2
 have HE2:Hid (zas 1 1 O=O):=hid (by rw [zbc h2];omega)
 obtain⟨N,hN⟩:∃ N,zas H W C=N:=⟨_,rfl⟩
 rw [hN] at hN0 hN1 hN2 hw
 obtain⟨q,hq⟩:∃ q,O * N=q:=⟨_,rfl⟩
 have hqb:0≤q∧q≤1048576:=by
  rw [← hq]
  exact⟨Int.mul_nonneg (by omega) (by omega),Int.le_trans (Int.mul_le_mul o2 hN2 (by omega) (by omega)) (by omega)⟩
 have hmul:IntKind.i64.wrap (O * N)=q:=by rw [hq];exact IntWalk.i64_in _ (by omega)
 rw [hq] at hw
 have hO0:(O == 0)=false:=by simp;omega
 have hO9:¬ O=0:=by omega
 have hN9:¬ N=0:=by omega
 have hwb:((nW:Int) != q)=true:=by simpa using hw
 have hwd:¬ (nW:Int)=q:=hw
 have HB1:=hid h1
 have HB2:=hid h2
 have HE:=hid hN
 clear h1 h2 hN hq hw
 go_enter Tryz.func150,Tryz.ntmps150
 go_wp2_with fail
 go_at_call 69
 have hal:Below w.heap.size w ((((w.alloc (.cells #[.int .i64 H,.int .i64 W,.int .i64 C] 23)).alloc (.cells #[x0,x1,x2,.int .i64 K,.int .i64 S,.int .i64 P,.int .i64 O,.int .i8 Z,x8,.slice WA nW cW,.slice BA nB cB,x11,x12,x13,x14,x15,x16,x17,x18] 54)).alloc (.cells #[.int .i64 0,.int .i64 0,.int .i64 0] 23)).alloc (.cells #[.int .i64 1,.int .i64 1,.int .i64 O] 23)):=((((Below.refl _ _).alloc (by first | exact le_refl _ | (simp;done) | (simp;omega)) _).alloc (by first | exact le_refl _ | (simp;done) | (simp;omega)) _).alloc (by first | exact le_refl _ | (simp;done) | (simp;omega)) _).alloc (by first | exact le_refl _ | (simp;done) | (simp;omega)) _
 refine (CShape.zal H W C true HB1.out _).mono ?_
 rintro e w1 ⟨rfl,hb⟩
 have hh:Below w.heap.size w w1:=hal.trans (hb.mono hal.size)
 have qTS0:=(zaw H W C 23) w
 try simp only [World.size_alloc] at qTS0
 have TS0:=hid ((qTS0.below (B':=w.heap.size+1) (by omega) (((((Below.refl _ _).alloc (by first | exact le_refl _ | (simp;done) | (simp;omega)) _).alloc (by first | exact le_refl _ | (simp;done) | (simp;omega)) _).alloc (by first | exact le_refl _ | (simp;done) | (simp;omega)) _).mono (by simp))).below (by first | (simp;done) | (simp;omega)) hb)
 have yTS0:w.heap.size < w1.heap.size:=by have:=hb.size;simp at this;omega
 clear qTS0
 have qTN:=(zat.new x0 x1 x2 x8 x11 x12 x13 x14 x15 x16 x17 x18 K S P O Z WA BA nW cW nB cB 54) (w.alloc (.cells #[.int .i64 H,.int .i64 W,.int .i64 C] 23))
 try simp only [World.size_alloc] at qTN
 have TN:=hid ((qTN.below (B':=w.heap.size+2) (by omega) ((((Below.refl _ _).alloc (by first | exact le_refl _ | (simp;done) | (simp;omega)) _).alloc (by first | exact le_refl _ | (simp;done) | (simp;omega)) _).mono (by simp))).below (by first | (simp;done) | (simp;omega)) hb)
 have yTN:w.heap.size+1 < w1.heap.size:=by have:=hb.size;simp at this;omega
 clear qTN
 have qFS:=(zbz.new 23) ((w.alloc (.cells #[.int .i64 H,.int .i64 W,.int .i64 C] 23)).alloc (.cells #[x0,x1,x2,.int .i64 K,.int .i64 S,.int .i64 P,.int .i64 O,.int .i8 Z,x8,.slice WA nW cW,.slice BA nB cB,x11,x12,x13,x14,x15,x16,x17,x18] 54))
 try simp only [World.size_alloc] at qFS
 have FS:=hid ((qFS.below (B':=w.heap.size+3) (by omega) (((Below.refl _ _).alloc (by first | exact le_refl _ | (simp;done) | (simp;omega)) _).mono (by simp))).below (by first | (simp;done) | (simp;omega)) hb)
 have yFS:w.heap.size+2 < w1.heap.size:=by have:=hb.size;simp at this;omega
 clear qFS
 have qTF:=(zaw 1 1 O 23) (((w.alloc (.cells #[.int .i64 H,.int .i64 W,.int .i64 C] 23)).alloc (.cells #[x0,x1,x2,.int .i64 K,.int .i64 S,.int .i64 P,.int .i64 O,.int .i8 Z,x8,.slice WA nW cW,.slice BA nB cB,x11,x12,x13,x14,x15,x16,x17,x18] 54)).alloc (.cells #[.int .i64 0,.int .i64 0,.int .i64 0] 23))
 try simp only [World.size_alloc] at qTF
 have TF:=hid (qTF.below (by first | (simp;done) | (simp;omega)) hb)
 have yTF:w.heap.size+3 < w1.heap.size:=by have:=hb.size;simp at this;omega
 clear qTF
 have HBW:Hid (Below w.heap.size w w1):=hid hh
 obtain⟨ts0p0,ts0p1,ts0p2⟩:=TS0.out
 obtain⟨tfp0,tfp1,tfp2⟩:=TF.out
 clear hb hh hal
 go_wp2_with fail
 go_at_call 69
 have hal:Below w1.heap.size w1 w1:=Below.refl _ _
 refine (CShape.zal 1 1 O true HB2.out _).mono ?_
 rintro e w2 ⟨rfl,hb⟩
 have hh:Below w1.heap.size w1 w2:=hal.trans (hb.mono hal.size)
 replace TS0:=hid (TS0.out.below yTS0 hh)
 replace yTS0:=Nat.lt_of_lt_of_le yTS0 hh.size
 replace TN:=hid (TN.out.below yTN hh)
 replace yTN:=Nat.lt_of_lt_of_le yTN hh.size
 replace FS:=hid (FS.out.below yFS hh)
 replace yFS:=Nat.lt_of_lt_of_le yFS hh.size
 replace TF:=hid (TF.out.below yTF hh)
 replace yTF:=Nat.lt_of_lt_of_le yTF hh.size
 replace HBW:=hid (HBW.out.trans (hh.mono HBW.out.size))
 clear ts0p0 ts0p1 ts0p2 tfp0 tfp1 tfp2
 obtain⟨ts0p0,ts0p1,ts0p2⟩:=TS0.out
 obtain⟨tfp0,tfp1,tfp2⟩:=TF.out
 clear hb hh hal
 go_wp2_with fail
 have n6:=TN.out.at 6 _ rfl
 have n9:=TN.out.at 9 _ rfl
 have n10:=TN.out.at 10 _ rfl
 refine wp_region_held_drew (S:=fun w'=>w'.cell? ⟨w.heap.size,0,none⟩=some (.int .i64 H)∧w'.cell? ⟨w.heap.size,1,none⟩=some (.int .i64 W)∧w'.cell? ⟨w.heap.size,2,none⟩=some (.int .i64 C)∧w'.cell? ⟨w.heap.size+1,6,none⟩=some (.int .i64 O)∧w'.cell? ⟨w.heap.size+1,9,none⟩=some (.slice WA nW cW)∧w'.cell? ⟨w.heap.size+1,10,none⟩=some (.slice BA nB cB)) (by kernel_rfl) ⟨ts0p0,ts0p1,ts0p2,n6,n9,n10⟩ (fun hHeld=>?_)
 have hFS:Hid (zbz (w.heap.size+2) w2.drew):=hid (FS.out.below (lt_succ_self _) (Below.refl _ _).drew)
 have hTF:Hid (CConv.ShapeAt (w.heap.size+3) 1 1 O w2.drew):=hid (TF.out.below (lt_succ_self _) (Below.refl _ _).drew)
 replace HBW:=hid HBW.out.drew
 have hsz:w.heap.size+3 < w2.drew.heap.size:=yTF
 clear FS TF TN TS0 n6 n9 n10 ts0p0 ts0p1 ts0p2 tfp0 tfp1 tfp2 yFS yTF yTN yTS0
 generalize w2.drew=Wd at hFS hTF HBW hsz hHeld ⊢
 refine Tk.x 0 rfl ?_
 try simp only [Tk.put]
 refine Tk.y 1 (v:=?_) rfl ?_ ?_
 rotate_left
 ·intro wS hSw
  obtain⟨s1,s2,s3,s4,s5,s6⟩:=hSw
  first | (go_simp;done) | (go_simp;with_reducible rfl)
 try simp only [Tk.put]
 refine Tk.x 2 rfl ?_
 try simp only [Tk.put]
 refine Tk.x 3 rfl ?_
 try simp only [Tk.put]
 refine Tk.y 4 (v:=?_) rfl ?_ ?_
 rotate_left
 ·intro wS hSw
  obtain⟨s1,s2,s3,s4,s5,s6⟩:=hSw
  first | (go_simp;done) | (go_simp;with_reducible rfl)
 try simp only [Tk.put]
 refine Tk.y 5 (v:=?_) rfl ?_ ?_
 rotate_left
 ·intro wS hSw
  obtain⟨s1,s2,s3,s4,s5,s6⟩:=hSw
  first | (go_simp;done) | (go_simp;with_reducible rfl)
 try simp only [Tk.put]
 refine Tk.s 6 rfl (fun K hK=>?_)
 go_simp
 go_at_call 97
 refine (elems_to H W C N HE.out _).mono ?_
 rintro e we ⟨rfl,hb⟩
 have hS1:=And.intro ((hb.cell (p:=⟨w.heap.size,0,none⟩) (by simp;omega)).trans hHeld.1) (And.intro ((hb.cell (p:=⟨w.heap.size,1,none⟩) (by simp;omega)).trans hHeld.2.1) (And.intro ((hb.cell (p:=⟨w.heap.size,2,none⟩) (by simp;omega)).trans hHeld.2.2.1) (And.intro ((hb.cell (p:=⟨w.heap.size+1,6,none⟩) (by simp;omega)).trans hHeld.2.2.2.1) (And.intro ((hb.cell (p:=⟨w.heap.size+1,9,none⟩) (by simp;omega)).trans hHeld.2.2.2.2.1) ((hb.cell (p:=⟨w.heap.size+1,10,none⟩) (by simp;omega)).trans hHeld.2.2.2.2.2)))))
 replace HBW:=hid (HBW.out.trans (hb.mono HBW.out.size))
 replace hFS:=hid (hFS.out.below (by omega) hb)
 replace hTF:=hid (hTF.out.below (by omega) hb)
 replace hsz:=Nat.lt_of_lt_of_le hsz hb.size
 clear hb hHeld
 dsimp only
 refine hK.out _ _ ?_ (fun hHeld=>?_)
 ·exact hS1
 clear hK K
 try simp only [Tk.put]
 refine Tk.x 7 rfl ?_
 try simp only [Tk.put]
 refine Tk.x 8 rfl ?_
 try simp only [Tk.put]
 refine Tk.x 9 rfl ?_
 try simp only [Tk.put]
 refine Tk.t 10 (v:=undef) rfl (Or.inr ⟨by rfl,rfl⟩) (by assumption) ?_
 try simp only [Tk.put]
 refine Tk.t 11 (v:=undef) rfl (Or.inr ⟨by rfl,rfl⟩) (by assumption) ?_
 try simp only [Tk.put]
 refine Tk.t 12 (v:=undef) rfl (Or.inr ⟨by rfl,rfl⟩) (by assumption) ?_
 try simp only [Tk.put]
 refine Tk.t 13 (v:=undef) rfl (Or.inr ⟨by rfl,rfl⟩) (by assumption) ?_
 try simp only [Tk.put]
 refine Tk.x 14 rfl ?_
 try simp only [Tk.put]
 refine Tk.x 15 rfl ?_
 try simp only [Tk.put]
 refine Tk.t 16 (v:=undef) rfl (Or.inr ⟨by rfl,rfl⟩) (by assumption) ?_
 try simp only [Tk.put]
 refine Tk.t 17 (v:=undef) rfl (Or.inr ⟨by rfl,rfl⟩) (by assumption) ?_
 try simp only [Tk.put]
 refine Tk.t 18 (v:=undef) rfl (Or.inr ⟨by rfl,rfl⟩) (by assumption) ?_
 try simp only [Tk.put]
 refine Tk.t 19 (v:=undef) rfl (Or.inr ⟨by rfl,rfl⟩) (by assumption) ?_
 try simp only [Tk.put]
 refine Tk.t 20 (v:=undef) rfl (Or.inr ⟨by rfl,rfl⟩) (by assumption) ?_
 try simp only [Tk.put]
 refine Tk.t 21 (v:=undef) rfl (Or.inr ⟨by rfl,rfl⟩) (by assumption) ?_
 try simp only [Tk.put]
 refine Tk.x 22 rfl ?_
 try simp only [Tk.put]
 refine wpAnyH_done (by kernel_rfl) ?_ _
 obtain⟨⟨z0,z1,z2⟩,z4,z5,z6⟩:=hFS.out
 obtain⟨f0,f1,f2⟩:=hTF.out
 go_wp2_with fail
 refine bodyPost_ret (Kit.zaa rfl _ _ (w.heap.size+2) 0 [.int .i64 0,.int .i64 0,.int .i64 0] _ rfl (Kit.zak (by go_cell) (by go_cell) (by go_cell)) Tryz.underlying23 rfl (by kernel_rfl)) rfl ?_
 exact⟨rfl,((HBW.out.setCell (p:=⟨w.heap.size+2,0,none⟩) (by simp) _).setCell (p:=⟨w.heap.size+2,1,none⟩) (by simp) _).setCell (p:=⟨w.heap.size+2,2,none⟩) (by simp) _⟩
theorem dshape_w2 (H W C:Int) (x0 x1 x2 x8 x11 x12 x13 x14 x15 x16 x17 x18:Value) (K S P O Z:Int) (WA BA:Option Addr) (nW cW nB cB:Nat) (h1:zae H W C=true) (h2:zae 1 1 O=true) (hw:(nW:Int)=O * zas H W C) (hw2:16384 < nW) (w:World) :
  Calls Tryz.prog 150 #[.agg #[.int .i64 H,.int .i64 W,.int .i64 C],.agg #[x0,x1,x2,.int .i64 K,.int .i64 S,.int .i64 P,.int .i64 O,.int .i8 Z,x8,.slice WA nW cW,.slice BA nB cB,x11,x12,x13,x14,x15,x16,x17,x18]] w fun e' w'=>e'=.returned (.tuple #[.agg #[.int .i64 0,.int .i64 0,.int .i64 0],.int .i64 9])∧Below w.heap.size w w':=by
 obtain⟨hN0,hN1,hN2⟩:=el_pos H W C h1
 obtain⟨-, -, -, -,o1,o2, -⟩:=zah h2
 have HE2:Hid (zas 1 1 O=O):=hid (by rw [zbc h2];omega)
 obtain⟨N,hN⟩:∃ N,zas H W C=N:=⟨_,rfl⟩
 rw [hN] at hN0 hN1 hN2 hw
 obtain⟨q,hq⟩:∃ q,O * N=q:=⟨_,rfl⟩
 have hqb:0≤q∧q≤1048576:=by
  rw [← hq]
  exact⟨Int.mul_nonneg (by omega) (by omega),Int.le_trans (Int.mul_le_mul o2 hN2 (by omega) (by omega)) (by omega)⟩
 have hmul:IntKind.i64.wrap (O * N)=q:=by rw [hq];exact IntWalk.i64_in _ (by omega)
 rw [hq] at hw
 have hO0:(O == 0)=false:=by simp;omega
 have hO9:¬ O=0:=by omega
 have hN9:¬ N=0:=by omega
 subst hw
 have hw3:(16384:Int) < (nW:Int):=by omega
 have HB1:=hid h1
 have HB2:=hid h2
 have HE:=hid hN
 clear h1 h2 hN hq
 go_enter Tryz.func150,Tryz.ntmps150
 go_wp2_with fail
 go_at_call 69
 have hal:Below w.heap.size w ((((w.alloc (.cells #[.int .i64 H,.int .i64 W,.int .i64 C] 23)).alloc (.cells #[x0,x1,x2,.int .i64 K,.int .i64 S,.int .i64 P,.int .i64 O,.int .i8 Z,x8,.slice WA nW cW,.slice BA nB cB,x11,x12,x13,x14,x15,x16,x17,x18] 54)).alloc (.cells #[.int .i64 0,.int .i64 0,.int .i64 0] 23)).alloc (.cells #[.int .i64 1,.int .i64 1,.int .i64 O] 23)):=((((Below.refl _ _).alloc (by first | exact le_refl _ | (simp;done) | (simp;omega)) _).alloc (by first | exact le_refl _ | (simp;done) | (simp;omega)) _).alloc (by first | exact le_refl _ | (simp;done) | (simp;omega)) _).alloc (by first | exact le_refl _ | (simp;done) | (simp;omega)) _
 refine (CShape.zal H W C true HB1.out _).mono ?_
 rintro e w1 ⟨rfl,hb⟩
 have hh:Below w.heap.size w w1:=hal.trans (hb.mono hal.size)
 have qTS0:=(zaw H W C 23) w
 try simp only [World.size_alloc] at qTS0
 have TS0:=hid ((qTS0.below (B':=w.heap.size+1) (by omega) (((((Below.refl _ _).alloc (by first | exact le_refl _ | (simp;done) | (simp;omega)) _).alloc (by first | exact le_refl _ | (simp;done) | (simp;omega)) _).alloc (by first | exact le_refl _ | (simp;done) | (simp;omega)) _).mono (by simp))).below (by first | (simp;done) | (simp;omega)) hb)
 have yTS0:w.heap.size < w1.heap.size:=by have:=hb.size;simp at this;omega
 clear qTS0
 have qTN:=(zat.new x0 x1 x2 x8 x11 x12 x13 x14 x15 x16 x17 x18 K S P O Z WA BA nW cW nB cB 54) (w.alloc (.cells #[.int .i64 H,.int .i64 W,.int .i64 C] 23))
 try simp only [World.size_alloc] at qTN
 have TN:=hid ((qTN.below (B':=w.heap.size+2) (by omega) ((((Below.refl _ _).alloc (by first | exact le_refl _ | (simp;done) | (simp;omega)) _).alloc (by first | exact le_refl _ | (simp;done) | (simp;omega)) _).mono (by simp))).below (by first | (simp;done) | (simp;omega)) hb)
 have yTN:w.heap.size+1 < w1.heap.size:=by have:=hb.size;simp at this;omega
 clear qTN
 have qFS:=(zbz.new 23) ((w.alloc (.cells #[.int .i64 H,.int .i64 W,.int .i64 C] 23)).alloc (.cells #[x0,x1,x2,.int .i64 K,.int .i64 S,.int .i64 P,.int .i64 O,.int .i8 Z,x8,.slice WA nW cW,.slice BA nB cB,x11,x12,x13,x14,x15,x16,x17,x18] 54))
 try simp only [World.size_alloc] at qFS
 have FS:=hid ((qFS.below (B':=w.heap.size+3) (by omega) (((Below.refl _ _).alloc (by first | exact le_refl _ | (simp;done) | (simp;omega)) _).mono (by simp))).below (by first | (simp;done) | (simp;omega)) hb)
 have yFS:w.heap.size+2 < w1.heap.size:=by have:=hb.size;simp at this;omega
 clear qFS
 have qTF:=(zaw 1 1 O 23) (((w.alloc (.cells #[.int .i64 H,.int .i64 W,.int .i64 C] 23)).alloc (.cells #[x0,x1,x2,.int .i64 K,.int .i64 S,.int .i64 P,.int .i64 O,.int .i8 Z,x8,.slice WA nW cW,.slice BA nB cB,x11,x12,x13,x14,x15,x16,x17,x18] 54)).alloc (.cells #[.int .i64 0,.int .i64 0,.int .i64 0] 23))
 try simp only [World.size_alloc] at qTF
 have TF:=hid (qTF.below (by first | (simp;done) | (simp;omega)) hb)
 have yTF:w.heap.size+3 < w1.heap.size:=by have:=hb.size;simp at this;omega
 clear qTF
 have HBW:Hid (Below w.heap.size w w1):=hid hh
 obtain⟨ts0p0,ts0p1,ts0p2⟩:=TS0.out
 obtain⟨tfp0,tfp1,tfp2⟩:=TF.out
 clear hb hh hal
 go_wp2_with fail
 go_at_call 69
 have hal:Below w1.heap.size w1 w1:=Below.refl _ _
 refine (CShape.zal 1 1 O true HB2.out _).mono ?_
 rintro e w2 ⟨rfl,hb⟩
 have hh:Below w1.heap.size w1 w2:=hal.trans (hb.mono hal.size)
 replace TS0:=hid (TS0.out.below yTS0 hh)
 replace yTS0:=Nat.lt_of_lt_of_le yTS0 hh.size
 replace TN:=hid (TN.out.below yTN hh)
 replace yTN:=Nat.lt_of_lt_of_le yTN hh.size
 replace FS:=hid (FS.out.below yFS hh)
 replace yFS:=Nat.lt_of_lt_of_le yFS hh.size
 replace TF:=hid (TF.out.below yTF hh)
 replace yTF:=Nat.lt_of_lt_of_le yTF hh.size
 replace HBW:=hid (HBW.out.trans (hh.mono HBW.out.size))
 clear ts0p0 ts0p1 ts0p2 tfp0 tfp1 tfp2
 obtain⟨ts0p0,ts0p1,ts0p2⟩:=TS0.out
 obtain⟨tfp0,tfp1,tfp2⟩:=TF.out
 clear hb hh hal
 go_wp2_with fail
 have n6:=TN.out.at 6 _ rfl
 have n9:=TN.out.at 9 _ rfl
 have n10:=TN.out.at 10 _ rfl
 refine wp_region_held_drew (S:=fun w'=>w'.cell? ⟨w.heap.size,0,none⟩=some (.int .i64 H)∧w'.cell? ⟨w.heap.size,1,none⟩=some (.int .i64 W)∧w'.cell? ⟨w.heap.size,2,none⟩=some (.int .i64 C)∧w'.cell? ⟨w.heap.size+1,6,none⟩=some (.int .i64 O)∧w'.cell? ⟨w.heap.size+1,9,none⟩=some (.slice WA nW cW)∧w'.cell? ⟨w.heap.size+1,10,none⟩=some (.slice BA nB cB)) (by kernel_rfl) ⟨ts0p0,ts0p1,ts0p2,n6,n9,n10⟩ (fun hHeld=>?_)
 have hFS:Hid (zbz (w.heap.size+2) w2.drew):=hid (FS.out.below (lt_succ_self _) (Below.refl _ _).drew)
 have hTF:Hid (CConv.ShapeAt (w.heap.size+3) 1 1 O w2.drew):=hid (TF.out.below (lt_succ_self _) (Below.refl _ _).drew)
 replace HBW:=hid HBW.out.drew
 have hsz:w.heap.size+3 < w2.drew.heap.size:=yTF
 clear FS TF TN TS0 n6 n9 n10 ts0p0 ts0p1 ts0p2 tfp0 tfp1 tfp2 yFS yTF yTN yTS0
 generalize w2.drew=Wd at hFS hTF HBW hsz hHeld ⊢
 refine Tk.x 0 rfl ?_
 try simp only [Tk.put]
 refine Tk.y 1 (v:=?_) rfl ?_ ?_
 rotate_left
 ·intro wS hSw
  obtain⟨s1,s2,s3,s4,s5,s6⟩:=hSw
  first | (go_simp;done) | (go_simp;with_reducible rfl)
 try simp only [Tk.put]
 refine Tk.x 2 rfl ?_
 try simp only [Tk.put]
 refine Tk.x 3 rfl ?_
 try simp only [Tk.put]
 refine Tk.y 4 (v:=?_) rfl ?_ ?_
 rotate_left
 ·intro wS hSw
  obtain⟨s1,s2,s3,s4,s5,s6⟩:=hSw
  first | (go_simp;done) | (go_simp;with_reducible rfl)
 try simp only [Tk.put]
 refine Tk.y 5 (v:=?_) rfl ?_ ?_
 rotate_left
 ·intro wS hSw
  obtain⟨s1,s2,s3,s4,s5,s6⟩:=hSw
  first | (go_simp;done) | (go_simp;with_reducible rfl)
 try simp only [Tk.put]
 refine Tk.s 6 rfl (fun K hK=>?_)
 go_simp
 go_at_call 97
 refine (elems_to H W C N HE.out _).mono ?_
 rintro e we ⟨rfl,hb⟩
 have hS1:=And.intro ((hb.cell (p:=⟨w.heap.size,0,none⟩) (by simp;omega)).trans hHeld.1) (And.intro ((hb.cell (p:=⟨w.heap.size,1,none⟩) (by simp;omega)).trans hHeld.2.1) (And.intro ((hb.cell (p:=⟨w.heap.size,2,none⟩) (by simp;omega)).trans hHeld.2.2.1) (And.intro ((hb.cell (p:=⟨w.heap.size+1,6,none⟩) (by simp;omega)).trans hHeld.2.2.2.1) (And.intro ((hb.cell (p:=⟨w.heap.size+1,9,none⟩) (by simp;omega)).trans hHeld.2.2.2.2.1) ((hb.cell (p:=⟨w.heap.size+1,10,none⟩) (by simp;omega)).trans hHeld.2.2.2.2.2)))))
 replace HBW:=hid (HBW.out.trans (hb.mono HBW.out.size))
 replace hFS:=hid (hFS.out.below (by omega) hb)
 replace hTF:=hid (hTF.out.below (by omega) hb)
 replace hsz:=Nat.lt_of_lt_of_le hsz hb.size
 clear hb hHeld
 dsimp only
 refine hK.out _ _ ?_ (fun hHeld=>?_)
 ·exact hS1
 clear hK K
 try simp only [Tk.put]
 refine Tk.x 7 rfl ?_
 try simp only [Tk.put]
 refine Tk.x 8 rfl ?_
 try simp only [Tk.put]
 refine Tk.x 9 rfl ?_
 try simp only [Tk.put]
 refine Tk.x 10 rfl ?_
 try simp only [Tk.put]
 refine Tk.y 11 (v:=?_) rfl ?_ ?_
 rotate_left
 ·intro wS hSw
  obtain⟨s1,s2,s3,s4,s5,s6⟩:=hSw
  first | (go_simp;done) | (go_simp;with_reducible rfl)
 try simp only [Tk.put]
 refine Tk.x 12 rfl ?_
 try simp only [Tk.put]
 refine Tk.x 13 rfl ?_
 try simp only [Tk.put]
 refine Tk.x 14 rfl ?_
 try simp only [Tk.put]
 refine Tk.x 15 rfl ?_
 try simp only [Tk.put]
 refine Tk.t 16 (v:=undef) rfl (Or.inr ⟨by rfl,rfl⟩) (by assumption) ?_
 try simp only [Tk.put]
 refine Tk.t 17 (v:=undef) rfl (Or.inr ⟨by rfl,rfl⟩) (by assumption) ?_
 try simp only [Tk.put]
 refine Tk.t 18 (v:=undef) rfl (Or.inr ⟨by rfl,rfl⟩) (by assumption) ?_
 try simp only [Tk.put]
 refine Tk.t 19 (v:=undef) rfl (Or.inr ⟨by rfl,rfl⟩) (by assumption) ?_
 try simp only [Tk.put]
 refine Tk.t 20 (v:=undef) rfl (Or.inr ⟨by rfl,rfl⟩) (by assumption) ?_
 try simp only [Tk.put]
 refine Tk.t 21 (v:=undef) rfl (Or.inr ⟨by rfl,rfl⟩) (by assumption) ?_
 try simp only [Tk.put]
 refine Tk.x 22 rfl ?_
 try simp only [Tk.put]
 refine wpAnyH_done (by kernel_rfl) ?_ _
 obtain⟨⟨z0,z1,z2⟩,z4,z5,z6⟩:=hFS.out
 obtain⟨f0,f1,f2⟩:=hTF.out
 go_wp2_with fail
 refine bodyPost_ret (Kit.zaa rfl _ _ (w.heap.size+2) 0 [.int .i64 0,.int .i64 0,.int .i64 0] _ rfl (Kit.zak (by go_cell) (by go_cell) (by go_cell)) Tryz.underlying23 rfl (by kernel_rfl)) rfl ?_
 exact⟨rfl,((HBW.out.setCell (p:=⟨w.heap.size+2,0,none⟩) (by simp) _).setCell (p:=⟨w.heap.size+2,1,none⟩) (by simp) _).setCell (p:=⟨w.heap.size+2,2,none⟩) (by simp) _⟩
theorem dshape_w3 (H W C:Int) (x0 x1 x2 x8 x11 x12 x13 x14 x15 x16 x17 x18:Value) (K S P O Z:Int) (WA BA:Option Addr) (nW cW nB cB:Nat) (h1:zae H W C=true) (h2:zae 1 1 O=true) (hw:(nW:Int)=O * zas H W C) (hw2:nW≤16384) (hb:(nB:Int)≠O) (w:World) :
  Calls Tryz.prog 150 #[.agg #[.int .i64 H,.int .i64 W,.int .i64 C],.agg #[x0,x1,x2,.int .i64 K,.int .i64 S,.int .i64 P,.int .i64 O,.int .i8 Z,x8,.slice WA nW cW,.slice BA nB cB,x11,x12,x13,x14,x15,x16,x17,x18]] w fun e' w'=>e'=.returned (.tuple #[.agg #[.int .i64 0,.int .i64 0,.int .i64 0],.int .i64 9])∧Below w.heap.size w w':=by
 obtain⟨hN0,hN1,hN2⟩:=el_pos H W C h1
 obtain⟨-, -, -, -,o1,o2, -⟩:=zah h2
 have HE2:Hid (zas 1 1 O=O):=hid (by rw [zbc h2];omega)
 obtain⟨N,hN⟩:∃ N,zas H W C=N:=⟨_,rfl⟩
 rw [hN] at hN0 hN1 hN2 hw
 obtain⟨q,hq⟩:∃ q,O * N=q:=⟨_,rfl⟩
 have hqb:0≤q∧q≤1048576:=by
  rw [← hq]
  exact⟨Int.mul_nonneg (by omega) (by omega),Int.le_trans (Int.mul_le_mul o2 hN2 (by omega) (by omega)) (by omega)⟩
 have hmul:IntKind.i64.wrap (O * N)=q:=by rw [hq];exact IntWalk.i64_in _ (by omega)
 rw [hq] at hw
 have hO0:(O == 0)=false:=by simp;omega
 have hO9:¬ O=0:=by omega
 have hN9:¬ N=0:=by omega
 subst hw
 have hw3:(nW:Int)≤16384:=by omega
 have hw4:¬ (16384:Int) < (nW:Int):=by omega
 have hd1:decide ((16384:Int) < (nW:Int))=false:=by simp;omega
 have hd2:decide (16384 < nW)=false:=by simp;omega
 have hbb:((nB:Int) != O)=true:=by simpa using hb
 have HB1:=hid h1
 have HB2:=hid h2
 have HE:=hid hN
 clear h1 h2 hN hq hb
 go_enter Tryz.func150,Tryz.ntmps150
 go_wp2_with fail
 go_at_call 69
 have hal:Below w.heap.size w ((((w.alloc (.cells #[.int .i64 H,.int .i64 W,.int .i64 C] 23)).alloc (.cells #[x0,x1,x2,.int .i64 K,.int .i64 S,.int .i64 P,.int .i64 O,.int .i8 Z,x8,.slice WA nW cW,.slice BA nB cB,x11,x12,x13,x14,x15,x16,x17,x18] 54)).alloc (.cells #[.int .i64 0,.int .i64 0,.int .i64 0] 23)).alloc (.cells #[.int .i64 1,.int .i64 1,.int .i64 O] 23)):=((((Below.refl _ _).alloc (by first | exact le_refl _ | (simp;done) | (simp;omega)) _).alloc (by first | exact le_refl _ | (simp;done) | (simp;omega)) _).alloc (by first | exact le_refl _ | (simp;done) | (simp;omega)) _).alloc (by first | exact le_refl _ | (simp;done) | (simp;omega)) _
 refine (CShape.zal H W C true HB1.out _).mono ?_
 rintro e w1 ⟨rfl,hb⟩
 have hh:Below w.heap.size w w1:=hal.trans (hb.mono hal.size)
 have qTS0:=(zaw H W C 23) w
 try simp only [World.size_alloc] at qTS0
 have TS0:=hid ((qTS0.below (B':=w.heap.size+1) (by omega) (((((Below.refl _ _).alloc (by first | exact le_refl _ | (simp;done) | (simp;omega)) _).alloc (by first | exact le_refl _ | (simp;done) | (simp;omega)) _).alloc (by first | exact le_refl _ | (simp;done) | (simp;omega)) _).mono (by simp))).below (by first | (simp;done) | (simp;omega)) hb)
 have yTS0:w.heap.size < w1.heap.size:=by have:=hb.size;simp at this;omega
 clear qTS0
 have qTN:=(zat.new x0 x1 x2 x8 x11 x12 x13 x14 x15 x16 x17 x18 K S P O Z WA BA nW cW nB cB 54) (w.alloc (.cells #[.int .i64 H,.int .i64 W,.int .i64 C] 23))
 try simp only [World.size_alloc] at qTN
 have TN:=hid ((qTN.below (B':=w.heap.size+2) (by omega) ((((Below.refl _ _).alloc (by first | exact le_refl _ | (simp;done) | (simp;omega)) _).alloc (by first | exact le_refl _ | (simp;done) | (simp;omega)) _).mono (by simp))).below (by first | (simp;done) | (simp;omega)) hb)
 have yTN:w.heap.size+1 < w1.heap.size:=by have:=hb.size;simp at this;omega
 clear qTN
 have qFS:=(zbz.new 23) ((w.alloc (.cells #[.int .i64 H,.int .i64 W,.int .i64 C] 23)).alloc (.cells #[x0,x1,x2,.int .i64 K,.int .i64 S,.int .i64 P,.int .i64 O,.int .i8 Z,x8,.slice WA nW cW,.slice BA nB cB,x11,x12,x13,x14,x15,x16,x17,x18] 54))
 try simp only [World.size_alloc] at qFS
 have FS:=hid ((qFS.below (B':=w.heap.size+3) (by omega) (((Below.refl _ _).alloc (by first | exact le_refl _ | (simp;done) | (simp;omega)) _).mono (by simp))).below (by first | (simp;done) | (simp;omega)) hb)
 have yFS:w.heap.size+2 < w1.heap.size:=by have:=hb.size;simp at this;omega
 clear qFS
 have qTF:=(zaw 1 1 O 23) (((w.alloc (.cells #[.int .i64 H,.int .i64 W,.int .i64 C] 23)).alloc (.cells #[x0,x1,x2,.int .i64 K,.int .i64 S,.int .i64 P,.int .i64 O,.int .i8 Z,x8,.slice WA nW cW,.slice BA nB cB,x11,x12,x13,x14,x15,x16,x17,x18] 54)).alloc (.cells #[.int .i64 0,.int .i64 0,.int .i64 0] 23))
 try simp only [World.size_alloc] at qTF
 have TF:=hid (qTF.below (by first | (simp;done) | (simp;omega)) hb)
 have yTF:w.heap.size+3 < w1.heap.size:=by have:=hb.size;simp at this;omega
 clear qTF
 have HBW:Hid (Below w.heap.size w w1):=hid hh
 obtain⟨ts0p0,ts0p1,ts0p2⟩:=TS0.out
 obtain⟨tfp0,tfp1,tfp2⟩:=TF.out
 clear hb hh hal
 go_wp2_with fail
 go_at_call 69
 have hal:Below w1.heap.size w1 w1:=Below.refl _ _
 refine (CShape.zal 1 1 O true HB2.out _).mono ?_
 rintro e w2 ⟨rfl,hb⟩
 have hh:Below w1.heap.size w1 w2:=hal.trans (hb.mono hal.size)
 replace TS0:=hid (TS0.out.below yTS0 hh)
 replace yTS0:=Nat.lt_of_lt_of_le yTS0 hh.size
 replace TN:=hid (TN.out.below yTN hh)
 replace yTN:=Nat.lt_of_lt_of_le yTN hh.size
 replace FS:=hid (FS.out.below yFS hh)
 replace yFS:=Nat.lt_of_lt_of_le yFS hh.size
 replace TF:=hid (TF.out.below yTF hh)
 replace yTF:=Nat.lt_of_lt_of_le yTF hh.size
 replace HBW:=hid (HBW.out.trans (hh.mono HBW.out.size))
 clear ts0p0 ts0p1 ts0p2 tfp0 tfp1 tfp2
 obtain⟨ts0p0,ts0p1,ts0p2⟩:=TS0.out
 obtain⟨tfp0,tfp1,tfp2⟩:=TF.out
 clear hb hh hal
 go_wp2_with fail
 have n6:=TN.out.at 6 _ rfl
 have n9:=TN.out.at 9 _ rfl
 have n10:=TN.out.at 10 _ rfl
 refine wp_region_held_drew (S:=fun w'=>w'.cell? ⟨w.heap.size,0,none⟩=some (.int .i64 H)∧w'.cell? ⟨w.heap.size,1,none⟩=some (.int .i64 W)∧w'.cell? ⟨w.heap.size,2,none⟩=some (.int .i64 C)∧w'.cell? ⟨w.heap.size+1,6,none⟩=some (.int .i64 O)∧w'.cell? ⟨w.heap.size+1,9,none⟩=some (.slice WA nW cW)∧w'.cell? ⟨w.heap.size+1,10,none⟩=some (.slice BA nB cB)) (by kernel_rfl) ⟨ts0p0,ts0p1,ts0p2,n6,n9,n10⟩ (fun hHeld=>?_)
 have hFS:Hid (zbz (w.heap.size+2) w2.drew):=hid (FS.out.below (lt_succ_self _) (Below.refl _ _).drew)
 have hTF:Hid (CConv.ShapeAt (w.heap.size+3) 1 1 O w2.drew):=hid (TF.out.below (lt_succ_self _) (Below.refl _ _).drew)
 replace HBW:=hid HBW.out.drew
 have hsz:w.heap.size+3 < w2.drew.heap.size:=yTF
 clear FS TF TN TS0 n6 n9 n10 ts0p0 ts0p1 ts0p2 tfp0 tfp1 tfp2 yFS yTF yTN yTS0
 generalize w2.drew=Wd at hFS hTF HBW hsz hHeld ⊢
 refine Tk.x 0 rfl ?_
 try simp only [Tk.put]
 refine Tk.y 1 (v:=?_) rfl ?_ ?_
 rotate_left
 ·intro wS hSw
  obtain⟨s1,s2,s3,s4,s5,s6⟩:=hSw
  first | (go_simp;done) | (go_simp;with_reducible rfl)
 try simp only [Tk.put]
 refine Tk.x 2 rfl ?_
 try simp only [Tk.put]
 refine Tk.x 3 rfl ?_
 try simp only [Tk.put]
 refine Tk.y 4 (v:=?_) rfl ?_ ?_
 rotate_left
 ·intro wS hSw
  obtain⟨s1,s2,s3,s4,s5,s6⟩:=hSw
  first | (go_simp;done) | (go_simp;with_reducible rfl)
 try simp only [Tk.put]
 refine Tk.y 5 (v:=?_) rfl ?_ ?_
 rotate_left
 ·intro wS hSw
  obtain⟨s1,s2,s3,s4,s5,s6⟩:=hSw
  first | (go_simp;done) | (go_simp;with_reducible rfl)
 try simp only [Tk.put]
 refine Tk.s 6 rfl (fun K hK=>?_)
 go_simp
 go_at_call 97
 refine (elems_to H W C N HE.out _).mono ?_
 rintro e we ⟨rfl,hb⟩
 have hS1:=And.intro ((hb.cell (p:=⟨w.heap.size,0,none⟩) (by simp;omega)).trans hHeld.1) (And.intro ((hb.cell (p:=⟨w.heap.size,1,none⟩) (by simp;omega)).trans hHeld.2.1) (And.intro ((hb.cell (p:=⟨w.heap.size,2,none⟩) (by simp;omega)).trans hHeld.2.2.1) (And.intro ((hb.cell (p:=⟨w.heap.size+1,6,none⟩) (by simp;omega)).trans hHeld.2.2.2.1) (And.intro ((hb.cell (p:=⟨w.heap.size+1,9,none⟩) (by simp;omega)).trans hHeld.2.2.2.2.1) ((hb.cell (p:=⟨w.heap.size+1,10,none⟩) (by simp;omega)).trans hHeld.2.2.2.2.2)))))
 replace HBW:=hid (HBW.out.trans (hb.mono HBW.out.size))
 replace hFS:=hid (hFS.out.below (by omega) hb)
 replace hTF:=hid (hTF.out.below (by omega) hb)
 replace hsz:=Nat.lt_of_lt_of_le hsz hb.size
 clear hb hHeld
 dsimp only
 refine hK.out _ _ ?_ (fun hHeld=>?_)
 ·exact hS1
 clear hK K
 try simp only [Tk.put]
 refine Tk.x 7 rfl ?_
 try simp only [Tk.put]
 refine Tk.x 8 rfl ?_
 try simp only [Tk.put]
 refine Tk.x 9 rfl ?_
 try simp only [Tk.put]
 refine Tk.x 10 rfl ?_
 try simp only [Tk.put]
 refine Tk.y 11 (v:=?_) rfl ?_ ?_
 rotate_left
 ·intro wS hSw
  obtain⟨s1,s2,s3,s4,s5,s6⟩:=hSw
  first | (go_simp;done) | (go_simp;with_reducible rfl)
 try simp only [Tk.put]
 refine Tk.x 12 rfl ?_
 try simp only [Tk.put]
 refine Tk.x 13 rfl ?_
 try simp only [Tk.put]
 refine Tk.x 14 rfl ?_
 try simp only [Tk.put]
 refine Tk.x 15 rfl ?_
 try simp only [Tk.put]
 refine Tk.x 16 rfl ?_
 try simp only [Tk.put]
 refine Tk.y 17 (v:=?_) rfl ?_ ?_
 rotate_left
 ·intro wS hSw
  obtain⟨s1,s2,s3,s4,s5,s6⟩:=hSw
  first | (go_simp;done) | (go_simp;with_reducible rfl)
 try simp only [Tk.put]
 refine Tk.x 18 rfl ?_
 try simp only [Tk.put]
 refine Tk.x 19 rfl ?_
 try simp only [Tk.put]
 refine Tk.y 20 (v:=?_) rfl ?_ ?_
 rotate_left
 ·intro wS hSw
  obtain⟨s1,s2,s3,s4,s5,s6⟩:=hSw
  first | (go_simp;done) | (go_simp;with_reducible rfl)
 try simp only [Tk.put]
 refine Tk.x 21 rfl ?_
 try simp only [Tk.put]
 refine Tk.x 22 rfl ?_
 try simp only [Tk.put]
 refine wpAnyH_done (by kernel_rfl) ?_ _
 obtain⟨⟨z0,z1,z2⟩,z4,z5,z6⟩:=hFS.out
 obtain⟨f0,f1,f2⟩:=hTF.out
 go_wp2_with fail
 refine bodyPost_ret (Kit.zaa rfl _ _ (w.heap.size+2) 0 [.int .i64 0,.int .i64 0,.int .i64 0] _ rfl (Kit.zak (by go_cell) (by go_cell) (by go_cell)) Tryz.underlying23 rfl (by kernel_rfl)) rfl ?_
 exact⟨rfl,((HBW.out.setCell (p:=⟨w.heap.size+2,0,none⟩) (by simp) _).setCell (p:=⟨w.heap.size+2,1,none⟩) (by simp) _).setCell (p:=⟨w.heap.size+2,2,none⟩) (by simp) _⟩
theorem dshape_ok (H W C:Int) (x0 x1 x2 x8 x11 x12 x13 x14 x15 x16 x17 x18:Value) (K S P O Z:Int) (WA BA:Option Addr) (nW cW nB cB:Nat) (h1:zae H W C=true) (h2:zae 1 1 O=true) (hw:(nW:Int)=O * zas H W C) (hw2:nW≤16384) (hb:(nB:Int)=O) (w:World) :
  Calls Tryz.prog 150 #[.agg #[.int .i64 H,.int .i64 W,.int .i64 C],.agg #[x0,x1,x2,.int .i64 K,.int .i64 S,.int .i64 P,.int .i64 O,.int .i8 Z,x8,.slice WA nW cW,.slice BA nB cB,x11,x12,x13,x14,x15,x16,x17,x18]] w fun e' w'=>e'=.returned (.tuple #[.agg #[.int .i64 1,.int .i64 1,.int .i64 O],.int .i64 0])∧Below w.heap.size w w':=by
 obtain⟨hN0,hN1,hN2⟩:=el_pos H W C h1
 obtain⟨-, -, -, -,o1,o2, -⟩:=zah h2
 have HE2:Hid (zas 1 1 O=O):=hid (by rw [zbc h2];omega)
 obtain⟨N,hN⟩:∃ N,zas H W C=N:=⟨_,rfl⟩
 rw [hN] at hN0 hN1 hN2 hw
 obtain⟨q,hq⟩:∃ q,O * N=q:=⟨_,rfl⟩
 have hqb:0≤q∧q≤1048576:=by
  rw [← hq]
  exact⟨Int.mul_nonneg (by omega) (by omega),Int.le_trans (Int.mul_le_mul o2 hN2 (by omega) (by omega)) (by omega)⟩
 have hmul:IntKind.i64.wrap (O * N)=q:=by rw [hq];exact IntWalk.i64_in _ (by omega)
 rw [hq] at hw
 have hO0:(O == 0)=false:=by simp;omega
 have hO9:¬ O=0:=by omega
 have hN9:¬ N=0:=by omega
 subst hw
 have hw3:(nW:Int)≤16384:=by omega
 have hw4:¬ (16384:Int) < (nW:Int):=by omega
 have hd1:decide ((16384:Int) < (nW:Int))=false:=by simp;omega
 have hd2:decide (16384 < nW)=false:=by simp;omega
 have hbb:((nB:Int) != O)=false:=by simpa using hb
 have HB1:=hid h1
 have HB2:=hid h2
 have HE:=hid hN
 clear h1 h2 hN hq
 go_enter Tryz.func150,Tryz.ntmps150
 go_wp2_with fail
 go_at_call 69
 have hal:Below w.heap.size w ((((w.alloc (.cells #[.int .i64 H,.int .i64 W,.int .i64 C] 23)).alloc (.cells #[x0,x1,x2,.int .i64 K,.int .i64 S,.int .i64 P,.int .i64 O,.int .i8 Z,x8,.slice WA nW cW,.slice BA nB cB,x11,x12,x13,x14,x15,x16,x17,x18] 54)).alloc (.cells #[.int .i64 0,.int .i64 0,.int .i64 0] 23)).alloc (.cells #[.int .i64 1,.int .i64 1,.int .i64 O] 23)):=((((Below.refl _ _).alloc (by first | exact le_refl _ | (simp;done) | (simp;omega)) _).alloc (by first | exact le_refl _ | (simp;done) | (simp;omega)) _).alloc (by first | exact le_refl _ | (simp;done) | (simp;omega)) _).alloc (by first | exact le_refl _ | (simp;done) | (simp;omega)) _
 refine (CShape.zal H W C true HB1.out _).mono ?_
 rintro e w1 ⟨rfl,hb⟩
 have hh:Below w.heap.size w w1:=hal.trans (hb.mono hal.size)
 have qTS0:=(zaw H W C 23) w
 try simp only [World.size_alloc] at qTS0
 have TS0:=hid ((qTS0.below (B':=w.heap.size+1) (by omega) (((((Below.refl _ _).alloc (by first | exact le_refl _ | (simp;done) | (simp;omega)) _).alloc (by first | exact le_refl _ | (simp;done) | (simp;omega)) _).alloc (by first | exact le_refl _ | (simp;done) | (simp;omega)) _).mono (by simp))).below (by first | (simp;done) | (simp;omega)) hb)
 have yTS0:w.heap.size < w1.heap.size:=by have:=hb.size;simp at this;omega
 clear qTS0
 have qTN:=(zat.new x0 x1 x2 x8 x11 x12 x13 x14 x15 x16 x17 x18 K S P O Z WA BA nW cW nB cB 54) (w.alloc (.cells #[.int .i64 H,.int .i64 W,.int .i64 C] 23))
 try simp only [World.size_alloc] at qTN
 have TN:=hid ((qTN.below (B':=w.heap.size+2) (by omega) ((((Below.refl _ _).alloc (by first | exact le_refl _ | (simp;done) | (simp;omega)) _).alloc (by first | exact le_refl _ | (simp;done) | (simp;omega)) _).mono (by simp))).below (by first | (simp;done) | (simp;omega)) hb)
 have yTN:w.heap.size+1 < w1.heap.size:=by have:=hb.size;simp at this;omega
 clear qTN
 have qFS:=(zbz.new 23) ((w.alloc (.cells #[.int .i64 H,.int .i64 W,.int .i64 C] 23)).alloc (.cells #[x0,x1,x2,.int .i64 K,.int .i64 S,.int .i64 P,.int .i64 O,.int .i8 Z,x8,.slice WA nW cW,.slice BA nB cB,x11,x12,x13,x14,x15,x16,x17,x18] 54))
 try simp only [World.size_alloc] at qFS
 have FS:=hid ((qFS.below (B':=w.heap.size+3) (by omega) (((Below.refl _ _).alloc (by first | exact le_refl _ | (simp;done) | (simp;omega)) _).mono (by simp))).below (by first | (simp;done) | (simp;omega)) hb)
 have yFS:w.heap.size+2 < w1.heap.size:=by have:=hb.size;simp at this;omega
 clear qFS
 have qTF:=(zaw 1 1 O 23) (((w.alloc (.cells #[.int .i64 H,.int .i64 W,.int .i64 C] 23)).alloc (.cells #[x0,x1,x2,.int .i64 K,.int .i64 S,.int .i64 P,.int .i64 O,.int .i8 Z,x8,.slice WA nW cW,.slice BA nB cB,x11,x12,x13,x14,x15,x16,x17,x18] 54)).alloc (.cells #[.int .i64 0,.int .i64 0,.int .i64 0] 23))
 try simp only [World.size_alloc] at qTF
 have TF:=hid (qTF.below (by first | (simp;done) | (simp;omega)) hb)
 have yTF:w.heap.size+3 < w1.heap.size:=by have:=hb.size;simp at this;omega
 clear qTF
 have HBW:Hid (Below w.heap.size w w1):=hid hh
 obtain⟨ts0p0,ts0p1,ts0p2⟩:=TS0.out
 obtain⟨tfp0,tfp1,tfp2⟩:=TF.out
 clear hb hh hal
 go_wp2_with fail
 go_at_call 69
 have hal:Below w1.heap.size w1 w1:=Below.refl _ _
 refine (CShape.zal 1 1 O true HB2.out _).mono ?_
 rintro e w2 ⟨rfl,hb⟩
 have hh:Below w1.heap.size w1 w2:=hal.trans (hb.mono hal.size)
 replace TS0:=hid (TS0.out.below yTS0 hh)
 replace yTS0:=Nat.lt_of_lt_of_le yTS0 hh.size
 replace TN:=hid (TN.out.below yTN hh)
 replace yTN:=Nat.lt_of_lt_of_le yTN hh.size
 replace FS:=hid (FS.out.below yFS hh)
 replace yFS:=Nat.lt_of_lt_of_le yFS hh.size
 replace TF:=hid (TF.out.below yTF hh)
 replace yTF:=Nat.lt_of_lt_of_le yTF hh.size
 replace HBW:=hid (HBW.out.trans (hh.mono HBW.out.size))
 clear ts0p0 ts0p1 ts0p2 tfp0 tfp1 tfp2
 obtain⟨ts0p0,ts0p1,ts0p2⟩:=TS0.out
 obtain⟨tfp0,tfp1,tfp2⟩:=TF.out
 clear hb hh hal
 go_wp2_with fail
 have n6:=TN.out.at 6 _ rfl
 have n9:=TN.out.at 9 _ rfl
 have n10:=TN.out.at 10 _ rfl
 refine wp_region_held_drew (S:=fun w'=>w'.cell? ⟨w.heap.size,0,none⟩=some (.int .i64 H)∧w'.cell? ⟨w.heap.size,1,none⟩=some (.int .i64 W)∧w'.cell? ⟨w.heap.size,2,none⟩=some (.int .i64 C)∧w'.cell? ⟨w.heap.size+1,6,none⟩=some (.int .i64 O)∧w'.cell? ⟨w.heap.size+1,9,none⟩=some (.slice WA nW cW)∧w'.cell? ⟨w.heap.size+1,10,none⟩=some (.slice BA nB cB)) (by kernel_rfl) ⟨ts0p0,ts0p1,ts0p2,n6,n9,n10⟩ (fun hHeld=>?_)
 have hFS:Hid (zbz (w.heap.size+2) w2.drew):=hid (FS.out.below (lt_succ_self _) (Below.refl _ _).drew)
 have hTF:Hid (CConv.ShapeAt (w.heap.size+3) 1 1 O w2.drew):=hid (TF.out.below (lt_succ_self _) (Below.refl _ _).drew)
 replace HBW:=hid HBW.out.drew
 have hsz:w.heap.size+3 < w2.drew.heap.size:=yTF
 clear FS TF TN TS0 n6 n9 n10 ts0p0 ts0p1 ts0p2 tfp0 tfp1 tfp2 yFS yTF yTN yTS0
 generalize w2.drew=Wd at hFS hTF HBW hsz hHeld ⊢
 refine Tk.x 0 rfl ?_
 try simp only [Tk.put]
 refine Tk.y 1 (v:=?_) rfl ?_ ?_
 rotate_left
 ·intro wS hSw
  obtain⟨s1,s2,s3,s4,s5,s6⟩:=hSw
  first | (go_simp;done) | (go_simp;with_reducible rfl)
 try simp only [Tk.put]
 refine Tk.x 2 rfl ?_
 try simp only [Tk.put]
 refine Tk.x 3 rfl ?_
 try simp only [Tk.put]
 refine Tk.y 4 (v:=?_) rfl ?_ ?_
 rotate_left
 ·intro wS hSw
  obtain⟨s1,s2,s3,s4,s5,s6⟩:=hSw
  first | (go_simp;done) | (go_simp;with_reducible rfl)
 try simp only [Tk.put]
 refine Tk.y 5 (v:=?_) rfl ?_ ?_
 rotate_left
 ·intro wS hSw
  obtain⟨s1,s2,s3,s4,s5,s6⟩:=hSw
  first | (go_simp;done) | (go_simp;with_reducible rfl)
 try simp only [Tk.put]
 refine Tk.s 6 rfl (fun K hK=>?_)
 go_simp
 go_at_call 97
 refine (elems_to H W C N HE.out _).mono ?_
 rintro e we ⟨rfl,hb⟩
 have hS1:=And.intro ((hb.cell (p:=⟨w.heap.size,0,none⟩) (by simp;omega)).trans hHeld.1) (And.intro ((hb.cell (p:=⟨w.heap.size,1,none⟩) (by simp;omega)).trans hHeld.2.1) (And.intro ((hb.cell (p:=⟨w.heap.size,2,none⟩) (by simp;omega)).trans hHeld.2.2.1) (And.intro ((hb.cell (p:=⟨w.heap.size+1,6,none⟩) (by simp;omega)).trans hHeld.2.2.2.1) (And.intro ((hb.cell (p:=⟨w.heap.size+1,9,none⟩) (by simp;omega)).trans hHeld.2.2.2.2.1) ((hb.cell (p:=⟨w.heap.size+1,10,none⟩) (by simp;omega)).trans hHeld.2.2.2.2.2)))))
 replace HBW:=hid (HBW.out.trans (hb.mono HBW.out.size))
 replace hFS:=hid (hFS.out.below (by omega) hb)
 replace hTF:=hid (hTF.out.below (by omega) hb)
 replace hsz:=Nat.lt_of_lt_of_le hsz hb.size
 clear hb hHeld
 dsimp only
 refine hK.out _ _ ?_ (fun hHeld=>?_)
 ·exact hS1
 clear hK K
 try simp only [Tk.put]
 refine Tk.x 7 rfl ?_
 try simp only [Tk.put]
 refine Tk.x 8 rfl ?_
 try simp only [Tk.put]
 refine Tk.x 9 rfl ?_
 try simp only [Tk.put]
 refine Tk.x 10 rfl ?_
 try simp only [Tk.put]
 refine Tk.y 11 (v:=?_) rfl ?_ ?_
 rotate_left
 ·intro wS hSw
  obtain⟨s1,s2,s3,s4,s5,s6⟩:=hSw
  first | (go_simp;done) | (go_simp;with_reducible rfl)
 try simp only [Tk.put]
 refine Tk.x 12 rfl ?_
 try simp only [Tk.put]
 refine Tk.x 13 rfl ?_
 try simp only [Tk.put]
 refine Tk.x 14 rfl ?_
 try simp only [Tk.put]
 refine Tk.x 15 rfl ?_
 try simp only [Tk.put]
 refine Tk.x 16 rfl ?_
 try simp only [Tk.put]
 refine Tk.y 17 (v:=?_) rfl ?_ ?_
 rotate_left
 ·intro wS hSw
  obtain⟨s1,s2,s3,s4,s5,s6⟩:=hSw
  first | (go_simp;done) | (go_simp;with_reducible rfl)
 try simp only [Tk.put]
 refine Tk.x 18 rfl ?_
 try simp only [Tk.put]
 refine Tk.x 19 rfl ?_
 try simp only [Tk.put]
 refine Tk.y 20 (v:=?_) rfl ?_ ?_
 rotate_left
 ·intro wS hSw
  obtain⟨s1,s2,s3,s4,s5,s6⟩:=hSw
  first | (go_simp;done) | (go_simp;with_reducible rfl)
 try simp only [Tk.put]
 refine Tk.x 21 rfl ?_
 try simp only [Tk.put]
 refine Tk.x 22 rfl ?_
 try simp only [Tk.put]
 refine wpAnyH_done (by kernel_rfl) ?_ _
 obtain⟨⟨z0,z1,z2⟩,z4,z5,z6⟩:=hFS.out
 obtain⟨f0,f1,f2⟩:=hTF.out
 go_wp2_with fail
 refine bodyPost_ret (Kit.zaa rfl _ _ (w.heap.size+2) 0 [.int .i64 1,.int .i64 1,.int .i64 O] _ rfl (Kit.zak (by go_cell) (by go_cell) (by go_cell)) Tryz.underlying23 rfl (by kernel_rfl)) rfl ?_
 exact⟨rfl,((HBW.out.setCell (p:=⟨w.heap.size+2,0,none⟩) (by simp) _).setCell (p:=⟨w.heap.size+2,1,none⟩) (by simp) _).setCell (p:=⟨w.heap.size+2,2,none⟩) (by simp) _⟩
theorem dshape_to (H W C:Int) (x0 x1 x2 x8 x11 x12 x13 x14 x15 x16 x17 x18:Value) (K S P O Z:Int) (WA BA:Option Addr) (nW cW nB cB:Nat) (e:Int) (v:Array Value) (he:denseE H W C O nW nB=e) (hv:denseS H W C O nW nB=v) (w:World) :
  Calls Tryz.prog 150 #[.agg #[.int .i64 H,.int .i64 W,.int .i64 C],.agg #[x0,x1,x2,.int .i64 K,.int .i64 S,.int .i64 P,.int .i64 O,.int .i8 Z,x8,.slice WA nW cW,.slice BA nB cB,x11,x12,x13,x14,x15,x16,x17,x18]] w fun e' w'=>e'=.returned (.tuple #[.agg v,.int .i64 e])∧Below w.heap.size w w':=by
 subst hv
 unfold denseS
 rw [he]
 unfold denseE at he
 cases h1:zae H W C
 ·rw [if_neg (by simp [h1])] at he
  subst he
  exact dshape5a H W C x0 x1 x2 x8 x11 x12 x13 x14 x15 x16 x17 x18 K S P O Z WA BA nW cW nB cB h1 w
 ·cases h2:zae 1 1 O
  ·rw [if_neg (by simp [h2])] at he
   subst he
   exact dshape5b H W C x0 x1 x2 x8 x11 x12 x13 x14 x15 x16 x17 x18 K S P O Z WA BA nW cW nB cB h1 h2 w
  ·rw [if_pos ⟨h1,h2⟩] at he
   by_cases h3:(nW:Int)=O * zas H W C∧nW≤16384∧(nB:Int)=O
   ·rw [if_pos h3] at he
    subst he
    exact dshape_ok H W C x0 x1 x2 x8 x11 x12 x13 x14 x15 x16 x17 x18 K S P O Z WA BA nW cW nB cB h1 h2 h3.1 h3.2.1 h3.2.2 w
   ·rw [if_neg h3] at he
    subst he
    rw [if_neg (by decide)]
    by_cases h4:(nW:Int)=O * zas H W C
    ·by_cases h5:nW≤16384
     ·exact dshape_w3 H W C x0 x1 x2 x8 x11 x12 x13 x14 x15 x16 x17 x18 K S P O Z WA BA nW cW nB cB h1 h2 h4 h5 (fun h6=>h3 ⟨h4,h5,h6⟩) w
     ·exact dshape_w2 H W C x0 x1 x2 x8 x11 x12 x13 x14 x15 x16 x17 x18 K S P O Z WA BA nW cW nB cB h1 h2 h4 (by omega) w
    ·exact dshape_w1 H W C x0 x1 x2 x8 x11 x12 x13 x14 x15 x16 x17 x18 K S P O Z WA BA nW cW nB cB h1 h2 h4 w
end CDense
end
end Go.Proofs.YtfgdfignoakkaaaGreatDoor
