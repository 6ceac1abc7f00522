/- -/
import Derived.Test.YtahekhpeomcfjaaGreatDoorGJ31
open Go.Lib (hid)
open Nat (le_refl lt_of_succ_lt lt_succ_self)
set_option linter.unusedVariables false
set_option linter.unusedSimpArgs false
set_option maxRecDepth 100000
set_option maxHeartbeats 16000000
namespace Go.Proofs.YtahekhpeomcfjaaGreatDoor
namespace CConv
end CConv
namespace CSat
end CSat
namespace CShape
end CShape
namespace CTensor
end CTensor
open Go Go.ChangeShapes Go.WideShapes Go.ChangeAt Go.RowKit
section
namespace CDepth
open Plain CSat CShape CTensor CConv
def sumD (zs ws bs:List Int) (H W C S P:Int) (kk:Nat) (Z:Int) (h v o:Nat):Int :=
 IntKind.i32.wrap (bs.getD o 0+winD zs ws H W C ((h:Int) * S - P) ((v:Int) * S - P) kk o Z)
theorem depthE_ok {H W C K S P:Int} {nW nB:Nat} (h:depthE H W C K S P nW nB=0):zaz H W C K S P C=0∧(nW:Int)=C * K * K∧nW≤16384∧(nB:Int)=C:=by
 unfold depthE at h
 by_cases h1:zaz H W C K S P C≠0
 ·rw [if_pos h1] at h;exact absurd h h1
 ·rw [if_neg h1] at h
  by_cases h2:(nW:Int)=C * K * K∧nW≤16384∧(nB:Int)=C
  ·exact⟨by omega,h2⟩
  ·rw [if_neg h2] at h;omega
theorem dof_bad (H W C:Int) (A:Option Addr) (n c:Nat) (x0 x1 x2 x8 x11 x12 x13 x14 x15 x16 x17 x18:Value) (K S P O Z:Int) (WA BA:Option Addr) (nW cW nB cB:Nat) (ht:tensB H W C n=false) (w:World) :
  Calls Tryz.prog 127 #[.agg #[.int .i64 H,.int .i64 W,.int .i64 C,.slice A n c],.agg #[x0,x1,x2,.int .i64 K,.int .i64 S,.int .i64 P,.int .i64 O,.int .i8 Z,x8,.slice WA nW cW,.slice BA nB cB,x11,x12,x13,x14,x15,x16,x17,x18]] w (MadeA w 0 0 0 0 [] (.int .i64 5)):=by
 have HT:=hid ht
 clear ht
 go_enter Tryz.func127,Tryz.ntmps127
 go_wp2_with (go_at_call 13;(refine (CTensor.zac H W C A n c false HT.out _).mono ?_);(rintro e w1 ⟨rfl,hb⟩;obtain⟨hcc,hff⟩:=Kit.bcell hb;have hz:w.heap.size+3≤w1.heap.size:=(by have:=hb.size;simp at this;omega);have hz2:w.heap.size+2 < w1.heap.size:=(by omega);have HB:=hid hb;clear hb))
 refine bodyPost_ret (Kit.zaa rfl _ _ (w.heap.size+2) 0 [.int .i64 0,.int .i64 0,.int .i64 0,.slice none 0 0] _ rfl (zan (by go_cell) (by go_cell) (by go_cell) (by go_cell)) Tryz.underlying83 rfl (by kernel_rfl)) rfl ?_
 have hB1:Below w.heap.size w w1:=Below.trans ((((Below.refl _ _).alloc (le_refl _) _).alloc (by simp) _).alloc (by simp;omega) _) (HB.out.mono (by first | omega | (simp;done) | (simp;omega)))
 exact⟨_,rfl,World.ownsRow_nil _ _ _ _,(((hB1.setCell (p:=⟨w.heap.size+2,0,none⟩) (by simp) _).setCell (p:=⟨w.heap.size+2,1,none⟩) (by simp) _).setCell (p:=⟨w.heap.size+2,2,none⟩) (by simp) _).setCell (p:=⟨w.heap.size+2,3,none⟩) (by simp) _⟩
theorem dof_err (H W C:Int) (A:Option Addr) (n c:Nat) (x0 x1 x2 x8 x11 x12 x13 x14 x15 x16 x17 x18:Value) (K S P O Z:Int) (WA BA:Option Addr) (nW cW nB cB:Nat) (ht:tensB H W C n=true) (er:Int) (he:depthE H W C K S P nW nB=er) (h0:er≠0) (w:World) :
  Calls Tryz.prog 127 #[.agg #[.int .i64 H,.int .i64 W,.int .i64 C,.slice A n c],.agg #[x0,x1,x2,.int .i64 K,.int .i64 S,.int .i64 P,.int .i64 O,.int .i8 Z,x8,.slice WA nW cW,.slice BA nB cB,x11,x12,x13,x14,x15,x16,x17,x18]] w (MadeA w 0 0 0 0 [] (.int .i64 er)):=by
 have hS:depthS H W C K S P nW nB=#[.int .i64 0,.int .i64 0,.int .i64 0]:=by unfold depthS;rw [he,if_neg h0]
 have HT:=hid ht
 have HE:=hid he
 have HS:=hid hS
 have h0b:(er != 0)=true:=by simpa using h0
 have h0c:(er == 0)=false:=by simpa using h0
 clear ht he hS
 go_enter Tryz.func127,Tryz.ntmps127
 go_wp2_with (first
  | (go_at_call 13
     have hal:Below w.heap.size w (((w.alloc (.cells #[.int .i64 H,.int .i64 W,.int .i64 C,.slice A n c] 27)).alloc (.cells #[x0,x1,x2,.int .i64 K,.int .i64 S,.int .i64 P,.int .i64 O,.int .i8 Z,x8,.slice WA nW cW,.slice BA nB cB,x11,x12,x13,x14,x15,x16,x17,x18] 44)).alloc (.cells #[.int .i64 0,.int .i64 0,.int .i64 0,.slice none 0 0] 83)):=(((Below.refl _ _).alloc (by first | exact le_refl _ | (simp;done) | (simp;omega)) _).alloc (by first | exact le_refl _ | (simp;done) | (simp;omega)) _).alloc (by first | exact le_refl _ | (simp;done) | (simp;omega)) _
     refine (CTensor.zac H W C A n c true HT.out _).mono ?_
     rintro e w1 ⟨rfl,hb⟩
     have hh:Below w.heap.size w w1:=hal.trans (hb.mono hal.size)
     have qTB:=(zbd H W C A n c 27) w
     try simp only [World.size_alloc] at qTB
     have TB:=hid ((qTB.below (B':=w.heap.size+1) (by omega) ((((Below.refl _ _).alloc (by first | exact le_refl _ | (simp;done) | (simp;omega)) _).alloc (by first | exact le_refl _ | (simp;done) | (simp;omega)) _).mono (by simp))).below (by first | (simp;done) | (simp;omega)) hb)
     have yTB:w.heap.size < w1.heap.size:=by have:=hb.size;simp at this;omega
     clear qTB
     have qTN:=(zai.new x0 x1 x2 x8 x11 x12 x13 x14 x15 x16 x17 x18 K S P O Z WA BA nW cW nB cB 44) (w.alloc (.cells #[.int .i64 H,.int .i64 W,.int .i64 C,.slice A n c] 27))
     try simp only [World.size_alloc] at qTN
     have TN:=hid ((qTN.below (B':=w.heap.size+2) (by omega) (((Below.refl _ _).alloc (by first | exact le_refl _ | (simp;done) | (simp;omega)) _).mono (by simp))).below (by first | (simp;done) | (simp;omega)) hb)
     have yTN:w.heap.size+1 < w1.heap.size:=by have:=hb.size;simp at this;omega
     clear qTN
     have qFR:=(za5 83) ((w.alloc (.cells #[.int .i64 H,.int .i64 W,.int .i64 C,.slice A n c] 27)).alloc (.cells #[x0,x1,x2,.int .i64 K,.int .i64 S,.int .i64 P,.int .i64 O,.int .i8 Z,x8,.slice WA nW cW,.slice BA nB cB,x11,x12,x13,x14,x15,x16,x17,x18] 44))
     try simp only [World.size_alloc] at qFR
     have FR:=hid (qFR.below (by first | (simp;done) | (simp;omega)) hb)
     have yFR:w.heap.size+2 < w1.heap.size:=by have:=hb.size;simp at this;omega
     clear qFR
     have HBW:Hid (Below w.heap.size w w1):=hid hh
     obtain⟨tbp0,tbp1,tbp2,tbp3⟩:=TB.out
     clear hb hh hal)
  | (go_at_call 76
     have hal:Below w1.heap.size w1 w1:=Below.refl _ _
     refine (dep_to H W C x0 x1 x2 x8 x11 x12 x13 x14 x15 x16 x17 x18 K S P O Z WA BA nW cW nB cB er _ HE.out HS.out _).mono ?_
     rintro e w2 ⟨rfl,hb⟩
     have hh:Below w1.heap.size w1 w2:=hal.trans (hb.mono hal.size)
     replace TB:=hid (TB.out.below yTB hh)
     replace yTB:=Nat.lt_of_lt_of_le yTB hh.size
     replace TN:=hid (TN.out.below yTN hh)
     replace yTN:=Nat.lt_of_lt_of_le yTN hh.size
     replace FR:=hid (FR.out.below yFR hh)
     replace yFR:=Nat.lt_of_lt_of_le yFR hh.size
     replace HBW:=hid (HBW.out.trans (hh.mono HBW.out.size))
     clear tbp0 tbp1 tbp2 tbp3
     obtain⟨⟨z0,z1,z2,z3⟩,z4,z5,z6,z7⟩:=FR.out
     obtain⟨tbp0,tbp1,tbp2,tbp3⟩:=TB.out
     clear hb hh hal)
  | (refine wpList_load_mid rfl 44 (.tmp 3) rfl (w.heap.size+1) 0 rfl [x0,x1,x2,.int .i64 K,.int .i64 S,.int .i64 P,.int .i64 O,.int .i8 Z,x8,.slice WA nW cW,.slice BA nB cB,x11,x12,x13,x14,x15,x16,x17,x18] _ TN.out Tryz.underlying44 rfl (by kernel_rfl) ?_))
 obtain⟨⟨z0,z1,z2,z3⟩,z4,z5,z6,z7⟩:=FR.out
 refine bodyPost_ret (Kit.zaa rfl _ _ (w.heap.size+2) 0 [.int .i64 0,.int .i64 0,.int .i64 0,.slice none 0 0] _ rfl (zan (by go_cell) (by go_cell) (by go_cell) (by go_cell)) Tryz.underlying83 rfl (by kernel_rfl)) rfl ?_
 exact⟨_,rfl,World.ownsRow_nil _ _ _ _,by exact ((((HBW.out.setCell (p:=⟨w.heap.size+2,0,none⟩) (by simp) _).setCell (p:=⟨w.heap.size+2,1,none⟩) (by simp) _).setCell (p:=⟨w.heap.size+2,2,none⟩) (by simp) _).setCell (p:=⟨w.heap.size+2,3,none⟩) (by simp) _).alloc (by simp;omega) _⟩
theorem dof_yes (H W C:Int) (A:Option Addr) (zs:List Int) (n c:Nat) (hn:zs.length=n) (ht:tensB H W C n=true) (hz:I8b zs) (x0 x1 x2 x8 x11 x12 x13 x14 x15 x16 x17 x18:Value) (K S P O Z:Int) (WA BA:Option Addr) (nW cW nB cB:Nat) (ws:List Int) (hws:ws.length=nW) (hwc:nW≤cW) (hwb:I8b ws) (bs:List Int) (hbs:bs.length=nB)
  (he:depthE H W C K S P nW nB=0) (a b d kk:Nat) (ha:zae H K S P=(a:Int)) (hb:zae W K S P=(b:Int)) (hd:C=(d:Int)) (hk:K=(kk:Int)) (N:Nat) (hN:a * b * d=N) (z1 : -128≤Z) (z2:Z≤127)
  (w:World) (hr:Kit.Rd w w.heap.size A (I8s zs)) (hrw:Kit.Rd w w.heap.size WA (I8s ws)) (hrb:Kit.Rd w w.heap.size BA (I32v bs)) :
  Calls Tryz.prog 127 #[.agg #[.int .i64 H,.int .i64 W,.int .i64 C,.slice A n c],.agg #[x0,x1,x2,.int .i64 K,.int .i64 S,.int .i64 P,.int .i64 O,.int .i8 Z,x8,.slice WA nW cW,.slice BA nB cB,x11,x12,x13,x14,x15,x16,x17,x18]] w (MadeA w (a:Int) (b:Int) C N (rowL (gridF b d (sumD zs ws bs H W C S P kk Z)) N) (.int .i64 0)):=by
 obtain⟨hsl,hnW,hn16,hnB⟩:=depthE_ok he
 obtain⟨hs0,har1,har2, -, -,hsr⟩:=za9 hsl
 obtain⟨-, -,k1,k2,st1,st2,pd1,pd2, -⟩:=za7 har1
 rw [ha,hb] at hsr
 obtain⟨q1,q2,q3,q4,q5,q6,q7⟩:=zab hsr
 have hNI:(a:Int) * (b:Int) * C=(N:Int):=by rw [hd, ← hN];simp
 have hN2:N≤1024:=by rw [hNI] at q7;omega
 have hel:zay (a:Int) (b:Int) C=(N:Int):=by rw [zaw hsr];exact hNI
 have hS:depthS H W C K S P nW nB=#[.int .i64 (a:Int),.int .i64 (b:Int),.int .i64 C]:=by unfold depthS;rw [he,if_pos rfl,ha,hb]
 have hnWN:d * kk * kk=nW:=by
  have:((d * kk * kk:Nat):Int)=(nW:Int):=by rw [hnW,hk,hd];simp
  omega
 obtain⟨F,hF⟩:∃ F,F=gridF b d (sumD zs ws bs H W C S P kk Z):=⟨_,rfl⟩
 have hFF:∀ i j k:Nat,j < b→k < d→F ((i * b+j) * d+k)=sumD zs ws bs H W C S P kk Z i j k:=fun i j k hj hk=>by rw [hF,grid_at b d _ hj hk]
 rw [← hF]
 have hboo:0 < nB:=by omega
 obtain⟨bb,ob,rfl,hbb,hcb⟩:=zav hrb (j:=0) (by omega)
 obtain⟨i0,hi0,hi1,hi2,hi3⟩:=zbz info_i32
 have hmk:∀ w:World,(Instr.makeSlice 40 (.int .i64 0) (.int .i64 (N:Int))).run Tryz.prog w=.ok (.slice (some ⟨w.heap.size,0,none⟩) 0 N) (w.alloc (.cells (madeCells #[.int .i32 0] N) 21)):=fun w=>by
  have h:=run_make (P:=Tryz.prog) w 40 21 i0 (.int .i32 0) Tryz.underlying40 hi0 hi1 .i64 .i64 0 N (Int.le_refl _) (by omega) (by rw [hi3];omega) (by omega)
  rw [hi2,Nat.mul_one,show (Value.int .i32 0).cells=#[.int .i32 0] from rfl] at h
  simpa using h
 have hkk1:1≤kk:=by omega
 have hkk7:kk≤7:=by omega
 have HT:=hid ht
 have HE:=hid he
 have HS:=hid hS
 have HEL:=hid hel
 have HFF:=hid hFF
 have HN:=hid hn
 have HZ:=hid hz
 have HWS:=hid hws
 have HWB:=hid hwb
 have HBS:=hid hbs
 have HD:=hid hd
 have HK:=hid hk
 have HNN:=hid hN
 have HNW:=hid hnWN
 have HNB:=hid hnB
 have HR:=hid hr
 have HRW:=hid hrw
 have HCB:=hid hcb
 clear hcb ht he hS hel hFF hn hz hws hwb hbs hd hk hN hnWN hr hrw hrb hnW hnB hsl hs0 har1 har2 hsr q7 hNI hF ha hb
 go_enter Tryz.func127,Tryz.ntmps127
 have HR9:=HR
 have HRW9:=HRW
 go_wp2_with (first
  | (go_at_call 13
     have hal:Below w.heap.size w (((w.alloc (.cells #[.int .i64 H,.int .i64 W,.int .i64 C,.slice A n c] 27)).alloc (.cells #[x0,x1,x2,.int .i64 K,.int .i64 S,.int .i64 P,.int .i64 O,.int .i8 Z,x8,.slice WA nW cW,.slice (some ⟨bb,ob,none⟩) nB cB,x11,x12,x13,x14,x15,x16,x17,x18] 44)).alloc (.cells #[.int .i64 0,.int .i64 0,.int .i64 0,.slice none 0 0] 83)):=(((Below.refl _ _).alloc (by first | exact le_refl _ | (simp;done) | (simp;omega)) _).alloc (by first | exact le_refl _ | (simp;done) | (simp;omega)) _).alloc (by first | exact le_refl _ | (simp;done) | (simp;omega)) _
     refine (CTensor.zac H W C A n c true HT.out _).mono ?_
     rintro e w1 ⟨rfl,hb⟩
     have hh:Below w.heap.size w w1:=hal.trans (hb.mono hal.size)
     have qTB:=(zbd H W C A n c 27) w
     try simp only [World.size_alloc] at qTB
     have TB:=hid ((qTB.below (B':=w.heap.size+1) (by omega) ((((Below.refl _ _).alloc (by first | exact le_refl _ | (simp;done) | (simp;omega)) _).alloc (by first | exact le_refl _ | (simp;done) | (simp;omega)) _).mono (by simp))).below (by first | (simp;done) | (simp;omega)) hb)
     have yTB:w.heap.size < w1.heap.size:=by have:=hb.size;simp at this;omega
     clear qTB
     have qTN:=(zai.new x0 x1 x2 x8 x11 x12 x13 x14 x15 x16 x17 x18 K S P O Z WA (some ⟨bb,ob,none⟩) nW cW nB cB 44) (w.alloc (.cells #[.int .i64 H,.int .i64 W,.int .i64 C,.slice A n c] 27))
     try simp only [World.size_alloc] at qTN
     have TN:=hid ((qTN.below (B':=w.heap.size+2) (by omega) (((Below.refl _ _).alloc (by first | exact le_refl _ | (simp;done) | (simp;omega)) _).mono (by simp))).below (by first | (simp;done) | (simp;omega)) hb)
     have yTN:w.heap.size+1 < w1.heap.size:=by have:=hb.size;simp at this;omega
     clear qTN
     have qFR:=(za5 83) ((w.alloc (.cells #[.int .i64 H,.int .i64 W,.int .i64 C,.slice A n c] 27)).alloc (.cells #[x0,x1,x2,.int .i64 K,.int .i64 S,.int .i64 P,.int .i64 O,.int .i8 Z,x8,.slice WA nW cW,.slice (some ⟨bb,ob,none⟩) nB cB,x11,x12,x13,x14,x15,x16,x17,x18] 44))
     try simp only [World.size_alloc] at qFR
     have FR:=hid (qFR.below (by first | (simp;done) | (simp;omega)) hb)
     have yFR:w.heap.size+2 < w1.heap.size:=by have:=hb.size;simp at this;omega
     clear qFR
     replace HR:=hid ((HR.out.below hh).more hh.size)
     replace HRW:=hid ((HRW.out.below hh).more hh.size)
     have HBW:Hid (Below w.heap.size w w1):=hid hh
     obtain⟨tbp0,tbp1,tbp2,tbp3⟩:=TB.out
     clear hb hh hal)
  | (go_at_call 76
     have hal:Below w1.heap.size w1 w1:=Below.refl _ _
     refine (dep_to H W C x0 x1 x2 x8 x11 x12 x13 x14 x15 x16 x17 x18 K S P O Z WA (some ⟨bb,ob,none⟩) nW cW nB cB 0 _ HE.out HS.out _).mono ?_
     rintro e w2 ⟨rfl,hb⟩
     have hh:Below w1.heap.size w1 w2:=hal.trans (hb.mono hal.size)
     replace TB:=hid (TB.out.below yTB hh)
     replace yTB:=Nat.lt_of_lt_of_le yTB hh.size
     replace TN:=hid (TN.out.below yTN hh)
     replace yTN:=Nat.lt_of_lt_of_le yTN hh.size
     replace FR:=hid (FR.out.below yFR hh)
     replace yFR:=Nat.lt_of_lt_of_le yFR hh.size
     replace HR:=hid ((HR.out.below hh).more hh.size)
     replace HRW:=hid ((HRW.out.below hh).more hh.size)
     replace HBW:=hid (HBW.out.trans (hh.mono HBW.out.size))
     clear tbp0 tbp1 tbp2 tbp3
     have hg2:w.heap.size+3≤w2.heap.size:=yFR
     obtain⟨tbp0,tbp1,tbp2,tbp3⟩:=TB.out
     clear hb hh hal)
  | (go_at_call 25
     have hal:Below w2.heap.size w2 (w2.alloc (.cells #[.int .i64 (a:Int),.int .i64 (b:Int),.int .i64 C] 24)):=(Below.refl _ _).alloc (by first | exact le_refl _ | (simp;done) | (simp;omega)) _
     refine (zbk (a:Int) (b:Int) C N HEL.out _).mono ?_
     rintro e w3 ⟨rfl,hb⟩
     have hh:Below w2.heap.size w2 w3:=hal.trans (hb.mono hal.size)
     have qTS:=(zba (a:Int) (b:Int) C 24) w2
     try simp only [World.size_alloc] at qTS
     have TS:=hid (qTS.below (by first | (simp;done) | (simp;omega)) hb)
     have yTS:w2.heap.size < w3.heap.size:=by have:=hb.size;simp at this;omega
     clear qTS
     replace TB:=hid (TB.out.below yTB hh)
     replace yTB:=Nat.lt_of_lt_of_le yTB hh.size
     replace TN:=hid (TN.out.below yTN hh)
     replace yTN:=Nat.lt_of_lt_of_le yTN hh.size
     replace FR:=hid (FR.out.below yFR hh)
     replace yFR:=Nat.lt_of_lt_of_le yFR hh.size
     replace HR:=hid ((HR.out.below hh).more hh.size)
     replace HRW:=hid ((HRW.out.below hh).more hh.size)
     replace HBW:=hid (HBW.out.trans (hh.mono HBW.out.size))
     clear tbp0 tbp1 tbp2 tbp3
     obtain⟨tbp0,tbp1,tbp2,tbp3⟩:=TB.out
     obtain⟨tsp0,tsp1,tsp2⟩:=TS.out
     clear hb hh hal)
  | (refine wpList_load_mid rfl 44 (.tmp 3) rfl (w.heap.size+1) 0 rfl [x0,x1,x2,.int .i64 K,.int .i64 S,.int .i64 P,.int .i64 O,.int .i8 Z,x8,.slice WA nW cW,.slice (some ⟨bb,ob,none⟩) nB cB,x11,x12,x13,x14,x15,x16,x17,x18] _ TN.out Tryz.underlying44 rfl (by kernel_rfl) ?_))
 have hal:Below w3.heap.size w3 (w3.alloc (.cells (madeCells #[.int .i32 0] N) 21)):=(Below.refl _ _).alloc (le_refl _) _
 have h63:w.heap.size+3≤w2.heap.size:=hg2
 have hOA:Hid (OfAt w H W C A n c x0 x1 x2 x8 x11 x12 x13 x14 x15 x16 x17 x18 K S P O Z WA (some ⟨bb,ob,none⟩) nW cW nB cB (a:Int) (b:Int) C w2.heap.size (w3.alloc (.cells (madeCells #[.int .i32 0] N) 21))):=hid ⟨TB.out.below yTB hal,TN.out.below yTN hal,FR.out.below yFR hal,TS.out.below yTS hal,HBW.out.trans (hal.mono HBW.out.size),by simp;omega⟩
 have hW:Hid ((w3.alloc (.cells (madeCells #[.int .i32 0] N) 21)).ownsRow (w2.heap.size+1) 21 1 (.slice (some ⟨w3.heap.size,0,none⟩) 0 N) 0 (I32v (rowL F 0))):=hid (World.ownsRow_made (e:=21) w3 _ N (by omega) (by unfold maxLen;omega) (by rw [size_madeCells];simp))
 clear TB TN FR TS yTB yTN yFR yTS hal tbp0 tbp1 tbp2 tbp3 tsp0 tsp1 tsp2 HBW hg2
 generalize (w3.alloc (.cells (madeCells #[.int .i32 0] N) 21))=Wm at hOA hW ⊢
 generalize w2.heap.size=g6 at hOA hW h63 ⊢
 generalize (⟨w3.heap.size,0,none⟩:Addr)=ad at hW ⊢
 go_loopw [8,32] (fun v u wr=>∃ i:Nat,i≤a∧u=.int .i64 i∧Hid (OfAt w H W C A n c x0 x1 x2 x8 x11 x12 x13 x14 x15 x16 x17 x18 K S P O Z WA (some ⟨bb,ob,none⟩) nW cW nB cB (a:Int) (b:Int) C g6 wr)∧Hid (wr.ownsRow (g6+1) 21 1 v (i * b * d) (I32v (rowL F (i * b * d))))) (fun _ u _=>a - (intOf u).toNat)
 case atStart=>exact⟨0,Nat.zero_le _,rfl,hOA,by simpa using hW⟩
 case round =>
  obtain⟨i,hi,rfl,hA0,hW0⟩:=hrel
  clear hOA hW
  obtain⟨Av0,cv0,rfl, -, -, -⟩:=Kit.zam hW0.out
  obtain⟨-, -, -,⟨s1,s2,s3⟩, -, -⟩:=hA0.out
  by_cases hlt:i < a
  ·have hiI:(i:Int) < (a:Int):=by omega
   go_wp2_with fail
   go_loopw [8,37] (fun v u wr=>∃ j:Nat,j≤b∧u=.int .i64 j∧Hid (OfAt w H W C A n c x0 x1 x2 x8 x11 x12 x13 x14 x15 x16 x17 x18 K S P O Z WA (some ⟨bb,ob,none⟩) nW cW nB cB (a:Int) (b:Int) C g6 wr)∧Hid (wr.ownsRow (g6+1) 21 1 v ((i * b+j) * d) (I32v (rowL F ((i * b+j) * d))))) (fun _ u _=>b - (intOf u).toNat)
   case atStart=>exact⟨0,Nat.zero_le _,rfl,hA0,by simpa using hW0⟩
   case round =>
    obtain⟨j,hj,rfl,hA1,hW1⟩:=hrel
    clear hA0 hW0 s1 s2 s3
    obtain⟨Av1,cv1,rfl, -, -, -⟩:=Kit.zam hW1.out
    obtain⟨-, -, -,⟨s1,s2,s3⟩, -, -⟩:=hA1.out
    by_cases hltj:j < b
    ·have hjI:(j:Int) < (b:Int):=by omega
     obtain⟨o,ho⟩:∃ o,(i * b+j) * d=o:=⟨_,rfl⟩
     rw [ho] at hW1 ⊢
     have HOO:=hid ho
     clear ho
     go_wp2_with fail
     go_loopw [8,42] (fun v u wr=>∃ k:Nat,k≤d∧u=.int .i64 k∧Hid (OfAt w H W C A n c x0 x1 x2 x8 x11 x12 x13 x14 x15 x16 x17 x18 K S P O Z WA (some ⟨bb,ob,none⟩) nW cW nB cB (a:Int) (b:Int) C g6 wr)∧Hid (wr.ownsRow (g6+1) 21 1 v (o+k) (I32v (rowL F (o+k))))) (fun _ u _=>d - (intOf u).toNat)
     case atStart=>exact⟨0,Nat.zero_le _,rfl,hA1,hW1⟩
     case round =>
      obtain⟨k,hk,rfl,hA2,hW2⟩:=hrel
      clear hA1 hW1 s1 s2 s3
      obtain⟨Av,cv,rfl, -, -, -⟩:=Kit.zam hW2.out
      obtain⟨hbx,hnd, -,⟨s1,s2,s3⟩,hbw,hsz⟩:=hA2.out
      have HBW:=hid hbw
      clear hbw
      by_cases hltk:k < d
      ·have hkI:(k:Int) < C:=by have:=HD.out;omega
       have hk0:(0:Int)≤(k:Int):=by omega
       have hkB:(k:Int) < (nB:Int):=by have:=HD.out;have:=HNB.out;omega
       have hom:o+k < N:=by rw [← HOO.out, ← HNN.out];exact at_lt hlt hltj hltk
       have hkl:k < bs.length:=by have:=HBS.out;have:=HD.out;have:=HNB.out;omega
       have hcb:wr.cell? ⟨bb,ob+k,none⟩=some (.int .i32 (bs.getD k 0)):=(HBW.out.cell (p:=⟨bb,ob+k,none⟩) hbb).trans (HCB.out k hkl)
       obtain⟨hs,hhs⟩:∃ hs,(i:Int) * S=hs:=⟨_,rfl⟩
       obtain⟨vs,hvs⟩:∃ vs,(j:Int) * S=vs:=⟨_,rfl⟩
       have b1:0≤hs∧hs≤64:=by
        rw [← hhs]
        exact⟨Int.mul_nonneg (by omega) (by omega),Int.le_trans (Int.mul_le_mul (show (i:Int)≤16 by omega) st2 (by omega) (by omega)) (by omega)⟩
       have b2:0≤vs∧vs≤64:=by
        rw [← hvs]
        exact⟨Int.mul_nonneg (by omega) (by omega),Int.le_trans (Int.mul_le_mul (show (j:Int)≤16 by omega) st2 (by omega) (by omega)) (by omega)⟩
       have e1:IntKind.i64.wrap hs=hs:=IntWalk.i64_in _ (by omega)
       have e2:IntKind.i64.wrap vs=vs:=IntWalk.i64_in _ (by omega)
       have e3:IntKind.i64.wrap (hs - P)=hs - P:=IntWalk.i64_in _ (by omega)
       have e4:IntKind.i64.wrap (vs - P)=vs - P:=IntWalk.i64_in _ (by omega)
       obtain⟨R1,hR1⟩:∃ R1,IntKind.i32.wrap (winD zs ws H W C (hs - P) (vs - P) kk k Z)=R1:=⟨_,rfl⟩
       have HR1:=hid hR1
       have hF1:=HFF.out i j k hltj hltk
       unfold sumD at hF1
       rw [HOO.out,hhs,hvs, ← wrap32_add',hR1] at hF1
       generalize bs.getD k 0=bo at hcb hF1
       obtain⟨x,hx⟩:∃ x,F (o+k)=x:=⟨_,rfl⟩
       have hadd:IntKind.i32.wrap (bo+R1)=x:=by rw [← hF1];exact hx
       have HXX:=hid hx
       clear hx hF1 hR1
       go_wp2_with fail
       refine wp_region_held_drew (S:=fun w'=>BoxAt w.heap.size H W C A n c w'∧zai (w.heap.size+1) x0 x1 x2 x8 x11 x12 x13 x14 x15 x16 x17 x18 K S P O Z WA (some ⟨bb,ob,none⟩) nW cW nB cB w'∧w'.cell? ⟨bb,ob+k,none⟩=some (.int .i32 bo)) (by kernel_rfl) ⟨hbx,hnd,hcb⟩ (fun hHeld=>?_)
       clear hbx hnd hcb s1 s2 s3
       replace HBW:=hid HBW.out.drew
       have hA3:Hid (OfAt w H W C A n c x0 x1 x2 x8 x11 x12 x13 x14 x15 x16 x17 x18 K S P O Z WA (some ⟨bb,ob,none⟩) nW cW nB cB (a:Int) (b:Int) C g6 wr.drew):=hid (hA2.out.below h63 (lt_succ_self _) (Below.refl _ _).drew)
       have hW3:Hid (wr.drew.ownsRow (g6+1) 21 1 (.slice Av (o+k) cv) (o+k) (I32v (rowL F (o+k)))):=hid (Kit.own_below hW2.out (Below.refl _ _).drew)
       have hsz:g6+1≤wr.drew.heap.size:=hsz
       clear hA2 hW2
       generalize wr.drew=Wa at HBW hA3 hW3 hsz hHeld ⊢
       refine Tk.x 0 rfl ?_
       try simp only [Tk.put]
       refine Tk.x 1 rfl ?_
       try simp only [Tk.put]
       refine Tk.y 2 (v:=?_) rfl ?_ ?_
       rotate_left
       ·intro wS hSw
        obtain⟨hq1,hq2,hq3⟩:=hSw
        have hn9:=hq2.at 10 _ rfl;clear hq1 hq2
        first | (go_simp;done) | (go_simp;with_reducible rfl)
       try simp only [Tk.put]
       refine Tk.x 3 rfl ?_
       try simp only [Tk.put]
       refine Tk.x 4 rfl ?_
       try simp only [Tk.put]
       refine Tk.y 5 (v:=?_) rfl ?_ ?_
       rotate_left
       ·intro wS hSw
        obtain⟨hq1,hq2,hq3⟩:=hSw
        clear hq1 hq2
        first | (go_simp;done) | (go_simp;with_reducible rfl)
       try simp only [Tk.put]
       refine Tk.y 6 (v:=?_) rfl ?_ ?_
       rotate_left
       ·intro wS hSw
        obtain⟨hq1,hq2,hq3⟩:=hSw
        obtain⟨s1,s2,s3,s4⟩:=hq1;clear hq2
        first | (go_simp;done) | (go_simp;with_reducible rfl)
       try simp only [Tk.put]
       refine Tk.t 7 (v:=.agg #[x0,x1,x2,.int .i64 K,.int .i64 S,.int .i64 P,.int .i64 O,.int .i8 Z,x8,.slice WA nW cW,.slice (some ⟨bb,ob,none⟩) nB cB,x11,x12,x13,x14,x15,x16,x17,x18]) rfl (yieldsIf_load_mid (by rfl) _ _ rfl (w.heap.size+1) 0 rfl [x0,x1,x2,.int .i64 K,.int .i64 S,.int .i64 P,.int .i64 O,.int .i8 Z,x8,.slice WA nW cW,.slice (some ⟨bb,ob,none⟩) nB cB,x11,x12,x13,x14,x15,x16,x17,x18] _ (fun w' h=>h.2.1) Tryz.underlying44 rfl (by kernel_rfl)) (by assumption) ?_
       try simp only [Tk.put]
       refine Tk.x 8 rfl ?_
       try simp only [Tk.put]
       refine Tk.x 9 rfl ?_
       try simp only [Tk.put]
       refine Tk.y 10 (v:=?_) rfl ?_ ?_
       rotate_left
       ·intro wS hSw
        obtain⟨hq1,hq2,hq3⟩:=hSw
        have hn9:=hq2.at 4 _ rfl;clear hq1 hq2
        first | (go_simp;done) | (go_simp;with_reducible rfl)
       try simp only [Tk.put]
       refine Tk.x 11 rfl ?_
       try simp only [Tk.put]
       refine Tk.x 12 rfl ?_
       try simp only [Tk.put]
       refine Tk.y 13 (v:=?_) rfl ?_ ?_
       rotate_left
       ·intro wS hSw
        obtain⟨hq1,hq2,hq3⟩:=hSw
        have hn9:=hq2.at 5 _ rfl;clear hq1 hq2
        first | (go_simp;done) | (go_simp;with_reducible rfl)
       try simp only [Tk.put]
       refine Tk.x 14 rfl ?_
       try simp only [Tk.put]
       refine Tk.x 15 rfl ?_
       try simp only [Tk.put]
       refine Tk.x 16 rfl ?_
       try simp only [Tk.put]
       refine Tk.y 17 (v:=?_) rfl ?_ ?_
       rotate_left
       ·intro wS hSw
        obtain⟨hq1,hq2,hq3⟩:=hSw
        have hn9:=hq2.at 4 _ rfl;clear hq1 hq2
        first | (go_simp;done) | (go_simp;with_reducible rfl)
       try simp only [Tk.put]
       refine Tk.x 18 rfl ?_
       try simp only [Tk.put]
       refine Tk.x 19 rfl ?_
       try simp only [Tk.put]
       refine Tk.y 20 (v:=?_) rfl ?_ ?_
       rotate_left
       ·intro wS hSw
        obtain⟨hq1,hq2,hq3⟩:=hSw
        have hn9:=hq2.at 5 _ rfl;clear hq1 hq2
        first | (go_simp;done) | (go_simp;with_reducible rfl)
       try simp only [Tk.put]
       refine Tk.x 21 rfl ?_
       try simp only [Tk.put]
       refine Tk.x 22 rfl ?_
       try simp only [Tk.put]
       refine Tk.s 23 rfl (fun Kq hK=>?_)
       go_simp
       go_at_call 145
       refine (dwindow_to H W C A zs n c HN.out HT.out HZ.out x0 x1 x2 x8 x11 x12 x13 x14 x15 x16 x17 x18 K S P O Z WA (some ⟨bb,ob,none⟩) nW cW nB cB ws HWS.out hwc HWB.out d kk k HD.out HK.out hkk1 hkk7 hltk HNW.out hn16 z1 z2 (hs - P) (vs - P) (by omega) (by omega) (by omega) (by omega) _ ((HR9.out.below HBW.out).more HBW.out.size) ((HRW9.out.below HBW.out).more HBW.out.size) R1 HR1.out).mono ?_
       rintro e Wb ⟨rfl,hb1⟩
       have hS1:BoxAt w.heap.size H W C A n c _∧zai (w.heap.size+1) x0 x1 x2 x8 x11 x12 x13 x14 x15 x16 x17 x18 K S P O Z WA (some ⟨bb,ob,none⟩) nW cW nB cB _∧_:=⟨hHeld.1.below (B':=_) (by omega) hb1,hHeld.2.1.below (B':=_) (by omega) hb1,(hb1.cell (p:=⟨bb,ob+k,none⟩) (by show bb < _;omega)).trans hHeld.2.2⟩
       replace HBW:=hid (HBW.out.trans (hb1.mono HBW.out.size))
       replace hA3:=hid (hA3.out.below h63 (by omega) hb1)
       replace hW3:=hid (Kit.own_below hW3.out hb1)
       replace hsz:=Nat.le_trans hsz hb1.size
       clear hb1 hHeld
       dsimp only
       refine hK.out _ _ ?_ (fun hHeld=>?_)
       ·exact hS1
       clear hK Kq
       try simp only [Tk.put]
       refine Tk.x 24 rfl ?_
       try simp only [Tk.put]
       refine Tk.s 25 rfl (fun Kq hK=>?_)
       go_simp
       refine hK.out _ _ ?_ (fun hHeld=>?_)
       ·exact⟨hHeld.1.below (B':=Wb.heap.size) (by omega) ((Below.refl _ _).alloc (le_refl _) _),hHeld.2.1.below (B':=Wb.heap.size) (by omega) ((Below.refl _ _).alloc (le_refl _) _),(((Below.refl Wb.heap.size Wb).alloc (le_refl _) _).cell (p:=⟨bb,ob+k,none⟩) (by show bb < _;omega)).trans hHeld.2.2⟩
       clear hK Kq
       try simp only [Tk.put]
       replace HBW:=hid (HBW.out.alloc HBW.out.size (.cells #[.int .i32 x] 21))
       replace hA3:=hid (hA3.out.below h63 (B':=Wb.heap.size) (by omega) ((Below.refl _ _).alloc (le_refl _) (.cells #[.int .i32 x] 21)))
       replace hW3:=hid (hW3.out.alloc (.cells #[.int .i32 x] 21))
       have HXR:=hid (Kit.Rd.new Wb [.int .i32 x] 21 (lt_succ_self _))
       replace hsz:g6+1≤(Wb.alloc (.cells #[.int .i32 x] 21)).heap.size:=by simp;omega
       generalize Wb.alloc (.cells #[.int .i32 x] 21)=Wc at HBW hA3 hW3 HXR hsz hHeld ⊢
       refine Tk.s 26 rfl (fun Kq hK=>?_)
       refine Kit.zbs _ rfl (.tmp 45) (.tmp 70) _ rfl (g6+1) 21 i0 (.int .i32 0) 1 4 Tryz.underlying40 hi0 hi1 hi2 hi3 rfl (by decide) _ (o+k) (I32v (rowL F (o+k))) rfl hW3.out _ _ 1 1 [.int .i32 x] rfl rfl HXR.out (Kit.zbj .i32 [x]) (by unfold maxLen;omega) (by omega) (by omega) ?_
       intro v5 w5 hown5 hg5 _
       obtain⟨A5,c5,rfl, -, -, -⟩:=Kit.zam hown5
       have hb5:Below (g6+1) Wc w5:=(Below.refl _ _).grown hg5 hsz (Kit.zaj hW3.out)
       have hS1:BoxAt w.heap.size H W C A n c _∧zai (w.heap.size+1) x0 x1 x2 x8 x11 x12 x13 x14 x15 x16 x17 x18 K S P O Z WA (some ⟨bb,ob,none⟩) nW cW nB cB _∧_:=⟨hHeld.1.below (B':=_) (by omega) hb5,hHeld.2.1.below (B':=_) (by omega) hb5,(hb5.cell (p:=⟨bb,ob+k,none⟩) (by show bb < _;omega)).trans hHeld.2.2⟩
       rw [rowL_succ F (o+k) x HXX.out] at hown5
       replace HBW:=hid (HBW.out.trans (hb5.mono (by omega)))
       replace hA3:=hid (hA3.out.below h63 (lt_succ_self _) hb5)
       replace hW3:=hid hown5
       clear hown5 hg5 hb5 hHeld HXR
       dsimp only
       refine hK.out _ _ ?_ (fun hHeld=>?_)
       ·exact hS1
       clear hK Kq
       try simp only [Tk.put]
       refine Tk.x 27 rfl ?_
       try simp only [Tk.put]
       refine wpAnyH_done (by kernel_rfl) ?_ _
       clear hHeld hadd e1 e2 e3 e4
       go_wp2_with fail
       go_roundw
       case rel=>exact⟨k+1,by omega,by go_num,hA3,hW3⟩
       case measure=>simp [intOf];omega
      ·obtain rfl:k=d:=by omega
       have hkI:¬ (k:Int) < C:=by have:=HD.out;omega
       have e:(i * b+(j+1)) * k=o+k:=by rw [← HOO.out, ← Nat.add_assoc,Nat.add_mul _ 1,Nat.one_mul]
       have hW3:Hid (wr.ownsRow (g6+1) 21 1 (.slice Av (o+k) cv) ((i * b+(j+1)) * k) (I32v (rowL F ((i * b+(j+1)) * k)))):=by rw [e];exact hW2
       go_wp2_with fail
       go_roundw
       case rel=>exact⟨j+1,by omega,by go_num,hA2,hW3⟩
       case measure=>simp [intOf];omega
    ·obtain rfl:j=b:=by omega
     have e:(i+1) * j * d=(i * j+j) * d:=by rw [Nat.add_mul i 1,Nat.one_mul]
     have hW3:Hid (wr.ownsRow (g6+1) 21 1 (.slice Av1 ((i * j+j) * d) cv1) ((i+1) * j * d) (I32v (rowL F ((i+1) * j * d)))):=by rw [e];exact hW1
     go_wp2_with fail
     go_roundw
     case rel=>exact⟨i+1,by omega,by go_num,hA1,hW3⟩
     case measure=>simp [intOf];omega
  ·obtain rfl:i=a:=by omega
   rw [HNN.out] at hW0
   clear s1 s2 s3
   obtain⟨-, -,⟨⟨z0,z1,z2,z3⟩,z4,z5,z6,z7⟩,⟨s1,s2,s3⟩,hbw,hsz⟩:=hA0.out
   have HBW:=hid hbw
   clear hbw
   rw [HNN.out]
   go_wp2_with fail
   refine bodyPost_ret (Kit.zaa rfl _ _ (w.heap.size+2) 0 [.int .i64 (i:Int),.int .i64 (b:Int),.int .i64 C,.slice Av0 N cv0] _ rfl (zan (by go_cell) (by go_cell) (by go_cell) (by go_cell)) Tryz.underlying83 rfl (by kernel_rfl)) rfl ?_
   refine⟨_,rfl,Kit.zah (za3 hW0.out ?_) ?_,?_⟩
   any_goals (first | omega | (simp;done) | (simp;omega))
   exact (((HBW.out.setCell (p:=⟨w.heap.size+2,0,none⟩) (by simp) _).setCell (p:=⟨w.heap.size+2,1,none⟩) (by simp) _).setCell (p:=⟨w.heap.size+2,2,none⟩) (by simp) _).setCell (p:=⟨w.heap.size+2,3,none⟩) (by simp) _
end CDepth
end
end Go.Proofs.YtahekhpeomcfjaaGreatDoor
