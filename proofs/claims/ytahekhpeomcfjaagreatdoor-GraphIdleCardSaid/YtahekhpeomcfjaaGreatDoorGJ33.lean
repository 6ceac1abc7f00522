/- -/
import Derived.Test.YtahekhpeomcfjaaGreatDoorGJ28
import Derived.Test.YtahekhpeomcfjaaGreatDoorGJ30
open Go.Lib (hid)
open Nat (le_refl lt_of_succ_lt lt_succ_self)
set_option linter.unusedVariables false
set_option linter.unusedSimpArgs false
set_option maxRecDepth 100000
set_option maxHeartbeats 16000000
namespace Go.Proofs.YtahekhpeomcfjaaGreatDoor
namespace CConv
end CConv
namespace CFix
end CFix
namespace CSat
end CSat
namespace CShape
end CShape
namespace CTensor
end CTensor
open Go Go.ChangeShapes Go.WideShapes Go.ChangeAt Go.RowKit
section
namespace CDense
open Plain CSat CShape CTensor CConv
theorem denseE_ok {H W C O:Int} {nW nB:Nat} (h:denseE H W C O nW nB=0):zad H W C=true∧zad 1 1 O=true∧(nW:Int)=O * zay H W C∧nW≤16384∧(nB:Int)=O:=by
 unfold denseE at h
 by_cases h1:zad H W C=true∧zad 1 1 O=true
 ·rw [if_pos h1] at h
  by_cases h2:(nW:Int)=O * zay H W C∧nW≤16384∧(nB:Int)=O
  ·exact⟨h1.1,h1.2,h2⟩
  ·rw [if_neg h2] at h;omega
 ·rw [if_neg h1] at h;omega
theorem own_set9 {w:World} {base g:Nat} {e:TypeId} {size n:Nat} {v:Value} {xs:List Value} {x y z u:Value} (h:w.ownsRow base e size v n xs) (hg:g < base):((((w.setCell ⟨g,0,none⟩ x).setCell ⟨g,1,none⟩ y).setCell ⟨g,2,none⟩ z).setCell ⟨g,3,none⟩ u).ownsRow base e size v n xs :=
 zat (zat (zat (zat h _ _ hg) _ _ hg) _ _ hg) _ _ hg
theorem dof_bad (H W C:Int) (A:Option Addr) (n c:Nat) (x0 x1 x2 x8 x11 x12 x13 x14 x15 x16 x17 x18:Value) (K S P O Z:Int) (WA BA:Option Addr) (nW cW nB cB:Nat) (ht:tensB H W C n=false) (w:World) :
  Calls Tryz.prog 128 #[.agg #[.int .i64 H,.int .i64 W,.int .i64 C,.slice A n c],.agg #[x0,x1,x2,.int .i64 K,.int .i64 S,.int .i64 P,.int .i64 O,.int .i8 Z,x8,.slice WA nW cW,.slice BA nB cB,x11,x12,x13,x14,x15,x16,x17,x18]] w (MadeA w 0 0 0 0 [] (.int .i64 5)):=by
 have HT:=hid ht
 clear ht
 go_enter Tryz.func128,Tryz.ntmps128
 go_wp2_with (go_at_call 13;(refine (CTensor.zac H W C A n c false HT.out _).mono ?_);(rintro e w1 ⟨rfl,hb⟩;obtain⟨hcc,hff⟩:=Kit.bcell hb;have hz:w.heap.size+3≤w1.heap.size:=(by have:=hb.size;simp at this;omega);have hz2:w.heap.size+2 < w1.heap.size:=(by omega);have HB:=hid hb;clear hb))
 refine bodyPost_ret (Kit.zaa rfl _ _ (w.heap.size+2) 0 [.int .i64 0,.int .i64 0,.int .i64 0,.slice none 0 0] _ rfl (zan (by go_cell) (by go_cell) (by go_cell) (by go_cell)) Tryz.underlying83 rfl (by kernel_rfl)) rfl ?_
 have hB1:Below w.heap.size w w1:=Below.trans ((((Below.refl _ _).alloc (le_refl _) _).alloc (by simp) _).alloc (by simp;omega) _) (HB.out.mono (by first | omega | (simp;done) | (simp;omega)))
 exact⟨_,rfl,World.ownsRow_nil _ _ _ _,(((hB1.setCell (p:=⟨w.heap.size+2,0,none⟩) (by simp) _).setCell (p:=⟨w.heap.size+2,1,none⟩) (by simp) _).setCell (p:=⟨w.heap.size+2,2,none⟩) (by simp) _).setCell (p:=⟨w.heap.size+2,3,none⟩) (by simp) _⟩
theorem dof_err (H W C:Int) (A:Option Addr) (n c:Nat) (x0 x1 x2 x8 x11 x12 x13 x14 x15 x16 x17 x18:Value) (K S P O Z:Int) (WA BA:Option Addr) (nW cW nB cB:Nat) (ht:tensB H W C n=true) (er:Int) (he:denseE H W C O nW nB=er) (h0:er≠0) (w:World) :
  Calls Tryz.prog 128 #[.agg #[.int .i64 H,.int .i64 W,.int .i64 C,.slice A n c],.agg #[x0,x1,x2,.int .i64 K,.int .i64 S,.int .i64 P,.int .i64 O,.int .i8 Z,x8,.slice WA nW cW,.slice BA nB cB,x11,x12,x13,x14,x15,x16,x17,x18]] w (MadeA w 0 0 0 0 [] (.int .i64 er)):=by
 have hS:denseS H W C O nW nB=#[.int .i64 0,.int .i64 0,.int .i64 0]:=by unfold denseS;rw [he,if_neg h0]
 have HT:=hid ht
 have HE:=hid he
 have HS:=hid hS
 have h0b:(er != 0)=true:=by simpa using h0
 have h0c:(er == 0)=false:=by simpa using h0
 clear ht he hS
 go_enter Tryz.func128,Tryz.ntmps128
 go_wp2_with fail
 go_at_call 13
 have hal:Below w.heap.size w (((w.alloc (.cells #[.int .i64 H,.int .i64 W,.int .i64 C,.slice A n c] 27)).alloc (.cells #[x0,x1,x2,.int .i64 K,.int .i64 S,.int .i64 P,.int .i64 O,.int .i8 Z,x8,.slice WA nW cW,.slice BA nB cB,x11,x12,x13,x14,x15,x16,x17,x18] 44)).alloc (.cells #[.int .i64 0,.int .i64 0,.int .i64 0,.slice none 0 0] 83)):=(((Below.refl _ _).alloc (by first | exact le_refl _ | (simp;done) | (simp;omega)) _).alloc (by first | exact le_refl _ | (simp;done) | (simp;omega)) _).alloc (by first | exact le_refl _ | (simp;done) | (simp;omega)) _
 refine (CTensor.zac H W C A n c true HT.out _).mono ?_
 rintro e w1 ⟨rfl,hb⟩
 have hh:Below w.heap.size w w1:=hal.trans (hb.mono hal.size)
 have qTB:=(zbd H W C A n c 27) w
 try simp only [World.size_alloc] at qTB
 have TB:=hid ((qTB.below (B':=w.heap.size+1) (by omega) ((((Below.refl _ _).alloc (by first | exact le_refl _ | (simp;done) | (simp;omega)) _).alloc (by first | exact le_refl _ | (simp;done) | (simp;omega)) _).mono (by simp))).below (by first | (simp;done) | (simp;omega)) hb)
 have yTB:w.heap.size < w1.heap.size:=by have:=hb.size;simp at this;omega
 clear qTB
 have qTN:=(zai.new x0 x1 x2 x8 x11 x12 x13 x14 x15 x16 x17 x18 K S P O Z WA BA nW cW nB cB 44) (w.alloc (.cells #[.int .i64 H,.int .i64 W,.int .i64 C,.slice A n c] 27))
 try simp only [World.size_alloc] at qTN
 have TN:=hid ((qTN.below (B':=w.heap.size+2) (by omega) (((Below.refl _ _).alloc (by first | exact le_refl _ | (simp;done) | (simp;omega)) _).mono (by simp))).below (by first | (simp;done) | (simp;omega)) hb)
 have yTN:w.heap.size+1 < w1.heap.size:=by have:=hb.size;simp at this;omega
 clear qTN
 have qFR:=(za5 83) ((w.alloc (.cells #[.int .i64 H,.int .i64 W,.int .i64 C,.slice A n c] 27)).alloc (.cells #[x0,x1,x2,.int .i64 K,.int .i64 S,.int .i64 P,.int .i64 O,.int .i8 Z,x8,.slice WA nW cW,.slice BA nB cB,x11,x12,x13,x14,x15,x16,x17,x18] 44))
 try simp only [World.size_alloc] at qFR
 have FR:=hid (qFR.below (by first | (simp;done) | (simp;omega)) hb)
 have yFR:w.heap.size+2 < w1.heap.size:=by have:=hb.size;simp at this;omega
 clear qFR
 have HBW:Hid (Below w.heap.size w w1):=hid hh
 obtain⟨tbp0,tbp1,tbp2,tbp3⟩:=TB.out
 clear hb hh hal
 go_wp2_with (refine wpList_load_mid rfl 44 (.tmp 3) rfl (w.heap.size+1) 0 rfl [x0,x1,x2,.int .i64 K,.int .i64 S,.int .i64 P,.int .i64 O,.int .i8 Z,x8,.slice WA nW cW,.slice BA nB cB,x11,x12,x13,x14,x15,x16,x17,x18] _ TN.out Tryz.underlying44 rfl (by kernel_rfl) ?_)
 go_at_call 77
 have hal:Below w1.heap.size w1 w1:=Below.refl _ _
 refine (dshape_to H W C x0 x1 x2 x8 x11 x12 x13 x14 x15 x16 x17 x18 K S P O Z WA BA nW cW nB cB er _ HE.out HS.out _).mono ?_
 rintro e w2 ⟨rfl,hb⟩
 have hh:Below w1.heap.size w1 w2:=hal.trans (hb.mono hal.size)
 replace TB:=hid (TB.out.below yTB hh)
 replace yTB:=Nat.lt_of_lt_of_le yTB hh.size
 replace TN:=hid (TN.out.below yTN hh)
 replace yTN:=Nat.lt_of_lt_of_le yTN hh.size
 replace FR:=hid (FR.out.below yFR hh)
 replace yFR:=Nat.lt_of_lt_of_le yFR hh.size
 replace HBW:=hid (HBW.out.trans (hh.mono HBW.out.size))
 clear tbp0 tbp1 tbp2 tbp3
 obtain⟨⟨z0,z1,z2,z3⟩,z4,z5,z6,z7⟩:=FR.out
 obtain⟨tbp0,tbp1,tbp2,tbp3⟩:=TB.out
 clear hb hh hal
 go_wp2_with fail
 obtain⟨⟨z0,z1,z2,z3⟩,z4,z5,z6,z7⟩:=FR.out
 refine bodyPost_ret (Kit.zaa rfl _ _ (w.heap.size+2) 0 [.int .i64 0,.int .i64 0,.int .i64 0,.slice none 0 0] _ rfl (zan (by go_cell) (by go_cell) (by go_cell) (by go_cell)) Tryz.underlying83 rfl (by kernel_rfl)) rfl ?_
 exact⟨_,rfl,World.ownsRow_nil _ _ _ _,by exact ((((HBW.out.setCell (p:=⟨w.heap.size+2,0,none⟩) (by simp) _).setCell (p:=⟨w.heap.size+2,1,none⟩) (by simp) _).setCell (p:=⟨w.heap.size+2,2,none⟩) (by simp) _).setCell (p:=⟨w.heap.size+2,3,none⟩) (by simp) _).alloc (by simp;omega) _⟩
theorem dof_yes (H W C:Int) (A:Option Addr) (zs:List Int) (n c:Nat) (hn:zs.length=n) (ht:tensB H W C n=true) (hz:I8b zs) (x0 x1 x2 x8 x11 x12 x13 x14 x15 x16 x17 x18:Value) (K S P O Z:Int) (WA BA:Option Addr) (nW cW nB cB:Nat) (ws:List Int) (hws:ws.length=nW) (hwc:nW≤cW) (hwb:I8b ws) (bs:List Int) (hbs:bs.length=nB)
  (he:denseE H W C O nW nB=0) (z1 : -128≤Z) (z2:Z≤127) (w:World) (hr:Kit.Rd w w.heap.size A (I8s zs)) (hrw:Kit.Rd w w.heap.size WA (I8s ws)) (hrb:Kit.Rd w w.heap.size BA (I32v bs)) :
  Calls Tryz.prog 128 #[.agg #[.int .i64 H,.int .i64 W,.int .i64 C,.slice A n c],.agg #[x0,x1,x2,.int .i64 K,.int .i64 S,.int .i64 P,.int .i64 O,.int .i8 Z,x8,.slice WA nW cW,.slice BA nB cB,x11,x12,x13,x14,x15,x16,x17,x18]] w (MadeA w 1 1 O nB (rowL (lineF zs ws bs n Z) nB) (.int .i64 0)):=by
 obtain⟨h1,h2,hnW,hn16,hnB⟩:=denseE_ok he
 have hm:(n:Int)=H * W * C:=by simp only [tensB,Bool.and_eq_true,decide_eq_true_eq] at ht;exact ht.2
 obtain⟨-,q1,q2⟩:=el_pos H W C h1
 have hel:zay H W C=(n:Int):=by rw [zaw h1,hm]
 rw [hel] at hnW q1 q2
 obtain⟨-, -, -, -,o1,o2, -⟩:=zab h2
 have hnn:n * nB=nW:=by
  have e:((n * nB:Nat):Int)=(nW:Int):=by rw [hnW, ← hnB,Int.natCast_mul,Int.mul_comm]
  omega
 have hS:denseS H W C O nW nB=#[.int .i64 1,.int .i64 1,.int .i64 O]:=by unfold denseS;rw [he,if_pos rfl]
 have hline:=fun (w':World) (r1:Kit.Rd w' w'.heap.size A (I8s zs)) (r2:Kit.Rd w' w'.heap.size WA (I8s ws)) (r3:Kit.Rd w' w'.heap.size BA (I32v bs)) =>
  line_yes A zs n c hn (by omega) (by omega) hz WA ws nW cW hws hwc hwb BA bs nB cB hbs (by omega) (by omega) hnn (by omega) Z z1 z2 _ (fun _=>rfl) w' r1 r2 r3
 have HL:=hid hline
 have HT:=hid ht
 have HE:=hid he
 have HS:=hid hS
 have HR:=hid hr
 have HRW:=hid hrw
 have HRB:=hid hrb
 generalize rowL (lineF zs ws bs n Z) nB=ys at HL ⊢
 clear hline ht he hS hr hrw hrb h1 h2 hm hel hnn hnW hn hws hwb hbs hz q1 q2
 go_enter Tryz.func128,Tryz.ntmps128
 go_wp2_with fail
 go_at_call 13
 have hal:Below w.heap.size w (((w.alloc (.cells #[.int .i64 H,.int .i64 W,.int .i64 C,.slice A n c] 27)).alloc (.cells #[x0,x1,x2,.int .i64 K,.int .i64 S,.int .i64 P,.int .i64 O,.int .i8 Z,x8,.slice WA nW cW,.slice BA nB cB,x11,x12,x13,x14,x15,x16,x17,x18] 44)).alloc (.cells #[.int .i64 0,.int .i64 0,.int .i64 0,.slice none 0 0] 83)):=(((Below.refl _ _).alloc (by first | exact le_refl _ | (simp;done) | (simp;omega)) _).alloc (by first | exact le_refl _ | (simp;done) | (simp;omega)) _).alloc (by first | exact le_refl _ | (simp;done) | (simp;omega)) _
 refine (CTensor.zac H W C A n c true HT.out _).mono ?_
 rintro e w1 ⟨rfl,hb⟩
 have hh:Below w.heap.size w w1:=hal.trans (hb.mono hal.size)
 have qTB:=(zbd H W C A n c 27) w
 try simp only [World.size_alloc] at qTB
 have TB:=hid ((qTB.below (B':=w.heap.size+1) (by omega) ((((Below.refl _ _).alloc (by first | exact le_refl _ | (simp;done) | (simp;omega)) _).alloc (by first | exact le_refl _ | (simp;done) | (simp;omega)) _).mono (by simp))).below (by first | (simp;done) | (simp;omega)) hb)
 have yTB:w.heap.size < w1.heap.size:=by have:=hb.size;simp at this;omega
 clear qTB
 have qTN:=(zai.new x0 x1 x2 x8 x11 x12 x13 x14 x15 x16 x17 x18 K S P O Z WA BA nW cW nB cB 44) (w.alloc (.cells #[.int .i64 H,.int .i64 W,.int .i64 C,.slice A n c] 27))
 try simp only [World.size_alloc] at qTN
 have TN:=hid ((qTN.below (B':=w.heap.size+2) (by omega) (((Below.refl _ _).alloc (by first | exact le_refl _ | (simp;done) | (simp;omega)) _).mono (by simp))).below (by first | (simp;done) | (simp;omega)) hb)
 have yTN:w.heap.size+1 < w1.heap.size:=by have:=hb.size;simp at this;omega
 clear qTN
 have qFR:=(za5 83) ((w.alloc (.cells #[.int .i64 H,.int .i64 W,.int .i64 C,.slice A n c] 27)).alloc (.cells #[x0,x1,x2,.int .i64 K,.int .i64 S,.int .i64 P,.int .i64 O,.int .i8 Z,x8,.slice WA nW cW,.slice BA nB cB,x11,x12,x13,x14,x15,x16,x17,x18] 44))
 try simp only [World.size_alloc] at qFR
 have FR:=hid (qFR.below (by first | (simp;done) | (simp;omega)) hb)
 have yFR:w.heap.size+2 < w1.heap.size:=by have:=hb.size;simp at this;omega
 clear qFR
 replace HR:=hid ((HR.out.below hh).more hh.size)
 replace HRW:=hid ((HRW.out.below hh).more hh.size)
 replace HRB:=hid ((HRB.out.below hh).more hh.size)
 have HBW:Hid (Below w.heap.size w w1):=hid hh
 obtain⟨tbp0,tbp1,tbp2,tbp3⟩:=TB.out
 clear hb hh hal
 go_wp2_with (refine wpList_load_mid rfl 44 (.tmp 3) rfl (w.heap.size+1) 0 rfl [x0,x1,x2,.int .i64 K,.int .i64 S,.int .i64 P,.int .i64 O,.int .i8 Z,x8,.slice WA nW cW,.slice BA nB cB,x11,x12,x13,x14,x15,x16,x17,x18] _ TN.out Tryz.underlying44 rfl (by kernel_rfl) ?_)
 go_at_call 77
 have hal:Below w1.heap.size w1 w1:=Below.refl _ _
 refine (dshape_to H W C x0 x1 x2 x8 x11 x12 x13 x14 x15 x16 x17 x18 K S P O Z WA BA nW cW nB cB 0 _ HE.out HS.out _).mono ?_
 rintro e w2 ⟨rfl,hb⟩
 have hh:Below w1.heap.size w1 w2:=hal.trans (hb.mono hal.size)
 replace TB:=hid (TB.out.below yTB hh)
 replace yTB:=Nat.lt_of_lt_of_le yTB hh.size
 replace TN:=hid (TN.out.below yTN hh)
 replace yTN:=Nat.lt_of_lt_of_le yTN hh.size
 replace FR:=hid (FR.out.below yFR hh)
 replace yFR:=Nat.lt_of_lt_of_le yFR hh.size
 replace HR:=hid ((HR.out.below hh).more hh.size)
 replace HRW:=hid ((HRW.out.below hh).more hh.size)
 replace HRB:=hid ((HRB.out.below hh).more hh.size)
 replace HBW:=hid (HBW.out.trans (hh.mono HBW.out.size))
 clear tbp0 tbp1 tbp2 tbp3
 obtain⟨tbp0,tbp1,tbp2,tbp3⟩:=TB.out
 clear hb hh hal
 go_wp2_with fail
 obtain⟨Wn,hWn⟩:∃ Wn,w2.alloc (.cells #[.int .i64 1,.int .i64 1,.int .i64 O] 24)=Wn:=⟨_,rfl⟩
 have hbn:Below w2.heap.size w2 Wn:=by rw [← hWn];exact (Below.refl _ _).alloc (le_refl _) _
 have hts:CConv.zau w2.heap.size 1 1 O Wn:=by rw [← hWn];exact zba 1 1 O 24 w2
 have hzn:w2.heap.size+1=Wn.heap.size:=by rw [← hWn];simp
 rw [hWn]
 have hg6:w.heap.size+3≤w2.heap.size:=yFR
 have n7:=(TN.out.below yTN hbn).at 7 _ rfl
 have n9:=(TN.out.below yTN hbn).at 9 _ rfl
 have n10:=(TN.out.below yTN hbn).at 10 _ rfl
 obtain⟨-, -, -,t3⟩:=TB.out.below yTB hbn
 obtain⟨s0,s1,s2⟩:=hts
 replace HR:=hid ((HR.out.below hbn).more hbn.size)
 replace HRW:=hid ((HRW.out.below hbn).more hbn.size)
 replace HRB:=hid ((HRB.out.below hbn).more hbn.size)
 replace HBW:=hid (HBW.out.trans (hbn.mono HBW.out.size))
 replace FR:=hid (FR.out.below yFR hbn)
 generalize w2.heap.size=g6 at s0 s1 s2 hzn hg6 ⊢
 clear TB TN yTB yTN yFR hbn hWn tbp0 tbp1 tbp2 tbp3
 refine wp_region_held_drew (S:=fun w'=>w'.cell? ⟨g6,0,none⟩=some (.int .i64 1)∧w'.cell? ⟨g6,1,none⟩=some (.int .i64 1)∧w'.cell? ⟨g6,2,none⟩=some (.int .i64 O)∧w'.cell? ⟨w.heap.size,3,none⟩=some (.slice A n c)∧w'.cell? ⟨w.heap.size+1,7,none⟩=some (.int .i8 Z)∧w'.cell? ⟨w.heap.size+1,9,none⟩=some (.slice WA nW cW)∧w'.cell? ⟨w.heap.size+1,10,none⟩=some (.slice BA nB cB)) (by kernel_rfl) ⟨s0,s1,s2,t3,n7,n9,n10⟩ (fun hHeld=>?_)
 have hd9:Below Wn.heap.size Wn Wn.drew:=(Below.refl _ _).drew
 replace HR:=hid (HR.out.below hd9)
 replace HRW:=hid (HRW.out.below hd9)
 replace HRB:=hid (HRB.out.below hd9)
 replace HBW:=hid HBW.out.drew
 replace FR:=hid (FR.out.below (by omega) hd9)
 replace hzn:g6+1=Wn.drew.heap.size:=hzn
 clear hd9 s0 s1 s2 t3 n7 n9 n10
 replace HR:Hid (Kit.Rd Wn.drew Wn.drew.heap.size A (I8s zs)):=HR
 replace HRW:Hid (Kit.Rd Wn.drew Wn.drew.heap.size WA (I8s ws)):=HRW
 replace HRB:Hid (Kit.Rd Wn.drew Wn.drew.heap.size BA (I32v bs)):=HRB
 generalize Wn.drew=Wd at HR HRW HRB HBW FR hzn hHeld ⊢
 refine Tk.y 0 (v:=?_) rfl ?_ ?_
 rotate_left
 ·intro wS hSw
  obtain⟨k1,k2,k3,k4,k5,k6,k7⟩:=hSw
  first | (go_simp;done) | (go_simp;with_reducible rfl)
 try simp only [Tk.put]
 refine Tk.x 1 rfl ?_
 try simp only [Tk.put]
 refine Tk.y 2 (v:=?_) rfl ?_ ?_
 rotate_left
 ·intro wS hSw
  obtain⟨k1,k2,k3,k4,k5,k6,k7⟩:=hSw
  first | (go_simp;done) | (go_simp;with_reducible rfl)
 try simp only [Tk.put]
 refine Tk.x 3 rfl ?_
 try simp only [Tk.put]
 refine Tk.y 4 (v:=?_) rfl ?_ ?_
 rotate_left
 ·intro wS hSw
  obtain⟨k1,k2,k3,k4,k5,k6,k7⟩:=hSw
  first | (go_simp;done) | (go_simp;with_reducible rfl)
 try simp only [Tk.put]
 refine Tk.x 5 rfl ?_
 try simp only [Tk.put]
 refine Tk.y 6 (v:=?_) rfl ?_ ?_
 rotate_left
 ·intro wS hSw
  obtain⟨k1,k2,k3,k4,k5,k6,k7⟩:=hSw
  first | (go_simp;done) | (go_simp;with_reducible rfl)
 try simp only [Tk.put]
 refine Tk.x 7 rfl ?_
 try simp only [Tk.put]
 refine Tk.y 8 (v:=?_) rfl ?_ ?_
 rotate_left
 ·intro wS hSw
  obtain⟨k1,k2,k3,k4,k5,k6,k7⟩:=hSw
  first | (go_simp;done) | (go_simp;with_reducible rfl)
 try simp only [Tk.put]
 refine Tk.s 9 rfl (fun Kq hK=>?_)
 go_simp
 go_at_call 146
 refine (HL.out _ HR.out HRW.out HRB.out).mono ?_
 rintro e we ⟨v9,rfl,ho,hb⟩
 obtain⟨k1,k2,k3,k4,k5,k6,k7⟩:=hHeld
 have hS1:=And.intro ((hb.cell (p:=⟨g6,0,none⟩) (by simp;omega)).trans k1) (And.intro ((hb.cell (p:=⟨g6,1,none⟩) (by simp;omega)).trans k2) (And.intro ((hb.cell (p:=⟨g6,2,none⟩) (by simp;omega)).trans k3) (And.intro ((hb.cell (p:=⟨w.heap.size,3,none⟩) (by simp;omega)).trans k4) (And.intro ((hb.cell (p:=⟨w.heap.size+1,7,none⟩) (by simp;omega)).trans k5) (And.intro ((hb.cell (p:=⟨w.heap.size+1,9,none⟩) (by simp;omega)).trans k6) ((hb.cell (p:=⟨w.heap.size+1,10,none⟩) (by simp;omega)).trans k7))))))
 replace HBW:=hid (HBW.out.trans (hb.mono HBW.out.size))
 replace FR:=hid (FR.out.below (by omega) hb)
 have HO:=hid (Kit.zah ho (show g6+1≤_ by omega))
 clear hb ho k1 k2 k3 k4 k5 k6 k7 HR HRW HRB HL hzn
 dsimp only
 refine hK.out _ _ ?_ (fun hHeld=>?_)
 ·exact hS1
 clear hK Kq
 try simp only [Tk.put]
 obtain⟨V9,c9,rfl, -, -, -⟩:=Kit.zam HO.out
 refine Tk.x 10 rfl ?_
 try simp only [Tk.put]
 obtain⟨⟨z0,z1',z2',z3⟩,z4,z5,z6,z7⟩:=FR.out
 obtain⟨k1,k2,k3,k4,k5,k6,k7⟩:=hHeld
 have u1:g6≠w.heap.size+2:=by omega
 have u2:w.heap.size+2≠g6:=by omega
 refine Tk.s 11 rfl (fun Kq hK=>?_)
 go_simp
 refine hK.out _ _ ?_ (fun hHeld=>?_)
 ·exact⟨by go_cell,by go_cell,by go_cell,by go_cell,by go_cell,by go_cell,by go_cell⟩
 clear hK Kq
 try simp only [Tk.put]
 refine Tk.x 12 rfl ?_
 try simp only [Tk.put]
 refine wpAnyH_done (by kernel_rfl) ?_ _
 clear hHeld k1 k2 k3 k4 k5 k6 k7
 go_wp2_with fail
 refine bodyPost_ret (Kit.zaa rfl _ _ (w.heap.size+2) 0 [.int .i64 1,.int .i64 1,.int .i64 O,.slice V9 nB c9] _ rfl (zan (by go_cell) (by go_cell) (by go_cell) (by go_cell)) Tryz.underlying83 rfl (by kernel_rfl)) rfl ?_
 refine⟨_,rfl,Kit.zah (own_set9 HO.out (by omega)) (by omega),?_⟩
 exact (((HBW.out.setCell (p:=⟨w.heap.size+2,0,none⟩) (by simp) _).setCell (p:=⟨w.heap.size+2,1,none⟩) (by simp) _).setCell (p:=⟨w.heap.size+2,2,none⟩) (by simp) _).setCell (p:=⟨w.heap.size+2,3,none⟩) (by simp) _
end CDense
end
section
namespace CJoin
open Go Go.ChangeShapes Go.WideShapes Go.ChangeAt Go.RowKit Go.Deep Go.Shelf Round
open Plain CSat CFix CShape CTensor CConv
attribute [local go_sem] Oper.semAt_some
def MadeJ (w:World) (H W C:Int) (n:Nat) (zs:List Int) (x:Value) (e:Ending) (w':World):Prop :=
 ∃ v,e=.returned (.tuple #[.agg #[.int .i64 H,.int .i64 W,.int .i64 C,v],x])∧w'.ownsRow w.heap.size 39 1 v n (I8s zs)∧Below w.heap.size w w'
theorem jof_bad1 (H W C H' W' C':Int) (A B:Option Addr) (n c m d:Nat) (x0 x1 x2:Value) (K S P O Z Y:Int) (WA BA:Option Addr) (nW cW nB cB:Nat) (m1 s1 z1 m2 s2 z2 lo hi:Int) (h1:tensB H W C n=false) (w:World) :
  Calls Tryz.prog 46 #[.agg #[.int .i64 H,.int .i64 W,.int .i64 C,.slice A n c],.agg #[.int .i64 H',.int .i64 W',.int .i64 C',.slice B m d],.agg #[x0,x1,x2,.int .i64 K,.int .i64 S,.int .i64 P,.int .i64 O,.int .i8 Z,.int .i8 Y,.slice WA nW cW,.slice BA nB cB,.int .i32 m1,.int .i64 s1,.int .i8 z1,.int .i32 m2,.int .i64 s2,.int .i8 z2,.int .i8 lo,.int .i8 hi]] w (MadeJ w 0 0 0 0 [] (.int .i64 5)):=by
 have HT1:=hid h1
 clear h1
 have HE:=eqShape H W C H' W' C'
 have hg:=Tryz.eqGuardType24
 go_enter Tryz.func46,Tryz.ntmps46
 go_wp2_with (first
 | (go_at_call 13
    have hal:Below w.heap.size w ((((w.alloc (.cells #[.int .i64 H,.int .i64 W,.int .i64 C,.slice A n c] 27)).alloc (.cells #[.int .i64 H',.int .i64 W',.int .i64 C',.slice B m d] 27)).alloc (.cells #[x0,x1,x2,.int .i64 K,.int .i64 S,.int .i64 P,.int .i64 O,.int .i8 Z,.int .i8 Y,.slice WA nW cW,.slice BA nB cB,.int .i32 m1,.int .i64 s1,.int .i8 z1,.int .i32 m2,.int .i64 s2,.int .i8 z2,.int .i8 lo,.int .i8 hi] 44)).alloc (.cells #[.int .i64 0,.int .i64 0,.int .i64 0,.slice none 0 0] 27)):=((((Below.refl _ _).alloc (by first | exact le_refl _ | (simp;done) | (simp;omega)) _).alloc (by first | exact le_refl _ | (simp;done) | (simp;omega)) _).alloc (by first | exact le_refl _ | (simp;done) | (simp;omega)) _).alloc (by first | exact le_refl _ | (simp;done) | (simp;omega)) _
    refine (zac H W C A n c false HT1.out _).mono ?_
    rintro e w1 ⟨rfl,hb⟩
    have hh:Below w.heap.size w w1:=hal.trans (hb.mono hal.size)
    have qTA:=(zbd H W C A n c 27) w
    try simp only [World.size_alloc] at qTA
    have TA:=hid ((qTA.below (B':=w.heap.size+1) (by omega) (((((Below.refl _ _).alloc (by first | exact le_refl _ | (simp;done) | (simp;omega)) _).alloc (by first | exact le_refl _ | (simp;done) | (simp;omega)) _).alloc (by first | exact le_refl _ | (simp;done) | (simp;omega)) _).mono (by simp))).below (by first | (simp;done) | (simp;omega)) hb)
    have yTA:w.heap.size < w1.heap.size:=by have:=hb.size;simp at this;omega
    clear qTA
    have qTB:=(zbd H' W' C' B m d 27) (w.alloc (.cells #[.int .i64 H,.int .i64 W,.int .i64 C,.slice A n c] 27))
    try simp only [World.size_alloc] at qTB
    have TB:=hid ((qTB.below (B':=w.heap.size+2) (by omega) ((((Below.refl _ _).alloc (by first | exact le_refl _ | (simp;done) | (simp;omega)) _).alloc (by first | exact le_refl _ | (simp;done) | (simp;omega)) _).mono (by simp))).below (by first | (simp;done) | (simp;omega)) hb)
    have yTB:w.heap.size+1 < w1.heap.size:=by have:=hb.size;simp at this;omega
    clear qTB
    have qTN:=(zai.new x0 x1 x2 (.int .i8 Y) (.int .i32 m1) (.int .i64 s1) (.int .i8 z1) (.int .i32 m2) (.int .i64 s2) (.int .i8 z2) (.int .i8 lo) (.int .i8 hi) K S P O Z WA BA nW cW nB cB 44) ((w.alloc (.cells #[.int .i64 H,.int .i64 W,.int .i64 C,.slice A n c] 27)).alloc (.cells #[.int .i64 H',.int .i64 W',.int .i64 C',.slice B m d] 27))
    try simp only [World.size_alloc] at qTN
    have TN:=hid ((qTN.below (B':=w.heap.size+3) (by omega) (((Below.refl _ _).alloc (by first | exact le_refl _ | (simp;done) | (simp;omega)) _).mono (by simp))).below (by first | (simp;done) | (simp;omega)) hb)
    have yTN:w.heap.size+2 < w1.heap.size:=by have:=hb.size;simp at this;omega
    clear qTN
    have qFR:=(za5 27) (((w.alloc (.cells #[.int .i64 H,.int .i64 W,.int .i64 C,.slice A n c] 27)).alloc (.cells #[.int .i64 H',.int .i64 W',.int .i64 C',.slice B m d] 27)).alloc (.cells #[x0,x1,x2,.int .i64 K,.int .i64 S,.int .i64 P,.int .i64 O,.int .i8 Z,.int .i8 Y,.slice WA nW cW,.slice BA nB cB,.int .i32 m1,.int .i64 s1,.int .i8 z1,.int .i32 m2,.int .i64 s2,.int .i8 z2,.int .i8 lo,.int .i8 hi] 44))
    try simp only [World.size_alloc] at qFR
    have FR:=hid (qFR.below (by first | (simp;done) | (simp;omega)) hb)
    have yFR:w.heap.size+3 < w1.heap.size:=by have:=hb.size;simp at this;omega
    clear qFR
    have HBW:Hid (Below w.heap.size w w1):=hid hh
    obtain⟨⟨z0,z1,z2,z3⟩,z4,z5,z6,z7⟩:=FR.out
    obtain⟨tap0,tap1,tap2,tap3⟩:=TA.out
    obtain⟨tbp0,tbp1,tbp2,tbp3⟩:=TB.out
    clear hb hh hal))
 refine bodyPost_ret (Kit.zaa rfl _ _ (w.heap.size+3) 0 [.int .i64 0,.int .i64 0,.int .i64 0,.slice none 0 0] _ rfl (zan (by go_cell) (by go_cell) (by go_cell) (by go_cell)) Tryz.underlying27 rfl (by kernel_rfl)) rfl ?_
 exact⟨_,rfl,World.ownsRow_nil _ _ _ _,by exact (((HBW.out.setCell (p:=⟨w.heap.size+3,0,none⟩) (by simp) _).setCell (p:=⟨w.heap.size+3,1,none⟩) (by simp) _).setCell (p:=⟨w.heap.size+3,2,none⟩) (by simp) _).setCell (p:=⟨w.heap.size+3,3,none⟩) (by simp) _⟩
theorem jof_bad2 (H W C H' W' C':Int) (A B:Option Addr) (n c m d:Nat) (x0 x1 x2:Value) (K S P O Z Y:Int) (WA BA:Option Addr) (nW cW nB cB:Nat) (m1 s1 z1 m2 s2 z2 lo hi:Int) (h1:tensB H W C n=true) (h2:tensB H' W' C' m=false) (w:World) :
  Calls Tryz.prog 46 #[.agg #[.int .i64 H,.int .i64 W,.int .i64 C,.slice A n c],.agg #[.int .i64 H',.int .i64 W',.int .i64 C',.slice B m d],.agg #[x0,x1,x2,.int .i64 K,.int .i64 S,.int .i64 P,.int .i64 O,.int .i8 Z,.int .i8 Y,.slice WA nW cW,.slice BA nB cB,.int .i32 m1,.int .i64 s1,.int .i8 z1,.int .i32 m2,.int .i64 s2,.int .i8 z2,.int .i8 lo,.int .i8 hi]] w (MadeJ w 0 0 0 0 [] (.int .i64 5)):=by
 have HT1:=hid h1
 have HT2:=hid h2
 clear h1 h2
 have HE:=eqShape H W C H' W' C'
 have hg:=Tryz.eqGuardType24
 go_enter Tryz.func46,Tryz.ntmps46
 go_wp2_with (first
 | (go_at_call 13
    have hchk:=HBW
    clear hchk
    have hal:Below w1.heap.size w1 w1:=Below.refl _ _
    refine (zac H' W' C' B m d false HT2.out _).mono ?_
    rintro e w2 ⟨rfl,hb⟩
    have hh:Below w1.heap.size w1 w2:=hal.trans (hb.mono hal.size)
    replace TA:=hid (TA.out.below yTA hh)
    replace yTA:=Nat.lt_of_lt_of_le yTA hh.size
    replace TB:=hid (TB.out.below yTB hh)
    replace yTB:=Nat.lt_of_lt_of_le yTB hh.size
    replace TN:=hid (TN.out.below yTN hh)
    replace yTN:=Nat.lt_of_lt_of_le yTN hh.size
    replace FR:=hid (FR.out.below yFR hh)
    replace yFR:=Nat.lt_of_lt_of_le yFR hh.size
    replace HBW:=hid (HBW.out.trans (hh.mono HBW.out.size))
    clear tap0 tap1 tap2 tap3 tbp0 tbp1 tbp2 tbp3
    obtain⟨⟨z0,z1,z2,z3⟩,z4,z5,z6,z7⟩:=FR.out
    obtain⟨tap0,tap1,tap2,tap3⟩:=TA.out
    obtain⟨tbp0,tbp1,tbp2,tbp3⟩:=TB.out
    clear hb hh hal)
 | (go_at_call 13
    have hal:Below w.heap.size w ((((w.alloc (.cells #[.int .i64 H,.int .i64 W,.int .i64 C,.slice A n c] 27)).alloc (.cells #[.int .i64 H',.int .i64 W',.int .i64 C',.slice B m d] 27)).alloc (.cells #[x0,x1,x2,.int .i64 K,.int .i64 S,.int .i64 P,.int .i64 O,.int .i8 Z,.int .i8 Y,.slice WA nW cW,.slice BA nB cB,.int .i32 m1,.int .i64 s1,.int .i8 z1,.int .i32 m2,.int .i64 s2,.int .i8 z2,.int .i8 lo,.int .i8 hi] 44)).alloc (.cells #[.int .i64 0,.int .i64 0,.int .i64 0,.slice none 0 0] 27)):=((((Below.refl _ _).alloc (by first | exact le_refl _ | (simp;done) | (simp;omega)) _).alloc (by first | exact le_refl _ | (simp;done) | (simp;omega)) _).alloc (by first | exact le_refl _ | (simp;done) | (simp;omega)) _).alloc (by first | exact le_refl _ | (simp;done) | (simp;omega)) _
    refine (zac H W C A n c true HT1.out _).mono ?_
    rintro e w1 ⟨rfl,hb⟩
    have hh:Below w.heap.size w w1:=hal.trans (hb.mono hal.size)
    have qTA:=(zbd H W C A n c 27) w
    try simp only [World.size_alloc] at qTA
    have TA:=hid ((qTA.below (B':=w.heap.size+1) (by omega) (((((Below.refl _ _).alloc (by first | exact le_refl _ | (simp;done) | (simp;omega)) _).alloc (by first | exact le_refl _ | (simp;done) | (simp;omega)) _).alloc (by first | exact le_refl _ | (simp;done) | (simp;omega)) _).mono (by simp))).below (by first | (simp;done) | (simp;omega)) hb)
    have yTA:w.heap.size < w1.heap.size:=by have:=hb.size;simp at this;omega
    clear qTA
    have qTB:=(zbd H' W' C' B m d 27) (w.alloc (.cells #[.int .i64 H,.int .i64 W,.int .i64 C,.slice A n c] 27))
    try simp only [World.size_alloc] at qTB
    have TB:=hid ((qTB.below (B':=w.heap.size+2) (by omega) ((((Below.refl _ _).alloc (by first | exact le_refl _ | (simp;done) | (simp;omega)) _).alloc (by first | exact le_refl _ | (simp;done) | (simp;omega)) _).mono (by simp))).below (by first | (simp;done) | (simp;omega)) hb)
    have yTB:w.heap.size+1 < w1.heap.size:=by have:=hb.size;simp at this;omega
    clear qTB
    have qTN:=(zai.new x0 x1 x2 (.int .i8 Y) (.int .i32 m1) (.int .i64 s1) (.int .i8 z1) (.int .i32 m2) (.int .i64 s2) (.int .i8 z2) (.int .i8 lo) (.int .i8 hi) K S P O Z WA BA nW cW nB cB 44) ((w.alloc (.cells #[.int .i64 H,.int .i64 W,.int .i64 C,.slice A n c] 27)).alloc (.cells #[.int .i64 H',.int .i64 W',.int .i64 C',.slice B m d] 27))
    try simp only [World.size_alloc] at qTN
    have TN:=hid ((qTN.below (B':=w.heap.size+3) (by omega) (((Below.refl _ _).alloc (by first | exact le_refl _ | (simp;done) | (simp;omega)) _).mono (by simp))).below (by first | (simp;done) | (simp;omega)) hb)
    have yTN:w.heap.size+2 < w1.heap.size:=by have:=hb.size;simp at this;omega
    clear qTN
    have qFR:=(za5 27) (((w.alloc (.cells #[.int .i64 H,.int .i64 W,.int .i64 C,.slice A n c] 27)).alloc (.cells #[.int .i64 H',.int .i64 W',.int .i64 C',.slice B m d] 27)).alloc (.cells #[x0,x1,x2,.int .i64 K,.int .i64 S,.int .i64 P,.int .i64 O,.int .i8 Z,.int .i8 Y,.slice WA nW cW,.slice BA nB cB,.int .i32 m1,.int .i64 s1,.int .i8 z1,.int .i32 m2,.int .i64 s2,.int .i8 z2,.int .i8 lo,.int .i8 hi] 44))
    try simp only [World.size_alloc] at qFR
    have FR:=hid (qFR.below (by first | (simp;done) | (simp;omega)) hb)
    have yFR:w.heap.size+3 < w1.heap.size:=by have:=hb.size;simp at this;omega
    clear qFR
    have HBW:Hid (Below w.heap.size w w1):=hid hh
    obtain⟨tap0,tap1,tap2,tap3⟩:=TA.out
    obtain⟨tbp0,tbp1,tbp2,tbp3⟩:=TB.out
    clear hb hh hal))
 refine bodyPost_ret (Kit.zaa rfl _ _ (w.heap.size+3) 0 [.int .i64 0,.int .i64 0,.int .i64 0,.slice none 0 0] _ rfl (zan (by go_cell) (by go_cell) (by go_cell) (by go_cell)) Tryz.underlying27 rfl (by kernel_rfl)) rfl ?_
 exact⟨_,rfl,World.ownsRow_nil _ _ _ _,by exact (((HBW.out.setCell (p:=⟨w.heap.size+3,0,none⟩) (by simp) _).setCell (p:=⟨w.heap.size+3,1,none⟩) (by simp) _).setCell (p:=⟨w.heap.size+3,2,none⟩) (by simp) _).setCell (p:=⟨w.heap.size+3,3,none⟩) (by simp) _⟩
theorem jof_bad3 (H W C H' W' C':Int) (A B:Option Addr) (n c m d:Nat) (x0 x1 x2:Value) (K S P O Z Y:Int) (WA BA:Option Addr) (nW cW nB cB:Nat) (m1 s1 z1 m2 s2 z2 lo hi:Int) (h1:tensB H W C n=true) (h2:tensB H' W' C' m=true) (hne:(H == H' && (W == W' && C == C'))=false) (w:World) :
  Calls Tryz.prog 46 #[.agg #[.int .i64 H,.int .i64 W,.int .i64 C,.slice A n c],.agg #[.int .i64 H',.int .i64 W',.int .i64 C',.slice B m d],.agg #[x0,x1,x2,.int .i64 K,.int .i64 S,.int .i64 P,.int .i64 O,.int .i8 Z,.int .i8 Y,.slice WA nW cW,.slice BA nB cB,.int .i32 m1,.int .i64 s1,.int .i8 z1,.int .i32 m2,.int .i64 s2,.int .i8 z2,.int .i8 lo,.int .i8 hi]] w (MadeJ w 0 0 0 0 [] (.int .i64 5)):=by
 have HT1:=hid h1
 have HT2:=hid h2
 clear h1 h2
 have HE:=eqShape H W C H' W' C'
 have hg:=Tryz.eqGuardType24
 go_enter Tryz.func46,Tryz.ntmps46
 go_wp2_with (first
 | (go_at_call 13
    have hchk:=HBW
    clear hchk
    have hal:Below w1.heap.size w1 w1:=Below.refl _ _
    refine (zac H' W' C' B m d true HT2.out _).mono ?_
    rintro e w2 ⟨rfl,hb⟩
    have hh:Below w1.heap.size w1 w2:=hal.trans (hb.mono hal.size)
    replace TA:=hid (TA.out.below yTA hh)
    replace yTA:=Nat.lt_of_lt_of_le yTA hh.size
    replace TB:=hid (TB.out.below yTB hh)
    replace yTB:=Nat.lt_of_lt_of_le yTB hh.size
    replace TN:=hid (TN.out.below yTN hh)
    replace yTN:=Nat.lt_of_lt_of_le yTN hh.size
    replace FR:=hid (FR.out.below yFR hh)
    replace yFR:=Nat.lt_of_lt_of_le yFR hh.size
    replace HBW:=hid (HBW.out.trans (hh.mono HBW.out.size))
    clear tap0 tap1 tap2 tap3 tbp0 tbp1 tbp2 tbp3
    obtain⟨⟨z0,z1,z2,z3⟩,z4,z5,z6,z7⟩:=FR.out
    obtain⟨tap0,tap1,tap2,tap3⟩:=TA.out
    obtain⟨tbp0,tbp1,tbp2,tbp3⟩:=TB.out
    clear hb hh hal)
 | (go_at_call 13
    have hal:Below w.heap.size w ((((w.alloc (.cells #[.int .i64 H,.int .i64 W,.int .i64 C,.slice A n c] 27)).alloc (.cells #[.int .i64 H',.int .i64 W',.int .i64 C',.slice B m d] 27)).alloc (.cells #[x0,x1,x2,.int .i64 K,.int .i64 S,.int .i64 P,.int .i64 O,.int .i8 Z,.int .i8 Y,.slice WA nW cW,.slice BA nB cB,.int .i32 m1,.int .i64 s1,.int .i8 z1,.int .i32 m2,.int .i64 s2,.int .i8 z2,.int .i8 lo,.int .i8 hi] 44)).alloc (.cells #[.int .i64 0,.int .i64 0,.int .i64 0,.slice none 0 0] 27)):=((((Below.refl _ _).alloc (by first | exact le_refl _ | (simp;done) | (simp;omega)) _).alloc (by first | exact le_refl _ | (simp;done) | (simp;omega)) _).alloc (by first | exact le_refl _ | (simp;done) | (simp;omega)) _).alloc (by first | exact le_refl _ | (simp;done) | (simp;omega)) _
    refine (zac H W C A n c true HT1.out _).mono ?_
    rintro e w1 ⟨rfl,hb⟩
    have hh:Below w.heap.size w w1:=hal.trans (hb.mono hal.size)
    have qTA:=(zbd H W C A n c 27) w
    try simp only [World.size_alloc] at qTA
    have TA:=hid ((qTA.below (B':=w.heap.size+1) (by omega) (((((Below.refl _ _).alloc (by first | exact le_refl _ | (simp;done) | (simp;omega)) _).alloc (by first | exact le_refl _ | (simp;done) | (simp;omega)) _).alloc (by first | exact le_refl _ | (simp;done) | (simp;omega)) _).mono (by simp))).below (by first | (simp;done) | (simp;omega)) hb)
    have yTA:w.heap.size < w1.heap.size:=by have:=hb.size;simp at this;omega
    clear qTA
    have qTB:=(zbd H' W' C' B m d 27) (w.alloc (.cells #[.int .i64 H,.int .i64 W,.int .i64 C,.slice A n c] 27))
    try simp only [World.size_alloc] at qTB
    have TB:=hid ((qTB.below (B':=w.heap.size+2) (by omega) ((((Below.refl _ _).alloc (by first | exact le_refl _ | (simp;done) | (simp;omega)) _).alloc (by first | exact le_refl _ | (simp;done) | (simp;omega)) _).mono (by simp))).below (by first | (simp;done) | (simp;omega)) hb)
    have yTB:w.heap.size+1 < w1.heap.size:=by have:=hb.size;simp at this;omega
    clear qTB
    have qTN:=(zai.new x0 x1 x2 (.int .i8 Y) (.int .i32 m1) (.int .i64 s1) (.int .i8 z1) (.int .i32 m2) (.int .i64 s2) (.int .i8 z2) (.int .i8 lo) (.int .i8 hi) K S P O Z WA BA nW cW nB cB 44) ((w.alloc (.cells #[.int .i64 H,.int .i64 W,.int .i64 C,.slice A n c] 27)).alloc (.cells #[.int .i64 H',.int .i64 W',.int .i64 C',.slice B m d] 27))
    try simp only [World.size_alloc] at qTN
    have TN:=hid ((qTN.below (B':=w.heap.size+3) (by omega) (((Below.refl _ _).alloc (by first | exact le_refl _ | (simp;done) | (simp;omega)) _).mono (by simp))).below (by first | (simp;done) | (simp;omega)) hb)
    have yTN:w.heap.size+2 < w1.heap.size:=by have:=hb.size;simp at this;omega
    clear qTN
    have qFR:=(za5 27) (((w.alloc (.cells #[.int .i64 H,.int .i64 W,.int .i64 C,.slice A n c] 27)).alloc (.cells #[.int .i64 H',.int .i64 W',.int .i64 C',.slice B m d] 27)).alloc (.cells #[x0,x1,x2,.int .i64 K,.int .i64 S,.int .i64 P,.int .i64 O,.int .i8 Z,.int .i8 Y,.slice WA nW cW,.slice BA nB cB,.int .i32 m1,.int .i64 s1,.int .i8 z1,.int .i32 m2,.int .i64 s2,.int .i8 z2,.int .i8 lo,.int .i8 hi] 44))
    try simp only [World.size_alloc] at qFR
    have FR:=hid (qFR.below (by first | (simp;done) | (simp;omega)) hb)
    have yFR:w.heap.size+3 < w1.heap.size:=by have:=hb.size;simp at this;omega
    clear qFR
    have HBW:Hid (Below w.heap.size w w1):=hid hh
    obtain⟨tap0,tap1,tap2,tap3⟩:=TA.out
    obtain⟨tbp0,tbp1,tbp2,tbp3⟩:=TB.out
    clear hb hh hal))
 refine bodyPost_ret (Kit.zaa rfl _ _ (w.heap.size+3) 0 [.int .i64 0,.int .i64 0,.int .i64 0,.slice none 0 0] _ rfl (zan (by go_cell) (by go_cell) (by go_cell) (by go_cell)) Tryz.underlying27 rfl (by kernel_rfl)) rfl ?_
 exact⟨_,rfl,World.ownsRow_nil _ _ _ _,by exact (((HBW.out.setCell (p:=⟨w.heap.size+3,0,none⟩) (by simp) _).setCell (p:=⟨w.heap.size+3,1,none⟩) (by simp) _).setCell (p:=⟨w.heap.size+3,2,none⟩) (by simp) _).setCell (p:=⟨w.heap.size+3,3,none⟩) (by simp) _⟩
end CJoin
end
end Go.Proofs.YtahekhpeomcfjaaGreatDoor
