/- -/
import Derived.Test.YtoffcaldhojjoaaGreatDoorGVU30
open Go.Lib (hid)
open Nat (le_refl lt_of_succ_lt lt_succ_self)
set_option linter.unusedVariables false
set_option linter.unusedSimpArgs false
set_option maxRecDepth 100000
set_option maxHeartbeats 16000000
namespace Go.Proofs.YtoffcaldhojjoaaGreatDoor
namespace CConv
end CConv
namespace CFix
end CFix
namespace CSat
end CSat
namespace CSpan
end CSpan
namespace CTensor
end CTensor
open Go Go.ChangeShapes Go.WideShapes Go.ChangeAt Go.RowKit Go.Deep
section
namespace CGuard
open Plain CSat CFix CShape CTensor CConv CSpan
def HeadGAt (B:Nat) (WA BA:Option Addr) (nW cW nB cB:Nat) (D:Int) (wd:World):Prop :=
 wd.cell? ⟨B,0,none⟩=some (.slice WA nW cW)∧wd.cell? ⟨B,1,none⟩=some (.slice BA nB cB)∧wd.cell? ⟨B,2,none⟩=some (.int .i32 D)
theorem headGNew (WA BA:Option Addr) (nW cW nB cB:Nat) (D:Int) (T:TypeId) (w:World):HeadGAt w.heap.size WA BA nW cW nB cB D (w.alloc (.cells #[.slice WA nW cW,.slice BA nB cB,.int .i32 D] T)):=⟨Kit.zal _ _ _ _,Kit.zal _ _ _ _,Kit.zal _ _ _ _⟩
theorem HeadGAt.below {B B':Nat} {WA BA:Option Addr} {nW cW nB cB:Nat} {D:Int} {w w':World} (h:HeadGAt B WA BA nW cW nB cB D w) (hB:B < B') (hb:Below B' w w'):HeadGAt B WA BA nW cW nB cB D w' :=
 ⟨(hb.cell (p:=⟨B,0,none⟩) hB).trans h.1,(hb.cell (p:=⟨B,1,none⟩) hB).trans h.2.1,(hb.cell (p:=⟨B,2,none⟩) hB).trans h.2.2⟩
def RchAt (B:Nat) (l h:Int) (wd:World):Prop:=wd.cell? ⟨B,0,none⟩=some (.int .i8 l)∧wd.cell? ⟨B,1,none⟩=some (.int .i8 h)
theorem zce (l h:Int) (T:TypeId) (w:World):RchAt w.heap.size l h (w.alloc (.cells #[.int .i8 l,.int .i8 h] T)):=⟨Kit.zal _ _ _ _,Kit.zal _ _ _ _⟩
theorem RchAt.below {B B':Nat} {l h:Int} {w w':World} (q:RchAt B l h w) (hB:B < B') (hb:Below B' w w'):RchAt B l h w' :=
 ⟨(hb.cell (p:=⟨B,0,none⟩) hB).trans q.1,(hb.cell (p:=⟨B,1,none⟩) hB).trans q.2⟩
def lsW (ws bs:List Int) (nW nB:Nat) (l h z:Int) (g:Bool):Int:=lsR (rowP ws bs l h z g (nW / nB)) nB
def grW (ws bs:List Int) (nW nB:Nat) (l h z:Int) (g:Bool):Int:=grR (rowQ ws bs l h z g (nW / nB)) nB
def headZ (ws bs:List Int) (nW nB:Nat) (l h:Int):Int :=
 if 1≤nB∧nW % nB=0 then (if fitB (lsW ws bs nW nB l h 0 false) (grW ws bs nW nB l h 0 false)=true then 0 else 10) else 9
theorem za4 {nW nB:Nat} (h:1≤nB∧nW % nB=0):nW / nB * nB=nW:=Nat.div_mul_cancel (Nat.dvd_of_mod_eq_zero h.2)
theorem zch {w w':World} (h:w=w'):Below w.heap.size w w':=by subst h;exact Below.refl _ _
theorem quiet_b {w w':World} {m:Nat} (h:w'=w.drewN m):Below w.heap.size w w':=by rw [h];exact Kit.below_drewN (Below.refl _ _) m
theorem rhead_no (WA BA:Option Addr) (nW cW nB cB:Nat) (ws bs:List Int) (hws:ws.length=nW) (hbs:bs.length=nB) (hwb:I8b ws) (hbb:∀ q, -2147483648≤bs.getD q 0∧bs.getD q 0≤2147483647) (hcw:nW≤cW) (hcb:nB≤cB) (hW2:nW≤20000) (hB2:nB≤20000) (l h:Int) (l1 : -128≤l) (l2:l≤127) (h1 : -128≤h) (h2:h≤127) (D:Int) (hs:¬ (1≤nB∧nW % nB=0)) (w:World) (hrw:Kit.Rd w w.heap.size WA (I8s ws)) (hrb:Kit.Rd w w.heap.size BA (I32v bs)) :
  Calls Tryz.prog 21 #[.agg #[.slice WA nW cW,.slice BA nB cB,.int .i32 D],.agg #[.int .i8 l,.int .i8 h]] w fun e w'=>e=.returned (.int .i64 9)∧Below w.heap.size w w':=by
 have HRW:=hid hrw
 have HRB:=hid hrb
 have CS:=hid (fun w:World=>zbc WA BA nW cW nB cB (by omega) (by omega) w)
 rw [show decide (1≤nB∧nW % nB=0)=false by simp only [hs,decide_false]] at CS
 clear hrw hrb hs
 go_enter Tryz.func21,Tryz.ntmps21
 go_wp2_with fail
 go_at_call 31
 have hal:Below w.heap.size w ((w.alloc (.cells #[.slice WA nW cW,.slice BA nB cB,.int .i32 D] 44)).alloc (.cells #[.int .i8 l,.int .i8 h] 70)):=((Below.refl _ _).alloc (by first | exact le_refl _ | (simp;done) | (simp;omega)) _).alloc (by first | exact le_refl _ | (simp;done) | (simp;omega)) _
 refine (CS.out _).mono ?_
 rintro e w1 ⟨rfl,hw1⟩
 have hb:=zch hw1
 clear hw1
 have hh:Below w.heap.size w w1:=hal.trans (hb.mono hal.size)
 have qTH:=(headGNew WA BA nW cW nB cB D 44) w
 try simp only [World.size_alloc] at qTH
 have TH:=hid ((qTH.below (B':=w.heap.size+1) (by omega) (((Below.refl _ _).alloc (by first | exact le_refl _ | (simp;done) | (simp;omega)) _).mono (by simp))).below (by first | (simp;done) | (simp;omega)) hb)
 have yTH:w.heap.size < w1.heap.size:=by have:=hb.size;simp at this;omega
 clear qTH
 have qTR:=(zce l h 70) (w.alloc (.cells #[.slice WA nW cW,.slice BA nB cB,.int .i32 D] 44))
 try simp only [World.size_alloc] at qTR
 have TR:=hid (qTR.below (by first | (simp;done) | (simp;omega)) hb)
 have yTR:w.heap.size+1 < w1.heap.size:=by have:=hb.size;simp at this;omega
 clear qTR
 replace HRW:=hid ((HRW.out.below hh).more hh.size)
 replace HRB:=hid ((HRB.out.below hh).more hh.size)
 have HBW:Hid (Below w.heap.size w w1):=hid hh
 obtain⟨thp0,thp1,thp2⟩:=TH.out
 obtain⟨trp0,trp1⟩:=TR.out
 clear hb hh hal
 go_wp2_with fail
 go_ret
 exact⟨rfl,HBW.out⟩
theorem rhead_10 (WA BA:Option Addr) (nW cW nB cB:Nat) (ws bs:List Int) (hws:ws.length=nW) (hbs:bs.length=nB) (hwb:I8b ws) (hbb:∀ q, -2147483648≤bs.getD q 0∧bs.getD q 0≤2147483647) (hcw:nW≤cW) (hcb:nB≤cB) (hW2:nW≤20000) (hB2:nB≤20000) (l h:Int) (l1 : -128≤l) (l2:l≤127) (h1 : -128≤h) (h2:h≤127) (D:Int) (hs:1≤nB∧nW % nB=0) (hf:fitB (lsW ws bs nW nB l h 0 false) (grW ws bs nW nB l h 0 false)=false) (w:World) (hrw:Kit.Rd w w.heap.size WA (I8s ws)) (hrb:Kit.Rd w w.heap.size BA (I32v bs)) :
  Calls Tryz.prog 21 #[.agg #[.slice WA nW cW,.slice BA nB cB,.int .i32 D],.agg #[.int .i8 l,.int .i8 h]] w fun e w'=>e=.returned (.int .i64 10)∧Below w.heap.size w w':=by
 have HRW:=hid hrw
 have HRB:=hid hrb
 have CS:=hid (fun w:World=>zbc WA BA nW cW nB cB (by omega) (by omega) w)
 rw [show decide (1≤nB∧nW % nB=0)=true by simp only [hs,and_self,decide_true]] at CS
 have CR:=hid (fun (w:World) (a:Kit.Rd w w.heap.size WA (I8s ws)) (b:Kit.Rd w w.heap.size BA (I32v bs))=>zcd WA BA nW cW nB cB ws bs hws hbs hwb hbb hcw hcb hW2 hB2 l h 0 l1 l2 h1 h2 (by decide) (by decide) false (nW / nB) (za4 hs) hs.1 (lsW ws bs nW nB l h 0 false) (grW ws bs nW nB l h 0 false) rfl rfl w a b)
 rw [hf] at CR
 generalize lsW ws bs nW nB l h 0 false=X at CR
 generalize grW ws bs nW nB l h 0 false=Y at CR
 clear hrw hrb hs
 go_enter Tryz.func21,Tryz.ntmps21
 go_wp2_with fail
 go_at_call 31
 have hal:Below w.heap.size w ((w.alloc (.cells #[.slice WA nW cW,.slice BA nB cB,.int .i32 D] 44)).alloc (.cells #[.int .i8 l,.int .i8 h] 70)):=((Below.refl _ _).alloc (by first | exact le_refl _ | (simp;done) | (simp;omega)) _).alloc (by first | exact le_refl _ | (simp;done) | (simp;omega)) _
 refine (CS.out _).mono ?_
 rintro e w1 ⟨rfl,hw1⟩
 have hb:=zch hw1
 clear hw1
 have hh:Below w.heap.size w w1:=hal.trans (hb.mono hal.size)
 have qTH:=(headGNew WA BA nW cW nB cB D 44) w
 try simp only [World.size_alloc] at qTH
 have TH:=hid ((qTH.below (B':=w.heap.size+1) (by omega) (((Below.refl _ _).alloc (by first | exact le_refl _ | (simp;done) | (simp;omega)) _).mono (by simp))).below (by first | (simp;done) | (simp;omega)) hb)
 have yTH:w.heap.size < w1.heap.size:=by have:=hb.size;simp at this;omega
 clear qTH
 have qTR:=(zce l h 70) (w.alloc (.cells #[.slice WA nW cW,.slice BA nB cB,.int .i32 D] 44))
 try simp only [World.size_alloc] at qTR
 have TR:=hid (qTR.below (by first | (simp;done) | (simp;omega)) hb)
 have yTR:w.heap.size+1 < w1.heap.size:=by have:=hb.size;simp at this;omega
 clear qTR
 replace HRW:=hid ((HRW.out.below hh).more hh.size)
 replace HRB:=hid ((HRB.out.below hh).more hh.size)
 have HBW:Hid (Below w.heap.size w w1):=hid hh
 obtain⟨thp0,thp1,thp2⟩:=TH.out
 obtain⟨trp0,trp1⟩:=TR.out
 clear hb hh hal
 go_wp2_with fail
 go_at_call 32
 have hal:Below w1.heap.size w1 w1:=Below.refl _ _
 refine (CR.out _ ((HRW.out.below hal).more hal.size) ((HRB.out.below hal).more hal.size)).mono ?_
 rintro e w2 ⟨rfl,m2,hw2⟩
 have hb:=quiet_b hw2
 clear hw2
 have hh:Below w1.heap.size w1 w2:=hal.trans (hb.mono hal.size)
 replace TH:=hid (TH.out.below yTH hh)
 replace yTH:=Nat.lt_of_lt_of_le yTH hh.size
 replace TR:=hid (TR.out.below yTR hh)
 replace yTR:=Nat.lt_of_lt_of_le yTR hh.size
 replace HRW:=hid ((HRW.out.below hh).more hh.size)
 replace HRB:=hid ((HRB.out.below hh).more hh.size)
 replace HBW:=hid (HBW.out.trans (hh.mono HBW.out.size))
 clear thp0 thp1 thp2 trp0 trp1
 obtain⟨thp0,thp1,thp2⟩:=TH.out
 obtain⟨trp0,trp1⟩:=TR.out
 clear hb hh hal
 go_wp2_with fail
 go_ret
 exact⟨rfl,HBW.out⟩
theorem rhead_0 (WA BA:Option Addr) (nW cW nB cB:Nat) (ws bs:List Int) (hws:ws.length=nW) (hbs:bs.length=nB) (hwb:I8b ws) (hbb:∀ q, -2147483648≤bs.getD q 0∧bs.getD q 0≤2147483647) (hcw:nW≤cW) (hcb:nB≤cB) (hW2:nW≤20000) (hB2:nB≤20000) (l h:Int) (l1 : -128≤l) (l2:l≤127) (h1 : -128≤h) (h2:h≤127) (D:Int) (hs:1≤nB∧nW % nB=0) (hf:fitB (lsW ws bs nW nB l h 0 false) (grW ws bs nW nB l h 0 false)=true) (w:World) (hrw:Kit.Rd w w.heap.size WA (I8s ws)) (hrb:Kit.Rd w w.heap.size BA (I32v bs)) :
  Calls Tryz.prog 21 #[.agg #[.slice WA nW cW,.slice BA nB cB,.int .i32 D],.agg #[.int .i8 l,.int .i8 h]] w fun e w'=>e=.returned (.int .i64 0)∧Below w.heap.size w w':=by
 have HRW:=hid hrw
 have HRB:=hid hrb
 have CS:=hid (fun w:World=>zbc WA BA nW cW nB cB (by omega) (by omega) w)
 rw [show decide (1≤nB∧nW % nB=0)=true by simp only [hs,and_self,decide_true]] at CS
 have CR:=hid (fun (w:World) (a:Kit.Rd w w.heap.size WA (I8s ws)) (b:Kit.Rd w w.heap.size BA (I32v bs))=>zcd WA BA nW cW nB cB ws bs hws hbs hwb hbb hcw hcb hW2 hB2 l h 0 l1 l2 h1 h2 (by decide) (by decide) false (nW / nB) (za4 hs) hs.1 (lsW ws bs nW nB l h 0 false) (grW ws bs nW nB l h 0 false) rfl rfl w a b)
 rw [hf] at CR
 generalize lsW ws bs nW nB l h 0 false=X at CR
 generalize grW ws bs nW nB l h 0 false=Y at CR
 clear hrw hrb hs
 go_enter Tryz.func21,Tryz.ntmps21
 go_wp2_with fail
 go_at_call 31
 have hal:Below w.heap.size w ((w.alloc (.cells #[.slice WA nW cW,.slice BA nB cB,.int .i32 D] 44)).alloc (.cells #[.int .i8 l,.int .i8 h] 70)):=((Below.refl _ _).alloc (by first | exact le_refl _ | (simp;done) | (simp;omega)) _).alloc (by first | exact le_refl _ | (simp;done) | (simp;omega)) _
 refine (CS.out _).mono ?_
 rintro e w1 ⟨rfl,hw1⟩
 have hb:=zch hw1
 clear hw1
 have hh:Below w.heap.size w w1:=hal.trans (hb.mono hal.size)
 have qTH:=(headGNew WA BA nW cW nB cB D 44) w
 try simp only [World.size_alloc] at qTH
 have TH:=hid ((qTH.below (B':=w.heap.size+1) (by omega) (((Below.refl _ _).alloc (by first | exact le_refl _ | (simp;done) | (simp;omega)) _).mono (by simp))).below (by first | (simp;done) | (simp;omega)) hb)
 have yTH:w.heap.size < w1.heap.size:=by have:=hb.size;simp at this;omega
 clear qTH
 have qTR:=(zce l h 70) (w.alloc (.cells #[.slice WA nW cW,.slice BA nB cB,.int .i32 D] 44))
 try simp only [World.size_alloc] at qTR
 have TR:=hid (qTR.below (by first | (simp;done) | (simp;omega)) hb)
 have yTR:w.heap.size+1 < w1.heap.size:=by have:=hb.size;simp at this;omega
 clear qTR
 replace HRW:=hid ((HRW.out.below hh).more hh.size)
 replace HRB:=hid ((HRB.out.below hh).more hh.size)
 have HBW:Hid (Below w.heap.size w w1):=hid hh
 obtain⟨thp0,thp1,thp2⟩:=TH.out
 obtain⟨trp0,trp1⟩:=TR.out
 clear hb hh hal
 go_wp2_with fail
 go_at_call 32
 have hal:Below w1.heap.size w1 w1:=Below.refl _ _
 refine (CR.out _ ((HRW.out.below hal).more hal.size) ((HRB.out.below hal).more hal.size)).mono ?_
 rintro e w2 ⟨rfl,m2,hw2⟩
 have hb:=quiet_b hw2
 clear hw2
 have hh:Below w1.heap.size w1 w2:=hal.trans (hb.mono hal.size)
 replace TH:=hid (TH.out.below yTH hh)
 replace yTH:=Nat.lt_of_lt_of_le yTH hh.size
 replace TR:=hid (TR.out.below yTR hh)
 replace yTR:=Nat.lt_of_lt_of_le yTR hh.size
 replace HRW:=hid ((HRW.out.below hh).more hh.size)
 replace HRB:=hid ((HRB.out.below hh).more hh.size)
 replace HBW:=hid (HBW.out.trans (hh.mono HBW.out.size))
 clear thp0 thp1 thp2 trp0 trp1
 obtain⟨thp0,thp1,thp2⟩:=TH.out
 obtain⟨trp0,trp1⟩:=TR.out
 clear hb hh hal
 go_wp2_with fail
 go_ret
 exact⟨rfl,HBW.out⟩
theorem rhead_to (WA BA:Option Addr) (nW cW nB cB:Nat) (ws bs:List Int) (hws:ws.length=nW) (hbs:bs.length=nB) (hwb:I8b ws) (hbb:∀ q, -2147483648≤bs.getD q 0∧bs.getD q 0≤2147483647) (hcw:nW≤cW) (hcb:nB≤cB) (hW2:nW≤20000) (hB2:nB≤20000) (l h:Int) (l1 : -128≤l) (l2:l≤127) (h1 : -128≤h) (h2:h≤127) (D:Int) (w:World) (hrw:Kit.Rd w w.heap.size WA (I8s ws)) (hrb:Kit.Rd w w.heap.size BA (I32v bs)) :
  Calls Tryz.prog 21 #[.agg #[.slice WA nW cW,.slice BA nB cB,.int .i32 D],.agg #[.int .i8 l,.int .i8 h]] w fun e w'=>e=.returned (.int .i64 (headZ ws bs nW nB l h))∧Below w.heap.size w w':=by
 unfold headZ
 by_cases hs:1≤nB∧nW % nB=0
 ·rw [if_pos hs]
  cases hf:fitB (lsW ws bs nW nB l h 0 false) (grW ws bs nW nB l h 0 false)
  ·exact rhead_10 WA BA nW cW nB cB ws bs hws hbs hwb hbb hcw hcb hW2 hB2 l h l1 l2 h1 h2 D hs hf w hrw hrb
  ·exact rhead_0 WA BA nW cW nB cB ws bs hws hbs hwb hbb hcw hcb hW2 hB2 l h l1 l2 h1 h2 D hs hf w hrw hrb
 ·rw [if_neg hs]
  exact rhead_no WA BA nW cW nB cB ws bs hws hbs hwb hbb hcw hcb hW2 hB2 l h l1 l2 h1 h2 D hs w hrw hrb
end CGuard
end
section
namespace CJoin
open Plain CSat CFix CShape CTensor CConv
theorem refOne_to (x y:Int) (hx1 : -128≤x) (hx2:x≤127) (hy1 : -128≤y) (hy2:y≤127) (x0 x1 x2:Value) (K S P O Z Y:Int) (WA BA:Option Addr) (nW cW nB cB:Nat) (m1 s1 z1 m2 s2 z2 lo hi:Int) (hnb:NBd Z Y m1 z1 m2 z2 lo hi) (R:Int) (hR:oneZ x y Z Y m1 s1 z1 m2 s2 lo hi=R) (w:World) :
  Calls Tryz.prog 51 #[.int .i8 x,.int .i8 y,.agg #[x0,x1,x2,.int .i64 K,.int .i64 S,.int .i64 P,.int .i64 O,.int .i8 Z,.int .i8 Y,.slice WA nW cW,.slice BA nB cB,.int .i32 m1,.int .i64 s1,.int .i8 z1,.int .i32 m2,.int .i64 s2,.int .i8 z2,.int .i8 lo,.int .i8 hi]] w fun e w'=>e=.returned (.int .i8 R)∧Below w.heap.size w w':=by
 obtain⟨⟨hZ1,hZ2⟩,⟨hY1,hY2⟩,⟨hm3,hm1⟩,⟨hz1,hz2⟩,⟨hm4,hm2⟩,⟨hz3,hz4⟩,⟨hl1,hl2⟩,⟨hh1,hh2⟩⟩:=hnb
 cases h1:za0 m1 s1 <;> cases h2:za0 m2 s2
 ·have H1:=hid h1
  have H2:=hid h2
  unfold oneZ at hR
  rw [h1,h2] at hR
  rw [if_neg (by decide)] at hR
  subst hR
  clear h1 h2
  go_enter Tryz.func51,Tryz.ntmps51
  go_wp2_with (first
  | (go_at_call 36
     have hal:Below w.heap.size w (w.alloc (.cells #[x0,x1,x2,.int .i64 K,.int .i64 S,.int .i64 P,.int .i64 O,.int .i8 Z,.int .i8 Y,.slice WA nW cW,.slice BA nB cB,.int .i32 m1,.int .i64 s1,.int .i8 z1,.int .i32 m2,.int .i64 s2,.int .i8 z2,.int .i8 lo,.int .i8 hi] 61)):=(Below.refl _ _).alloc (by first | exact le_refl _ | (simp;done) | (simp;omega)) _
     refine (zbo _ _ _ _).mono ?_
     rintro e w1 ⟨rfl,hb⟩
     have hh:Below w.heap.size w w1:=hal.trans (hb.mono hal.size)
     have qTN:=(zay.new x0 x1 x2 (.int .i8 Y) (.int .i32 m1) (.int .i64 s1) (.int .i8 z1) (.int .i32 m2) (.int .i64 s2) (.int .i8 z2) (.int .i8 lo) (.int .i8 hi) K S P O Z WA BA nW cW nB cB 61) w
     try simp only [World.size_alloc] at qTN
     have TN:=hid (qTN.below (by first | (simp;done) | (simp;omega)) hb)
     have yTN:w.heap.size < w1.heap.size:=by have:=hb.size;simp at this;omega
     clear qTN
     have HBW:Hid (Below w.heap.size w w1):=hid hh
     rw [H1.out]
     have n7:=TN.out.at 7 _ rfl
     have n8:=TN.out.at 8 _ rfl
     have n11:=TN.out.at 11 _ rfl
     have n12:=TN.out.at 12 _ rfl
     have n13:=TN.out.at 13 _ rfl
     have n14:=TN.out.at 14 _ rfl
     have n15:=TN.out.at 15 _ rfl
     have n16:=TN.out.at 16 _ rfl
     have n17:=TN.out.at 17 _ rfl
     have n18:=TN.out.at 18 _ rfl
     clear hb hh hal))
  go_ret
  exact⟨rfl,HBW.out⟩
 ·have H1:=hid h1
  have H2:=hid h2
  unfold oneZ at hR
  rw [h1,h2] at hR
  rw [if_neg (by decide)] at hR
  subst hR
  clear h1 h2
  go_enter Tryz.func51,Tryz.ntmps51
  go_wp2_with (first
  | (go_at_call 36
     have hal:Below w.heap.size w (w.alloc (.cells #[x0,x1,x2,.int .i64 K,.int .i64 S,.int .i64 P,.int .i64 O,.int .i8 Z,.int .i8 Y,.slice WA nW cW,.slice BA nB cB,.int .i32 m1,.int .i64 s1,.int .i8 z1,.int .i32 m2,.int .i64 s2,.int .i8 z2,.int .i8 lo,.int .i8 hi] 61)):=(Below.refl _ _).alloc (by first | exact le_refl _ | (simp;done) | (simp;omega)) _
     refine (zbo _ _ _ _).mono ?_
     rintro e w1 ⟨rfl,hb⟩
     have hh:Below w.heap.size w w1:=hal.trans (hb.mono hal.size)
     have qTN:=(zay.new x0 x1 x2 (.int .i8 Y) (.int .i32 m1) (.int .i64 s1) (.int .i8 z1) (.int .i32 m2) (.int .i64 s2) (.int .i8 z2) (.int .i8 lo) (.int .i8 hi) K S P O Z WA BA nW cW nB cB 61) w
     try simp only [World.size_alloc] at qTN
     have TN:=hid (qTN.below (by first | (simp;done) | (simp;omega)) hb)
     have yTN:w.heap.size < w1.heap.size:=by have:=hb.size;simp at this;omega
     clear qTN
     have HBW:Hid (Below w.heap.size w w1):=hid hh
     rw [H1.out]
     have n7:=TN.out.at 7 _ rfl
     have n8:=TN.out.at 8 _ rfl
     have n11:=TN.out.at 11 _ rfl
     have n12:=TN.out.at 12 _ rfl
     have n13:=TN.out.at 13 _ rfl
     have n14:=TN.out.at 14 _ rfl
     have n15:=TN.out.at 15 _ rfl
     have n16:=TN.out.at 16 _ rfl
     have n17:=TN.out.at 17 _ rfl
     have n18:=TN.out.at 18 _ rfl
     clear hb hh hal))
  go_ret
  exact⟨rfl,HBW.out⟩
 ·have H1:=hid h1
  have H2:=hid h2
  unfold oneZ at hR
  rw [h1,h2] at hR
  rw [if_neg (by decide)] at hR
  subst hR
  clear h1 h2
  go_enter Tryz.func51,Tryz.ntmps51
  go_wp2_with (first
  | (go_at_call 36
     have hal:Below w.heap.size w (w.alloc (.cells #[x0,x1,x2,.int .i64 K,.int .i64 S,.int .i64 P,.int .i64 O,.int .i8 Z,.int .i8 Y,.slice WA nW cW,.slice BA nB cB,.int .i32 m1,.int .i64 s1,.int .i8 z1,.int .i32 m2,.int .i64 s2,.int .i8 z2,.int .i8 lo,.int .i8 hi] 61)):=(Below.refl _ _).alloc (by first | exact le_refl _ | (simp;done) | (simp;omega)) _
     refine (zbo _ _ _ _).mono ?_
     rintro e w1 ⟨rfl,hb⟩
     have hh:Below w.heap.size w w1:=hal.trans (hb.mono hal.size)
     have qTN:=(zay.new x0 x1 x2 (.int .i8 Y) (.int .i32 m1) (.int .i64 s1) (.int .i8 z1) (.int .i32 m2) (.int .i64 s2) (.int .i8 z2) (.int .i8 lo) (.int .i8 hi) K S P O Z WA BA nW cW nB cB 61) w
     try simp only [World.size_alloc] at qTN
     have TN:=hid (qTN.below (by first | (simp;done) | (simp;omega)) hb)
     have yTN:w.heap.size < w1.heap.size:=by have:=hb.size;simp at this;omega
     clear qTN
     have HBW:Hid (Below w.heap.size w w1):=hid hh
     rw [H1.out]
     have n7:=TN.out.at 7 _ rfl
     have n8:=TN.out.at 8 _ rfl
     have n11:=TN.out.at 11 _ rfl
     have n12:=TN.out.at 12 _ rfl
     have n13:=TN.out.at 13 _ rfl
     have n14:=TN.out.at 14 _ rfl
     have n15:=TN.out.at 15 _ rfl
     have n16:=TN.out.at 16 _ rfl
     have n17:=TN.out.at 17 _ rfl
     have n18:=TN.out.at 18 _ rfl
     clear hb hh hal)
  | (go_at_call 36
     have hal:Below w1.heap.size w1 w1:=Below.refl _ _
     refine (zbo _ _ _ _).mono ?_
     rintro e w2 ⟨rfl,hb⟩
     have hh:Below w1.heap.size w1 w2:=hal.trans (hb.mono hal.size)
     replace TN:=hid (TN.out.below yTN hh)
     replace yTN:=Nat.lt_of_lt_of_le yTN hh.size
     replace HBW:=hid (HBW.out.trans (hh.mono HBW.out.size))
     clear n7 n8 n11 n12 n13 n14 n15 n16 n17 n18
     rw [H2.out]
     have n7:=TN.out.at 7 _ rfl
     have n8:=TN.out.at 8 _ rfl
     have n11:=TN.out.at 11 _ rfl
     have n12:=TN.out.at 12 _ rfl
     have n13:=TN.out.at 13 _ rfl
     have n14:=TN.out.at 14 _ rfl
     have n15:=TN.out.at 15 _ rfl
     have n16:=TN.out.at 16 _ rfl
     have n17:=TN.out.at 17 _ rfl
     have n18:=TN.out.at 18 _ rfl
     clear hb hh hal))
  go_ret
  exact⟨rfl,HBW.out⟩
 ·have hh:(za0 m1 s1 && za0 m2 s2)=true:=by rw [h1,h2];rfl
  obtain⟨hr1,hr2⟩:za0 m1 s1=true∧za0 m2 s2=true:=by simpa using hh
  obtain⟨b1,b2⟩:=round_term hx1 hx2 hZ1 hZ2 hm1 hr1
  obtain⟨b3,b4⟩:=round_term hy1 hy2 hY1 hY2 hm2 hr2
  unfold oneZ at hR
  rw [hh,if_pos rfl] at hR
  obtain⟨t1,ht1⟩:∃ t1,zbb ((x - Z) * m1) s1.toNat=t1:=⟨_,rfl⟩
  obtain⟨t2,ht2⟩:∃ t2,zbb ((y - Y) * m2) s2.toNat=t2:=⟨_,rfl⟩
  rw [ht1] at b1 b2 hR
  rw [ht2] at b3 b4 hR
  obtain⟨k1,g1,g2⟩:=rightB_yes hr1
  obtain⟨k2,g3,g4⟩:=rightB_yes hr2
  obtain⟨v1,v2⟩:=term_abs hx1 hx2 hZ1 hZ2 k1 hm1
  obtain⟨v3,v4⟩:=term_abs hy1 hy2 hY1 hY2 k2 hm2
  obtain⟨p1,hp1⟩:∃ p1,(x - Z) * m1=p1:=⟨_,rfl⟩
  obtain⟨p2,hp2⟩:∃ p2,(y - Y) * m2=p2:=⟨_,rfl⟩
  have a1:IntKind.i64.wrap ((x - Z) * m1)=p1:=by rw [hp1] at v1 v2 ⊢;exact IntWalk.i64_in _ (by omega)
  have a2:IntKind.i64.wrap ((y - Y) * m2)=p2:=by rw [hp2] at v3 v4 ⊢;exact IntWalk.i64_in _ (by omega)
  rw [hp1] at v1 v2 ht1
  rw [hp2] at v3 v4 ht2
  have p3 : -9223372036854775808≤p1:=by omega
  have p4:p1≤9223372036854775807:=by omega
  have p5 : -9223372036854775808≤p2:=by omega
  have p6:p2≤9223372036854775807:=by omega
  have w1:IntKind.i64.wrap (t1+t2)=t1+t2:=IntWalk.i64_in _ (by omega)
  have w2:IntKind.i64.wrap (t1+t2+z1)=t1+t2+z1:=IntWalk.i64_in _ (by omega)
  have w3:IntKind.i64.wrap (x - Z)=x - Z:=IntWalk.i64_in _ (by omega)
  have w4:IntKind.i64.wrap (y - Y)=y - Y:=IntWalk.i64_in _ (by omega)
  obtain⟨c1,c2⟩ : -128≤R∧R≤127:=by rw [← hR];exact clampZ_bd _ _ _ hl1 hl2 hh1 hh2
  have c3:IntKind.i8.wrap R=R:=IntWalk.i8_in _ (by omega)
  have H1:=hid h1
  have H2:=hid h2
  have HH:=hid hh
  have HR1:=hid hr1
  have HR2:=hid hr2
  have HT1:=hid ht1
  have HT2:=hid ht2
  have HC:=hid hR
  clear hh hr1 hr2 ht1 ht2 hR
  clear hp1 hp2 h1 h2 v1 v2 v3 v4
  go_enter Tryz.func51,Tryz.ntmps51
  go_wp2_with (first
  | (go_at_call 36
     have hal:Below w.heap.size w (w.alloc (.cells #[x0,x1,x2,.int .i64 K,.int .i64 S,.int .i64 P,.int .i64 O,.int .i8 Z,.int .i8 Y,.slice WA nW cW,.slice BA nB cB,.int .i32 m1,.int .i64 s1,.int .i8 z1,.int .i32 m2,.int .i64 s2,.int .i8 z2,.int .i8 lo,.int .i8 hi] 61)):=(Below.refl _ _).alloc (by first | exact le_refl _ | (simp;done) | (simp;omega)) _
     refine (zbo _ _ _ _).mono ?_
     rintro e w1 ⟨rfl,hb⟩
     have hh:Below w.heap.size w w1:=hal.trans (hb.mono hal.size)
     have qTN:=(zay.new x0 x1 x2 (.int .i8 Y) (.int .i32 m1) (.int .i64 s1) (.int .i8 z1) (.int .i32 m2) (.int .i64 s2) (.int .i8 z2) (.int .i8 lo) (.int .i8 hi) K S P O Z WA BA nW cW nB cB 61) w
     try simp only [World.size_alloc] at qTN
     have TN:=hid (qTN.below (by first | (simp;done) | (simp;omega)) hb)
     have yTN:w.heap.size < w1.heap.size:=by have:=hb.size;simp at this;omega
     clear qTN
     have HBW:Hid (Below w.heap.size w w1):=hid hh
     rw [H1.out]
     have n7:=TN.out.at 7 _ rfl
     have n8:=TN.out.at 8 _ rfl
     have n11:=TN.out.at 11 _ rfl
     have n12:=TN.out.at 12 _ rfl
     have n13:=TN.out.at 13 _ rfl
     have n14:=TN.out.at 14 _ rfl
     have n15:=TN.out.at 15 _ rfl
     have n16:=TN.out.at 16 _ rfl
     have n17:=TN.out.at 17 _ rfl
     have n18:=TN.out.at 18 _ rfl
     clear hb hh hal)
  | (go_at_call 36
     have hal:Below w1.heap.size w1 w1:=Below.refl _ _
     refine (zbo _ _ _ _).mono ?_
     rintro e w2 ⟨rfl,hb⟩
     have hh:Below w1.heap.size w1 w2:=hal.trans (hb.mono hal.size)
     replace TN:=hid (TN.out.below yTN hh)
     replace yTN:=Nat.lt_of_lt_of_le yTN hh.size
     replace HBW:=hid (HBW.out.trans (hh.mono HBW.out.size))
     clear n7 n8 n11 n12 n13 n14 n15 n16 n17 n18
     rw [H2.out]
     have n7:=TN.out.at 7 _ rfl
     have n8:=TN.out.at 8 _ rfl
     have n11:=TN.out.at 11 _ rfl
     have n12:=TN.out.at 12 _ rfl
     have n13:=TN.out.at 13 _ rfl
     have n14:=TN.out.at 14 _ rfl
     have n15:=TN.out.at 15 _ rfl
     have n16:=TN.out.at 16 _ rfl
     have n17:=TN.out.at 17 _ rfl
     have n18:=TN.out.at 18 _ rfl
     clear hb hh hal)
  | (go_at_call 66
     with_reducible refine (refRound_int p1 s1 t1 g1 g2 p3 p4 HT1.out _).mono ?_
     rintro e w3 ⟨rfl,q,hq⟩
     have hh:Below w2.heap.size w2 w3:=by rw [hq];exact Kit.below_drewN (Below.refl _ _) q
     replace TN:=hid (TN.out.below yTN hh)
     replace yTN:=Nat.lt_of_lt_of_le yTN hh.size
     replace HBW:=hid (HBW.out.trans (hh.mono HBW.out.size))
     clear n7 n8 n11 n12 n13 n14 n15 n16 n17 n18
     have n7:=TN.out.at 7 _ rfl
     have n8:=TN.out.at 8 _ rfl
     have n11:=TN.out.at 11 _ rfl
     have n12:=TN.out.at 12 _ rfl
     have n13:=TN.out.at 13 _ rfl
     have n14:=TN.out.at 14 _ rfl
     have n15:=TN.out.at 15 _ rfl
     have n16:=TN.out.at 16 _ rfl
     have n17:=TN.out.at 17 _ rfl
     have n18:=TN.out.at 18 _ rfl
     clear hh hq)
  | (go_at_call 66
     with_reducible refine (refRound_int p2 s2 t2 g3 g4 p5 p6 HT2.out _).mono ?_
     rintro e w4 ⟨rfl,q,hq⟩
     have hh:Below w3.heap.size w3 w4:=by rw [hq];exact Kit.below_drewN (Below.refl _ _) q
     replace TN:=hid (TN.out.below yTN hh)
     replace yTN:=Nat.lt_of_lt_of_le yTN hh.size
     replace HBW:=hid (HBW.out.trans (hh.mono HBW.out.size))
     clear n7 n8 n11 n12 n13 n14 n15 n16 n17 n18
     have n7:=TN.out.at 7 _ rfl
     have n8:=TN.out.at 8 _ rfl
     have n11:=TN.out.at 11 _ rfl
     have n12:=TN.out.at 12 _ rfl
     have n13:=TN.out.at 13 _ rfl
     have n14:=TN.out.at 14 _ rfl
     have n15:=TN.out.at 15 _ rfl
     have n16:=TN.out.at 16 _ rfl
     have n17:=TN.out.at 17 _ rfl
     have n18:=TN.out.at 18 _ rfl
     clear hh hq)
  | (go_at_call 67;(refine (refHeld_to _ lo hi R HC.out _).mono ?_);rintro e w5 ⟨rfl,rfl⟩))
  go_ret
  exact⟨rfl,HBW.out⟩
end CJoin
end
end Go.Proofs.YtoffcaldhojjoaaGreatDoor
