/- -/
import Derived.Test.YtceehogkckdbkaaDoorGH14
open Go.Lib (hid)
open Nat (le_refl lt_of_succ_lt lt_succ_self)
set_option linter.unusedVariables false
set_option linter.unusedSimpArgs false
set_option maxRecDepth 100000
set_option maxHeartbeats 16000000
namespace Go.Proofs.YtceehogkckdbkaaDoor
namespace CConv
end CConv
namespace CFix
end CFix
namespace CSat
end CSat
namespace CShape
end CShape
namespace CSpan
end CSpan
namespace CTensor
end CTensor
open Go Go.ChangeShapes Go.WideShapes Go.ChangeAt Go.RowKit Go.Deep
section
namespace CGuard
open Plain CSat CFix CShape CTensor CConv CSpan
def HeadGAt (B:Nat) (WA BA:Option Addr) (nW cW nB cB:Nat) (D:Int) (wd:World):Prop :=
 wd.cell? ⟨B,0,none⟩=some (.slice WA nW cW)∧wd.cell? ⟨B,1,none⟩=some (.slice BA nB cB)∧wd.cell? ⟨B,2,none⟩=some (.int .i32 D)
theorem headGNew (WA BA:Option Addr) (nW cW nB cB:Nat) (D:Int) (T:TypeId) (w:World):HeadGAt w.heap.size WA BA nW cW nB cB D (w.alloc (.cells #[.slice WA nW cW,.slice BA nB cB,.int .i32 D] T)):=⟨Kit.zae _ _ _ _,Kit.zae _ _ _ _,Kit.zae _ _ _ _⟩
theorem HeadGAt.below {B B':Nat} {WA BA:Option Addr} {nW cW nB cB:Nat} {D:Int} {w w':World} (h:HeadGAt B WA BA nW cW nB cB D w) (hB:B < B') (hb:Below B' w w'):HeadGAt B WA BA nW cW nB cB D w' :=
 ⟨(hb.cell (p:=⟨B,0,none⟩) hB).trans h.1,(hb.cell (p:=⟨B,1,none⟩) hB).trans h.2.1,(hb.cell (p:=⟨B,2,none⟩) hB).trans h.2.2⟩
def RchAt (B:Nat) (l h:Int) (wd:World):Prop:=wd.cell? ⟨B,0,none⟩=some (.int .i8 l)∧wd.cell? ⟨B,1,none⟩=some (.int .i8 h)
theorem rchNew (l h:Int) (T:TypeId) (w:World):RchAt w.heap.size l h (w.alloc (.cells #[.int .i8 l,.int .i8 h] T)):=⟨Kit.zae _ _ _ _,Kit.zae _ _ _ _⟩
theorem RchAt.below {B B':Nat} {l h:Int} {w w':World} (q:RchAt B l h w) (hB:B < B') (hb:Below B' w w'):RchAt B l h w' :=
 ⟨(hb.cell (p:=⟨B,0,none⟩) hB).trans q.1,(hb.cell (p:=⟨B,1,none⟩) hB).trans q.2⟩
def lsW (ws bs:List Int) (nW nB:Nat) (l h z:Int) (g:Bool):Int:=lsR (rowP ws bs l h z g (nW / nB)) nB
def grW (ws bs:List Int) (nW nB:Nat) (l h z:Int) (g:Bool):Int:=grR (rowQ ws bs l h z g (nW / nB)) nB
def headZ (ws bs:List Int) (nW nB:Nat) (l h:Int):Int :=
 if 1≤nB∧nW % nB=0 then (if fitB (lsW ws bs nW nB l h 0 false) (grW ws bs nW nB l h 0 false)=true then 0 else 10) else 9
theorem zat {nW nB:Nat} (h:1≤nB∧nW % nB=0):nW / nB * nB=nW:=Nat.div_mul_cancel (Nat.dvd_of_mod_eq_zero h.2)
theorem same_b {w w':World} (h:w=w'):Below w.heap.size w w':=by subst h;exact Below.refl _ _
theorem quiet_b {w w':World} {m:Nat} (h:w'=w.drewN m):Below w.heap.size w w':=by rw [h];exact Kit.below_drewN (Below.refl _ _) m
theorem rhead_no (WA BA:Option Addr) (nW cW nB cB:Nat) (ws bs:List Int) (hws:ws.length=nW) (hbs:bs.length=nB) (hwb:I8b ws) (hbb:∀ q, -2147483648≤bs.getD q 0∧bs.getD q 0≤2147483647) (hcw:nW≤cW) (hcb:nB≤cB) (hW2:nW≤20000) (hB2:nB≤20000) (l h:Int) (l1 : -128≤l) (l2:l≤127) (h1 : -128≤h) (h2:h≤127) (D:Int) (hs:¬ (1≤nB∧nW % nB=0)) (w:World) (hrw:Kit.Rd w w.heap.size WA (I8s ws)) (hrb:Kit.Rd w w.heap.size BA (I32v bs)) :
  Calls Tryd.prog 14 #[.agg #[.slice WA nW cW,.slice BA nB cB,.int .i32 D],.agg #[.int .i8 l,.int .i8 h]] w fun e w'=>e=.returned (.int .i64 9)∧Below w.heap.size w w':=by
 have HRW:=hid hrw
 have HRB:=hid hrb
 have CS:=hid (fun w:World=>rshared_to WA BA nW cW nB cB (by omega) (by omega) w)
 rw [show decide (1≤nB∧nW % nB=0)=false by simp only [hs,decide_false]] at CS
 clear hrw hrb hs
 go_enter Tryd.func14,Tryd.ntmps14
 go_wp2_with fail
 go_at_call 27
 have hal:Below w.heap.size w ((w.alloc (.cells #[.slice WA nW cW,.slice BA nB cB,.int .i32 D] 53)).alloc (.cells #[.int .i8 l,.int .i8 h] 46)):=((Below.refl _ _).alloc (by first | exact le_refl _ | (simp;done) | (simp;omega)) _).alloc (by first | exact le_refl _ | (simp;done) | (simp;omega)) _
 refine (CS.out _).mono ?_
 rintro e w1 ⟨rfl,hw1⟩
 have hb:=same_b hw1
 clear hw1
 have hh:Below w.heap.size w w1:=hal.trans (hb.mono hal.size)
 have qTH:=(headGNew WA BA nW cW nB cB D 53) w
 try simp only [World.size_alloc] at qTH
 have TH:=hid ((qTH.below (B':=w.heap.size+1) (by omega) (((Below.refl _ _).alloc (by first | exact le_refl _ | (simp;done) | (simp;omega)) _).mono (by simp))).below (by first | (simp;done) | (simp;omega)) hb)
 have yTH:w.heap.size < w1.heap.size:=by have:=hb.size;simp at this;omega
 clear qTH
 have qTR:=(rchNew l h 46) (w.alloc (.cells #[.slice WA nW cW,.slice BA nB cB,.int .i32 D] 53))
 try simp only [World.size_alloc] at qTR
 have TR:=hid (qTR.below (by first | (simp;done) | (simp;omega)) hb)
 have yTR:w.heap.size+1 < w1.heap.size:=by have:=hb.size;simp at this;omega
 clear qTR
 replace HRW:=hid ((HRW.out.below hh).more hh.size)
 replace HRB:=hid ((HRB.out.below hh).more hh.size)
 have HBW:Hid (Below w.heap.size w w1):=hid hh
 obtain⟨thp0,thp1,thp2⟩:=TH.out
 obtain⟨trp0,trp1⟩:=TR.out
 clear hb hh hal
 go_wp2_with fail
 go_ret
 exact⟨rfl,HBW.out⟩
theorem rhead_10 (WA BA:Option Addr) (nW cW nB cB:Nat) (ws bs:List Int) (hws:ws.length=nW) (hbs:bs.length=nB) (hwb:I8b ws) (hbb:∀ q, -2147483648≤bs.getD q 0∧bs.getD q 0≤2147483647) (hcw:nW≤cW) (hcb:nB≤cB) (hW2:nW≤20000) (hB2:nB≤20000) (l h:Int) (l1 : -128≤l) (l2:l≤127) (h1 : -128≤h) (h2:h≤127) (D:Int) (hs:1≤nB∧nW % nB=0) (hf:fitB (lsW ws bs nW nB l h 0 false) (grW ws bs nW nB l h 0 false)=false) (w:World) (hrw:Kit.Rd w w.heap.size WA (I8s ws)) (hrb:Kit.Rd w w.heap.size BA (I32v bs)) :
  Calls Tryd.prog 14 #[.agg #[.slice WA nW cW,.slice BA nB cB,.int .i32 D],.agg #[.int .i8 l,.int .i8 h]] w fun e w'=>e=.returned (.int .i64 10)∧Below w.heap.size w w':=by
 have HRW:=hid hrw
 have HRB:=hid hrb
 have CS:=hid (fun w:World=>rshared_to WA BA nW cW nB cB (by omega) (by omega) w)
 rw [show decide (1≤nB∧nW % nB=0)=true by simp only [hs,and_self,decide_true]] at CS
 have CR:=hid (fun (w:World) (a:Kit.Rd w w.heap.size WA (I8s ws)) (b:Kit.Rd w w.heap.size BA (I32v bs))=>rrows_to WA BA nW cW nB cB ws bs hws hbs hwb hbb hcw hcb hW2 hB2 l h 0 l1 l2 h1 h2 (by decide) (by decide) false (nW / nB) (zat hs) hs.1 (lsW ws bs nW nB l h 0 false) (grW ws bs nW nB l h 0 false) rfl rfl w a b)
 rw [hf] at CR
 generalize lsW ws bs nW nB l h 0 false=X at CR
 generalize grW ws bs nW nB l h 0 false=Y at CR
 clear hrw hrb hs
 go_enter Tryd.func14,Tryd.ntmps14
 go_wp2_with fail
 go_at_call 27
 have hal:Below w.heap.size w ((w.alloc (.cells #[.slice WA nW cW,.slice BA nB cB,.int .i32 D] 53)).alloc (.cells #[.int .i8 l,.int .i8 h] 46)):=((Below.refl _ _).alloc (by first | exact le_refl _ | (simp;done) | (simp;omega)) _).alloc (by first | exact le_refl _ | (simp;done) | (simp;omega)) _
 refine (CS.out _).mono ?_
 rintro e w1 ⟨rfl,hw1⟩
 have hb:=same_b hw1
 clear hw1
 have hh:Below w.heap.size w w1:=hal.trans (hb.mono hal.size)
 have qTH:=(headGNew WA BA nW cW nB cB D 53) w
 try simp only [World.size_alloc] at qTH
 have TH:=hid ((qTH.below (B':=w.heap.size+1) (by omega) (((Below.refl _ _).alloc (by first | exact le_refl _ | (simp;done) | (simp;omega)) _).mono (by simp))).below (by first | (simp;done) | (simp;omega)) hb)
 have yTH:w.heap.size < w1.heap.size:=by have:=hb.size;simp at this;omega
 clear qTH
 have qTR:=(rchNew l h 46) (w.alloc (.cells #[.slice WA nW cW,.slice BA nB cB,.int .i32 D] 53))
 try simp only [World.size_alloc] at qTR
 have TR:=hid (qTR.below (by first | (simp;done) | (simp;omega)) hb)
 have yTR:w.heap.size+1 < w1.heap.size:=by have:=hb.size;simp at this;omega
 clear qTR
 replace HRW:=hid ((HRW.out.below hh).more hh.size)
 replace HRB:=hid ((HRB.out.below hh).more hh.size)
 have HBW:Hid (Below w.heap.size w w1):=hid hh
 obtain⟨thp0,thp1,thp2⟩:=TH.out
 obtain⟨trp0,trp1⟩:=TR.out
 clear hb hh hal
 go_wp2_with fail
 go_at_call 28
 have hal:Below w1.heap.size w1 w1:=Below.refl _ _
 refine (CR.out _ ((HRW.out.below hal).more hal.size) ((HRB.out.below hal).more hal.size)).mono ?_
 rintro e w2 ⟨rfl,m2,hw2⟩
 have hb:=quiet_b hw2
 clear hw2
 have hh:Below w1.heap.size w1 w2:=hal.trans (hb.mono hal.size)
 replace TH:=hid (TH.out.below yTH hh)
 replace yTH:=Nat.lt_of_lt_of_le yTH hh.size
 replace TR:=hid (TR.out.below yTR hh)
 replace yTR:=Nat.lt_of_lt_of_le yTR hh.size
 replace HRW:=hid ((HRW.out.below hh).more hh.size)
 replace HRB:=hid ((HRB.out.below hh).more hh.size)
 replace HBW:=hid (HBW.out.trans (hh.mono HBW.out.size))
 clear thp0 thp1 thp2 trp0 trp1
 obtain⟨thp0,thp1,thp2⟩:=TH.out
 obtain⟨trp0,trp1⟩:=TR.out
 clear hb hh hal
 go_wp2_with fail
 go_ret
 exact⟨rfl,HBW.out⟩
theorem rhead_0 (WA BA:Option Addr) (nW cW nB cB:Nat) (ws bs:List Int) (hws:ws.length=nW) (hbs:bs.length=nB) (hwb:I8b ws) (hbb:∀ q, -2147483648≤bs.getD q 0∧bs.getD q 0≤2147483647) (hcw:nW≤cW) (hcb:nB≤cB) (hW2:nW≤20000) (hB2:nB≤20000) (l h:Int) (l1 : -128≤l) (l2:l≤127) (h1 : -128≤h) (h2:h≤127) (D:Int) (hs:1≤nB∧nW % nB=0) (hf:fitB (lsW ws bs nW nB l h 0 false) (grW ws bs nW nB l h 0 false)=true) (w:World) (hrw:Kit.Rd w w.heap.size WA (I8s ws)) (hrb:Kit.Rd w w.heap.size BA (I32v bs)) :
  Calls Tryd.prog 14 #[.agg #[.slice WA nW cW,.slice BA nB cB,.int .i32 D],.agg #[.int .i8 l,.int .i8 h]] w fun e w'=>e=.returned (.int .i64 0)∧Below w.heap.size w w':=by
 have HRW:=hid hrw
 have HRB:=hid hrb
 have CS:=hid (fun w:World=>rshared_to WA BA nW cW nB cB (by omega) (by omega) w)
 rw [show decide (1≤nB∧nW % nB=0)=true by simp only [hs,and_self,decide_true]] at CS
 have CR:=hid (fun (w:World) (a:Kit.Rd w w.heap.size WA (I8s ws)) (b:Kit.Rd w w.heap.size BA (I32v bs))=>rrows_to WA BA nW cW nB cB ws bs hws hbs hwb hbb hcw hcb hW2 hB2 l h 0 l1 l2 h1 h2 (by decide) (by decide) false (nW / nB) (zat hs) hs.1 (lsW ws bs nW nB l h 0 false) (grW ws bs nW nB l h 0 false) rfl rfl w a b)
 rw [hf] at CR
 generalize lsW ws bs nW nB l h 0 false=X at CR
 generalize grW ws bs nW nB l h 0 false=Y at CR
 clear hrw hrb hs
 go_enter Tryd.func14,Tryd.ntmps14
 go_wp2_with fail
 go_at_call 27
 have hal:Below w.heap.size w ((w.alloc (.cells #[.slice WA nW cW,.slice BA nB cB,.int .i32 D] 53)).alloc (.cells #[.int .i8 l,.int .i8 h] 46)):=((Below.refl _ _).alloc (by first | exact le_refl _ | (simp;done) | (simp;omega)) _).alloc (by first | exact le_refl _ | (simp;done) | (simp;omega)) _
 refine (CS.out _).mono ?_
 rintro e w1 ⟨rfl,hw1⟩
 have hb:=same_b hw1
 clear hw1
 have hh:Below w.heap.size w w1:=hal.trans (hb.mono hal.size)
 have qTH:=(headGNew WA BA nW cW nB cB D 53) w
 try simp only [World.size_alloc] at qTH
 have TH:=hid ((qTH.below (B':=w.heap.size+1) (by omega) (((Below.refl _ _).alloc (by first | exact le_refl _ | (simp;done) | (simp;omega)) _).mono (by simp))).below (by first | (simp;done) | (simp;omega)) hb)
 have yTH:w.heap.size < w1.heap.size:=by have:=hb.size;simp at this;omega
 clear qTH
 have qTR:=(rchNew l h 46) (w.alloc (.cells #[.slice WA nW cW,.slice BA nB cB,.int .i32 D] 53))
 try simp only [World.size_alloc] at qTR
 have TR:=hid (qTR.below (by first | (simp;done) | (simp;omega)) hb)
 have yTR:w.heap.size+1 < w1.heap.size:=by have:=hb.size;simp at this;omega
 clear qTR
 replace HRW:=hid ((HRW.out.below hh).more hh.size)
 replace HRB:=hid ((HRB.out.below hh).more hh.size)
 have HBW:Hid (Below w.heap.size w w1):=hid hh
 obtain⟨thp0,thp1,thp2⟩:=TH.out
 obtain⟨trp0,trp1⟩:=TR.out
 clear hb hh hal
 go_wp2_with fail
 go_at_call 28
 have hal:Below w1.heap.size w1 w1:=Below.refl _ _
 refine (CR.out _ ((HRW.out.below hal).more hal.size) ((HRB.out.below hal).more hal.size)).mono ?_
 rintro e w2 ⟨rfl,m2,hw2⟩
 have hb:=quiet_b hw2
 clear hw2
 have hh:Below w1.heap.size w1 w2:=hal.trans (hb.mono hal.size)
 replace TH:=hid (TH.out.below yTH hh)
 replace yTH:=Nat.lt_of_lt_of_le yTH hh.size
 replace TR:=hid (TR.out.below yTR hh)
 replace yTR:=Nat.lt_of_lt_of_le yTR hh.size
 replace HRW:=hid ((HRW.out.below hh).more hh.size)
 replace HRB:=hid ((HRB.out.below hh).more hh.size)
 replace HBW:=hid (HBW.out.trans (hh.mono HBW.out.size))
 clear thp0 thp1 thp2 trp0 trp1
 obtain⟨thp0,thp1,thp2⟩:=TH.out
 obtain⟨trp0,trp1⟩:=TR.out
 clear hb hh hal
 go_wp2_with fail
 go_ret
 exact⟨rfl,HBW.out⟩
theorem rhead_to (WA BA:Option Addr) (nW cW nB cB:Nat) (ws bs:List Int) (hws:ws.length=nW) (hbs:bs.length=nB) (hwb:I8b ws) (hbb:∀ q, -2147483648≤bs.getD q 0∧bs.getD q 0≤2147483647) (hcw:nW≤cW) (hcb:nB≤cB) (hW2:nW≤20000) (hB2:nB≤20000) (l h:Int) (l1 : -128≤l) (l2:l≤127) (h1 : -128≤h) (h2:h≤127) (D:Int) (w:World) (hrw:Kit.Rd w w.heap.size WA (I8s ws)) (hrb:Kit.Rd w w.heap.size BA (I32v bs)) :
  Calls Tryd.prog 14 #[.agg #[.slice WA nW cW,.slice BA nB cB,.int .i32 D],.agg #[.int .i8 l,.int .i8 h]] w fun e w'=>e=.returned (.int .i64 (headZ ws bs nW nB l h))∧Below w.heap.size w w':=by
 unfold headZ
 by_cases hs:1≤nB∧nW % nB=0
 ·rw [if_pos hs]
  cases hf:fitB (lsW ws bs nW nB l h 0 false) (grW ws bs nW nB l h 0 false)
  ·exact rhead_10 WA BA nW cW nB cB ws bs hws hbs hwb hbb hcw hcb hW2 hB2 l h l1 l2 h1 h2 D hs hf w hrw hrb
  ·exact rhead_0 WA BA nW cW nB cB ws bs hws hbs hwb hbb hcw hcb hW2 hB2 l h l1 l2 h1 h2 D hs hf w hrw hrb
 ·rw [if_neg hs]
  exact rhead_no WA BA nW cW nB cB ws bs hws hbs hwb hbb hcw hcb hW2 hB2 l h l1 l2 h1 h2 D hs w hrw hrb
end CGuard
end
end Go.Proofs.YtceehogkckdbkaaDoor
