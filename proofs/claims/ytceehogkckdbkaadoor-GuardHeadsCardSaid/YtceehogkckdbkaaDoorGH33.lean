/- -/
import Derived.Test.YtceehogkckdbkaaDoorGH32
open Go.Lib (hid)
open Nat (le_refl lt_of_succ_lt lt_succ_self)
set_option linter.unusedVariables false
set_option linter.unusedSimpArgs false
set_option maxRecDepth 100000
set_option maxHeartbeats 16000000
namespace Go.Proofs.YtceehogkckdbkaaDoor
namespace CConv
end CConv
namespace CFix
end CFix
namespace CGraph
end CGraph
namespace CJoin
end CJoin
namespace CKind
end CKind
namespace CSat
end CSat
namespace CShape
end CShape
namespace CSpan
end CSpan
namespace CTensor
end CTensor
open Go Go.ChangeShapes Go.WideShapes Go.ChangeAt Go.RowKit Go.Deep
section
namespace CGuard
open Plain CSat CFix CShape CTensor CConv CSpan CKind CGraph CJoin
theorem chead_no (WA BA:Option Addr) (nW cW nB cB:Nat) (ws bs:List Int) (hws:ws.length=nW) (hbs:bs.length=nB) (hwb:I8b ws) (hbb:∀ q, -2147483648≤bs.getD q 0∧bs.getD q 0≤2147483647) (hcw:nW≤cW) (hcb:nB≤cB) (hW2:nW≤20000) (hB2:nB≤20000) (l h:Int) (l1 : -128≤l) (l2:l≤127) (h1 : -128≤h) (h2:h≤127) (D:Int) (w:World) (hrw:Kit.Rd w w.heap.size WA (I8s ws)) (hrb:Kit.Rd w w.heap.size BA (I32v bs)) (hs:¬ (1≤nB∧nW % nB=0)) :
  Calls Tryd.prog 13 #[.agg #[.slice WA nW cW,.slice BA nB cB,.int .i32 D],.agg #[.int .i8 l,.int .i8 h]] w fun e w'=>e=.returned (.int .i64 9)∧Below w.heap.size w w':=by
 have CA:=hid (fun w:World=>call_no (.int .i64 3) (.int .i64 0) (.int .i64 0) 0 0 0 0 0 0 WA BA nW cW nB cB 0 0 0 0 0 0 0 0 l h (by by_cases h0:nB=0;exact .inl h0;exact .inr (fun e=>hs ⟨by omega,e⟩)) (by omega) (by omega) w)
 clear hrw hrb hs
 have hb1:Below w.heap.size w ((w.alloc (.cells #[.slice WA nW cW,.slice BA nB cB,.int .i32 D] 53)).alloc (.cells #[.int .i8 l,.int .i8 h] 42)):=((Below.refl _ _).alloc (le_refl _) _).alloc (by simp) _
 have HB0:=hid hb1
 clear hb1
 go_enter Tryd.func13,Tryd.ntmps13
 go_wp2_with (first
  | (go_at_call 32
     refine (CA.out _).mono ?_
     rintro e w1 ⟨A,c,rfl,hb⟩
     have HB1:=hid (HB0.out.trans (hb.mono HB0.out.size))
     clear hb))
 go_ret
 exact⟨rfl,HB1.out⟩
theorem chead_yes (WA BA:Option Addr) (nW cW nB cB:Nat) (ws bs:List Int) (hws:ws.length=nW) (hbs:bs.length=nB) (hwb:I8b ws) (hbb:∀ q, -2147483648≤bs.getD q 0∧bs.getD q 0≤2147483647) (hcw:nW≤cW) (hcb:nB≤cB) (hW2:nW≤20000) (hB2:nB≤20000) (l h:Int) (l1 : -128≤l) (l2:l≤127) (h1 : -128≤h) (h2:h≤127) (D:Int) (w:World) (hrw:Kit.Rd w w.heap.size WA (I8s ws)) (hrb:Kit.Rd w w.heap.size BA (I32v bs)) (hs:1≤nB∧nW % nB=0) (f:Bool) (hf:fitB (lsW ws bs nW nB l h 0 false) (grW ws bs nW nB l h 0 false)=f) (z:Int) (hz:(if f=true then (0:Int) else 10)=z) :
  Calls Tryd.prog 13 #[.agg #[.slice WA nW cW,.slice BA nB cB,.int .i32 D],.agg #[.int .i8 l,.int .i8 h]] w fun e w'=>e=.returned (.int .i64 z)∧Below w.heap.size w w':=by
 have CA:Hid (∀ wx,Below w.heap.size w wx→Calls Tryd.prog 32 #[.agg #[.int .i64 3,.int .i64 0,.int .i64 0,.int .i64 0,.int .i64 0,.int .i64 0,.int .i64 0,.int .i8 0,.int .i8 0,.slice WA nW cW,.slice BA nB cB,.int .i32 0,.int .i64 0,.int .i8 0,.int .i32 0,.int .i64 0,.int .i8 0,.int .i8 0,.int .i8 0],.int .i8 l,.int .i8 h] wx fun e w'=>∃ A c P Q,e=.returned (.slice A nB c)∧Hid (Kit.Rd w' w'.heap.size A (pairV P Q nB))∧Hid (holdF P Q nB=f)∧Below wx.heap.size wx w'):=hid (fun wx hb=>by
  refine (call_yes (.int .i64 3) (.int .i64 0) (.int .i64 0) 0 0 0 0 0 0 WA BA nW cW nB cB 0 0 0 0 0 0 0 0 ws bs hws hbs hwb hbb hcw hcb l h l1 l2 h1 h2 (by decide) (by decide) (nW / nB) hs.1 (zat hs) (by omega) (by omega) false rfl wx ((hrw.below hb).more hb.size) ((hrb.below hb).more hb.size)).mono ?_
  rintro e w' ⟨v,rfl,hown,hb'⟩
  obtain⟨A,c,rfl, -, -,hrd⟩:=Kit.own_rd hown
  obtain⟨m,hm⟩:∃ m,nB=m+1:=⟨nB - 1,by omega⟩
  refine⟨A,c,_,_,rfl,hid hrd,hid ?_,hb'⟩
  rw [← hf]
  unfold lsW grW
  rw [lsR_lo,grR_hi,hm]
  exact hold_fit _ _ m)
 have n1:((nB:Int) == 0)=false:=by simp;omega
 have n2:¬ (nB:Int)=0:=by omega
 have HN:=hid hB2
 clear hrw hrb hs hf hws hbs hwb hbb
 have hb1:Below w.heap.size w ((w.alloc (.cells #[.slice WA nW cW,.slice BA nB cB,.int .i32 D] 53)).alloc (.cells #[.int .i8 l,.int .i8 h] 42)):=((Below.refl _ _).alloc (le_refl _) _).alloc (by simp) _
 have HB0:=hid hb1
 clear hb1
 go_enter Tryd.func13,Tryd.ntmps13
 go_upto_region 4 with (go_at_call 32;(refine (CA.out _ HB0.out).mono ?_);rintro e w1 ⟨A,c,P,Q,rfl,HR,HF,hb⟩;(have HB1:=hid (HB0.out.trans (hb.mono HB0.out.size)));clear hb)
 have CH:=hid (cholds_to A P Q nB c (by have:=HN.out;omega) w1 HR.out)
 rw [HF.out] at CH
 clear HR HF CA
 cases f
 ·obtain rfl:(10:Int)=z:=by simpa using hz
  go_wp2_with (go_at_call 33;(refine CH.out.mono ?_);rintro e w2 ⟨rfl,hb⟩;(have HB2:=hid (HB1.out.trans (hb.mono HB1.out.size)));clear hb)
  go_ret
  exact⟨rfl,HB2.out⟩
 ·obtain rfl:(0:Int)=z:=by simpa using hz
  go_wp2_with (go_at_call 33;(refine CH.out.mono ?_);rintro e w2 ⟨rfl,hb⟩;(have HB2:=hid (HB1.out.trans (hb.mono HB1.out.size)));clear hb)
  go_ret
  exact⟨rfl,HB2.out⟩
theorem chead_to (WA BA:Option Addr) (nW cW nB cB:Nat) (ws bs:List Int) (hws:ws.length=nW) (hbs:bs.length=nB) (hwb:I8b ws) (hbb:∀ q, -2147483648≤bs.getD q 0∧bs.getD q 0≤2147483647) (hcw:nW≤cW) (hcb:nB≤cB) (hW2:nW≤20000) (hB2:nB≤20000) (l h:Int) (l1 : -128≤l) (l2:l≤127) (h1 : -128≤h) (h2:h≤127) (D:Int) (w:World) (hrw:Kit.Rd w w.heap.size WA (I8s ws)) (hrb:Kit.Rd w w.heap.size BA (I32v bs)) :
  Calls Tryd.prog 13 #[.agg #[.slice WA nW cW,.slice BA nB cB,.int .i32 D],.agg #[.int .i8 l,.int .i8 h]] w fun e w'=>e=.returned (.int .i64 (headZ ws bs nW nB l h))∧Below w.heap.size w w':=by
 unfold headZ
 by_cases hs:1≤nB∧nW % nB=0
 ·rw [if_pos hs]
  exact chead_yes WA BA nW cW nB cB ws bs hws hbs hwb hbb hcw hcb hW2 hB2 l h l1 l2 h1 h2 D w hrw hrb hs _ rfl _ rfl
 ·rw [if_neg hs]
  exact chead_no WA BA nW cW nB cB ws bs hws hbs hwb hbb hcw hcb hW2 hB2 l h l1 l2 h1 h2 D w hrw hrb hs
end CGuard
end
end Go.Proofs.YtceehogkckdbkaaDoor
