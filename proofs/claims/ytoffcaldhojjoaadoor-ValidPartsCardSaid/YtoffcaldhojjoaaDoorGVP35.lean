/- -/
import Derived.Test.YtoffcaldhojjoaaDoorGVP34
open Go.Lib (hid)
open Nat (le_refl lt_of_succ_lt lt_succ_self)
set_option linter.unusedVariables false
set_option linter.unusedSimpArgs false
set_option maxRecDepth 100000
set_option maxHeartbeats 16000000
namespace Go.Proofs.YtoffcaldhojjoaaDoor
namespace CConv
end CConv
namespace CFix
end CFix
namespace CGraph
end CGraph
namespace CJoin
end CJoin
namespace CKind
end CKind
namespace CSat
end CSat
namespace CShape
end CShape
namespace CSpan
end CSpan
namespace CTensor
end CTensor
open Go Go.ChangeShapes Go.WideShapes Go.ChangeAt Go.RowKit Go.Deep
section
namespace CGraph
open Plain CSat CFix CShape CTensor CConv CKind
def outS (X:Nat→Nd) (t0:Tri) (n:Nat):Option (Int × Int) :=
 if zad t0.1 t0.2.1 t0.2.2=false then some (-1,5) else if n=0 then some (-1,12) else if 8 < n then some (-1,4) else (zbb X t0 n).map fun r=>((r.1:Int),r.2)
def ShpPost (X:Nat→Nd) (t0:Tri) (n:Nat) (w:World) (e:Ending) (w':World):Prop :=
 ((∃ k z,outS X t0 n=some (k,z)∧e=.returned (.tuple #[.slice none 0 0,.int .i64 k,.int .i64 z])) ∨
   (outS X t0 n=none∧∃ v,e=.returned (.tuple #[v,.int .i64 (n:Int),.int .i64 0])∧w'.ownsRow w.heap.size 30 3 v (n+1) (tvV (shL X t0 n))))∧Below w.heap.size w w'
theorem sh_cells (t:Tri) (w:World):(w.alloc (.cells #[.int .i64 t.1,.int .i64 t.2.1,.int .i64 t.2.2] 30)).cell? ⟨w.heap.size,0,none⟩=some (.int .i64 t.1)∧(w.alloc (.cells #[.int .i64 t.1,.int .i64 t.2.1,.int .i64 t.2.2] 30)).cell? ⟨w.heap.size,1,none⟩=some (.int .i64 t.2.1)∧(w.alloc (.cells #[.int .i64 t.1,.int .i64 t.2.1,.int .i64 t.2.2] 30)).cell? ⟨w.heap.size,2,none⟩=some (.int .i64 t.2.2) :=
 ⟨by rw [Kit.zac];rfl,by rw [Kit.zac];rfl,by rw [Kit.zac];rfl⟩
theorem cshapes_to (X:Nat→Nd) (t0:Tri) (n c:Nat) (hn:n≤50) (A:Option Addr) (w:World) (hT:zae w) (hX:∀ j,j < n→(X j).Small) (hA:NodesAt w w.heap.size A n X) :
  Calls Tryd.prog 19 #[.slice A n c,.agg #[.int .i64 t0.1,.int .i64 t0.2.1,.int .i64 t0.2.2]] w (ShpPost X t0 n w):=by
 obtain⟨q0,q1,q2⟩:=sh_cells t0 w
 have HB0:=hid ((Below.refl w.heap.size w).alloc (le_refl _) (.cells #[.int .i64 t0.1,.int .i64 t0.2.1,.int .i64 t0.2.2] 30))
 have hsz:w.heap.size < (w.alloc (.cells #[.int .i64 t0.1,.int .i64 t0.2.1,.int .i64 t0.2.2] 30)).heap.size:=by simp
 have HSZ:=hid hsz
 have HT:=hid hT
 have HA:=hid hA
 have HX:=hid hX
 obtain⟨sb,hsb⟩:∃ sb,zad t0.1 t0.2.1 t0.2.2=sb:=⟨_,rfl⟩
 have HSB:=hid hsb
 have hout:outS X t0 n=if sb=false then some (-1,5) else if n=0 then some (-1,12) else if 8 < n then some (-1,4) else (zbb X t0 n).map fun r=>((r.1:Int),r.2):=by unfold outS;rw [hsb]
 have HOUT:=hid hout
 have CR:=hid (fun w:World=>zaj t0.1 t0.2.1 t0.2.2 sb hsb w)
 clear hT hX hA hsb hout hsz
 go_enter Tryd.func19,Tryd.ntmps19
 go_upto_region 1 with fail
 generalize w.alloc (.cells #[.int .i64 t0.1,.int .i64 t0.2.1,.int .i64 t0.2.2] 30)=W0 at q0 q1 q2 HB0 HSZ ⊢
 cases sb with
 | false =>
   go_wp2_with (go_at_call 30;(refine (CR.out _).mono ?_);rintro e w1 ⟨rfl,hb⟩;(have HB1:=hid (HB0.out.trans (hb.mono HB0.out.size)));clear hb)
   go_ret3
   exact⟨.inl ⟨-1,5,by rw [HOUT.out];rfl,rfl⟩,HB1.out⟩
 | true =>
   by_cases h0:n=0
   ·subst h0
    go_wp2_with (go_at_call 30;(refine (CR.out _).mono ?_);rintro e w1 ⟨rfl,hb⟩;(have HB1:=hid (HB0.out.trans (hb.mono HB0.out.size)));clear hb)
    go_ret3
    exact⟨.inl ⟨-1,12,by rw [HOUT.out];rfl,rfl⟩,HB1.out⟩
   ·have h1:((n:Int) == 0)=false:=by simp;omega
    have h1b:¬ (n:Int)=0:=by omega
    by_cases h2:8 < n
    ·have h3:(n:Int) > 8:=by omega
     have ho:outS X t0 n=some (-1,4):=by rw [HOUT.out];simp [h0,h2]
     have HO:=hid ho
     clear h0 h2 ho HOUT
     go_wp2_with (go_at_call 30;(refine (CR.out _).mono ?_);rintro e w1 ⟨rfl,hb⟩;(have HB1:=hid (HB0.out.trans (hb.mono HB0.out.size)));clear hb)
     go_ret3
     exact⟨.inl ⟨-1,4,HO.out,rfl⟩,HB1.out⟩
    ·have h3:¬ (n:Int) > 8:=by omega
     have ho:outS X t0 n=(zbb X t0 n).map fun r=>((r.1:Int),r.2):=by rw [HOUT.out];simp [h0,h2]
     have HO:=hid ho
     clear h0 h2 ho HOUT
     go_wp2_with (first
      | (go_at_call 30
         refine (CR.out _).mono ?_
         rintro e w1 ⟨rfl,hb⟩
         have HB1:=hid (HB0.out.trans (hb.mono HB0.out.size))
         have g0:=(hb.cell (p:=⟨w.heap.size,0,none⟩) HSZ.out).trans q0
         have g1:=(hb.cell (p:=⟨w.heap.size,1,none⟩) HSZ.out).trans q1
         have g2:=(hb.cell (p:=⟨w.heap.size,2,none⟩) HSZ.out).trans q2
         clear hb q0 q1 q2)
      | (go_at_call 32
         refine (through_to X t0 n c hn A _ (HT.out.below HB1.out HT.out.size) HX.out ((HA.out.below HB1.out).more HB1.out.size)).mono ?_
         rintro e w2 ⟨hres,hb⟩
         have HB2:=hid (HB1.out.trans (hb.mono HB1.out.size))
         have HRES:=hid hres
         clear hb hres
         rcases HRES.out with ⟨k,z,hs,rfl⟩ | ⟨hs,v,rfl,hown⟩))
     ·go_ret3
      exact⟨.inl ⟨k,z,by rw [HO.out,hs];rfl,rfl⟩,HB2.out⟩
     ·go_ret3
      exact⟨.inr ⟨by rw [HO.out,hs];rfl,v,rfl,Kit.own_base hown HB1.out.size⟩,HB2.out⟩
end CGraph
end
section
namespace CGuard
open Plain CSat CFix CShape CTensor CConv CSpan CKind CGraph CJoin
theorem chead_no (WA BA:Option Addr) (nW cW nB cB:Nat) (ws bs:List Int) (hws:ws.length=nW) (hbs:bs.length=nB) (hwb:I8b ws) (hbb:∀ q, -2147483648≤bs.getD q 0∧bs.getD q 0≤2147483647) (hcw:nW≤cW) (hcb:nB≤cB) (hW2:nW≤20000) (hB2:nB≤20000) (l h:Int) (l1 : -128≤l) (l2:l≤127) (h1 : -128≤h) (h2:h≤127) (D:Int) (w:World) (hrw:Kit.Rd w w.heap.size WA (I8s ws)) (hrb:Kit.Rd w w.heap.size BA (I32v bs)) (hs:¬ (1≤nB∧nW % nB=0)) :
  Calls Tryd.prog 38 #[.agg #[.slice WA nW cW,.slice BA nB cB,.int .i32 D],.agg #[.int .i8 l,.int .i8 h]] w fun e w'=>e=.returned (.int .i64 9)∧Below w.heap.size w w':=by
 have CA:=hid (fun w:World=>call_no (.int .i64 3) (.int .i64 0) (.int .i64 0) 0 0 0 0 0 0 WA BA nW cW nB cB 0 0 0 0 0 0 0 0 l h (by by_cases h0:nB=0;exact .inl h0;exact .inr (fun e=>hs ⟨by omega,e⟩)) (by omega) (by omega) w)
 clear hrw hrb hs
 have hb1:Below w.heap.size w ((w.alloc (.cells #[.slice WA nW cW,.slice BA nB cB,.int .i32 D] 26)).alloc (.cells #[.int .i8 l,.int .i8 h] 75)):=((Below.refl _ _).alloc (le_refl _) _).alloc (by simp) _
 have HB0:=hid hb1
 clear hb1
 go_enter Tryd.func38,Tryd.ntmps38
 go_wp2_with (first
  | (go_at_call 59
     refine (CA.out _).mono ?_
     rintro e w1 ⟨A,c,rfl,hb⟩
     have HB1:=hid (HB0.out.trans (hb.mono HB0.out.size))
     clear hb))
 go_ret
 exact⟨rfl,HB1.out⟩
theorem chead_yes (WA BA:Option Addr) (nW cW nB cB:Nat) (ws bs:List Int) (hws:ws.length=nW) (hbs:bs.length=nB) (hwb:I8b ws) (hbb:∀ q, -2147483648≤bs.getD q 0∧bs.getD q 0≤2147483647) (hcw:nW≤cW) (hcb:nB≤cB) (hW2:nW≤20000) (hB2:nB≤20000) (l h:Int) (l1 : -128≤l) (l2:l≤127) (h1 : -128≤h) (h2:h≤127) (D:Int) (w:World) (hrw:Kit.Rd w w.heap.size WA (I8s ws)) (hrb:Kit.Rd w w.heap.size BA (I32v bs)) (hs:1≤nB∧nW % nB=0) (f:Bool) (hf:fitB (lsW ws bs nW nB l h 0 false) (grW ws bs nW nB l h 0 false)=f) (z:Int) (hz:(if f=true then (0:Int) else 10)=z) :
  Calls Tryd.prog 38 #[.agg #[.slice WA nW cW,.slice BA nB cB,.int .i32 D],.agg #[.int .i8 l,.int .i8 h]] w fun e w'=>e=.returned (.int .i64 z)∧Below w.heap.size w w':=by
 have CA:Hid (∀ wx,Below w.heap.size w wx→Calls Tryd.prog 59 #[.agg #[.int .i64 3,.int .i64 0,.int .i64 0,.int .i64 0,.int .i64 0,.int .i64 0,.int .i64 0,.int .i8 0,.int .i8 0,.slice WA nW cW,.slice BA nB cB,.int .i32 0,.int .i64 0,.int .i8 0,.int .i32 0,.int .i64 0,.int .i8 0,.int .i8 0,.int .i8 0],.int .i8 l,.int .i8 h] wx fun e w'=>∃ A c P Q,e=.returned (.slice A nB c)∧Hid (Kit.Rd w' w'.heap.size A (pairV P Q nB))∧Hid (holdF P Q nB=f)∧Below wx.heap.size wx w'):=hid (fun wx hb=>by
  refine (call_yes (.int .i64 3) (.int .i64 0) (.int .i64 0) 0 0 0 0 0 0 WA BA nW cW nB cB 0 0 0 0 0 0 0 0 ws bs hws hbs hwb hbb hcw hcb l h l1 l2 h1 h2 (by decide) (by decide) (nW / nB) hs.1 (each_of_shared hs) (by omega) (by omega) false rfl wx ((hrw.below hb).more hb.size) ((hrb.below hb).more hb.size)).mono ?_
  rintro e w' ⟨v,rfl,hown,hb'⟩
  obtain⟨A,c,rfl, -, -,hrd⟩:=Kit.own_rd hown
  obtain⟨m,hm⟩:∃ m,nB=m+1:=⟨nB - 1,by omega⟩
  refine⟨A,c,_,_,rfl,hid hrd,hid ?_,hb'⟩
  rw [← hf]
  unfold lsW grW
  rw [lsR_lo,grR_hi,hm]
  exact hold_fit _ _ m)
 have n1:((nB:Int) == 0)=false:=by simp;omega
 have n2:¬ (nB:Int)=0:=by omega
 have HN:=hid hB2
 clear hrw hrb hs hf hws hbs hwb hbb
 have hb1:Below w.heap.size w ((w.alloc (.cells #[.slice WA nW cW,.slice BA nB cB,.int .i32 D] 26)).alloc (.cells #[.int .i8 l,.int .i8 h] 75)):=((Below.refl _ _).alloc (le_refl _) _).alloc (by simp) _
 have HB0:=hid hb1
 clear hb1
 go_enter Tryd.func38,Tryd.ntmps38
 go_upto_region 4 with (go_at_call 59;(refine (CA.out _ HB0.out).mono ?_);rintro e w1 ⟨A,c,P,Q,rfl,HR,HF,hb⟩;(have HB1:=hid (HB0.out.trans (hb.mono HB0.out.size)));clear hb)
 have CH:=hid (cholds_to A P Q nB c (by have:=HN.out;omega) w1 HR.out)
 rw [HF.out] at CH
 clear HR HF CA
 cases f
 ·obtain rfl:(10:Int)=z:=by simpa using hz
  go_wp2_with (go_at_call 60;(refine CH.out.mono ?_);rintro e w2 ⟨rfl,hb⟩;(have HB2:=hid (HB1.out.trans (hb.mono HB1.out.size)));clear hb)
  go_ret
  exact⟨rfl,HB2.out⟩
 ·obtain rfl:(0:Int)=z:=by simpa using hz
  go_wp2_with (go_at_call 60;(refine CH.out.mono ?_);rintro e w2 ⟨rfl,hb⟩;(have HB2:=hid (HB1.out.trans (hb.mono HB1.out.size)));clear hb)
  go_ret
  exact⟨rfl,HB2.out⟩
theorem chead_to (WA BA:Option Addr) (nW cW nB cB:Nat) (ws bs:List Int) (hws:ws.length=nW) (hbs:bs.length=nB) (hwb:I8b ws) (hbb:∀ q, -2147483648≤bs.getD q 0∧bs.getD q 0≤2147483647) (hcw:nW≤cW) (hcb:nB≤cB) (hW2:nW≤20000) (hB2:nB≤20000) (l h:Int) (l1 : -128≤l) (l2:l≤127) (h1 : -128≤h) (h2:h≤127) (D:Int) (w:World) (hrw:Kit.Rd w w.heap.size WA (I8s ws)) (hrb:Kit.Rd w w.heap.size BA (I32v bs)) :
  Calls Tryd.prog 38 #[.agg #[.slice WA nW cW,.slice BA nB cB,.int .i32 D],.agg #[.int .i8 l,.int .i8 h]] w fun e w'=>e=.returned (.int .i64 (headZ ws bs nW nB l h))∧Below w.heap.size w w':=by
 unfold headZ
 by_cases hs:1≤nB∧nW % nB=0
 ·rw [if_pos hs]
  exact chead_yes WA BA nW cW nB cB ws bs hws hbs hwb hbb hcw hcb hW2 hB2 l h l1 l2 h1 h2 D w hrw hrb hs _ rfl _ rfl
 ·rw [if_neg hs]
  exact chead_no WA BA nW cW nB cB ws bs hws hbs hwb hbb hcw hcb hW2 hB2 l h l1 l2 h1 h2 D w hrw hrb hs
end CGuard
end
end Go.Proofs.YtoffcaldhojjoaaDoor
