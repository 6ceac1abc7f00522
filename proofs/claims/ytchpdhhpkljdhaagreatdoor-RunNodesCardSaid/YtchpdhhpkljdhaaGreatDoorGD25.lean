/- -/
import Derived.Test.YtchpdhhpkljdhaaGreatDoorGD22
open Go.Value renaming int→Jj
open Go.IntKind renaming i64→Jq
open Go.Lib (hid)
open Nat (le_refl lt_of_succ_lt lt_succ_self)
set_option linter.unusedVariables false
set_option linter.unusedSimpArgs false
set_option maxRecDepth 100000
set_option maxHeartbeats 16000000
namespace Go.Proofs.YtchpdhhpkljdhaaGreatDoor
namespace CConv
end CConv
namespace CSat
end CSat
open Go Go.ChangeShapes Go.WideShapes Go.ChangeAt Go.RowKit
section
namespace CDepth
open Plain CSat CShape CTensor CConv
def zcw (H W C K S P:Int) (nW nB:Nat):Int :=
 if za7 H W C K S P C≠0 then za7 H W C K S P C else if (nW:Int)=C * K * K∧nW≤16384∧(nB:Int)=C then 0 else 9
def depthS (H W C K S P:Int) (nW nB:Nat):Array Value :=
 if zcw H W C K S P nW nB=0 then #[Jj Jq (zad H K S P),Jj Jq (zad W K S P),Jj Jq C] else #[Jj Jq 0,Jj Jq 0,Jj Jq 0]
theorem dep_err (H W C:Int) (x0 x1 x2 x8 x11 x12 x13 x14 x15 x16 x17 x18:Value) (K S P O Z:Int) (WA BA:Option Addr) (nW cW nB cB:Nat) (e:Int) (he:za7 H W C K S P C=e) (hn:e≠0) (w:World) :
  Calls Tryz.prog 82 #[.agg #[Jj Jq H,Jj Jq W,Jj Jq C],.agg #[x0,x1,x2,Jj Jq K,Jj Jq S,Jj Jq P,Jj Jq O,.int .i8 Z,x8,.slice WA nW cW,.slice BA nB cB,x11,x12,x13,x14,x15,x16,x17,x18]] w fun e' w'=>e'=.returned (.tuple #[.agg #[Jj Jq 0,Jj Jq 0,Jj Jq 0],Jj Jq e])∧Below w.heap.size w w':=by
 have hS:za6 H W C K S P C=#[Jj Jq 0,Jj Jq 0,Jj Jq 0]:=by unfold za6;rw [he,if_neg hn]
 refine Za3 ?_;intro hnb hnc HE HS
 clear he hS
 go_enter Tryz.func82,Tryz.ntmps82
 go_wp2_with (go_at_call 98;(refine (zb1 H W C K S P C e _ HE.out HS.out _).mono ?_);(rintro e' w1 ⟨rfl,hb⟩;obtain⟨hcc,hff⟩:=Kit.bcell hb;have hz:w.heap.size+3≤w1.heap.size:=Zbb;have hz2:w.heap.size+2 < w1.heap.size:=Zb3;have hz1:w.heap.size+1 < w1.heap.size:=Zb3;have hz0:w.heap.size < w1.heap.size:=Zb3;have HB:=hid hb;clear hb))
 exact Z1
theorem dep_w1 (H W C:Int) (x0 x1 x2 x8 x11 x12 x13 x14 x15 x16 x17 x18:Value) (K S P O Z:Int) (WA BA:Option Addr) (nW cW nB cB:Nat) (he:za7 H W C K S P C=0) (hw:(nW:Int)≠C * K * K) (w:World) :
  Calls Tryz.prog 82 #[.agg #[Jj Jq H,Jj Jq W,Jj Jq C],.agg #[x0,x1,x2,Jj Jq K,Jj Jq S,Jj Jq P,Jj Jq O,.int .i8 Z,x8,.slice WA nW cW,.slice BA nB cB,x11,x12,x13,x14,x15,x16,x17,x18]] w fun e' w'=>e'=.returned (.tuple #[.agg #[Jj Jq 0,Jj Jq 0,Jj Jq 0],Jj Jq 9])∧Below w.heap.size w w':=by
 refine Z6u ?_;intro hs ha hb2 hr1 hr2 hr hS c1 c2 o1 o2 k1 k2 p1 p2 p5 p6
 generalize zad H K S P=m at hS ⊢
 generalize zad W K S P=m2 at hS ⊢
 obtain⟨q,hq⟩:∃ q,C * K * K=q:=⟨_,rfl⟩
 rw [hq] at p5 p6
 rw [hq] at hw
 refine Za8 ?_;intro hwb hwc
 exact Z3h
theorem dep_w2 (H W C:Int) (x0 x1 x2 x8 x11 x12 x13 x14 x15 x16 x17 x18:Value) (K S P O Z:Int) (WA BA:Option Addr) (nW cW nB cB:Nat) (he:za7 H W C K S P C=0) (hw:(nW:Int)=C * K * K) (hw2:16384 < nW) (w:World) :
  Calls Tryz.prog 82 #[.agg #[Jj Jq H,Jj Jq W,Jj Jq C],.agg #[x0,x1,x2,Jj Jq K,Jj Jq S,Jj Jq P,Jj Jq O,.int .i8 Z,x8,.slice WA nW cW,.slice BA nB cB,x11,x12,x13,x14,x15,x16,x17,x18]] w fun e' w'=>e'=.returned (.tuple #[.agg #[Jj Jq 0,Jj Jq 0,Jj Jq 0],Jj Jq 9])∧Below w.heap.size w w':=by
 refine Z6u ?_;intro hs ha hb2 hr1 hr2 hr hS c1 c2 o1 o2 k1 k2 p1 p2 p5 p6
 generalize zad H K S P=m at hS ⊢
 generalize zad W K S P=m2 at hS ⊢
 obtain⟨q,hq⟩:∃ q,C * K * K=q:=⟨_,rfl⟩
 rw [hq] at p5 p6
 rw [hq] at hw
 subst hw
 have hw3:(16384:Int) < (nW:Int):=by omega
 exact Z3h
theorem dep_w3 (H W C:Int) (x0 x1 x2 x8 x11 x12 x13 x14 x15 x16 x17 x18:Value) (K S P O Z:Int) (WA BA:Option Addr) (nW cW nB cB:Nat) (he:za7 H W C K S P C=0) (hw:(nW:Int)=C * K * K) (hw2:nW≤16384) (hb:(nB:Int)≠C) (w:World) :
  Calls Tryz.prog 82 #[.agg #[Jj Jq H,Jj Jq W,Jj Jq C],.agg #[x0,x1,x2,Jj Jq K,Jj Jq S,Jj Jq P,Jj Jq O,.int .i8 Z,x8,.slice WA nW cW,.slice BA nB cB,x11,x12,x13,x14,x15,x16,x17,x18]] w fun e' w'=>e'=.returned (.tuple #[.agg #[Jj Jq 0,Jj Jq 0,Jj Jq 0],Jj Jq 9])∧Below w.heap.size w w':=by
 refine Z6u ?_;intro hs ha hb2 hr1 hr2 hr hS c1 c2 o1 o2 k1 k2 p1 p2 p5 p6
 generalize zad H K S P=m at hS ⊢
 generalize zad W K S P=m2 at hS ⊢
 obtain⟨q,hq⟩:∃ q,C * K * K=q:=⟨_,rfl⟩
 rw [hq] at p5 p6
 rw [hq] at hw
 subst hw
 have hw3:(nW:Int)≤16384:=by omega
 have hbb:((nB:Int) != C)=true:=by simpa using hb
 have hbc:((nB:Int) == C)=false:=by simpa using hb
 exact Z3h
theorem dep_ok (H W C:Int) (x0 x1 x2 x8 x11 x12 x13 x14 x15 x16 x17 x18:Value) (K S P O Z:Int) (WA BA:Option Addr) (nW cW nB cB:Nat) (he:za7 H W C K S P C=0) (hw:(nW:Int)=C * K * K) (hw2:nW≤16384) (hb:(nB:Int)=C) (w:World) :
  Calls Tryz.prog 82 #[.agg #[Jj Jq H,Jj Jq W,Jj Jq C],.agg #[x0,x1,x2,Jj Jq K,Jj Jq S,Jj Jq P,Jj Jq O,.int .i8 Z,x8,.slice WA nW cW,.slice BA nB cB,x11,x12,x13,x14,x15,x16,x17,x18]] w fun e' w'=>e'=.returned (.tuple #[.agg #[Jj Jq (zad H K S P),Jj Jq (zad W K S P),Jj Jq C],Jj Jq 0])∧Below w.heap.size w w':=by
 refine Z6u ?_;intro hs ha hb2 hr1 hr2 hr hS c1 c2 o1 o2 k1 k2 p1 p2 p5 p6
 generalize zad H K S P=m at hS ⊢
 generalize zad W K S P=m2 at hS ⊢
 obtain⟨q,hq⟩:∃ q,C * K * K=q:=⟨_,rfl⟩
 rw [hq] at p5 p6
 rw [hq] at hw
 subst hw
 have hw3:(nW:Int)≤16384:=by omega
 have hbb:((nB:Int) != C)=false:=by simpa using hb
 clear ha hb2 hr1 hr2 hr hs
 have HE:=hid he
 have HS:=hid hS
 clear he hS
 go_enter Tryz.func82,Tryz.ntmps82
 go_wp2_with (go_at_call 98;(refine (zb1 H W C K S P C 0 _ HE.out HS.out _).mono ?_);(rintro e' w1 ⟨rfl,hb⟩;obtain⟨hcc,hff⟩:=Kit.bcell hb;have hz:w.heap.size+3≤w1.heap.size:=Zbb;have hz2:w.heap.size+2 < w1.heap.size:=Zb3;have hz1:w.heap.size+1 < w1.heap.size:=Zb3;have hz0:w.heap.size < w1.heap.size:=Zb3;have HB:=hid hb;clear hb))
 exact Z4v
theorem dep_to (H W C:Int) (x0 x1 x2 x8 x11 x12 x13 x14 x15 x16 x17 x18:Value) (K S P O Z:Int) (WA BA:Option Addr) (nW cW nB cB:Nat) (e:Int) (v:Array Value) (he:zcw H W C K S P nW nB=e) (hv:depthS H W C K S P nW nB=v) (w:World) :
  Calls Tryz.prog 82 #[.agg #[Jj Jq H,Jj Jq W,Jj Jq C],.agg #[x0,x1,x2,Jj Jq K,Jj Jq S,Jj Jq P,Jj Jq O,.int .i8 Z,x8,.slice WA nW cW,.slice BA nB cB,x11,x12,x13,x14,x15,x16,x17,x18]] w fun e' w'=>e'=.returned (.tuple #[.agg v,Jj Jq e])∧Below w.heap.size w w':=by
 subst hv
 unfold depthS
 rw [he]
 unfold zcw at he
 by_cases h1:za7 H W C K S P C≠0
 ·rw [if_pos h1] at he
  rw [if_neg Zbg]
  exact dep_err H W C x0 x1 x2 x8 x11 x12 x13 x14 x15 x16 x17 x18 K S P O Z WA BA nW cW nB cB e he Zbg w
 ·have h0:za7 H W C K S P C=0:=by omega
  rw [if_neg h1] at he
  by_cases h2:(nW:Int)=C * K * K∧nW≤16384∧(nB:Int)=C
  ·rw [if_pos h2] at he
   subst he
   rw [if_pos rfl]
   exact dep_ok H W C x0 x1 x2 x8 x11 x12 x13 x14 x15 x16 x17 x18 K S P O Z WA BA nW cW nB cB h0 h2.1 h2.2.1 h2.2.2 w
  ·rw [if_neg h2] at he
   subst he
   rw [if_neg Zbc]
   by_cases h3:(nW:Int)=C * K * K
   ·by_cases h4:nW≤16384
    ·exact dep_w3 H W C x0 x1 x2 x8 x11 x12 x13 x14 x15 x16 x17 x18 K S P O Z WA BA nW cW nB cB h0 h3 h4 (fun h5=>h2 ⟨h3,h4,h5⟩) w
    ·exact dep_w2 H W C x0 x1 x2 x8 x11 x12 x13 x14 x15 x16 x17 x18 K S P O Z WA BA nW cW nB cB h0 h3 Zb3 w
   ·exact dep_w1 H W C x0 x1 x2 x8 x11 x12 x13 x14 x15 x16 x17 x18 K S P O Z WA BA nW cW nB cB h0 h3 w
theorem refDep_err (H W C:Int) (x0 x1 x2 x8 x11 x12 x13 x14 x15 x16 x17 x18:Value) (K S P O Z:Int) (WA BA:Option Addr) (nW cW nB cB:Nat) (e:Int) (he:za7 H W C K S P C=e) (hn:e≠0) (w:World) :
  Calls Tryz.prog 88 #[.agg #[Jj Jq H,Jj Jq W,Jj Jq C],.agg #[x0,x1,x2,Jj Jq K,Jj Jq S,Jj Jq P,Jj Jq O,.int .i8 Z,x8,.slice WA nW cW,.slice BA nB cB,x11,x12,x13,x14,x15,x16,x17,x18]] w fun e' w'=>e'=.returned (.tuple #[.agg #[Jj Jq 0,Jj Jq 0,Jj Jq 0],Jj Jq e])∧Below w.heap.size w w':=by
 have hS:za6 H W C K S P C=#[Jj Jq 0,Jj Jq 0,Jj Jq 0]:=by unfold za6;rw [he,if_neg hn]
 refine Za3 ?_;intro hnb hnc HE HS
 clear he hS
 go_enter Tryz.func88,Tryz.ntmps88
 go_wp2_with (go_at_call 66;(refine (zbl H W C K S P C e _ HE.out HS.out _).mono ?_);(rintro e' w1 ⟨rfl,hb⟩;obtain⟨hcc,hff⟩:=Kit.bcell hb;have hz:w.heap.size+3≤w1.heap.size:=Zbb;have hz2:w.heap.size+2 < w1.heap.size:=Zb3;have hz1:w.heap.size+1 < w1.heap.size:=Zb3;have hz0:w.heap.size < w1.heap.size:=Zb3;have HB:=hid hb;clear hb))
 exact Z1
theorem refDep_w1 (H W C:Int) (x0 x1 x2 x8 x11 x12 x13 x14 x15 x16 x17 x18:Value) (K S P O Z:Int) (WA BA:Option Addr) (nW cW nB cB:Nat) (he:za7 H W C K S P C=0) (hw:(nW:Int)≠C * K * K) (w:World) :
  Calls Tryz.prog 88 #[.agg #[Jj Jq H,Jj Jq W,Jj Jq C],.agg #[x0,x1,x2,Jj Jq K,Jj Jq S,Jj Jq P,Jj Jq O,.int .i8 Z,x8,.slice WA nW cW,.slice BA nB cB,x11,x12,x13,x14,x15,x16,x17,x18]] w fun e' w'=>e'=.returned (.tuple #[.agg #[Jj Jq 0,Jj Jq 0,Jj Jq 0],Jj Jq 9])∧Below w.heap.size w w':=by
 refine Z6u ?_;intro hs ha hb2 hr1 hr2 hr hS c1 c2 o1 o2 k1 k2 p1 p2 p5 p6
 generalize zad H K S P=m at hS ⊢
 generalize zad W K S P=m2 at hS ⊢
 obtain⟨q,hq⟩:∃ q,C * K * K=q:=⟨_,rfl⟩
 rw [hq] at p5 p6
 rw [hq] at hw
 refine Za8 ?_;intro hwb hwc
 exact Z3i
theorem refDep_w2 (H W C:Int) (x0 x1 x2 x8 x11 x12 x13 x14 x15 x16 x17 x18:Value) (K S P O Z:Int) (WA BA:Option Addr) (nW cW nB cB:Nat) (he:za7 H W C K S P C=0) (hw:(nW:Int)=C * K * K) (hw2:16384 < nW) (w:World) :
  Calls Tryz.prog 88 #[.agg #[Jj Jq H,Jj Jq W,Jj Jq C],.agg #[x0,x1,x2,Jj Jq K,Jj Jq S,Jj Jq P,Jj Jq O,.int .i8 Z,x8,.slice WA nW cW,.slice BA nB cB,x11,x12,x13,x14,x15,x16,x17,x18]] w fun e' w'=>e'=.returned (.tuple #[.agg #[Jj Jq 0,Jj Jq 0,Jj Jq 0],Jj Jq 9])∧Below w.heap.size w w':=by
 refine Z6u ?_;intro hs ha hb2 hr1 hr2 hr hS c1 c2 o1 o2 k1 k2 p1 p2 p5 p6
 generalize zad H K S P=m at hS ⊢
 generalize zad W K S P=m2 at hS ⊢
 obtain⟨q,hq⟩:∃ q,C * K * K=q:=⟨_,rfl⟩
 rw [hq] at p5 p6
 rw [hq] at hw
 subst hw
 have hw3:(16384:Int) < (nW:Int):=by omega
 exact Z3i
theorem refDep_w3 (H W C:Int) (x0 x1 x2 x8 x11 x12 x13 x14 x15 x16 x17 x18:Value) (K S P O Z:Int) (WA BA:Option Addr) (nW cW nB cB:Nat) (he:za7 H W C K S P C=0) (hw:(nW:Int)=C * K * K) (hw2:nW≤16384) (hb:(nB:Int)≠C) (w:World) :
  Calls Tryz.prog 88 #[.agg #[Jj Jq H,Jj Jq W,Jj Jq C],.agg #[x0,x1,x2,Jj Jq K,Jj Jq S,Jj Jq P,Jj Jq O,.int .i8 Z,x8,.slice WA nW cW,.slice BA nB cB,x11,x12,x13,x14,x15,x16,x17,x18]] w fun e' w'=>e'=.returned (.tuple #[.agg #[Jj Jq 0,Jj Jq 0,Jj Jq 0],Jj Jq 9])∧Below w.heap.size w w':=by
 refine Z6u ?_;intro hs ha hb2 hr1 hr2 hr hS c1 c2 o1 o2 k1 k2 p1 p2 p5 p6
 generalize zad H K S P=m at hS ⊢
 generalize zad W K S P=m2 at hS ⊢
 obtain⟨q,hq⟩:∃ q,C * K * K=q:=⟨_,rfl⟩
 rw [hq] at p5 p6
 rw [hq] at hw
 subst hw
 have hw3:(nW:Int)≤16384:=by omega
 have hbb:((nB:Int) != C)=true:=by simpa using hb
 have hbc:((nB:Int) == C)=false:=by simpa using hb
 exact Z3i
theorem refDep_ok (H W C:Int) (x0 x1 x2 x8 x11 x12 x13 x14 x15 x16 x17 x18:Value) (K S P O Z:Int) (WA BA:Option Addr) (nW cW nB cB:Nat) (he:za7 H W C K S P C=0) (hw:(nW:Int)=C * K * K) (hw2:nW≤16384) (hb:(nB:Int)=C) (w:World) :
  Calls Tryz.prog 88 #[.agg #[Jj Jq H,Jj Jq W,Jj Jq C],.agg #[x0,x1,x2,Jj Jq K,Jj Jq S,Jj Jq P,Jj Jq O,.int .i8 Z,x8,.slice WA nW cW,.slice BA nB cB,x11,x12,x13,x14,x15,x16,x17,x18]] w fun e' w'=>e'=.returned (.tuple #[.agg #[Jj Jq (zad H K S P),Jj Jq (zad W K S P),Jj Jq C],Jj Jq 0])∧Below w.heap.size w w':=by
 refine Z6u ?_;intro hs ha hb2 hr1 hr2 hr hS c1 c2 o1 o2 k1 k2 p1 p2 p5 p6
 generalize zad H K S P=m at hS ⊢
 generalize zad W K S P=m2 at hS ⊢
 obtain⟨q,hq⟩:∃ q,C * K * K=q:=⟨_,rfl⟩
 rw [hq] at p5 p6
 rw [hq] at hw
 subst hw
 have hw3:(nW:Int)≤16384:=by omega
 have hbb:((nB:Int) != C)=false:=by simpa using hb
 clear ha hb2 hr1 hr2 hr hs
 have HE:=hid he
 have HS:=hid hS
 clear he hS
 go_enter Tryz.func88,Tryz.ntmps88
 go_wp2_with (go_at_call 66;(refine (zbl H W C K S P C 0 _ HE.out HS.out _).mono ?_);(rintro e' w1 ⟨rfl,hb⟩;obtain⟨hcc,hff⟩:=Kit.bcell hb;have hz:w.heap.size+3≤w1.heap.size:=Zbb;have hz2:w.heap.size+2 < w1.heap.size:=Zb3;have hz1:w.heap.size+1 < w1.heap.size:=Zb3;have hz0:w.heap.size < w1.heap.size:=Zb3;have HB:=hid hb;clear hb))
 exact Z4v
theorem refDep_to (H W C:Int) (x0 x1 x2 x8 x11 x12 x13 x14 x15 x16 x17 x18:Value) (K S P O Z:Int) (WA BA:Option Addr) (nW cW nB cB:Nat) (e:Int) (v:Array Value) (he:zcw H W C K S P nW nB=e) (hv:depthS H W C K S P nW nB=v) (w:World) :
  Calls Tryz.prog 88 #[.agg #[Jj Jq H,Jj Jq W,Jj Jq C],.agg #[x0,x1,x2,Jj Jq K,Jj Jq S,Jj Jq P,Jj Jq O,.int .i8 Z,x8,.slice WA nW cW,.slice BA nB cB,x11,x12,x13,x14,x15,x16,x17,x18]] w fun e' w'=>e'=.returned (.tuple #[.agg v,Jj Jq e])∧Below w.heap.size w w':=by
 subst hv
 unfold depthS
 rw [he]
 unfold zcw at he
 by_cases h1:za7 H W C K S P C≠0
 ·rw [if_pos h1] at he
  rw [if_neg Zbg]
  exact refDep_err H W C x0 x1 x2 x8 x11 x12 x13 x14 x15 x16 x17 x18 K S P O Z WA BA nW cW nB cB e he Zbg w
 ·have h0:za7 H W C K S P C=0:=by omega
  rw [if_neg h1] at he
  by_cases h2:(nW:Int)=C * K * K∧nW≤16384∧(nB:Int)=C
  ·rw [if_pos h2] at he
   subst he
   rw [if_pos rfl]
   exact refDep_ok H W C x0 x1 x2 x8 x11 x12 x13 x14 x15 x16 x17 x18 K S P O Z WA BA nW cW nB cB h0 h2.1 h2.2.1 h2.2.2 w
  ·rw [if_neg h2] at he
   subst he
   rw [if_neg Zbc]
   by_cases h3:(nW:Int)=C * K * K
   ·by_cases h4:nW≤16384
    ·exact refDep_w3 H W C x0 x1 x2 x8 x11 x12 x13 x14 x15 x16 x17 x18 K S P O Z WA BA nW cW nB cB h0 h3 h4 (fun h5=>h2 ⟨h3,h4,h5⟩) w
    ·exact refDep_w2 H W C x0 x1 x2 x8 x11 x12 x13 x14 x15 x16 x17 x18 K S P O Z WA BA nW cW nB cB h0 h3 Zb3 w
   ·exact refDep_w1 H W C x0 x1 x2 x8 x11 x12 x13 x14 x15 x16 x17 x18 K S P O Z WA BA nW cW nB cB h0 h3 w
end CDepth
end
section
namespace CPool
open Plain CSat CShape CTensor CConv
def hereL (zs:List Int) (H W C top left:Int) (o i j:Nat):List Int :=
 if 0≤top+(i:Int)∧top+(i:Int) < H∧0≤left+(j:Int)∧left+(j:Int) < W then [zs.getD (((top+(i:Int)) * W+(left+(j:Int))) * C+(o:Int)).toNat 0] else []
def colL (zs:List Int) (H W C top left:Int) (o i:Nat):Nat→List Int
 | 0=>[]
 | j+1=>colL zs H W C top left o i j ++ hereL zs H W C top left o i j
def rowsL (zs:List Int) (H W C top left:Int) (kk o:Nat):Nat→List Int
 | 0=>[]
 | i+1=>rowsL zs H W C top left kk o i ++ colL zs H W C top left o i kk
def zcg (zs:List Int) (H W C top left:Int) (kk o:Nat):List Int:=rowsL zs H W C top left kk o kk
theorem hereL_len (zs:List Int) (H W C top left:Int) (o i j:Nat):(hereL zs H W C top left o i j).length≤1:=by unfold hereL;split <;> simp
theorem colL_len (zs:List Int) (H W C top left:Int) (o i:Nat):∀ j,(colL zs H W C top left o i j).length≤j
 | 0=>le_refl _
 | j+1=>by
   show (colL zs H W C top left o i j ++ hereL zs H W C top left o i j).length≤j+1
   rw [List.length_append]
   have:=colL_len zs H W C top left o i j
   have:=hereL_len zs H W C top left o i j
   omega
theorem rowsL_len (zs:List Int) (H W C top left:Int) (kk o:Nat):∀ i,(rowsL zs H W C top left kk o i).length≤i * kk
 | 0=>by simp [rowsL]
 | i+1=>by
   show (rowsL zs H W C top left kk o i ++ colL zs H W C top left o i kk).length≤(i+1) * kk
   rw [List.length_append,Nat.add_mul,Nat.one_mul]
   have:=rowsL_len zs H W C top left kk o i
   have:=colL_len zs H W C top left o i kk
   omega
theorem I8s_app (a b:List Int):I8s (a ++ b)=I8s a ++ I8s b:=by simp [I8s]
theorem info_i8p:(Tryz.prog.info? 22).map (fun i=>(i.zero,i.size,i.bytes))=some (some (.int .i8 0),1,1):=by kernel_rfl
def OwnedP (w:World) (T n:Nat) (xs:List Value) (e:Ending) (w':World):Prop :=
 ∃ v,e=.returned v∧w'.ownsRow w.heap.size T 1 v n xs∧Below w.heap.size w w'
theorem refWindow_to (H W C:Int) (A:Option Addr) (zs:List Int) (n c:Nat) (hn:zs.length=n) (ht:tensB H W C n=true) (x0 x1 x2 x8 x11 x12 x13 x14 x15 x16 x17 x18:Value) (K S P O Z:Int) (WA BA:Option Addr) (nW cW nB cB:Nat) (kk o d:Nat) (hd:C=(d:Int)) (hk:K=(kk:Int)) (hk7:kk≤7) (ho:o < d)
  (h v:Nat) (hh:h≤16) (hv:v≤16) (s1:1≤S) (s4:S≤4) (p0:0≤P) (p4:P≤4) (w:World) (hr:Kit.Rd w w.heap.size A (I8s zs)) (L:List Int) (hL:zcg zs H W C ((h:Int) * S - P) ((v:Int) * S - P) kk o=L) :
  Calls Tryz.prog 67 #[.agg #[Jj Jq H,Jj Jq W,Jj Jq C,.slice A n c],.agg #[x0,x1,x2,Jj Jq K,Jj Jq S,Jj Jq P,Jj Jq O,.int .i8 Z,x8,.slice WA nW cW,.slice BA nB cB,x11,x12,x13,x14,x15,x16,x17,x18],Jj Jq (h:Int),Jj Jq (v:Int),Jj Jq (o:Int)] w (OwnedP w 22 L.length (I8s L)):=by
 refine Zb2 ?_;intro hs
 obtain⟨g1,g2,g3,g4,g5,g6,g7⟩:=zac hs
 refine Z9l ?_;intro hs0 hhs vs0 hvs b1 b2
 rw [hhs,hvs] at hL
 obtain⟨b3,b4⟩:=b1
 obtain⟨b5,b6⟩:=b2
 have w1:IntKind.i64.wrap hs0=hs0:=IntWalk.i64_in _ Zb3
 have w2:IntKind.i64.wrap vs0=vs0:=IntWalk.i64_in _ Zb3
 have hK0:(kk:Int)≤7:=by omega
 have hoC:(o:Int) < C:=by omega
 obtain⟨top,htop⟩:∃ top,hs0 - P=top:=⟨_,rfl⟩
 obtain⟨left,hleft⟩:∃ left,vs0 - P=left:=⟨_,rfl⟩
 rw [htop,hleft] at hL
 have HT:=hid ht
 have HN:=hid hn
 have HR:=hid hr
 have HLL:=hid hL
 have HTP:=hid htop
 have HLF:=hid hleft
 obtain⟨i0,hi0,hi1,hi2,hi3⟩:=zbf info_i8p
 have HI:=hid (And.intro hi0 (And.intro hi1 (And.intro hi2 hi3)))
 subst hk
 clear ht hn hr hL hs g7 htop hleft hd hi0 hi1 hi2 hi3
 go_enter Tryz.func67,Tryz.ntmps67
 go_wp2_with fail
 have TB:=hid ((zav H W C A n c 32 w).below (B':=w.heap.size+1) Zb3 ((Below.refl _ _).alloc Zb7 (.cells #[x0,x1,x2,Jj Jq (kk:Int),Jj Jq S,Jj Jq P,Jj Jq O,.int .i8 Z,x8,.slice WA nW cW,.slice BA nB cB,x11,x12,x13,x14,x15,x16,x17,x18] 28)))
 have hnd:=zae.new x0 x1 x2 x8 x11 x12 x13 x14 x15 x16 x17 x18 (kk:Int) S P O Z WA BA nW cW nB cB 28 (w.alloc (.cells #[Jj Jq H,Jj Jq W,Jj Jq C,.slice A n c] 32))
 rw [World.size_alloc] at hnd
 have TN:=hid hnd
 have HB0:Hid (Below w.heap.size w ((w.alloc (.cells #[Jj Jq H,Jj Jq W,Jj Jq C,.slice A n c] 32)).alloc (.cells #[x0,x1,x2,Jj Jq (kk:Int),Jj Jq S,Jj Jq P,Jj Jq O,.int .i8 Z,x8,.slice WA nW cW,.slice BA nB cB,x11,x12,x13,x14,x15,x16,x17,x18] 28))):=hid (((Below.refl _ _).alloc (le_refl _) _).alloc Zb7 _)
 have zz:w.heap.size+2≤((w.alloc (.cells #[Jj Jq H,Jj Jq W,Jj Jq C,.slice A n c] 32)).alloc (.cells #[x0,x1,x2,Jj Jq (kk:Int),Jj Jq S,Jj Jq P,Jj Jq O,.int .i8 Z,x8,.slice WA nW cW,.slice BA nB cB,x11,x12,x13,x14,x15,x16,x17,x18] 28)).heap.size:=by simp
 clear hnd
 generalize (w.alloc (.cells #[Jj Jq H,Jj Jq W,Jj Jq C,.slice A n c] 32)).alloc (.cells #[x0,x1,x2,Jj Jq (kk:Int),Jj Jq S,Jj Jq P,Jj Jq O,.int .i8 Z,x8,.slice WA nW cW,.slice BA nB cB,x11,x12,x13,x14,x15,x16,x17,x18] 28)=Wm at TB TN HB0 zz ⊢
 go_loopw [11,12] (fun s u wr=>∃ i:Nat,i≤kk∧u=Jj Jq i∧Hid (wr.ownsRow (w.heap.size+2) 22 1 s (rowsL zs H W C top left kk o i).length (I8s (rowsL zs H W C top left kk o i)))∧Hid (BoxAt w.heap.size H W C A n c wr)∧Hid (zae (w.heap.size+1) x0 x1 x2 x8 x11 x12 x13 x14 x15 x16 x17 x18 (kk:Int) S P O Z WA BA nW cW nB cB wr)∧Hid (Below w.heap.size w wr)∧w.heap.size+2≤wr.heap.size) (fun _ u _=>kk - (intOf u).toNat)
 case atStart=>exact⟨0,Nat.zero_le _,rfl,hid ⟨by simp [I8s,rowsL],.inl ⟨rfl,rfl⟩⟩,TB,TN,HB0,zz⟩
 case round =>
  obtain⟨i,hi,rfl,OW,TB1,TN1,HB1,zz1⟩:=hrel
  clear TB TN HB0 zz
  have n3:=TN1.out.at 3 _ rfl
  by_cases hlt:i < kk
  ·have hiI:(i:Int) < (kk:Int):=by omega
   have ow0:=OW.out
   rw [show rowsL zs H W C top left kk o i=rowsL zs H W C top left kk o i ++ colL zs H W C top left o i 0 by simp [colL]] at ow0
   have OW0:=hid ow0
   have hrl:=rowsL_len zs H W C top left kk o i
   have hrl2:i * kk≤49:=Nat.le_trans (Nat.mul_le_mul (show i≤7 by omega) hk7) Zb3
   clear ow0
   go_wp2_with fail
   go_loopw [11,13] (fun s u wr=>∃ j:Nat,j≤kk∧u=Jj Jq j∧Hid (wr.ownsRow (w.heap.size+2) 22 1 s (rowsL zs H W C top left kk o i ++ colL zs H W C top left o i j).length (I8s (rowsL zs H W C top left kk o i ++ colL zs H W C top left o i j)))∧Hid (BoxAt w.heap.size H W C A n c wr)∧Hid (zae (w.heap.size+1) x0 x1 x2 x8 x11 x12 x13 x14 x15 x16 x17 x18 (kk:Int) S P O Z WA BA nW cW nB cB wr)∧Hid (Below w.heap.size w wr)∧w.heap.size+2≤wr.heap.size) (fun _ u _=>kk - (intOf u).toNat)
   case atStart=>exact⟨0,Nat.zero_le _,rfl,OW0,TB1,TN1,HB1,zz1⟩
   case round =>
    obtain⟨j,hj,rfl,OW1,TB2,TN2,HB2,zz2⟩:=hrel
    clear OW OW0 TB1 TN1 HB1 zz1 n3
    have n3:=TN2.out.at 3 _ rfl
    obtain⟨Av,cv,rfl, -, -, -⟩:=Kit.zaj OW1.out
    by_cases hltj:j < kk
    ·have hjI:(j:Int) < (kk:Int):=by omega
     have n4:=TN2.out.at 4 _ rfl
     have n5:=TN2.out.at 5 _ rfl
     have hcl:=colL_len zs H W C top left o i j
     refine Z7g ?_;intro yv hyv xv hxv e1 e2 e3 e4
     obtain⟨L1,hL1⟩:∃ L1,rowsL zs H W C top left kk o i ++ colL zs H W C top left o i j=L1:=⟨_,rfl⟩
     have hlen:L1.length≤56:=by rw [← hL1,List.length_append];omega
     have hnx:rowsL zs H W C top left kk o i ++ colL zs H W C top left o i (j+1)=L1 ++ hereL zs H W C top left o i j:=by
      rw [← hL1];show _ ++ (_ ++ _)=_;rw [List.append_assoc]
     rw [hL1] at OW1 ⊢
     have HNX:=hid hnx
     have HYV:=hid hyv
     have HXV:=hid hxv
     clear hyv hxv hnx hL1 hcl
     go_wp2_with fail
     go_quiet (fail)
     clear e1 e2 e3 e4 n4 n5
     have hbq:Below wr.heap.size wr (wr.drewN nq):=Kit.below_drewN (Below.refl _ _) nq
     replace TB2:Hid (BoxAt w.heap.size H W C A n c (wr.drewN nq)):=hid (TB2.out.below (B':=wr.heap.size) Zb3 hbq)
     replace TN2:Hid (zae (w.heap.size+1) x0 x1 x2 x8 x11 x12 x13 x14 x15 x16 x17 x18 (kk:Int) S P O Z WA BA nW cW nB cB (wr.drewN nq)):=hid (TN2.out.below (B':=wr.heap.size) Zb3 hbq)
     replace HB2:=hid (Kit.below_drewN HB2.out nq)
     replace OW1:=hid (Kit.own_below OW1.out hbq)
     replace zz2:w.heap.size+2≤(wr.drewN nq).heap.size:=zz2
     clear hbq
     generalize wr.drewN nq=Wq at TB2 TN2 HB2 OW1 zz2 ⊢
     obtain⟨tb0,tb1,tb2,tb3⟩:=TB2.out
     by_cases hin:0≤yv∧yv < H∧0≤xv∧xv < W
     ·obtain⟨i1,i2,i3,i4⟩:=hin
      have hhere:hereL zs H W C top left o i j=[zs.getD ((yv * W+xv) * C+(o:Int)).toNat 0]:=by
       unfold hereL
       rw [HYV.out,HXV.out,if_pos ⟨i1,i2,i3,i4⟩]
      obtain⟨x,hx⟩:∃ x,zs.getD ((yv * W+xv) * C+(o:Int)).toNat 0=x:=⟨_,rfl⟩
      rw [hx] at hhere
      have HHE:=hid hhere
      have HXX:=hid hx
      have ho0:(0:Int)≤(o:Int):=by omega
      clear hx hhere
      go_wp2_with (first
       | (go_at_call 111;refine (CPad.get_to H W C A zs n c HN.out HT.out yv xv (o:Int) i1 i2 i3 i4 ho0 hoC x HXX.out (B:=w.heap.size) _ HB2.out.size (HR.out.below HB2.out)).mono ?_;rintro e Wb ⟨rfl,hb1⟩;replace TB2:=hid (TB2.out.below (B':=Wq.heap.size) Zb3 hb1);replace TN2:=hid (TN2.out.below (B':=Wq.heap.size) Zb3 hb1);replace HB2:=hid (HB2.out.trans (hb1.mono HB2.out.size));replace OW1:=hid (Kit.own_below OW1.out hb1);replace zz2:=Nat.le_trans zz2 hb1.size;clear hb1 tb0 tb1 tb2 tb3)
       | (at_builtin;refine Kit.zbb _ rfl (.tmp 66) (.tmp 72) _ rfl (w.heap.size+2) 22 i0 (.int .i8 0) 1 1 Tryz.underlying23 HI.out.1 HI.out.2.1 HI.out.2.2.1 HI.out.2.2.2 rfl Zbc _ L1.length (I8s L1) rfl (Kit.own_below OW1.out ((Below.refl _ _).alloc (le_refl _) _)) _ _ 1 1 [.int .i8 x] rfl rfl (Kit.Rd.new _ _ _ (lt_succ_self _)) ?_ ?_ ?_ ?_ ?_;(exact Kit.za5 .i8 [x]);(unfold maxLen;omega);(omega);(simp;omega);intro v2 w5 hown2 hg2 hat2))
      have hal:Below (w.heap.size+2) Wb (Wb.alloc (.cells #[.int .i8 x] 22)):=(Below.refl _ _).alloc zz2 _
      have hB5:Below (w.heap.size+2) Wb w5:=hal.grown hg2 Zba (fun q hq=>Kit.zaq OW1.out q hq)
      have e5:I8s L1 ++ [.int .i8 x]=I8s (rowsL zs H W C top left kk o i ++ colL zs H W C top left o i (j+1)):=by rw [HNX.out,HHE.out,I8s_app];rfl
      have e6:L1.length+1=(rowsL zs H W C top left kk o i ++ colL zs H W C top left o i (j+1)).length:=by rw [HNX.out,HHE.out,List.length_append];rfl
      rw [e5,e6] at hown2
      have HO5:=hid hown2
      replace TB2:=hid (TB2.out.below (B':=w.heap.size+2) Zb3 hB5)
      replace TN2:=hid (TN2.out.below (B':=w.heap.size+2) Zb3 hB5)
      replace HB2:=hid (HB2.out.trans (hB5.mono Zb3))
      replace zz2:=Nat.le_trans zz2 hB5.size
      clear hown2 hg2 hat2 hB5 hal e5 e6
      go_roundw
      case rel=>exact⟨j+1,by omega,by go_num,HO5,TB2,TN2,HB2,zz2⟩
      case measure=>simp [intOf];omega
     ·have hhere:hereL zs H W C top left o i j=[]:=by
       unfold hereL
       rw [HYV.out,HXV.out,if_neg hin]
      have OW2:Hid (Wq.ownsRow (w.heap.size+2) 22 1 (.slice Av L1.length cv) (rowsL zs H W C top left kk o i ++ colL zs H W C top left o i (j+1)).length (I8s (rowsL zs H W C top left kk o i ++ colL zs H W C top left o i (j+1)))):=hid (by rw [HNX.out,hhere,List.append_nil];exact OW1.out)
      clear hhere
      rcases (show yv < 0∨(0≤yv∧H≤yv)∨(0≤yv∧yv < H∧xv < 0)∨(0≤yv∧yv < H∧0≤xv∧W≤xv) by omega) with i1 | ⟨i1,i2⟩ | ⟨i1,i2,i3⟩ | ⟨i1,i2,i3,i4⟩
      all_goals
       clear hin
       go_wp2_with fail
       go_roundw
       case rel=>exact⟨j+1,by omega,by go_num,OW2,TB2,TN2,HB2,zz2⟩
       case measure=>simp [intOf];omega
    ·obtain rfl:j=kk:=by omega
     go_wp2_with fail
     go_roundw
     case rel=>exact⟨i+1,by omega,by go_num,OW1,TB2,TN2,HB2,zz2⟩
     case measure=>simp [intOf];omega
  ·obtain rfl:i=kk:=by omega
   have hfin:=OW.out
   rw [show rowsL zs H W C top left i o i=L from HLL.out] at hfin
   have HFI:=hid hfin
   clear hfin
   obtain⟨Av,cv,e9, -, -, -⟩:=Kit.zaj HFI.out
   subst e9
   go_wp2_with fail
   go_ret
   exact⟨_,rfl,Kit.zah HFI.out Zb3,HB1.out⟩
def MadeP (w:World) (H W C:Int) (n:Nat) (zs:List Int) (x:Value) (e:Ending) (w':World):Prop :=
 ∃ v,e=.returned (.tuple #[.agg #[Jj Jq H,Jj Jq W,Jj Jq C,v],x])∧w'.ownsRow w.heap.size 22 1 v n (I8s zs)∧Below w.heap.size w w'
theorem refPool_bad (H W C:Int) (A:Option Addr) (n c:Nat) (x0 x1 x2 x8 x11 x12 x13 x14 x15 x16 x17 x18:Value) (K S P O Z:Int) (WA BA:Option Addr) (nW cW nB cB:Nat) (m:Bool) (ht:tensB H W C n=false) (w:World) :
  Calls Tryz.prog 23 #[.agg #[Jj Jq H,Jj Jq W,Jj Jq C,.slice A n c],.agg #[x0,x1,x2,Jj Jq K,Jj Jq S,Jj Jq P,Jj Jq O,.int .i8 Z,x8,.slice WA nW cW,.slice BA nB cB,x11,x12,x13,x14,x15,x16,x17,x18],.bool m] w (MadeP w 0 0 0 0 [] (Jj Jq 5)):=by
 have HT:=hid ht
 clear ht
 go_enter Tryz.func23,Tryz.ntmps23
 go_wp2_with (go_at_call 22;(refine (zal H W C A n c false HT.out _).mono ?_);(rintro e w1 ⟨rfl,hb⟩;obtain⟨hcc,hff⟩:=Kit.bcell hb;have hz:w.heap.size+3≤w1.heap.size:=Zbb;have hz2:w.heap.size+2 < w1.heap.size:=Zb3;have HB:=hid hb;clear hb))
 exact Z4p
theorem refPool_err (H W C:Int) (A:Option Addr) (n c:Nat) (x0 x1 x2 x8 x11 x12 x13 x14 x15 x16 x17 x18:Value) (K S P O Z:Int) (WA BA:Option Addr) (nW cW nB cB:Nat) (m:Bool) (ht:tensB H W C n=true) (er:Int) (he:za7 H W C K S P C=er) (h0:er≠0) (w:World) :
  Calls Tryz.prog 23 #[.agg #[Jj Jq H,Jj Jq W,Jj Jq C,.slice A n c],.agg #[x0,x1,x2,Jj Jq K,Jj Jq S,Jj Jq P,Jj Jq O,.int .i8 Z,x8,.slice WA nW cW,.slice BA nB cB,x11,x12,x13,x14,x15,x16,x17,x18],.bool m] w (MadeP w 0 0 0 0 [] (Jj Jq er)):=by
 have hS:za6 H W C K S P C=#[Jj Jq 0,Jj Jq 0,Jj Jq 0]:=by unfold za6;rw [he,if_neg h0]
 refine Z7j ?_;intro HT HE HS h0b h0c
 clear ht he hS
 go_enter Tryz.func23,Tryz.ntmps23
 go_wp2_with (first
  | (go_at_call 22
     refine Z7a ?_;intro hal
     refine (zal H W C A n c true HT.out _).mono ?_
     rintro e w1 ⟨rfl,hb⟩
     refine Z5x ?_;intro hh TB yTB TN yTN
     refine Z84 ?_;intro qFR
     refine Z6c ?_;intro FR yFR
     clear qFR
     refine Z71 ?_;intro HBW
     have n3:=TN.out.at 3 _ rfl;have n4:=TN.out.at 4 _ rfl;have n5:=TN.out.at 5 _ rfl
     obtain⟨tbp0,tbp1,tbp2,tbp3⟩:=TB.out
     clear hb hh hal)
  | (go_at_call 66
     refine Z72 ?_;intro hal
     refine (zbl H W C K S P C er _ HE.out HS.out _).mono ?_
     rintro e w2 ⟨rfl,hb⟩
     refine Z6r ?_;intro hh
     refine Z60 ?_;try clear TB yTB TN yTN FR yFR;intro TB yTB TN yTN FR yFR
     refine Z74 ?_;try clear HBW;intro HBW
     clear tbp0 tbp1 tbp2 tbp3
     obtain⟨⟨z0,z1,z2,z3⟩,z4,z5,z6,z7⟩:=FR.out
     obtain⟨tbp0,tbp1,tbp2,tbp3⟩:=TB.out
     clear hb hh hal))
 exact Z4j
end CPool
end
section
namespace CPad
open Plain CSat CShape CTensor
theorem refMay_to (H W C:Int) (A:Option Addr) (n c:Nat) (p:Int) (r:Int) (hr:(if tensB H W C n=true then (if p < 0∨4 < p then 2 else 0) else 5)=r) (w:World) :
  Calls Tryz.prog 26 #[.agg #[Jj Jq H,Jj Jq W,Jj Jq C,.slice A n c],Jj Jq p] w fun e w'=>e=.returned (Jj Jq r)∧Below w.heap.size w w':=by
 cases ht:tensB H W C n
 ·rw [ht] at hr
  simp at hr
  subst hr
  have HT:=hid ht
  clear ht
  go_enter Tryz.func26,Tryz.ntmps26
  go_wp2_with (go_at_call 22;(refine (zal H W C A n c false HT.out _).mono ?_);rintro e w1 ⟨rfl,hb⟩;(have HB:=hid (((Below.refl w.heap.size w).alloc (le_refl _) _).trans (hb.mono Zb7)));clear hb)
  go_ret
  exact⟨rfl,HB.out⟩
 ·rw [ht,if_pos rfl] at hr
  have HT:=hid ht
  clear ht
  rcases (show p < 0∨(0≤p∧4 < p)∨(0≤p∧p≤4) by omega) with h | ⟨h,h2⟩ | ⟨h,h2⟩
  ·rw [if_pos (Or.inl h)] at hr
   exact Z1c
  ·rw [if_pos (Or.inr h2)] at hr
   exact Z1c
  ·rw [if_neg Zb3] at hr
   exact Z1c
theorem tens_bd {H W C:Int} {n:Nat} (ht:tensB H W C n=true):1≤H∧H≤16∧1≤W∧W≤16:=by
 exact Z2w
theorem refResize_no (H W C:Int) (A:Option Addr) (n c:Nat) (ht:tensB H W C n=true) (p z:Int) (p1 : -4≤p) (p2:p≤4) (hs:zam (H+2 * p) (W+2 * p) C=false) (w:World) :
  Calls Tryz.prog 27 #[.agg #[Jj Jq H,Jj Jq W,Jj Jq C,.slice A n c],Jj Jq p,.int .i8 z] w fun e w'=>e=.returned (.tuple #[.agg #[Jj Jq 0,Jj Jq 0,Jj Jq 0,.slice none 0 0],Jj Jq 5])∧Below w.heap.size w w':=by
 obtain⟨h1,h2,h3,h4⟩:=tens_bd ht
 have HE:=hid (zb6 hs)
 clear ht hs
 go_enter Tryz.func27,Tryz.ntmps27
 go_wp2_with (go_at_call 65;(refine (zas (H+2 * p) (W+2 * p) C 0 HE.out _).mono ?_);rintro e w1 ⟨rfl,hb⟩;(have HB:=hid (Below.trans ((((Below.refl w.heap.size w).alloc (le_refl _) _).alloc Zb7 _).alloc Zba _) (hb.mono Zba)));(have hz1:w.heap.size+3≤w1.heap.size:=by have:=hb.size;simp at this;omega);obtain⟨hc1,hf1⟩:=Kit.bcell hb;clear hb)
 refine bodyPost_ret (Kit.zaa rfl _ _ (w.heap.size+1) 0 [Jj Jq 0,Jj Jq 0,Jj Jq 0,.slice none 0 0] _ rfl (zao Zb6 Zb6 Zb6 Zb6) Tryz.underlying32 rfl Zb5) rfl ?_
 exact⟨rfl,(((HB.out.setCell (p:=⟨w.heap.size+1,0,none⟩) Zb7 _).setCell (p:=⟨w.heap.size+1,1,none⟩) Zb7 _).setCell (p:=⟨w.heap.size+1,2,none⟩) Zb7 _).setCell (p:=⟨w.heap.size+1,3,none⟩) Zb7 _⟩
theorem refResize_yes (H W C:Int) (A:Option Addr) (zs:List Int) (n c:Nat) (hn:zs.length=n) (ht:tensB H W C n=true) (p z:Int) (p1 : -4≤p) (p2:p≤4) (hs:zam (H+2 * p) (W+2 * p) C=true)
  (a b d:Nat) (hU:H+2 * p=(a:Int)) (hV:W+2 * p=(b:Int)) (hC:C=(d:Int)) (m:Nat) (hm:a * b * d=m) (F:Nat→Int) (hF:∀ i j k:Nat,i < a→j < b→k < d→pixZ zs H W C ((i:Int) - p) ((j:Int) - p) (k:Int) z=F ((i * b+j) * d+k))
  {B:Nat} (w:World) (hB:B≤w.heap.size) (hr:Kit.Rd w B A (I8s zs)) :
  Calls Tryz.prog 27 #[.agg #[Jj Jq H,Jj Jq W,Jj Jq C,.slice A n c],Jj Jq p,.int .i8 z] w (Made w (H+2 * p) (W+2 * p) C m (rowL F m) (Jj Jq 0)):=by
 obtain⟨h1,h2,h3,h4⟩:=tens_bd ht
 obtain⟨s1,s2,s3,s4,s5,s6,s7⟩:=zac hs
 have hmI:(H+2 * p) * (W+2 * p) * C=(m:Int):=by rw [hU,hV,hC, ← hm];simp
 have hm2:m≤1024:=by omega
 have hm1:(m:Int)≠0:=by
  have:=(zcs s1 s2 s3 s4 s5 s6).1
  omega
 have hm3:((m:Int) == 0)=false:=by simpa using hm1
 have ha:a≤16:=by omega
 have hb0:b≤16:=by omega
 have hd:d≤1024:=by omega
 have HE:=hid (show zaz (H+2 * p) (W+2 * p) C=(m:Int) by rw [zay hs];exact hmI)
 have HN:=hid hn
 have HT:=hid ht
 have HU:=hid hU
 have HV:=hid hV
 have HC:=hid hC
 have HM:=hid hm
 have HF:=hid hF
 have HR:=hid hr
 clear hn ht hU hV hC hm hF hr hs hmI s1 s2 s3 s4 s5 s6 s7 hm1
 go_enter Tryz.func27,Tryz.ntmps27
 go_wp2_with (first
  | (go_at_call 65;(refine (zas (H+2 * p) (W+2 * p) C m HE.out _).mono ?_);rintro e w1 ⟨rfl,hb⟩;(have HB:=hid (Below.trans ((((Below.refl w.heap.size w).alloc (le_refl _) _).alloc Zb7 _).alloc Zba _) (hb.mono Zba)));(have hz1:w.heap.size+3≤w1.heap.size:=by have:=hb.size;simp at this;omega);(have hq1:w.heap.size+1 < w1.heap.size:=by omega);obtain⟨hc1,hf1⟩:=Kit.bcell hb;clear hb)
  | (go_at_call 72;(refine (refMove_to (H+2 * p) (W+2 * p) H W C A zs n c HN.out HT.out a b d HU.out HV.out HC.out ha hb0 hd m HM.out hm2 p p z Zb3 Zb3 Zb3 Zb3 F HF.out (B:=B) _ Zb3 (HR.out.below (HB.out.mono hB))).mono ?_);rintro e w2 ⟨v2,rfl,ho2,hb2⟩;obtain⟨A2,c2,rfl, -, -, -⟩:=Kit.zaj ho2;(have HO:=hid (Kit.zah ho2 (show w.heap.size+3≤w1.heap.size by omega)));(have HB2:=hid (HB.out.trans (hb2.mono Zb3)));(have hz2:w.heap.size+3≤w2.heap.size:=Nat.le_trans hz1 hb2.size);obtain⟨hc2,hf2⟩:=Kit.bcell hb2;clear hb2 ho2))
 refine bodyPost_ret (Kit.zaa rfl _ _ (w.heap.size+1) 0 [Jj Jq (H+2 * p),Jj Jq (W+2 * p),Jj Jq C,.slice A2 m c2] _ rfl (zao Zb6 Zb6 Zb6 Zb6) Tryz.underlying32 rfl Zb5) rfl ?_
 refine⟨_,rfl,Kit.zah (zat (zat (zat (zat HO.out _ _ ?_) _ _ ?_) _ _ ?_) _ _ ?_) ?_,?_⟩
 any_goals (first | omega | (simp;done) | (simp;omega))
 exact (((HB2.out.setCell (p:=⟨w.heap.size+1,0,none⟩) Zb7 _).setCell (p:=⟨w.heap.size+1,1,none⟩) Zb7 _).setCell (p:=⟨w.heap.size+1,2,none⟩) Zb7 _).setCell (p:=⟨w.heap.size+1,3,none⟩) Zb7 _
end CPad
end
end Go.Proofs.YtchpdhhpkljdhaaGreatDoor
