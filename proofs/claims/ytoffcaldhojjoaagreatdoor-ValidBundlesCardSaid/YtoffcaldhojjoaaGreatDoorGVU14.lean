/- -/
import Derived.Test.YtoffcaldhojjoaaGreatDoorGVU11
open Go.Lib (hid)
open Nat (le_refl lt_of_succ_lt lt_succ_self)
set_option linter.unusedVariables false
set_option linter.unusedSimpArgs false
set_option maxRecDepth 100000
set_option maxHeartbeats 16000000
namespace Go.Proofs.YtoffcaldhojjoaaGreatDoor
namespace CConv
end CConv
namespace CSat
end CSat
namespace CTensor
end CTensor
open Go Go.ChangeShapes Go.WideShapes Go.ChangeAt Go.RowKit
section
namespace CDepth
open Plain CSat CShape CTensor CConv
def depthE (H W C K S P:Int) (nW nB:Nat):Int :=
 if za1 H W C K S P C≠0 then za1 H W C K S P C else if (nW:Int)=C * K * K∧nW≤16384∧(nB:Int)=C then 0 else 9
def depthS (H W C K S P:Int) (nW nB:Nat):Array Value :=
 if depthE H W C K S P nW nB=0 then #[.int .i64 (zak H K S P),.int .i64 (zak W K S P),.int .i64 C] else #[.int .i64 0,.int .i64 0,.int .i64 0]
theorem dep_err (H W C:Int) (x0 x1 x2 x8 x11 x12 x13 x14 x15 x16 x17 x18:Value) (K S P O Z:Int) (WA BA:Option Addr) (nW cW nB cB:Nat) (e:Int) (he:za1 H W C K S P C=e) (hn:e≠0) (w:World) :
  Calls Tryz.prog 76 #[.agg #[.int .i64 H,.int .i64 W,.int .i64 C],.agg #[x0,x1,x2,.int .i64 K,.int .i64 S,.int .i64 P,.int .i64 O,.int .i8 Z,x8,.slice WA nW cW,.slice BA nB cB,x11,x12,x13,x14,x15,x16,x17,x18]] w fun e' w'=>e'=.returned (.tuple #[.agg #[.int .i64 0,.int .i64 0,.int .i64 0],.int .i64 e])∧Below w.heap.size w w':=by
 have hS:zaw H W C K S P C=#[.int .i64 0,.int .i64 0,.int .i64 0]:=by unfold zaw;rw [he,if_neg hn]
 have hnb:(e != 0)=true:=by simpa using hn
 have hnc:(e == 0)=false:=by simpa using hn
 have HE:=hid he
 have HS:=hid hS
 clear he hS
 go_enter Tryz.func76,Tryz.ntmps76
 go_wp2_with (go_at_call 77;(refine (zbv H W C K S P C e _ HE.out HS.out _).mono ?_);(rintro e' w1 ⟨rfl,hb⟩;obtain⟨hcc,hff⟩:=Kit.bcell hb;have hz:w.heap.size+3≤w1.heap.size:=(by have:=hb.size;simp at this;omega);have hz2:w.heap.size+2 < w1.heap.size:=(by omega);have hz1:w.heap.size+1 < w1.heap.size:=(by omega);have hz0:w.heap.size < w1.heap.size:=(by omega);have HB:=hid hb;clear hb))
 refine bodyPost_ret (Kit.zaa rfl _ _ (w.heap.size+2) 0 [.int .i64 0,.int .i64 0,.int .i64 0] _ rfl (Kit.zaj (by go_cell) (by go_cell) (by go_cell)) Tryz.underlying23 rfl (by kernel_rfl)) rfl ?_
 have hB1:Below w.heap.size w w1:=Below.trans ((((Below.refl _ _).alloc (le_refl _) _).alloc (by simp) _).alloc (by simp;omega) _) (HB.out.mono (by first | omega | (simp;done) | (simp;omega)))
 exact⟨rfl,by exact (((hB1.setCell (p:=⟨w.heap.size+2,0,none⟩) (by simp) _).setCell (p:=⟨w.heap.size+2,1,none⟩) (by simp) _).setCell (p:=⟨w.heap.size+2,2,none⟩) (by simp) _).alloc (by simp;omega) _⟩
theorem dep_w1 (H W C:Int) (x0 x1 x2 x8 x11 x12 x13 x14 x15 x16 x17 x18:Value) (K S P O Z:Int) (WA BA:Option Addr) (nW cW nB cB:Nat) (he:za1 H W C K S P C=0) (hw:(nW:Int)≠C * K * K) (w:World) :
  Calls Tryz.prog 76 #[.agg #[.int .i64 H,.int .i64 W,.int .i64 C],.agg #[x0,x1,x2,.int .i64 K,.int .i64 S,.int .i64 P,.int .i64 O,.int .i8 Z,x8,.slice WA nW cW,.slice BA nB cB,x11,x12,x13,x14,x15,x16,x17,x18]] w fun e' w'=>e'=.returned (.tuple #[.agg #[.int .i64 0,.int .i64 0,.int .i64 0],.int .i64 9])∧Below w.heap.size w w':=by
 obtain⟨hs,ha,hb2,hr1,hr2,hr⟩:=zbf he
 have hS:zaw H W C K S P C=#[.int .i64 (zak H K S P),.int .i64 (zak W K S P),.int .i64 C]:=by unfold zaw;rw [he,if_pos rfl]
 obtain⟨-, -, -, -,c1,c2, -⟩:=zah hs
 obtain⟨-, -, -, -,o1,o2, -⟩:=zah hr
 obtain⟨-, -,k1,k2, -⟩:=za7 ha
 obtain⟨p1,p2,p5,p6, -, -⟩:=za6 c1 c2 k1 (by omega) o1 o2
 generalize zak H K S P=m at hS ⊢
 generalize zak W K S P=m2 at hS ⊢
 obtain⟨q,hq⟩:∃ q,C * K * K=q:=⟨_,rfl⟩
 rw [hq] at p5 p6
 rw [hq] at hw
 have hwb:((nW:Int) != q)=true:=by simpa using hw
 have hwc:((nW:Int) == q)=false:=by simpa using hw
 clear ha hb2 hr1 hr2 hr hs
 have HE:=hid he
 have HS:=hid hS
 clear he hS
 go_enter Tryz.func76,Tryz.ntmps76
 go_wp2_with (go_at_call 77;(refine (zbv H W C K S P C 0 _ HE.out HS.out _).mono ?_);(rintro e' w1 ⟨rfl,hb⟩;obtain⟨hcc,hff⟩:=Kit.bcell hb;have hz:w.heap.size+3≤w1.heap.size:=(by have:=hb.size;simp at this;omega);have hz2:w.heap.size+2 < w1.heap.size:=(by omega);have hz1:w.heap.size+1 < w1.heap.size:=(by omega);have hz0:w.heap.size < w1.heap.size:=(by omega);have HB:=hid hb;clear hb))
 refine bodyPost_ret (Kit.zaa rfl _ _ (w.heap.size+2) 0 [.int .i64 0,.int .i64 0,.int .i64 0] _ rfl (Kit.zaj (by go_cell) (by go_cell) (by go_cell)) Tryz.underlying23 rfl (by kernel_rfl)) rfl ?_
 have hB1:Below w.heap.size w w1:=Below.trans ((((Below.refl _ _).alloc (le_refl _) _).alloc (by simp) _).alloc (by simp;omega) _) (HB.out.mono (by first | omega | (simp;done) | (simp;omega)))
 exact⟨rfl,by exact (((hB1.setCell (p:=⟨w.heap.size+2,0,none⟩) (by simp) _).setCell (p:=⟨w.heap.size+2,1,none⟩) (by simp) _).setCell (p:=⟨w.heap.size+2,2,none⟩) (by simp) _).alloc (by simp;omega) _⟩
theorem dep_w2 (H W C:Int) (x0 x1 x2 x8 x11 x12 x13 x14 x15 x16 x17 x18:Value) (K S P O Z:Int) (WA BA:Option Addr) (nW cW nB cB:Nat) (he:za1 H W C K S P C=0) (hw:(nW:Int)=C * K * K) (hw2:16384 < nW) (w:World) :
  Calls Tryz.prog 76 #[.agg #[.int .i64 H,.int .i64 W,.int .i64 C],.agg #[x0,x1,x2,.int .i64 K,.int .i64 S,.int .i64 P,.int .i64 O,.int .i8 Z,x8,.slice WA nW cW,.slice BA nB cB,x11,x12,x13,x14,x15,x16,x17,x18]] w fun e' w'=>e'=.returned (.tuple #[.agg #[.int .i64 0,.int .i64 0,.int .i64 0],.int .i64 9])∧Below w.heap.size w w':=by
 obtain⟨hs,ha,hb2,hr1,hr2,hr⟩:=zbf he
 have hS:zaw H W C K S P C=#[.int .i64 (zak H K S P),.int .i64 (zak W K S P),.int .i64 C]:=by unfold zaw;rw [he,if_pos rfl]
 obtain⟨-, -, -, -,c1,c2, -⟩:=zah hs
 obtain⟨-, -, -, -,o1,o2, -⟩:=zah hr
 obtain⟨-, -,k1,k2, -⟩:=za7 ha
 obtain⟨p1,p2,p5,p6, -, -⟩:=za6 c1 c2 k1 (by omega) o1 o2
 generalize zak H K S P=m at hS ⊢
 generalize zak W K S P=m2 at hS ⊢
 obtain⟨q,hq⟩:∃ q,C * K * K=q:=⟨_,rfl⟩
 rw [hq] at p5 p6
 rw [hq] at hw
 subst hw
 have hw3:(16384:Int) < (nW:Int):=by omega
 clear ha hb2 hr1 hr2 hr hs
 have HE:=hid he
 have HS:=hid hS
 clear he hS
 go_enter Tryz.func76,Tryz.ntmps76
 go_wp2_with (go_at_call 77;(refine (zbv H W C K S P C 0 _ HE.out HS.out _).mono ?_);(rintro e' w1 ⟨rfl,hb⟩;obtain⟨hcc,hff⟩:=Kit.bcell hb;have hz:w.heap.size+3≤w1.heap.size:=(by have:=hb.size;simp at this;omega);have hz2:w.heap.size+2 < w1.heap.size:=(by omega);have hz1:w.heap.size+1 < w1.heap.size:=(by omega);have hz0:w.heap.size < w1.heap.size:=(by omega);have HB:=hid hb;clear hb))
 refine bodyPost_ret (Kit.zaa rfl _ _ (w.heap.size+2) 0 [.int .i64 0,.int .i64 0,.int .i64 0] _ rfl (Kit.zaj (by go_cell) (by go_cell) (by go_cell)) Tryz.underlying23 rfl (by kernel_rfl)) rfl ?_
 have hB1:Below w.heap.size w w1:=Below.trans ((((Below.refl _ _).alloc (le_refl _) _).alloc (by simp) _).alloc (by simp;omega) _) (HB.out.mono (by first | omega | (simp;done) | (simp;omega)))
 exact⟨rfl,by exact (((hB1.setCell (p:=⟨w.heap.size+2,0,none⟩) (by simp) _).setCell (p:=⟨w.heap.size+2,1,none⟩) (by simp) _).setCell (p:=⟨w.heap.size+2,2,none⟩) (by simp) _).alloc (by simp;omega) _⟩
theorem dep_w3 (H W C:Int) (x0 x1 x2 x8 x11 x12 x13 x14 x15 x16 x17 x18:Value) (K S P O Z:Int) (WA BA:Option Addr) (nW cW nB cB:Nat) (he:za1 H W C K S P C=0) (hw:(nW:Int)=C * K * K) (hw2:nW≤16384) (hb:(nB:Int)≠C) (w:World) :
  Calls Tryz.prog 76 #[.agg #[.int .i64 H,.int .i64 W,.int .i64 C],.agg #[x0,x1,x2,.int .i64 K,.int .i64 S,.int .i64 P,.int .i64 O,.int .i8 Z,x8,.slice WA nW cW,.slice BA nB cB,x11,x12,x13,x14,x15,x16,x17,x18]] w fun e' w'=>e'=.returned (.tuple #[.agg #[.int .i64 0,.int .i64 0,.int .i64 0],.int .i64 9])∧Below w.heap.size w w':=by
 obtain⟨hs,ha,hb2,hr1,hr2,hr⟩:=zbf he
 have hS:zaw H W C K S P C=#[.int .i64 (zak H K S P),.int .i64 (zak W K S P),.int .i64 C]:=by unfold zaw;rw [he,if_pos rfl]
 obtain⟨-, -, -, -,c1,c2, -⟩:=zah hs
 obtain⟨-, -, -, -,o1,o2, -⟩:=zah hr
 obtain⟨-, -,k1,k2, -⟩:=za7 ha
 obtain⟨p1,p2,p5,p6, -, -⟩:=za6 c1 c2 k1 (by omega) o1 o2
 generalize zak H K S P=m at hS ⊢
 generalize zak W K S P=m2 at hS ⊢
 obtain⟨q,hq⟩:∃ q,C * K * K=q:=⟨_,rfl⟩
 rw [hq] at p5 p6
 rw [hq] at hw
 subst hw
 have hw3:(nW:Int)≤16384:=by omega
 have hbb:((nB:Int) != C)=true:=by simpa using hb
 have hbc:((nB:Int) == C)=false:=by simpa using hb
 clear ha hb2 hr1 hr2 hr hs
 have HE:=hid he
 have HS:=hid hS
 clear he hS
 go_enter Tryz.func76,Tryz.ntmps76
 go_wp2_with (go_at_call 77;(refine (zbv H W C K S P C 0 _ HE.out HS.out _).mono ?_);(rintro e' w1 ⟨rfl,hb⟩;obtain⟨hcc,hff⟩:=Kit.bcell hb;have hz:w.heap.size+3≤w1.heap.size:=(by have:=hb.size;simp at this;omega);have hz2:w.heap.size+2 < w1.heap.size:=(by omega);have hz1:w.heap.size+1 < w1.heap.size:=(by omega);have hz0:w.heap.size < w1.heap.size:=(by omega);have HB:=hid hb;clear hb))
 refine bodyPost_ret (Kit.zaa rfl _ _ (w.heap.size+2) 0 [.int .i64 0,.int .i64 0,.int .i64 0] _ rfl (Kit.zaj (by go_cell) (by go_cell) (by go_cell)) Tryz.underlying23 rfl (by kernel_rfl)) rfl ?_
 have hB1:Below w.heap.size w w1:=Below.trans ((((Below.refl _ _).alloc (le_refl _) _).alloc (by simp) _).alloc (by simp;omega) _) (HB.out.mono (by first | omega | (simp;done) | (simp;omega)))
 exact⟨rfl,by exact (((hB1.setCell (p:=⟨w.heap.size+2,0,none⟩) (by simp) _).setCell (p:=⟨w.heap.size+2,1,none⟩) (by simp) _).setCell (p:=⟨w.heap.size+2,2,none⟩) (by simp) _).alloc (by simp;omega) _⟩
theorem dep_ok (H W C:Int) (x0 x1 x2 x8 x11 x12 x13 x14 x15 x16 x17 x18:Value) (K S P O Z:Int) (WA BA:Option Addr) (nW cW nB cB:Nat) (he:za1 H W C K S P C=0) (hw:(nW:Int)=C * K * K) (hw2:nW≤16384) (hb:(nB:Int)=C) (w:World) :
  Calls Tryz.prog 76 #[.agg #[.int .i64 H,.int .i64 W,.int .i64 C],.agg #[x0,x1,x2,.int .i64 K,.int .i64 S,.int .i64 P,.int .i64 O,.int .i8 Z,x8,.slice WA nW cW,.slice BA nB cB,x11,x12,x13,x14,x15,x16,x17,x18]] w fun e' w'=>e'=.returned (.tuple #[.agg #[.int .i64 (zak H K S P),.int .i64 (zak W K S P),.int .i64 C],.int .i64 0])∧Below w.heap.size w w':=by
 obtain⟨hs,ha,hb2,hr1,hr2,hr⟩:=zbf he
 have hS:zaw H W C K S P C=#[.int .i64 (zak H K S P),.int .i64 (zak W K S P),.int .i64 C]:=by unfold zaw;rw [he,if_pos rfl]
 obtain⟨-, -, -, -,c1,c2, -⟩:=zah hs
 obtain⟨-, -, -, -,o1,o2, -⟩:=zah hr
 obtain⟨-, -,k1,k2, -⟩:=za7 ha
 obtain⟨p1,p2,p5,p6, -, -⟩:=za6 c1 c2 k1 (by omega) o1 o2
 generalize zak H K S P=m at hS ⊢
 generalize zak W K S P=m2 at hS ⊢
 obtain⟨q,hq⟩:∃ q,C * K * K=q:=⟨_,rfl⟩
 rw [hq] at p5 p6
 rw [hq] at hw
 subst hw
 have hw3:(nW:Int)≤16384:=by omega
 have hbb:((nB:Int) != C)=false:=by simpa using hb
 clear ha hb2 hr1 hr2 hr hs
 have HE:=hid he
 have HS:=hid hS
 clear he hS
 go_enter Tryz.func76,Tryz.ntmps76
 go_wp2_with (go_at_call 77;(refine (zbv H W C K S P C 0 _ HE.out HS.out _).mono ?_);(rintro e' w1 ⟨rfl,hb⟩;obtain⟨hcc,hff⟩:=Kit.bcell hb;have hz:w.heap.size+3≤w1.heap.size:=(by have:=hb.size;simp at this;omega);have hz2:w.heap.size+2 < w1.heap.size:=(by omega);have hz1:w.heap.size+1 < w1.heap.size:=(by omega);have hz0:w.heap.size < w1.heap.size:=(by omega);have HB:=hid hb;clear hb))
 refine bodyPost_ret (Kit.zaa rfl _ _ (w.heap.size+2) 0 [.int .i64 m,.int .i64 m2,.int .i64 C] _ rfl (Kit.zaj (by go_cell) (by go_cell) (by go_cell)) Tryz.underlying23 rfl (by kernel_rfl)) rfl ?_
 have hB1:Below w.heap.size w w1:=Below.trans ((((Below.refl _ _).alloc (le_refl _) _).alloc (by simp) _).alloc (by simp;omega) _) (HB.out.mono (by first | omega | (simp;done) | (simp;omega)))
 exact⟨rfl,by exact (((hB1.setCell (p:=⟨w.heap.size+2,0,none⟩) (by simp) _).setCell (p:=⟨w.heap.size+2,1,none⟩) (by simp) _).setCell (p:=⟨w.heap.size+2,2,none⟩) (by simp) _).alloc (by simp;omega) _⟩
theorem dep_to (H W C:Int) (x0 x1 x2 x8 x11 x12 x13 x14 x15 x16 x17 x18:Value) (K S P O Z:Int) (WA BA:Option Addr) (nW cW nB cB:Nat) (e:Int) (v:Array Value) (he:depthE H W C K S P nW nB=e) (hv:depthS H W C K S P nW nB=v) (w:World) :
  Calls Tryz.prog 76 #[.agg #[.int .i64 H,.int .i64 W,.int .i64 C],.agg #[x0,x1,x2,.int .i64 K,.int .i64 S,.int .i64 P,.int .i64 O,.int .i8 Z,x8,.slice WA nW cW,.slice BA nB cB,x11,x12,x13,x14,x15,x16,x17,x18]] w fun e' w'=>e'=.returned (.tuple #[.agg v,.int .i64 e])∧Below w.heap.size w w':=by
 subst hv
 unfold depthS
 rw [he]
 unfold depthE at he
 by_cases h1:za1 H W C K S P C≠0
 ·rw [if_pos h1] at he
  rw [if_neg (by rw [← he];exact h1)]
  exact dep_err H W C x0 x1 x2 x8 x11 x12 x13 x14 x15 x16 x17 x18 K S P O Z WA BA nW cW nB cB e he (by rw [← he];exact h1) w
 ·have h0:za1 H W C K S P C=0:=by omega
  rw [if_neg h1] at he
  by_cases h2:(nW:Int)=C * K * K∧nW≤16384∧(nB:Int)=C
  ·rw [if_pos h2] at he
   subst he
   rw [if_pos rfl]
   exact dep_ok H W C x0 x1 x2 x8 x11 x12 x13 x14 x15 x16 x17 x18 K S P O Z WA BA nW cW nB cB h0 h2.1 h2.2.1 h2.2.2 w
  ·rw [if_neg h2] at he
   subst he
   rw [if_neg (by decide)]
   by_cases h3:(nW:Int)=C * K * K
   ·by_cases h4:nW≤16384
    ·exact dep_w3 H W C x0 x1 x2 x8 x11 x12 x13 x14 x15 x16 x17 x18 K S P O Z WA BA nW cW nB cB h0 h3 h4 (fun h5=>h2 ⟨h3,h4,h5⟩) w
    ·exact dep_w2 H W C x0 x1 x2 x8 x11 x12 x13 x14 x15 x16 x17 x18 K S P O Z WA BA nW cW nB cB h0 h3 (by omega) w
   ·exact dep_w1 H W C x0 x1 x2 x8 x11 x12 x13 x14 x15 x16 x17 x18 K S P O Z WA BA nW cW nB cB h0 h3 w
theorem refDep_err (H W C:Int) (x0 x1 x2 x8 x11 x12 x13 x14 x15 x16 x17 x18:Value) (K S P O Z:Int) (WA BA:Option Addr) (nW cW nB cB:Nat) (e:Int) (he:za1 H W C K S P C=e) (hn:e≠0) (w:World) :
  Calls Tryz.prog 38 #[.agg #[.int .i64 H,.int .i64 W,.int .i64 C],.agg #[x0,x1,x2,.int .i64 K,.int .i64 S,.int .i64 P,.int .i64 O,.int .i8 Z,x8,.slice WA nW cW,.slice BA nB cB,x11,x12,x13,x14,x15,x16,x17,x18]] w fun e' w'=>e'=.returned (.tuple #[.agg #[.int .i64 0,.int .i64 0,.int .i64 0],.int .i64 e])∧Below w.heap.size w w':=by
 have hS:zaw H W C K S P C=#[.int .i64 0,.int .i64 0,.int .i64 0]:=by unfold zaw;rw [he,if_neg hn]
 have hnb:(e != 0)=true:=by simpa using hn
 have hnc:(e == 0)=false:=by simpa using hn
 have HE:=hid he
 have HS:=hid hS
 clear he hS
 go_enter Tryz.func38,Tryz.ntmps38
 go_wp2_with (go_at_call 40;(refine (za8 H W C K S P C e _ HE.out HS.out _).mono ?_);(rintro e' w1 ⟨rfl,hb⟩;obtain⟨hcc,hff⟩:=Kit.bcell hb;have hz:w.heap.size+3≤w1.heap.size:=(by have:=hb.size;simp at this;omega);have hz2:w.heap.size+2 < w1.heap.size:=(by omega);have hz1:w.heap.size+1 < w1.heap.size:=(by omega);have hz0:w.heap.size < w1.heap.size:=(by omega);have HB:=hid hb;clear hb))
 refine bodyPost_ret (Kit.zaa rfl _ _ (w.heap.size+2) 0 [.int .i64 0,.int .i64 0,.int .i64 0] _ rfl (Kit.zaj (by go_cell) (by go_cell) (by go_cell)) Tryz.underlying23 rfl (by kernel_rfl)) rfl ?_
 have hB1:Below w.heap.size w w1:=Below.trans ((((Below.refl _ _).alloc (le_refl _) _).alloc (by simp) _).alloc (by simp;omega) _) (HB.out.mono (by first | omega | (simp;done) | (simp;omega)))
 exact⟨rfl,by exact (((hB1.setCell (p:=⟨w.heap.size+2,0,none⟩) (by simp) _).setCell (p:=⟨w.heap.size+2,1,none⟩) (by simp) _).setCell (p:=⟨w.heap.size+2,2,none⟩) (by simp) _).alloc (by simp;omega) _⟩
theorem refDep_w1 (H W C:Int) (x0 x1 x2 x8 x11 x12 x13 x14 x15 x16 x17 x18:Value) (K S P O Z:Int) (WA BA:Option Addr) (nW cW nB cB:Nat) (he:za1 H W C K S P C=0) (hw:(nW:Int)≠C * K * K) (w:World) :
  Calls Tryz.prog 38 #[.agg #[.int .i64 H,.int .i64 W,.int .i64 C],.agg #[x0,x1,x2,.int .i64 K,.int .i64 S,.int .i64 P,.int .i64 O,.int .i8 Z,x8,.slice WA nW cW,.slice BA nB cB,x11,x12,x13,x14,x15,x16,x17,x18]] w fun e' w'=>e'=.returned (.tuple #[.agg #[.int .i64 0,.int .i64 0,.int .i64 0],.int .i64 9])∧Below w.heap.size w w':=by
 obtain⟨hs,ha,hb2,hr1,hr2,hr⟩:=zbf he
 have hS:zaw H W C K S P C=#[.int .i64 (zak H K S P),.int .i64 (zak W K S P),.int .i64 C]:=by unfold zaw;rw [he,if_pos rfl]
 obtain⟨-, -, -, -,c1,c2, -⟩:=zah hs
 obtain⟨-, -, -, -,o1,o2, -⟩:=zah hr
 obtain⟨-, -,k1,k2, -⟩:=za7 ha
 obtain⟨p1,p2,p5,p6, -, -⟩:=za6 c1 c2 k1 (by omega) o1 o2
 generalize zak H K S P=m at hS ⊢
 generalize zak W K S P=m2 at hS ⊢
 obtain⟨q,hq⟩:∃ q,C * K * K=q:=⟨_,rfl⟩
 rw [hq] at p5 p6
 rw [hq] at hw
 have hwb:((nW:Int) != q)=true:=by simpa using hw
 have hwc:((nW:Int) == q)=false:=by simpa using hw
 clear ha hb2 hr1 hr2 hr hs
 have HE:=hid he
 have HS:=hid hS
 clear he hS
 go_enter Tryz.func38,Tryz.ntmps38
 go_wp2_with (go_at_call 40;(refine (za8 H W C K S P C 0 _ HE.out HS.out _).mono ?_);(rintro e' w1 ⟨rfl,hb⟩;obtain⟨hcc,hff⟩:=Kit.bcell hb;have hz:w.heap.size+3≤w1.heap.size:=(by have:=hb.size;simp at this;omega);have hz2:w.heap.size+2 < w1.heap.size:=(by omega);have hz1:w.heap.size+1 < w1.heap.size:=(by omega);have hz0:w.heap.size < w1.heap.size:=(by omega);have HB:=hid hb;clear hb))
 refine bodyPost_ret (Kit.zaa rfl _ _ (w.heap.size+2) 0 [.int .i64 0,.int .i64 0,.int .i64 0] _ rfl (Kit.zaj (by go_cell) (by go_cell) (by go_cell)) Tryz.underlying23 rfl (by kernel_rfl)) rfl ?_
 have hB1:Below w.heap.size w w1:=Below.trans ((((Below.refl _ _).alloc (le_refl _) _).alloc (by simp) _).alloc (by simp;omega) _) (HB.out.mono (by first | omega | (simp;done) | (simp;omega)))
 exact⟨rfl,by exact (((hB1.setCell (p:=⟨w.heap.size+2,0,none⟩) (by simp) _).setCell (p:=⟨w.heap.size+2,1,none⟩) (by simp) _).setCell (p:=⟨w.heap.size+2,2,none⟩) (by simp) _).alloc (by simp;omega) _⟩
theorem refDep_w2 (H W C:Int) (x0 x1 x2 x8 x11 x12 x13 x14 x15 x16 x17 x18:Value) (K S P O Z:Int) (WA BA:Option Addr) (nW cW nB cB:Nat) (he:za1 H W C K S P C=0) (hw:(nW:Int)=C * K * K) (hw2:16384 < nW) (w:World) :
  Calls Tryz.prog 38 #[.agg #[.int .i64 H,.int .i64 W,.int .i64 C],.agg #[x0,x1,x2,.int .i64 K,.int .i64 S,.int .i64 P,.int .i64 O,.int .i8 Z,x8,.slice WA nW cW,.slice BA nB cB,x11,x12,x13,x14,x15,x16,x17,x18]] w fun e' w'=>e'=.returned (.tuple #[.agg #[.int .i64 0,.int .i64 0,.int .i64 0],.int .i64 9])∧Below w.heap.size w w':=by
 obtain⟨hs,ha,hb2,hr1,hr2,hr⟩:=zbf he
 have hS:zaw H W C K S P C=#[.int .i64 (zak H K S P),.int .i64 (zak W K S P),.int .i64 C]:=by unfold zaw;rw [he,if_pos rfl]
 obtain⟨-, -, -, -,c1,c2, -⟩:=zah hs
 obtain⟨-, -, -, -,o1,o2, -⟩:=zah hr
 obtain⟨-, -,k1,k2, -⟩:=za7 ha
 obtain⟨p1,p2,p5,p6, -, -⟩:=za6 c1 c2 k1 (by omega) o1 o2
 generalize zak H K S P=m at hS ⊢
 generalize zak W K S P=m2 at hS ⊢
 obtain⟨q,hq⟩:∃ q,C * K * K=q:=⟨_,rfl⟩
 rw [hq] at p5 p6
 rw [hq] at hw
 subst hw
 have hw3:(16384:Int) < (nW:Int):=by omega
 clear ha hb2 hr1 hr2 hr hs
 have HE:=hid he
 have HS:=hid hS
 clear he hS
 go_enter Tryz.func38,Tryz.ntmps38
 go_wp2_with (go_at_call 40;(refine (za8 H W C K S P C 0 _ HE.out HS.out _).mono ?_);(rintro e' w1 ⟨rfl,hb⟩;obtain⟨hcc,hff⟩:=Kit.bcell hb;have hz:w.heap.size+3≤w1.heap.size:=(by have:=hb.size;simp at this;omega);have hz2:w.heap.size+2 < w1.heap.size:=(by omega);have hz1:w.heap.size+1 < w1.heap.size:=(by omega);have hz0:w.heap.size < w1.heap.size:=(by omega);have HB:=hid hb;clear hb))
 refine bodyPost_ret (Kit.zaa rfl _ _ (w.heap.size+2) 0 [.int .i64 0,.int .i64 0,.int .i64 0] _ rfl (Kit.zaj (by go_cell) (by go_cell) (by go_cell)) Tryz.underlying23 rfl (by kernel_rfl)) rfl ?_
 have hB1:Below w.heap.size w w1:=Below.trans ((((Below.refl _ _).alloc (le_refl _) _).alloc (by simp) _).alloc (by simp;omega) _) (HB.out.mono (by first | omega | (simp;done) | (simp;omega)))
 exact⟨rfl,by exact (((hB1.setCell (p:=⟨w.heap.size+2,0,none⟩) (by simp) _).setCell (p:=⟨w.heap.size+2,1,none⟩) (by simp) _).setCell (p:=⟨w.heap.size+2,2,none⟩) (by simp) _).alloc (by simp;omega) _⟩
theorem refDep_w3 (H W C:Int) (x0 x1 x2 x8 x11 x12 x13 x14 x15 x16 x17 x18:Value) (K S P O Z:Int) (WA BA:Option Addr) (nW cW nB cB:Nat) (he:za1 H W C K S P C=0) (hw:(nW:Int)=C * K * K) (hw2:nW≤16384) (hb:(nB:Int)≠C) (w:World) :
  Calls Tryz.prog 38 #[.agg #[.int .i64 H,.int .i64 W,.int .i64 C],.agg #[x0,x1,x2,.int .i64 K,.int .i64 S,.int .i64 P,.int .i64 O,.int .i8 Z,x8,.slice WA nW cW,.slice BA nB cB,x11,x12,x13,x14,x15,x16,x17,x18]] w fun e' w'=>e'=.returned (.tuple #[.agg #[.int .i64 0,.int .i64 0,.int .i64 0],.int .i64 9])∧Below w.heap.size w w':=by
 obtain⟨hs,ha,hb2,hr1,hr2,hr⟩:=zbf he
 have hS:zaw H W C K S P C=#[.int .i64 (zak H K S P),.int .i64 (zak W K S P),.int .i64 C]:=by unfold zaw;rw [he,if_pos rfl]
 obtain⟨-, -, -, -,c1,c2, -⟩:=zah hs
 obtain⟨-, -, -, -,o1,o2, -⟩:=zah hr
 obtain⟨-, -,k1,k2, -⟩:=za7 ha
 obtain⟨p1,p2,p5,p6, -, -⟩:=za6 c1 c2 k1 (by omega) o1 o2
 generalize zak H K S P=m at hS ⊢
 generalize zak W K S P=m2 at hS ⊢
 obtain⟨q,hq⟩:∃ q,C * K * K=q:=⟨_,rfl⟩
 rw [hq] at p5 p6
 rw [hq] at hw
 subst hw
 have hw3:(nW:Int)≤16384:=by omega
 have hbb:((nB:Int) != C)=true:=by simpa using hb
 have hbc:((nB:Int) == C)=false:=by simpa using hb
 clear ha hb2 hr1 hr2 hr hs
 have HE:=hid he
 have HS:=hid hS
 clear he hS
 go_enter Tryz.func38,Tryz.ntmps38
 go_wp2_with (go_at_call 40;(refine (za8 H W C K S P C 0 _ HE.out HS.out _).mono ?_);(rintro e' w1 ⟨rfl,hb⟩;obtain⟨hcc,hff⟩:=Kit.bcell hb;have hz:w.heap.size+3≤w1.heap.size:=(by have:=hb.size;simp at this;omega);have hz2:w.heap.size+2 < w1.heap.size:=(by omega);have hz1:w.heap.size+1 < w1.heap.size:=(by omega);have hz0:w.heap.size < w1.heap.size:=(by omega);have HB:=hid hb;clear hb))
 refine bodyPost_ret (Kit.zaa rfl _ _ (w.heap.size+2) 0 [.int .i64 0,.int .i64 0,.int .i64 0] _ rfl (Kit.zaj (by go_cell) (by go_cell) (by go_cell)) Tryz.underlying23 rfl (by kernel_rfl)) rfl ?_
 have hB1:Below w.heap.size w w1:=Below.trans ((((Below.refl _ _).alloc (le_refl _) _).alloc (by simp) _).alloc (by simp;omega) _) (HB.out.mono (by first | omega | (simp;done) | (simp;omega)))
 exact⟨rfl,by exact (((hB1.setCell (p:=⟨w.heap.size+2,0,none⟩) (by simp) _).setCell (p:=⟨w.heap.size+2,1,none⟩) (by simp) _).setCell (p:=⟨w.heap.size+2,2,none⟩) (by simp) _).alloc (by simp;omega) _⟩
theorem refDep_ok (H W C:Int) (x0 x1 x2 x8 x11 x12 x13 x14 x15 x16 x17 x18:Value) (K S P O Z:Int) (WA BA:Option Addr) (nW cW nB cB:Nat) (he:za1 H W C K S P C=0) (hw:(nW:Int)=C * K * K) (hw2:nW≤16384) (hb:(nB:Int)=C) (w:World) :
  Calls Tryz.prog 38 #[.agg #[.int .i64 H,.int .i64 W,.int .i64 C],.agg #[x0,x1,x2,.int .i64 K,.int .i64 S,.int .i64 P,.int .i64 O,.int .i8 Z,x8,.slice WA nW cW,.slice BA nB cB,x11,x12,x13,x14,x15,x16,x17,x18]] w fun e' w'=>e'=.returned (.tuple #[.agg #[.int .i64 (zak H K S P),.int .i64 (zak W K S P),.int .i64 C],.int .i64 0])∧Below w.heap.size w w':=by
 obtain⟨hs,ha,hb2,hr1,hr2,hr⟩:=zbf he
 have hS:zaw H W C K S P C=#[.int .i64 (zak H K S P),.int .i64 (zak W K S P),.int .i64 C]:=by unfold zaw;rw [he,if_pos rfl]
 obtain⟨-, -, -, -,c1,c2, -⟩:=zah hs
 obtain⟨-, -, -, -,o1,o2, -⟩:=zah hr
 obtain⟨-, -,k1,k2, -⟩:=za7 ha
 obtain⟨p1,p2,p5,p6, -, -⟩:=za6 c1 c2 k1 (by omega) o1 o2
 generalize zak H K S P=m at hS ⊢
 generalize zak W K S P=m2 at hS ⊢
 obtain⟨q,hq⟩:∃ q,C * K * K=q:=⟨_,rfl⟩
 rw [hq] at p5 p6
 rw [hq] at hw
 subst hw
 have hw3:(nW:Int)≤16384:=by omega
 have hbb:((nB:Int) != C)=false:=by simpa using hb
 clear ha hb2 hr1 hr2 hr hs
 have HE:=hid he
 have HS:=hid hS
 clear he hS
 go_enter Tryz.func38,Tryz.ntmps38
 go_wp2_with (go_at_call 40;(refine (za8 H W C K S P C 0 _ HE.out HS.out _).mono ?_);(rintro e' w1 ⟨rfl,hb⟩;obtain⟨hcc,hff⟩:=Kit.bcell hb;have hz:w.heap.size+3≤w1.heap.size:=(by have:=hb.size;simp at this;omega);have hz2:w.heap.size+2 < w1.heap.size:=(by omega);have hz1:w.heap.size+1 < w1.heap.size:=(by omega);have hz0:w.heap.size < w1.heap.size:=(by omega);have HB:=hid hb;clear hb))
 refine bodyPost_ret (Kit.zaa rfl _ _ (w.heap.size+2) 0 [.int .i64 m,.int .i64 m2,.int .i64 C] _ rfl (Kit.zaj (by go_cell) (by go_cell) (by go_cell)) Tryz.underlying23 rfl (by kernel_rfl)) rfl ?_
 have hB1:Below w.heap.size w w1:=Below.trans ((((Below.refl _ _).alloc (le_refl _) _).alloc (by simp) _).alloc (by simp;omega) _) (HB.out.mono (by first | omega | (simp;done) | (simp;omega)))
 exact⟨rfl,by exact (((hB1.setCell (p:=⟨w.heap.size+2,0,none⟩) (by simp) _).setCell (p:=⟨w.heap.size+2,1,none⟩) (by simp) _).setCell (p:=⟨w.heap.size+2,2,none⟩) (by simp) _).alloc (by simp;omega) _⟩
theorem refDep_to (H W C:Int) (x0 x1 x2 x8 x11 x12 x13 x14 x15 x16 x17 x18:Value) (K S P O Z:Int) (WA BA:Option Addr) (nW cW nB cB:Nat) (e:Int) (v:Array Value) (he:depthE H W C K S P nW nB=e) (hv:depthS H W C K S P nW nB=v) (w:World) :
  Calls Tryz.prog 38 #[.agg #[.int .i64 H,.int .i64 W,.int .i64 C],.agg #[x0,x1,x2,.int .i64 K,.int .i64 S,.int .i64 P,.int .i64 O,.int .i8 Z,x8,.slice WA nW cW,.slice BA nB cB,x11,x12,x13,x14,x15,x16,x17,x18]] w fun e' w'=>e'=.returned (.tuple #[.agg v,.int .i64 e])∧Below w.heap.size w w':=by
 subst hv
 unfold depthS
 rw [he]
 unfold depthE at he
 by_cases h1:za1 H W C K S P C≠0
 ·rw [if_pos h1] at he
  rw [if_neg (by rw [← he];exact h1)]
  exact refDep_err H W C x0 x1 x2 x8 x11 x12 x13 x14 x15 x16 x17 x18 K S P O Z WA BA nW cW nB cB e he (by rw [← he];exact h1) w
 ·have h0:za1 H W C K S P C=0:=by omega
  rw [if_neg h1] at he
  by_cases h2:(nW:Int)=C * K * K∧nW≤16384∧(nB:Int)=C
  ·rw [if_pos h2] at he
   subst he
   rw [if_pos rfl]
   exact refDep_ok H W C x0 x1 x2 x8 x11 x12 x13 x14 x15 x16 x17 x18 K S P O Z WA BA nW cW nB cB h0 h2.1 h2.2.1 h2.2.2 w
  ·rw [if_neg h2] at he
   subst he
   rw [if_neg (by decide)]
   by_cases h3:(nW:Int)=C * K * K
   ·by_cases h4:nW≤16384
    ·exact refDep_w3 H W C x0 x1 x2 x8 x11 x12 x13 x14 x15 x16 x17 x18 K S P O Z WA BA nW cW nB cB h0 h3 h4 (fun h5=>h2 ⟨h3,h4,h5⟩) w
    ·exact refDep_w2 H W C x0 x1 x2 x8 x11 x12 x13 x14 x15 x16 x17 x18 K S P O Z WA BA nW cW nB cB h0 h3 (by omega) w
   ·exact refDep_w1 H W C x0 x1 x2 x8 x11 x12 x13 x14 x15 x16 x17 x18 K S P O Z WA BA nW cW nB cB h0 h3 w
end CDepth
end
end Go.Proofs.YtoffcaldhojjoaaGreatDoor
