/- -/
import Derived.Test.YtfgdfignoakkaaaGreatDoorGBT11
open Go.Lib (hid)
open Nat (le_refl lt_of_succ_lt lt_succ_self)
set_option linter.unusedVariables false
set_option linter.unusedSimpArgs false
set_option maxRecDepth 100000
set_option maxHeartbeats 16000000
namespace Go.Proofs.YtfgdfignoakkaaaGreatDoor
namespace CConv
end CConv
namespace CDense
end CDense
namespace CFix
end CFix
namespace CSat
end CSat
namespace CShape
end CShape
namespace CTensor
end CTensor
open Go Go.ChangeShapes Go.WideShapes Go.ChangeAt Go.RowKit Go.Deep
section
namespace CDepth
open Go Go.ChangeShapes Go.WideShapes Go.ChangeAt Go.RowKit
open Plain CSat CShape CTensor CConv
def depthE (H W C K S P:Int) (nW nB:Nat):Int :=
 if zaz H W C K S P C≠0 then zaz H W C K S P C else if (nW:Int)=C * K * K∧nW≤16384∧(nB:Int)=C then 0 else 9
def depthS (H W C K S P:Int) (nW nB:Nat):Array Value :=
 if depthE H W C K S P nW nB=0 then #[.int .i64 (zai H K S P),.int .i64 (zai W K S P),.int .i64 C] else #[.int .i64 0,.int .i64 0,.int .i64 0]
theorem dep_err (H W C:Int) (x0 x1 x2 x8 x11 x12 x13 x14 x15 x16 x17 x18:Value) (K S P O Z:Int) (WA BA:Option Addr) (nW cW nB cB:Nat) (e:Int) (he:zaz H W C K S P C=e) (hn:e≠0) (w:World) :
  Calls Tryz.prog 164 #[.agg #[.int .i64 H,.int .i64 W,.int .i64 C],.agg #[x0,x1,x2,.int .i64 K,.int .i64 S,.int .i64 P,.int .i64 O,.int .i8 Z,x8,.slice WA nW cW,.slice BA nB cB,x11,x12,x13,x14,x15,x16,x17,x18]] w fun e' w'=>e'=.returned (.tuple #[.agg #[.int .i64 0,.int .i64 0,.int .i64 0],.int .i64 e])∧Below w.heap.size w w':=by
 have hS:za0 H W C K S P C=#[.int .i64 0,.int .i64 0,.int .i64 0]:=by unfold za0;rw [he,if_neg hn]
 have hnb:(e != 0)=true:=by simpa using hn
 have hnc:(e == 0)=false:=by simpa using hn
 have HE:=hid he
 have HS:=hid hS
 clear he hS
 go_enter Tryz.func164,Tryz.ntmps164
 go_wp2_with (go_at_call 165;(refine (zba H W C K S P C e _ HE.out HS.out _).mono ?_);(rintro e' w1 ⟨rfl,hb⟩;obtain⟨hcc,hff⟩:=Kit.bcell hb;have hz:w.heap.size+3≤w1.heap.size:=(by have:=hb.size;simp at this;omega);have hz2:w.heap.size+2 < w1.heap.size:=(by omega);have hz1:w.heap.size+1 < w1.heap.size:=(by omega);have hz0:w.heap.size < w1.heap.size:=(by omega);have HB:=hid hb;clear hb))
 refine bodyPost_ret (Kit.zaa rfl _ _ (w.heap.size+2) 0 [.int .i64 0,.int .i64 0,.int .i64 0] _ rfl (Kit.zak (by go_cell) (by go_cell) (by go_cell)) Tryz.underlying23 rfl (by kernel_rfl)) rfl ?_
 have hB1:Below w.heap.size w w1:=Below.trans ((((Below.refl _ _).alloc (le_refl _) _).alloc (by simp) _).alloc (by simp;omega) _) (HB.out.mono (by first | omega | (simp;done) | (simp;omega)))
 exact⟨rfl,by exact (((hB1.setCell (p:=⟨w.heap.size+2,0,none⟩) (by simp) _).setCell (p:=⟨w.heap.size+2,1,none⟩) (by simp) _).setCell (p:=⟨w.heap.size+2,2,none⟩) (by simp) _).alloc (by simp;omega) _⟩
theorem dep_w1 (H W C:Int) (x0 x1 x2 x8 x11 x12 x13 x14 x15 x16 x17 x18:Value) (K S P O Z:Int) (WA BA:Option Addr) (nW cW nB cB:Nat) (he:zaz H W C K S P C=0) (hw:(nW:Int)≠C * K * K) (w:World) :
  Calls Tryz.prog 164 #[.agg #[.int .i64 H,.int .i64 W,.int .i64 C],.agg #[x0,x1,x2,.int .i64 K,.int .i64 S,.int .i64 P,.int .i64 O,.int .i8 Z,x8,.slice WA nW cW,.slice BA nB cB,x11,x12,x13,x14,x15,x16,x17,x18]] w fun e' w'=>e'=.returned (.tuple #[.agg #[.int .i64 0,.int .i64 0,.int .i64 0],.int .i64 9])∧Below w.heap.size w w':=by
 obtain⟨hs,ha,hb2,hr1,hr2,hr⟩:=zb0 he
 have hS:za0 H W C K S P C=#[.int .i64 (zai H K S P),.int .i64 (zai W K S P),.int .i64 C]:=by unfold za0;rw [he,if_pos rfl]
 obtain⟨-, -, -, -,c1,c2, -⟩:=zah hs
 obtain⟨-, -, -, -,o1,o2, -⟩:=zah hr
 obtain⟨-, -,k1,k2, -⟩:=zbi ha
 obtain⟨p1,p2,p5,p6, -, -⟩:=zbe c1 c2 k1 (by omega) o1 o2
 generalize zai H K S P=m at hS ⊢
 generalize zai W K S P=m2 at hS ⊢
 obtain⟨q,hq⟩:∃ q,C * K * K=q:=⟨_,rfl⟩
 rw [hq] at p5 p6
 rw [hq] at hw
 have hwb:((nW:Int) != q)=true:=by simpa using hw
 have hwc:((nW:Int) == q)=false:=by simpa using hw
 clear ha hb2 hr1 hr2 hr hs
 have HE:=hid he
 have HS:=hid hS
 clear he hS
 go_enter Tryz.func164,Tryz.ntmps164
 go_wp2_with (go_at_call 165;(refine (zba H W C K S P C 0 _ HE.out HS.out _).mono ?_);(rintro e' w1 ⟨rfl,hb⟩;obtain⟨hcc,hff⟩:=Kit.bcell hb;have hz:w.heap.size+3≤w1.heap.size:=(by have:=hb.size;simp at this;omega);have hz2:w.heap.size+2 < w1.heap.size:=(by omega);have hz1:w.heap.size+1 < w1.heap.size:=(by omega);have hz0:w.heap.size < w1.heap.size:=(by omega);have HB:=hid hb;clear hb))
 refine bodyPost_ret (Kit.zaa rfl _ _ (w.heap.size+2) 0 [.int .i64 0,.int .i64 0,.int .i64 0] _ rfl (Kit.zak (by go_cell) (by go_cell) (by go_cell)) Tryz.underlying23 rfl (by kernel_rfl)) rfl ?_
 have hB1:Below w.heap.size w w1:=Below.trans ((((Below.refl _ _).alloc (le_refl _) _).alloc (by simp) _).alloc (by simp;omega) _) (HB.out.mono (by first | omega | (simp;done) | (simp;omega)))
 exact⟨rfl,by exact (((hB1.setCell (p:=⟨w.heap.size+2,0,none⟩) (by simp) _).setCell (p:=⟨w.heap.size+2,1,none⟩) (by simp) _).setCell (p:=⟨w.heap.size+2,2,none⟩) (by simp) _).alloc (by simp;omega) _⟩
theorem dep_w2 (H W C:Int) (x0 x1 x2 x8 x11 x12 x13 x14 x15 x16 x17 x18:Value) (K S P O Z:Int) (WA BA:Option Addr) (nW cW nB cB:Nat) (he:zaz H W C K S P C=0) (hw:(nW:Int)=C * K * K) (hw2:16384 < nW) (w:World) :
  Calls Tryz.prog 164 #[.agg #[.int .i64 H,.int .i64 W,.int .i64 C],.agg #[x0,x1,x2,.int .i64 K,.int .i64 S,.int .i64 P,.int .i64 O,.int .i8 Z,x8,.slice WA nW cW,.slice BA nB cB,x11,x12,x13,x14,x15,x16,x17,x18]] w fun e' w'=>e'=.returned (.tuple #[.agg #[.int .i64 0,.int .i64 0,.int .i64 0],.int .i64 9])∧Below w.heap.size w w':=by
 obtain⟨hs,ha,hb2,hr1,hr2,hr⟩:=zb0 he
 have hS:za0 H W C K S P C=#[.int .i64 (zai H K S P),.int .i64 (zai W K S P),.int .i64 C]:=by unfold za0;rw [he,if_pos rfl]
 obtain⟨-, -, -, -,c1,c2, -⟩:=zah hs
 obtain⟨-, -, -, -,o1,o2, -⟩:=zah hr
 obtain⟨-, -,k1,k2, -⟩:=zbi ha
 obtain⟨p1,p2,p5,p6, -, -⟩:=zbe c1 c2 k1 (by omega) o1 o2
 generalize zai H K S P=m at hS ⊢
 generalize zai W K S P=m2 at hS ⊢
 obtain⟨q,hq⟩:∃ q,C * K * K=q:=⟨_,rfl⟩
 rw [hq] at p5 p6
 rw [hq] at hw
 subst hw
 have hw3:(16384:Int) < (nW:Int):=by omega
 clear ha hb2 hr1 hr2 hr hs
 have HE:=hid he
 have HS:=hid hS
 clear he hS
 go_enter Tryz.func164,Tryz.ntmps164
 go_wp2_with (go_at_call 165;(refine (zba H W C K S P C 0 _ HE.out HS.out _).mono ?_);(rintro e' w1 ⟨rfl,hb⟩;obtain⟨hcc,hff⟩:=Kit.bcell hb;have hz:w.heap.size+3≤w1.heap.size:=(by have:=hb.size;simp at this;omega);have hz2:w.heap.size+2 < w1.heap.size:=(by omega);have hz1:w.heap.size+1 < w1.heap.size:=(by omega);have hz0:w.heap.size < w1.heap.size:=(by omega);have HB:=hid hb;clear hb))
 refine bodyPost_ret (Kit.zaa rfl _ _ (w.heap.size+2) 0 [.int .i64 0,.int .i64 0,.int .i64 0] _ rfl (Kit.zak (by go_cell) (by go_cell) (by go_cell)) Tryz.underlying23 rfl (by kernel_rfl)) rfl ?_
 have hB1:Below w.heap.size w w1:=Below.trans ((((Below.refl _ _).alloc (le_refl _) _).alloc (by simp) _).alloc (by simp;omega) _) (HB.out.mono (by first | omega | (simp;done) | (simp;omega)))
 exact⟨rfl,by exact (((hB1.setCell (p:=⟨w.heap.size+2,0,none⟩) (by simp) _).setCell (p:=⟨w.heap.size+2,1,none⟩) (by simp) _).setCell (p:=⟨w.heap.size+2,2,none⟩) (by simp) _).alloc (by simp;omega) _⟩
theorem dep_w3 (H W C:Int) (x0 x1 x2 x8 x11 x12 x13 x14 x15 x16 x17 x18:Value) (K S P O Z:Int) (WA BA:Option Addr) (nW cW nB cB:Nat) (he:zaz H W C K S P C=0) (hw:(nW:Int)=C * K * K) (hw2:nW≤16384) (hb:(nB:Int)≠C) (w:World) :
  Calls Tryz.prog 164 #[.agg #[.int .i64 H,.int .i64 W,.int .i64 C],.agg #[x0,x1,x2,.int .i64 K,.int .i64 S,.int .i64 P,.int .i64 O,.int .i8 Z,x8,.slice WA nW cW,.slice BA nB cB,x11,x12,x13,x14,x15,x16,x17,x18]] w fun e' w'=>e'=.returned (.tuple #[.agg #[.int .i64 0,.int .i64 0,.int .i64 0],.int .i64 9])∧Below w.heap.size w w':=by
 obtain⟨hs,ha,hb2,hr1,hr2,hr⟩:=zb0 he
 have hS:za0 H W C K S P C=#[.int .i64 (zai H K S P),.int .i64 (zai W K S P),.int .i64 C]:=by unfold za0;rw [he,if_pos rfl]
 obtain⟨-, -, -, -,c1,c2, -⟩:=zah hs
 obtain⟨-, -, -, -,o1,o2, -⟩:=zah hr
 obtain⟨-, -,k1,k2, -⟩:=zbi ha
 obtain⟨p1,p2,p5,p6, -, -⟩:=zbe c1 c2 k1 (by omega) o1 o2
 generalize zai H K S P=m at hS ⊢
 generalize zai W K S P=m2 at hS ⊢
 obtain⟨q,hq⟩:∃ q,C * K * K=q:=⟨_,rfl⟩
 rw [hq] at p5 p6
 rw [hq] at hw
 subst hw
 have hw3:(nW:Int)≤16384:=by omega
 have hbb:((nB:Int) != C)=true:=by simpa using hb
 have hbc:((nB:Int) == C)=false:=by simpa using hb
 clear ha hb2 hr1 hr2 hr hs
 have HE:=hid he
 have HS:=hid hS
 clear he hS
 go_enter Tryz.func164,Tryz.ntmps164
 go_wp2_with (go_at_call 165;(refine (zba H W C K S P C 0 _ HE.out HS.out _).mono ?_);(rintro e' w1 ⟨rfl,hb⟩;obtain⟨hcc,hff⟩:=Kit.bcell hb;have hz:w.heap.size+3≤w1.heap.size:=(by have:=hb.size;simp at this;omega);have hz2:w.heap.size+2 < w1.heap.size:=(by omega);have hz1:w.heap.size+1 < w1.heap.size:=(by omega);have hz0:w.heap.size < w1.heap.size:=(by omega);have HB:=hid hb;clear hb))
 refine bodyPost_ret (Kit.zaa rfl _ _ (w.heap.size+2) 0 [.int .i64 0,.int .i64 0,.int .i64 0] _ rfl (Kit.zak (by go_cell) (by go_cell) (by go_cell)) Tryz.underlying23 rfl (by kernel_rfl)) rfl ?_
 have hB1:Below w.heap.size w w1:=Below.trans ((((Below.refl _ _).alloc (le_refl _) _).alloc (by simp) _).alloc (by simp;omega) _) (HB.out.mono (by first | omega | (simp;done) | (simp;omega)))
 exact⟨rfl,by exact (((hB1.setCell (p:=⟨w.heap.size+2,0,none⟩) (by simp) _).setCell (p:=⟨w.heap.size+2,1,none⟩) (by simp) _).setCell (p:=⟨w.heap.size+2,2,none⟩) (by simp) _).alloc (by simp;omega) _⟩
theorem dep_ok (H W C:Int) (x0 x1 x2 x8 x11 x12 x13 x14 x15 x16 x17 x18:Value) (K S P O Z:Int) (WA BA:Option Addr) (nW cW nB cB:Nat) (he:zaz H W C K S P C=0) (hw:(nW:Int)=C * K * K) (hw2:nW≤16384) (hb:(nB:Int)=C) (w:World) :
  Calls Tryz.prog 164 #[.agg #[.int .i64 H,.int .i64 W,.int .i64 C],.agg #[x0,x1,x2,.int .i64 K,.int .i64 S,.int .i64 P,.int .i64 O,.int .i8 Z,x8,.slice WA nW cW,.slice BA nB cB,x11,x12,x13,x14,x15,x16,x17,x18]] w fun e' w'=>e'=.returned (.tuple #[.agg #[.int .i64 (zai H K S P),.int .i64 (zai W K S P),.int .i64 C],.int .i64 0])∧Below w.heap.size w w':=by
 obtain⟨hs,ha,hb2,hr1,hr2,hr⟩:=zb0 he
 have hS:za0 H W C K S P C=#[.int .i64 (zai H K S P),.int .i64 (zai W K S P),.int .i64 C]:=by unfold za0;rw [he,if_pos rfl]
 obtain⟨-, -, -, -,c1,c2, -⟩:=zah hs
 obtain⟨-, -, -, -,o1,o2, -⟩:=zah hr
 obtain⟨-, -,k1,k2, -⟩:=zbi ha
 obtain⟨p1,p2,p5,p6, -, -⟩:=zbe c1 c2 k1 (by omega) o1 o2
 generalize zai H K S P=m at hS ⊢
 generalize zai W K S P=m2 at hS ⊢
 obtain⟨q,hq⟩:∃ q,C * K * K=q:=⟨_,rfl⟩
 rw [hq] at p5 p6
 rw [hq] at hw
 subst hw
 have hw3:(nW:Int)≤16384:=by omega
 have hbb:((nB:Int) != C)=false:=by simpa using hb
 clear ha hb2 hr1 hr2 hr hs
 have HE:=hid he
 have HS:=hid hS
 clear he hS
 go_enter Tryz.func164,Tryz.ntmps164
 go_wp2_with (go_at_call 165;(refine (zba H W C K S P C 0 _ HE.out HS.out _).mono ?_);(rintro e' w1 ⟨rfl,hb⟩;obtain⟨hcc,hff⟩:=Kit.bcell hb;have hz:w.heap.size+3≤w1.heap.size:=(by have:=hb.size;simp at this;omega);have hz2:w.heap.size+2 < w1.heap.size:=(by omega);have hz1:w.heap.size+1 < w1.heap.size:=(by omega);have hz0:w.heap.size < w1.heap.size:=(by omega);have HB:=hid hb;clear hb))
 refine bodyPost_ret (Kit.zaa rfl _ _ (w.heap.size+2) 0 [.int .i64 m,.int .i64 m2,.int .i64 C] _ rfl (Kit.zak (by go_cell) (by go_cell) (by go_cell)) Tryz.underlying23 rfl (by kernel_rfl)) rfl ?_
 have hB1:Below w.heap.size w w1:=Below.trans ((((Below.refl _ _).alloc (le_refl _) _).alloc (by simp) _).alloc (by simp;omega) _) (HB.out.mono (by first | omega | (simp;done) | (simp;omega)))
 exact⟨rfl,by exact (((hB1.setCell (p:=⟨w.heap.size+2,0,none⟩) (by simp) _).setCell (p:=⟨w.heap.size+2,1,none⟩) (by simp) _).setCell (p:=⟨w.heap.size+2,2,none⟩) (by simp) _).alloc (by simp;omega) _⟩
theorem dep_to (H W C:Int) (x0 x1 x2 x8 x11 x12 x13 x14 x15 x16 x17 x18:Value) (K S P O Z:Int) (WA BA:Option Addr) (nW cW nB cB:Nat) (e:Int) (v:Array Value) (he:depthE H W C K S P nW nB=e) (hv:depthS H W C K S P nW nB=v) (w:World) :
  Calls Tryz.prog 164 #[.agg #[.int .i64 H,.int .i64 W,.int .i64 C],.agg #[x0,x1,x2,.int .i64 K,.int .i64 S,.int .i64 P,.int .i64 O,.int .i8 Z,x8,.slice WA nW cW,.slice BA nB cB,x11,x12,x13,x14,x15,x16,x17,x18]] w fun e' w'=>e'=.returned (.tuple #[.agg v,.int .i64 e])∧Below w.heap.size w w':=by
 subst hv
 unfold depthS
 rw [he]
 unfold depthE at he
 by_cases h1:zaz H W C K S P C≠0
 ·rw [if_pos h1] at he
  rw [if_neg (by rw [← he];exact h1)]
  exact dep_err H W C x0 x1 x2 x8 x11 x12 x13 x14 x15 x16 x17 x18 K S P O Z WA BA nW cW nB cB e he (by rw [← he];exact h1) w
 ·have h0:zaz H W C K S P C=0:=by omega
  rw [if_neg h1] at he
  by_cases h2:(nW:Int)=C * K * K∧nW≤16384∧(nB:Int)=C
  ·rw [if_pos h2] at he
   subst he
   rw [if_pos rfl]
   exact dep_ok H W C x0 x1 x2 x8 x11 x12 x13 x14 x15 x16 x17 x18 K S P O Z WA BA nW cW nB cB h0 h2.1 h2.2.1 h2.2.2 w
  ·rw [if_neg h2] at he
   subst he
   rw [if_neg (by decide)]
   by_cases h3:(nW:Int)=C * K * K
   ·by_cases h4:nW≤16384
    ·exact dep_w3 H W C x0 x1 x2 x8 x11 x12 x13 x14 x15 x16 x17 x18 K S P O Z WA BA nW cW nB cB h0 h3 h4 (fun h5=>h2 ⟨h3,h4,h5⟩) w
    ·exact dep_w2 H W C x0 x1 x2 x8 x11 x12 x13 x14 x15 x16 x17 x18 K S P O Z WA BA nW cW nB cB h0 h3 (by omega) w
   ·exact dep_w1 H W C x0 x1 x2 x8 x11 x12 x13 x14 x15 x16 x17 x18 K S P O Z WA BA nW cW nB cB h0 h3 w
end CDepth
end
section
namespace CKind
open Plain CSat CFix CShape CTensor CConv CDense CDepth
def Nd.shE (x:Nd) (H W C H2 W2 C2:Int):Int :=
 if x.kd=1 then convE H W C x.K x.S x.P x.O x.nW x.nB else if x.kd=2 then depthE H W C x.K x.S x.P x.nW x.nB else if x.kd=3 then denseE H W C x.O x.nW x.nB else if x.kd=4∨x.kd=5 then zaz H W C x.K x.S x.P C
 else if x.kd < 1∨9 < x.kd then 6 else if zae H W C=false then 5 else if x.kd=6∧(H == H2 && (W == W2 && C == C2))=false then 5 else if x.kd=8 then (if x.P < 0∨4 < x.P then 2 else if zae (H+2 * x.P) (W+2 * x.P) C=false then 5 else 0) else 0
def Nd.shV (x:Nd) (H W C H2 W2 C2:Int):Array Value :=
 if x.kd=1 then convS H W C x.K x.S x.P x.O x.nW x.nB else if x.kd=2 then depthS H W C x.K x.S x.P x.nW x.nB else if x.kd=3 then denseS H W C x.O x.nW x.nB else if x.kd=4∨x.kd=5 then za0 H W C x.K x.S x.P C
 else if x.shE H W C H2 W2 C2≠0 then #[.int .i64 0,.int .i64 0,.int .i64 0] else if x.kd=9 then #[.int .i64 1,.int .i64 1,.int .i64 (zas H W C)] else if x.kd=8 then #[.int .i64 (H+2 * x.P),.int .i64 (W+2 * x.P),.int .i64 C] else #[.int .i64 H,.int .i64 W,.int .i64 C]
theorem Nd.sh_three (x:Nd) (H W C H2 W2 C2:Int):∃ u0 u1 u2,x.shV H W C H2 W2 C2=#[.int .i64 u0,.int .i64 u1,.int .i64 u2]:=by
 unfold Nd.shV convS depthS denseS za0
 repeat' split
 all_goals exact⟨_,_,_,rfl⟩
def ShapeIs (f:FuncId) (x:Nd):Prop:=∀ (H W C H2 W2 C2 e u0 u1 u2:Int) (_:x.shE H W C H2 W2 C2=e) (_:x.shV H W C H2 W2 C2=#[.int .i64 u0,.int .i64 u1,.int .i64 u2]) (w:World),
 Calls Tryz.prog f #[.agg x.val,.agg #[.int .i64 H,.int .i64 W,.int .i64 C],.agg #[.int .i64 H2,.int .i64 W2,.int .i64 C2]] w fun r w'=>r=.returned (.tuple #[.agg #[.int .i64 u0,.int .i64 u1,.int .i64 u2],.int .i64 e])∧Below w.heap.size w w'
theorem three_inj {a b c d e f:Int} (h:(#[.int .i64 a,.int .i64 b,.int .i64 c]:Array Value)=#[.int .i64 d,.int .i64 e,.int .i64 f]):a=d∧b=e∧c=f:=by simpa using h
end CKind
end
section
namespace CKind
open Plain CSat CFix CShape CTensor CConv
def zad (w:World):Prop:=∀ n:Nat,n < 10→w.cell? ⟨1,n,none⟩=some (.string (kname n))
theorem zad.size {w:World} (h:zad w):1 < w.heap.size:=by
 have h0:=h 0 (by decide)
 unfold World.cell? at h0
 rcases Nat.lt_or_ge 1 w.heap.size with hlt | hge
 ·exact hlt
 ·rw [show w.heap[(⟨1,0,none⟩:Addr).block]?=none from Array.getElem?_eq_none hge] at h0
  cases h0
theorem zad.below {w w':World} {n:Nat} (h:zad w) (hb:Below n w w') (hn:1 < n):zad w':=fun j hj=>(hb.cell (p:=⟨1,j,none⟩) hn).trans (h j hj)
theorem zad.grown {w w':World} (h:zad w) (hb:Below w.heap.size w w'):zad w':=h.below hb h.size
theorem name_to (k:Int) (w:World) (hT:zad w):Calls Tryz.prog 173 #[.int .i64 k] w fun e w'=>e=.returned (.string (kname k))∧w=w':=by
 by_cases h:k < 0∨9 < k
 ·have HK:=hid (kname_no (k:=k) (by omega))
  rcases h with h | h
  ·go_enter Tryz.func173,Tryz.ntmps173
   go_wp2_with fail
   go_ret
   exact⟨by rw [HK.out];rfl,rfl⟩
  ·have h2:¬ k < 0:=by omega
   have h3:(10:Int)≤k:=by omega
   go_enter Tryz.func173,Tryz.ntmps173
   go_wp2_with fail
   go_ret
   exact⟨by rw [HK.out];rfl,rfl⟩
 ·obtain⟨n,rfl⟩:∃ n:Nat,k=(n:Int):=⟨k.toNat,by omega⟩
  have h9:n < 10:=by omega
  have hc:=hT n h9
  obtain⟨s,hs⟩:∃ s,kname (n:Int)=s:=⟨_,rfl⟩
  rw [hs] at hc ⊢
  have h0:¬ (n:Int) < 0:=by omega
  have h10:¬ (10:Int)≤(n:Int):=by omega
  have h11:(n:Int) < 10:=by omega
  clear hs hT h
  go_enter Tryz.func173,Tryz.ntmps173
  go_wp2_with fail
  go_ret
  exact⟨rfl,rfl⟩
def zbr (k:Int):Bool:=decide (1≤k∧k≤9)
theorem kname_ne (k:Int):(kname k).toList.isEmpty = !zbr k:=by
 rw [ByteArray.toList_eq]
 by_cases h:k < 1∨9 < k
 ·rw [kname_no h,show zbr k=false from decide_eq_false (by omega)];decide
 ·have:k=1∨k=2∨k=3∨k=4∨k=5∨k=6∨k=7∨k=8∨k=9:=by omega
  rcases this with rfl | rfl | rfl | rfl | rfl | rfl | rfl | rfl | rfl <;> decide
theorem known_to (k:Int) (w:World) (hT:zad w):Calls Tryz.prog 158 #[.int .i64 k] w fun e w'=>e=.returned (.bool (zbr k))∧w=w':=by
 have HN:=hid (name_to k w hT)
 have hne:=kname_ne k
 clear hT
 obtain⟨s,hs⟩:∃ s,kname k=s:=⟨_,rfl⟩
 rw [hs] at HN hne
 clear hs
 cases hb:zbr k
 all_goals
  rw [hb] at hne
  simp only [Bool.not_false,Bool.not_true] at hne
  clear hb
  go_enter Tryz.func158,Tryz.ntmps158
  go_wp2_with (go_at_call 173;(with_reducible refine HN.out.mono ?_);rintro e w1 ⟨rfl,rfl⟩)
  go_ret
  exact⟨rfl,rfl⟩
theorem sums_to (k:Int) (w:World):Calls Tryz.prog 175 #[.int .i64 k] w fun e w'=>e=.returned (.bool (sumsB k))∧w=w':=by
 go_enter Tryz.func175,Tryz.ntmps175
 go_wp2_with fail
 all_goals go_ret
 all_goals exact⟨by simp_all [sumsB],rfl⟩
theorem scaled_to (k:Int) (w:World):Calls Tryz.prog 161 #[.int .i64 k] w fun e w'=>e=.returned (.bool (zbj k))∧w=w':=by
 have HS:=hid (sums_to k)
 obtain⟨b,hb⟩:∃ b,sumsB k=b:=⟨_,rfl⟩
 have HZ:Hid (zbj k=(b || k == 6 || k == 7)):=hid (by rw [← hb];rfl)
 rw [hb] at HS
 clear hb
 cases b
 all_goals
  go_enter Tryz.func161,Tryz.ntmps161
  go_wp2_with (go_at_call 175;(with_reducible refine (HS.out _).mono ?_);rintro e w1 ⟨rfl,rfl⟩)
  all_goals go_ret
  all_goals exact⟨by rw [HZ.out];simp_all,rfl⟩
end CKind
end
section
namespace CKind
open Plain CSat CShape CTensor CConv CDense CDepth
theorem valid_to (H W C e u0 u1 u2:Int) (b:Bool) (hb:zae H W C=b) (he:(if b=true then (0:Int) else 5)=e) (hv:(if b=true then (#[.int .i64 H,.int .i64 W,.int .i64 C]:Array Value) else #[.int .i64 0,.int .i64 0,.int .i64 0])=#[.int .i64 u0,.int .i64 u1,.int .i64 u2]) (w:World) :
  Calls Tryz.prog 166 #[.agg #[.int .i64 H,.int .i64 W,.int .i64 C]] w fun r w'=>r=.returned (.tuple #[.agg #[.int .i64 u0,.int .i64 u1,.int .i64 u2],.int .i64 e])∧Below w.heap.size w w':=by
 have HR:=hid (zal H W C b hb)
 have HB:Hid (Below w.heap.size w ((w.alloc (.cells #[.int .i64 H,.int .i64 W,.int .i64 C] 23)).alloc (.cells #[.int .i64 0,.int .i64 0,.int .i64 0] 23))):=hid (((Below.refl _ _).alloc (by first | exact le_refl _ | (simp;done) | (simp;omega) | omega) _).alloc (by first | exact le_refl _ | (simp;done) | (simp;omega) | omega) _)
 clear hb
 cases b
 all_goals
  simp only [if_true,if_false,Bool.false_eq_true] at he hv
  obtain⟨rfl,rfl,rfl⟩:=three_inj hv
  subst he
  clear hv
  go_enter Tryz.func166,Tryz.ntmps166
  go_wp2_with (go_at_call 69;(with_reducible refine (HR.out _).mono ?_);rintro e1 w1 ⟨rfl,hb⟩;obtain⟨hcc,hff⟩:=Kit.bcell hb;have hz1:w.heap.size+1 < w1.heap.size:=(by have:=hb.size;simp at this;omega);(replace HB:=hid (HB.out.trans (hb.mono HB.out.size)));clear hb)
 ·refine bodyPost_ret (Kit.zaa rfl _ _ (w.heap.size+1) 0 [.int .i64 0,.int .i64 0,.int .i64 0] _ rfl (Kit.zak (by go_cell) (by go_cell) (by go_cell)) Tryz.underlying23 rfl (by kernel_rfl)) rfl ?_
  exact⟨rfl,((HB.out.setCell (p:=⟨w.heap.size+1,0,none⟩) (Nat.le_succ _) _).setCell (p:=⟨w.heap.size+1,1,none⟩) (Nat.le_succ _) _).setCell (p:=⟨w.heap.size+1,2,none⟩) (Nat.le_succ _) _⟩
 ·refine bodyPost_ret (Kit.zaa rfl _ _ (w.heap.size+1) 0 [.int .i64 H,.int .i64 W,.int .i64 C] _ rfl (Kit.zak (by go_cell) (by go_cell) (by go_cell)) Tryz.underlying23 rfl (by kernel_rfl)) rfl ?_
  exact⟨rfl,((HB.out.setCell (p:=⟨w.heap.size+1,0,none⟩) (Nat.le_succ _) _).setCell (p:=⟨w.heap.size+1,1,none⟩) (Nat.le_succ _) _).setCell (p:=⟨w.heap.size+1,2,none⟩) (Nat.le_succ _) _⟩
theorem shape_in {H W C:Int} (h:zae H W C=true):1≤H∧H≤16∧1≤W∧W≤16:=by
 obtain⟨a1,a2,a3,a4,_,_,_⟩:=zah h
 exact⟨a1,a2,a3,a4⟩
theorem widened_to (H W C P e u0 u1 u2:Int) (he:(if zae H W C=false then (5:Int) else if P < 0∨4 < P then 2 else if zae (H+2 * P) (W+2 * P) C=false then 5 else 0)=e) (hv:(if e≠0 then (#[.int .i64 0,.int .i64 0,.int .i64 0]:Array Value) else #[.int .i64 (H+2 * P),.int .i64 (W+2 * P),.int .i64 C])=#[.int .i64 u0,.int .i64 u1,.int .i64 u2]) (w:World) :
  Calls Tryz.prog 167 #[.agg #[.int .i64 H,.int .i64 W,.int .i64 C],.int .i64 P] w fun r w'=>r=.returned (.tuple #[.agg #[.int .i64 u0,.int .i64 u1,.int .i64 u2],.int .i64 e])∧Below w.heap.size w w':=by
 have HB:Hid (Below w.heap.size w ((w.alloc (.cells #[.int .i64 H,.int .i64 W,.int .i64 C] 23)).alloc (.cells #[.int .i64 0,.int .i64 0,.int .i64 0] 23))):=hid (((Below.refl _ _).alloc (by first | exact le_refl _ | (simp;done) | (simp;omega) | omega) _).alloc (by first | exact le_refl _ | (simp;done) | (simp;omega) | omega) _)
 cases hs:zae H W C
 ·have HR:=hid (zal H W C false hs)
  rw [if_pos hs] at he
  subst he
  rw [if_pos (by decide)] at hv
  obtain⟨rfl,rfl,rfl⟩:=three_inj hv
  clear hv hs
  go_enter Tryz.func167,Tryz.ntmps167
  go_wp2_with (go_at_call 69;(with_reducible refine (HR.out _).mono ?_);rintro e1 w1 ⟨rfl,hb⟩;obtain⟨hcc,hff⟩:=Kit.bcell hb;have hz1:w.heap.size+1 < w1.heap.size:=(by have:=hb.size;simp at this;omega);(replace HB:=hid (HB.out.trans (hb.mono HB.out.size)));clear hb)
  refine bodyPost_ret (Kit.zaa rfl _ _ (w.heap.size+1) 0 [.int .i64 0,.int .i64 0,.int .i64 0] _ rfl (Kit.zak (by go_cell) (by go_cell) (by go_cell)) Tryz.underlying23 rfl (by kernel_rfl)) rfl ?_
  exact⟨rfl,((HB.out.setCell (p:=⟨w.heap.size+1,0,none⟩) (Nat.le_succ _) _).setCell (p:=⟨w.heap.size+1,1,none⟩) (Nat.le_succ _) _).setCell (p:=⟨w.heap.size+1,2,none⟩) (Nat.le_succ _) _⟩
 ·have HR:=hid (zal H W C true hs)
  obtain⟨a1,a2,a3,a4⟩:=shape_in hs
  rw [if_neg (by simp [hs])] at he
  clear hs
  by_cases hp:P < 0∨4 < P
  ·rw [if_pos hp] at he
   subst he
   rw [if_pos (by decide)] at hv
   obtain⟨rfl,rfl,rfl⟩:=three_inj hv
   clear hv a1 a2 a3 a4
   rcases (show P < 0∨(¬ P < 0∧4 < P) by omega) with hq | ⟨hq,hq2⟩
   all_goals
    clear hp
    go_enter Tryz.func167,Tryz.ntmps167
    go_wp2_with (go_at_call 69;(with_reducible refine (HR.out _).mono ?_);rintro e1 w1 ⟨rfl,hb⟩;obtain⟨hcc,hff⟩:=Kit.bcell hb;have hz1:w.heap.size+1 < w1.heap.size:=(by have:=hb.size;simp at this;omega);(replace HB:=hid (HB.out.trans (hb.mono HB.out.size)));clear hb)
    refine bodyPost_ret (Kit.zaa rfl _ _ (w.heap.size+1) 0 [.int .i64 0,.int .i64 0,.int .i64 0] _ rfl (Kit.zak (by go_cell) (by go_cell) (by go_cell)) Tryz.underlying23 rfl (by kernel_rfl)) rfl ?_
    exact⟨rfl,((HB.out.setCell (p:=⟨w.heap.size+1,0,none⟩) (Nat.le_succ _) _).setCell (p:=⟨w.heap.size+1,1,none⟩) (Nat.le_succ _) _).setCell (p:=⟨w.heap.size+1,2,none⟩) (Nat.le_succ _) _⟩
  ·rw [if_neg hp] at he
   have p1:¬ P < 0:=by omega
   have p2:¬ 4 < P:=by omega
   have i1:IntKind.i64.wrap (2 * P)=2 * P:=IntWalk.i64_in _ (by omega)
   have i2:IntKind.i64.wrap (H+2 * P)=H+2 * P:=IntWalk.i64_in _ (by omega)
   have i3:IntKind.i64.wrap (W+2 * P)=W+2 * P:=IntWalk.i64_in _ (by omega)
   clear hp a1 a2 a3 a4
   have hva:(if zae (H+2 * P) (W+2 * P) C=true then (0:Int) else 5)=e:=by
    rw [← he];cases zae (H+2 * P) (W+2 * P) C <;> rfl
   have hvv:(if zae (H+2 * P) (W+2 * P) C=true then (#[.int .i64 (H+2 * P),.int .i64 (W+2 * P),.int .i64 C]:Array Value) else #[.int .i64 0,.int .i64 0,.int .i64 0])=#[.int .i64 u0,.int .i64 u1,.int .i64 u2]:=by
    rw [← hv, ← he];cases zae (H+2 * P) (W+2 * P) C <;> simp
   have HV:=hid (valid_to (H+2 * P) (W+2 * P) C e u0 u1 u2 _ rfl hva hvv)
   clear he hv hva hvv
   go_enter Tryz.func167,Tryz.ntmps167
   go_wp2_with (first
    | (go_at_call 69;(with_reducible refine (HR.out _).mono ?_);rintro e1 w1 ⟨rfl,hb⟩;obtain⟨hcc,hff⟩:=Kit.bcell hb;have hz1:w.heap.size+1 < w1.heap.size:=(by have:=hb.size;simp at this;omega);(replace HB:=hid (HB.out.trans (hb.mono HB.out.size)));clear hb)
    | (go_at_call 166;(with_reducible refine (HV.out _).mono ?_);rintro e1 w2 ⟨rfl,hb⟩;obtain⟨hcd,hfd⟩:=Kit.bcell hb;have hz2:w.heap.size+1 < w2.heap.size:=(Nat.lt_of_lt_of_le hz1 hb.size);(replace HB:=hid (HB.out.trans (hb.mono HB.out.size)));clear hb))
   refine bodyPost_ret (Kit.zaa rfl _ _ (w.heap.size+1) 0 [.int .i64 u0,.int .i64 u1,.int .i64 u2] _ rfl (Kit.zak (by go_cell) (by go_cell) (by go_cell)) Tryz.underlying23 rfl (by kernel_rfl)) rfl ?_
   exact⟨rfl,((HB.out.setCell (p:=⟨w.heap.size+1,0,none⟩) (Nat.le_succ _) _).setCell (p:=⟨w.heap.size+1,1,none⟩) (Nat.le_succ _) _).setCell (p:=⟨w.heap.size+1,2,none⟩) (Nat.le_succ _) _⟩
end CKind
end
end Go.Proofs.YtfgdfignoakkaaaGreatDoor
