/- -/
import Derived.Test.YtahekhpeomcfjaaGreatDoorGJ29
open Go.Lib (hid)
open Nat (le_refl lt_of_succ_lt lt_succ_self)
set_option linter.unusedVariables false
set_option linter.unusedSimpArgs false
set_option maxRecDepth 100000
set_option maxHeartbeats 16000000
namespace Go.Proofs.YtahekhpeomcfjaaGreatDoor
namespace CConv
end CConv
namespace CFix
end CFix
namespace CSat
end CSat
namespace CShape
end CShape
namespace CTensor
end CTensor
open Go Go.ChangeShapes Go.WideShapes Go.ChangeAt Go.RowKit Go.Deep
section
namespace CDepth
open Go Go.ChangeShapes Go.WideShapes Go.ChangeAt Go.RowKit
open Plain CSat CShape CTensor CConv
def depthE (H W C K S P:Int) (nW nB:Nat):Int :=
 if zaz H W C K S P C≠0 then zaz H W C K S P C else if (nW:Int)=C * K * K∧nW≤16384∧(nB:Int)=C then 0 else 9
def depthS (H W C K S P:Int) (nW nB:Nat):Array Value :=
 if depthE H W C K S P nW nB=0 then #[.int .i64 (zae H K S P),.int .i64 (zae W K S P),.int .i64 C] else #[.int .i64 0,.int .i64 0,.int .i64 0]
theorem dep_err (H W C:Int) (x0 x1 x2 x8 x11 x12 x13 x14 x15 x16 x17 x18:Value) (K S P O Z:Int) (WA BA:Option Addr) (nW cW nB cB:Nat) (e:Int) (he:zaz H W C K S P C=e) (hn:e≠0) (w:World) :
  Calls Tryz.prog 76 #[.agg #[.int .i64 H,.int .i64 W,.int .i64 C],.agg #[x0,x1,x2,.int .i64 K,.int .i64 S,.int .i64 P,.int .i64 O,.int .i8 Z,x8,.slice WA nW cW,.slice BA nB cB,x11,x12,x13,x14,x15,x16,x17,x18]] w fun e' w'=>e'=.returned (.tuple #[.agg #[.int .i64 0,.int .i64 0,.int .i64 0],.int .i64 e])∧Below w.heap.size w w':=by
 have hS:za8 H W C K S P C=#[.int .i64 0,.int .i64 0,.int .i64 0]:=by unfold za8;rw [he,if_neg hn]
 have hnb:(e != 0)=true:=by simpa using hn
 have hnc:(e == 0)=false:=by simpa using hn
 have HE:=hid he
 have HS:=hid hS
 clear he hS
 go_enter Tryz.func76,Tryz.ntmps76
 go_wp2_with (go_at_call 78;(refine (zbf H W C K S P C e _ HE.out HS.out _).mono ?_);(rintro e' w1 ⟨rfl,hb⟩;obtain⟨hcc,hff⟩:=Kit.bcell hb;have hz:w.heap.size+3≤w1.heap.size:=(by have:=hb.size;simp at this;omega);have hz2:w.heap.size+2 < w1.heap.size:=(by omega);have hz1:w.heap.size+1 < w1.heap.size:=(by omega);have hz0:w.heap.size < w1.heap.size:=(by omega);have HB:=hid hb;clear hb))
 refine bodyPost_ret (Kit.zaa rfl _ _ (w.heap.size+2) 0 [.int .i64 0,.int .i64 0,.int .i64 0] _ rfl (Kit.zaq (by go_cell) (by go_cell) (by go_cell)) Tryz.underlying24 rfl (by kernel_rfl)) rfl ?_
 have hB1:Below w.heap.size w w1:=Below.trans ((((Below.refl _ _).alloc (le_refl _) _).alloc (by simp) _).alloc (by simp;omega) _) (HB.out.mono (by first | omega | (simp;done) | (simp;omega)))
 exact⟨rfl,by exact (((hB1.setCell (p:=⟨w.heap.size+2,0,none⟩) (by simp) _).setCell (p:=⟨w.heap.size+2,1,none⟩) (by simp) _).setCell (p:=⟨w.heap.size+2,2,none⟩) (by simp) _).alloc (by simp;omega) _⟩
theorem dep_w1 (H W C:Int) (x0 x1 x2 x8 x11 x12 x13 x14 x15 x16 x17 x18:Value) (K S P O Z:Int) (WA BA:Option Addr) (nW cW nB cB:Nat) (he:zaz H W C K S P C=0) (hw:(nW:Int)≠C * K * K) (w:World) :
  Calls Tryz.prog 76 #[.agg #[.int .i64 H,.int .i64 W,.int .i64 C],.agg #[x0,x1,x2,.int .i64 K,.int .i64 S,.int .i64 P,.int .i64 O,.int .i8 Z,x8,.slice WA nW cW,.slice BA nB cB,x11,x12,x13,x14,x15,x16,x17,x18]] w fun e' w'=>e'=.returned (.tuple #[.agg #[.int .i64 0,.int .i64 0,.int .i64 0],.int .i64 9])∧Below w.heap.size w w':=by
 obtain⟨hs,ha,hb2,hr1,hr2,hr⟩:=za9 he
 have hS:za8 H W C K S P C=#[.int .i64 (zae H K S P),.int .i64 (zae W K S P),.int .i64 C]:=by unfold za8;rw [he,if_pos rfl]
 obtain⟨-, -, -, -,c1,c2, -⟩:=zab hs
 obtain⟨-, -, -, -,o1,o2, -⟩:=zab hr
 obtain⟨-, -,k1,k2, -⟩:=za7 ha
 obtain⟨p1,p2,p5,p6, -, -⟩:=zbx c1 c2 k1 (by omega) o1 o2
 generalize zae H K S P=m at hS ⊢
 generalize zae W K S P=m2 at hS ⊢
 obtain⟨q,hq⟩:∃ q,C * K * K=q:=⟨_,rfl⟩
 rw [hq] at p5 p6
 rw [hq] at hw
 have hwb:((nW:Int) != q)=true:=by simpa using hw
 have hwc:((nW:Int) == q)=false:=by simpa using hw
 clear ha hb2 hr1 hr2 hr hs
 have HE:=hid he
 have HS:=hid hS
 clear he hS
 go_enter Tryz.func76,Tryz.ntmps76
 go_wp2_with (go_at_call 78;(refine (zbf H W C K S P C 0 _ HE.out HS.out _).mono ?_);(rintro e' w1 ⟨rfl,hb⟩;obtain⟨hcc,hff⟩:=Kit.bcell hb;have hz:w.heap.size+3≤w1.heap.size:=(by have:=hb.size;simp at this;omega);have hz2:w.heap.size+2 < w1.heap.size:=(by omega);have hz1:w.heap.size+1 < w1.heap.size:=(by omega);have hz0:w.heap.size < w1.heap.size:=(by omega);have HB:=hid hb;clear hb))
 refine bodyPost_ret (Kit.zaa rfl _ _ (w.heap.size+2) 0 [.int .i64 0,.int .i64 0,.int .i64 0] _ rfl (Kit.zaq (by go_cell) (by go_cell) (by go_cell)) Tryz.underlying24 rfl (by kernel_rfl)) rfl ?_
 have hB1:Below w.heap.size w w1:=Below.trans ((((Below.refl _ _).alloc (le_refl _) _).alloc (by simp) _).alloc (by simp;omega) _) (HB.out.mono (by first | omega | (simp;done) | (simp;omega)))
 exact⟨rfl,by exact (((hB1.setCell (p:=⟨w.heap.size+2,0,none⟩) (by simp) _).setCell (p:=⟨w.heap.size+2,1,none⟩) (by simp) _).setCell (p:=⟨w.heap.size+2,2,none⟩) (by simp) _).alloc (by simp;omega) _⟩
theorem dep_w2 (H W C:Int) (x0 x1 x2 x8 x11 x12 x13 x14 x15 x16 x17 x18:Value) (K S P O Z:Int) (WA BA:Option Addr) (nW cW nB cB:Nat) (he:zaz H W C K S P C=0) (hw:(nW:Int)=C * K * K) (hw2:16384 < nW) (w:World) :
  Calls Tryz.prog 76 #[.agg #[.int .i64 H,.int .i64 W,.int .i64 C],.agg #[x0,x1,x2,.int .i64 K,.int .i64 S,.int .i64 P,.int .i64 O,.int .i8 Z,x8,.slice WA nW cW,.slice BA nB cB,x11,x12,x13,x14,x15,x16,x17,x18]] w fun e' w'=>e'=.returned (.tuple #[.agg #[.int .i64 0,.int .i64 0,.int .i64 0],.int .i64 9])∧Below w.heap.size w w':=by
 obtain⟨hs,ha,hb2,hr1,hr2,hr⟩:=za9 he
 have hS:za8 H W C K S P C=#[.int .i64 (zae H K S P),.int .i64 (zae W K S P),.int .i64 C]:=by unfold za8;rw [he,if_pos rfl]
 obtain⟨-, -, -, -,c1,c2, -⟩:=zab hs
 obtain⟨-, -, -, -,o1,o2, -⟩:=zab hr
 obtain⟨-, -,k1,k2, -⟩:=za7 ha
 obtain⟨p1,p2,p5,p6, -, -⟩:=zbx c1 c2 k1 (by omega) o1 o2
 generalize zae H K S P=m at hS ⊢
 generalize zae W K S P=m2 at hS ⊢
 obtain⟨q,hq⟩:∃ q,C * K * K=q:=⟨_,rfl⟩
 rw [hq] at p5 p6
 rw [hq] at hw
 subst hw
 have hw3:(16384:Int) < (nW:Int):=by omega
 clear ha hb2 hr1 hr2 hr hs
 have HE:=hid he
 have HS:=hid hS
 clear he hS
 go_enter Tryz.func76,Tryz.ntmps76
 go_wp2_with (go_at_call 78;(refine (zbf H W C K S P C 0 _ HE.out HS.out _).mono ?_);(rintro e' w1 ⟨rfl,hb⟩;obtain⟨hcc,hff⟩:=Kit.bcell hb;have hz:w.heap.size+3≤w1.heap.size:=(by have:=hb.size;simp at this;omega);have hz2:w.heap.size+2 < w1.heap.size:=(by omega);have hz1:w.heap.size+1 < w1.heap.size:=(by omega);have hz0:w.heap.size < w1.heap.size:=(by omega);have HB:=hid hb;clear hb))
 refine bodyPost_ret (Kit.zaa rfl _ _ (w.heap.size+2) 0 [.int .i64 0,.int .i64 0,.int .i64 0] _ rfl (Kit.zaq (by go_cell) (by go_cell) (by go_cell)) Tryz.underlying24 rfl (by kernel_rfl)) rfl ?_
 have hB1:Below w.heap.size w w1:=Below.trans ((((Below.refl _ _).alloc (le_refl _) _).alloc (by simp) _).alloc (by simp;omega) _) (HB.out.mono (by first | omega | (simp;done) | (simp;omega)))
 exact⟨rfl,by exact (((hB1.setCell (p:=⟨w.heap.size+2,0,none⟩) (by simp) _).setCell (p:=⟨w.heap.size+2,1,none⟩) (by simp) _).setCell (p:=⟨w.heap.size+2,2,none⟩) (by simp) _).alloc (by simp;omega) _⟩
theorem dep_w3 (H W C:Int) (x0 x1 x2 x8 x11 x12 x13 x14 x15 x16 x17 x18:Value) (K S P O Z:Int) (WA BA:Option Addr) (nW cW nB cB:Nat) (he:zaz H W C K S P C=0) (hw:(nW:Int)=C * K * K) (hw2:nW≤16384) (hb:(nB:Int)≠C) (w:World) :
  Calls Tryz.prog 76 #[.agg #[.int .i64 H,.int .i64 W,.int .i64 C],.agg #[x0,x1,x2,.int .i64 K,.int .i64 S,.int .i64 P,.int .i64 O,.int .i8 Z,x8,.slice WA nW cW,.slice BA nB cB,x11,x12,x13,x14,x15,x16,x17,x18]] w fun e' w'=>e'=.returned (.tuple #[.agg #[.int .i64 0,.int .i64 0,.int .i64 0],.int .i64 9])∧Below w.heap.size w w':=by
 obtain⟨hs,ha,hb2,hr1,hr2,hr⟩:=za9 he
 have hS:za8 H W C K S P C=#[.int .i64 (zae H K S P),.int .i64 (zae W K S P),.int .i64 C]:=by unfold za8;rw [he,if_pos rfl]
 obtain⟨-, -, -, -,c1,c2, -⟩:=zab hs
 obtain⟨-, -, -, -,o1,o2, -⟩:=zab hr
 obtain⟨-, -,k1,k2, -⟩:=za7 ha
 obtain⟨p1,p2,p5,p6, -, -⟩:=zbx c1 c2 k1 (by omega) o1 o2
 generalize zae H K S P=m at hS ⊢
 generalize zae W K S P=m2 at hS ⊢
 obtain⟨q,hq⟩:∃ q,C * K * K=q:=⟨_,rfl⟩
 rw [hq] at p5 p6
 rw [hq] at hw
 subst hw
 have hw3:(nW:Int)≤16384:=by omega
 have hbb:((nB:Int) != C)=true:=by simpa using hb
 have hbc:((nB:Int) == C)=false:=by simpa using hb
 clear ha hb2 hr1 hr2 hr hs
 have HE:=hid he
 have HS:=hid hS
 clear he hS
 go_enter Tryz.func76,Tryz.ntmps76
 go_wp2_with (go_at_call 78;(refine (zbf H W C K S P C 0 _ HE.out HS.out _).mono ?_);(rintro e' w1 ⟨rfl,hb⟩;obtain⟨hcc,hff⟩:=Kit.bcell hb;have hz:w.heap.size+3≤w1.heap.size:=(by have:=hb.size;simp at this;omega);have hz2:w.heap.size+2 < w1.heap.size:=(by omega);have hz1:w.heap.size+1 < w1.heap.size:=(by omega);have hz0:w.heap.size < w1.heap.size:=(by omega);have HB:=hid hb;clear hb))
 refine bodyPost_ret (Kit.zaa rfl _ _ (w.heap.size+2) 0 [.int .i64 0,.int .i64 0,.int .i64 0] _ rfl (Kit.zaq (by go_cell) (by go_cell) (by go_cell)) Tryz.underlying24 rfl (by kernel_rfl)) rfl ?_
 have hB1:Below w.heap.size w w1:=Below.trans ((((Below.refl _ _).alloc (le_refl _) _).alloc (by simp) _).alloc (by simp;omega) _) (HB.out.mono (by first | omega | (simp;done) | (simp;omega)))
 exact⟨rfl,by exact (((hB1.setCell (p:=⟨w.heap.size+2,0,none⟩) (by simp) _).setCell (p:=⟨w.heap.size+2,1,none⟩) (by simp) _).setCell (p:=⟨w.heap.size+2,2,none⟩) (by simp) _).alloc (by simp;omega) _⟩
theorem dep_ok (H W C:Int) (x0 x1 x2 x8 x11 x12 x13 x14 x15 x16 x17 x18:Value) (K S P O Z:Int) (WA BA:Option Addr) (nW cW nB cB:Nat) (he:zaz H W C K S P C=0) (hw:(nW:Int)=C * K * K) (hw2:nW≤16384) (hb:(nB:Int)=C) (w:World) :
  Calls Tryz.prog 76 #[.agg #[.int .i64 H,.int .i64 W,.int .i64 C],.agg #[x0,x1,x2,.int .i64 K,.int .i64 S,.int .i64 P,.int .i64 O,.int .i8 Z,x8,.slice WA nW cW,.slice BA nB cB,x11,x12,x13,x14,x15,x16,x17,x18]] w fun e' w'=>e'=.returned (.tuple #[.agg #[.int .i64 (zae H K S P),.int .i64 (zae W K S P),.int .i64 C],.int .i64 0])∧Below w.heap.size w w':=by
 obtain⟨hs,ha,hb2,hr1,hr2,hr⟩:=za9 he
 have hS:za8 H W C K S P C=#[.int .i64 (zae H K S P),.int .i64 (zae W K S P),.int .i64 C]:=by unfold za8;rw [he,if_pos rfl]
 obtain⟨-, -, -, -,c1,c2, -⟩:=zab hs
 obtain⟨-, -, -, -,o1,o2, -⟩:=zab hr
 obtain⟨-, -,k1,k2, -⟩:=za7 ha
 obtain⟨p1,p2,p5,p6, -, -⟩:=zbx c1 c2 k1 (by omega) o1 o2
 generalize zae H K S P=m at hS ⊢
 generalize zae W K S P=m2 at hS ⊢
 obtain⟨q,hq⟩:∃ q,C * K * K=q:=⟨_,rfl⟩
 rw [hq] at p5 p6
 rw [hq] at hw
 subst hw
 have hw3:(nW:Int)≤16384:=by omega
 have hbb:((nB:Int) != C)=false:=by simpa using hb
 clear ha hb2 hr1 hr2 hr hs
 have HE:=hid he
 have HS:=hid hS
 clear he hS
 go_enter Tryz.func76,Tryz.ntmps76
 go_wp2_with (go_at_call 78;(refine (zbf H W C K S P C 0 _ HE.out HS.out _).mono ?_);(rintro e' w1 ⟨rfl,hb⟩;obtain⟨hcc,hff⟩:=Kit.bcell hb;have hz:w.heap.size+3≤w1.heap.size:=(by have:=hb.size;simp at this;omega);have hz2:w.heap.size+2 < w1.heap.size:=(by omega);have hz1:w.heap.size+1 < w1.heap.size:=(by omega);have hz0:w.heap.size < w1.heap.size:=(by omega);have HB:=hid hb;clear hb))
 refine bodyPost_ret (Kit.zaa rfl _ _ (w.heap.size+2) 0 [.int .i64 m,.int .i64 m2,.int .i64 C] _ rfl (Kit.zaq (by go_cell) (by go_cell) (by go_cell)) Tryz.underlying24 rfl (by kernel_rfl)) rfl ?_
 have hB1:Below w.heap.size w w1:=Below.trans ((((Below.refl _ _).alloc (le_refl _) _).alloc (by simp) _).alloc (by simp;omega) _) (HB.out.mono (by first | omega | (simp;done) | (simp;omega)))
 exact⟨rfl,by exact (((hB1.setCell (p:=⟨w.heap.size+2,0,none⟩) (by simp) _).setCell (p:=⟨w.heap.size+2,1,none⟩) (by simp) _).setCell (p:=⟨w.heap.size+2,2,none⟩) (by simp) _).alloc (by simp;omega) _⟩
theorem dep_to (H W C:Int) (x0 x1 x2 x8 x11 x12 x13 x14 x15 x16 x17 x18:Value) (K S P O Z:Int) (WA BA:Option Addr) (nW cW nB cB:Nat) (e:Int) (v:Array Value) (he:depthE H W C K S P nW nB=e) (hv:depthS H W C K S P nW nB=v) (w:World) :
  Calls Tryz.prog 76 #[.agg #[.int .i64 H,.int .i64 W,.int .i64 C],.agg #[x0,x1,x2,.int .i64 K,.int .i64 S,.int .i64 P,.int .i64 O,.int .i8 Z,x8,.slice WA nW cW,.slice BA nB cB,x11,x12,x13,x14,x15,x16,x17,x18]] w fun e' w'=>e'=.returned (.tuple #[.agg v,.int .i64 e])∧Below w.heap.size w w':=by
 subst hv
 unfold depthS
 rw [he]
 unfold depthE at he
 by_cases h1:zaz H W C K S P C≠0
 ·rw [if_pos h1] at he
  rw [if_neg (by rw [← he];exact h1)]
  exact dep_err H W C x0 x1 x2 x8 x11 x12 x13 x14 x15 x16 x17 x18 K S P O Z WA BA nW cW nB cB e he (by rw [← he];exact h1) w
 ·have h0:zaz H W C K S P C=0:=by omega
  rw [if_neg h1] at he
  by_cases h2:(nW:Int)=C * K * K∧nW≤16384∧(nB:Int)=C
  ·rw [if_pos h2] at he
   subst he
   rw [if_pos rfl]
   exact dep_ok H W C x0 x1 x2 x8 x11 x12 x13 x14 x15 x16 x17 x18 K S P O Z WA BA nW cW nB cB h0 h2.1 h2.2.1 h2.2.2 w
  ·rw [if_neg h2] at he
   subst he
   rw [if_neg (by decide)]
   by_cases h3:(nW:Int)=C * K * K
   ·by_cases h4:nW≤16384
    ·exact dep_w3 H W C x0 x1 x2 x8 x11 x12 x13 x14 x15 x16 x17 x18 K S P O Z WA BA nW cW nB cB h0 h3 h4 (fun h5=>h2 ⟨h3,h4,h5⟩) w
    ·exact dep_w2 H W C x0 x1 x2 x8 x11 x12 x13 x14 x15 x16 x17 x18 K S P O Z WA BA nW cW nB cB h0 h3 (by omega) w
   ·exact dep_w1 H W C x0 x1 x2 x8 x11 x12 x13 x14 x15 x16 x17 x18 K S P O Z WA BA nW cW nB cB h0 h3 w
end CDepth
end
section
namespace CLower
open Go Go.ChangeShapes Go.WideShapes Go.ChangeAt Go.RowKit Go.Shelf Round
open Plain CSat CShape CTensor CConv
theorem lOf_good (H W C:Int) (A:Option Addr) (zs:List Int) (n c:Nat) (hn:zs.length=n) (ht:tensB H W C n=true) (hz:I8b zs) (x0 x1 x2 x8 x11 x12 x13 x14 x15 x16 x17 x18:Value) (K S P O Z:Int) (WA BA:Option Addr) (nW cW nB cB:Nat) (ws:List Int) (hws:ws.length=nW) (hwc:nW≤cW) (hwm:cW≤maxLen) (hwb:I8b ws) (bs:List Int) (hbs:bs.length=nB)
  (he:convE H W C K S P O nW nB=0) (a b oo d kk:Nat) (ha:zae H K S P=(a:Int)) (hb:zae W K S P=(b:Int)) (hO:O=(oo:Int)) (hd:C=(d:Int)) (hk:K=(kk:Int)) (N:Nat) (hN:a * b * oo=N) (z1 : -128≤Z) (z2:Z≤127)
  (w:World) (hr:Kit.Rd w w.heap.size A (I8s zs)) (hrw:Kit.Rd w w.heap.size WA (I8s ws)) (hrb:Kit.Rd w w.heap.size BA (I32v bs)) :
  Calls Tryz.prog 126 #[.agg #[.int .i64 H,.int .i64 W,.int .i64 C,.slice A n c],.agg #[x0,x1,x2,.int .i64 K,.int .i64 S,.int .i64 P,.int .i64 O,.int .i8 Z,x8,.slice WA nW cW,.slice BA nB cB,x11,x12,x13,x14,x15,x16,x17,x18]] w (MadeA w (a:Int) (b:Int) O N (rowL (gridF b oo (sumF zs ws bs H W C S P d kk Z)) N) (.int .i64 0)):=by
 subst hO
 exact lOf_yes H W C A zs n c hn ht hz x0 x1 x2 x8 x11 x12 x13 x14 x15 x16 x17 x18 K S P Z WA BA nW cW nB cB ws hws hwc hwm hwb bs hbs oo he a b d kk ha hb hd hk N hN z1 z2 w hr hrw hrb
end CLower
end
section
namespace CJoin
open Plain CSat CFix CShape CTensor CConv
theorem oneZ_bd {x y Z Y m1 s1 z1 m2 z2 s2 lo hi:Int} (h:NBd Z Y m1 z1 m2 z2 lo hi) : -128≤oneZ x y Z Y m1 s1 z1 m2 s2 lo hi∧oneZ x y Z Y m1 s1 z1 m2 s2 lo hi≤127:=by
 obtain⟨-, -, -, -, -, -,⟨hl1,hl2⟩,⟨hh1,hh2⟩⟩:=h
 unfold oneZ
 split
 ·exact clampZ_bd _ _ _ hl1 hl2 hh1 hh2
 ·omega
end CJoin
end
section
namespace Round
open Go
section
variable {l n:Nat} {P:Program} {ops:Array Oper} {Q:Exit→Act→World→Prop} {md:Region.Mode}
theorem rows_wide {row:String} {args:Array Value} {w:World} {R:Value→World→Prop} (h:Rows P row args w R):RowsIn (Fence.wide.inRound l) n P row args w R:=fun c cs _=>by
 obtain⟨v,w',r,s⟩:=h c cs
 exact⟨v,w',r,stepsIn_wide.2 s⟩
theorem oper_wide {o:Oper} {a:Act} {w:World} {K K':Act→World→Prop} (hd:∀ c,o.op≠.defer c) (hK:∀ a w,K a w→K' a w) (h:o.wp P a w K (Norm Q)):o.wpIn (Fence.wide.inRound l) n P a w K' Q:=by
 refine⟨fun f _=>trivial,?_⟩
 rw [Oper.semAt_eq _ _ _ hd]
 unfold Oper.wp at h
 generalize (execOp a.eval o).run P w=r at h
 cases r with
 | ok x w' =>
   cases x with
   | value v=>exact hK _ _ h
   | skip=>exact hK _ _ h
   | defer d=>exact hK _ _ h
   | enter f args =>
     refine⟨fun h=>by simp [Fence.wide] at h,?_⟩
     refine (CallsIn.inRound l (callsIn_wide.2 h)).mono ?_
     intro e w'' he
     cases e with
     | returned v=>exact hK _ _ he
     | panicked c=>exact he.elim
     | outgrown=>obtain⟨a,w,h⟩:=he;exact h.elim
   | row row args =>
     refine⟨fun h=>by simp [Fence.wide] at h,?_⟩
     refine RowsIn.mono (rows_wide h) ?_
     intro v w'' he
     exact hK _ _ he
   | _=>exact (h:False).elim
 | halt x w' =>
   cases x <;> first | exact h.elim | exact (h:False).elim
theorem zb4 (hst:∀ (i:Nat) (o:Oper),ops[i]?=some o→∀ c,o.op≠.defer c):∀ (fuel:Nat) (listed:Array Bool) (a:Act) (w:World),
  wpAny P md ops (Norm Q) fuel listed a w→wpAnyIn (Fence.wide.inRound l) n P md ops Q fuel listed a w
 | 0,_,_,_,h=>h
 | fuel+1,listed,a,w,h=>by
   refine⟨h.1,fun i hi=>?_⟩
   have hop:=h.2 i hi
   unfold wpOp at hop
   unfold wpOpIn
   cases ho:ops[i]? with
   | none =>
     simp only [ho] at hop
     exact zb4 hst fuel _ _ _ hop
   | some o =>
     simp only [ho] at hop
     have h1:=hst i o ho
     by_cases hw:Region.wanted o (yielded ops a.tmps)=true
     ·simp only [hw,if_true] at hop ⊢
      rcases hop with hop | ⟨_,_,_,hF⟩
      ·exact oper_wide h1 (fun a' w' h'=>zb4 hst fuel _ _ _ h') hop
      ·exact hF.elim
     ·simp only [hw,if_false,Bool.false_eq_true] at hop ⊢
      exact⟨fun f _=>trivial,zb4 hst fuel _ _ _ hop⟩
theorem no_defer {lo:List Oper} (h:lo.all (fun o=>match o.op with | .defer _=>false | _=>true)=true):∀ (i:Nat) (o:Oper),lo.toArray[i]?=some o→∀ c,o.op≠.defer c:=fun i o ho c e=>by
 have:=List.all_eq_true.1 h o (List.mem_of_getElem? (by simpa using ho))
 rw [e] at this
 cases this
theorem region_held {S:World→Prop} {id:Nat} {lo:List Oper} {a:Act} {w:World} (hm:P.follows .mixedOrders=true) (hst:lo.all (fun o=>match o.op with | .defer _=>false | _=>true)=true) (hS:S w.drew)
  (h:S w.drew→wpAnyH P .any lo.toArray (Norm Q) S lo.toArray.size (Array.replicate lo.toArray.size false) a w.drew):(Code.region id lo.toArray true).wpIn (Fence.wide.inRound l) n P Q a w :=
 wpIn_region_any hm (zb4 (no_defer hst) _ _ _ _ (wpAny_of_held _ _ _ _ (h hS)))
end
end Round
end
section
namespace CAct
open Plain CSat CFix CShape CTensor CConv
theorem aof_yes (H W C:Int) (A:Option Addr) (n c:Nat) (zs:List Int) (hn:zs.length=n) (hn6:n≤1000000) (hz:I8b zs) (x0 x1 x2:Value) (K S P O Z Y:Int) (WA BA:Option Addr) (nW cW nB cB:Nat) (m1 s1 z1 m2 s2 z2 lo hi:Int) (hnb:NBd Z Y m1 z1 m2 z2 lo hi) (h1:tensB H W C n=true) (hq:za0 m1 s1=true) (F:Nat→Int) (hF:∀ k,F k=heldZ (zs.getD k 0 - Z) m1 s1 z1 lo hi) (w:World) (hr:Kit.Rd w w.heap.size A (I8s zs)) :
  Calls Tryz.prog 47 #[.agg #[.int .i64 H,.int .i64 W,.int .i64 C,.slice A n c],.agg #[x0,x1,x2,.int .i64 K,.int .i64 S,.int .i64 P,.int .i64 O,.int .i8 Z,.int .i8 Y,.slice WA nW cW,.slice BA nB cB,.int .i32 m1,.int .i64 s1,.int .i8 z1,.int .i32 m2,.int .i64 s2,.int .i8 z2,.int .i8 lo,.int .i8 hi]] w (MadeT w H W C n (rowL F n) (.int .i64 0)):=by
 have HT1:=hid h1
 have HQ:=hid hq
 have HN:=hid hn
 have HZ:=hid hz
 have HNB:=hid hnb
 have HF:=hid hF
 have HRA:=hid hr
 clear h1 hq hn hz hnb hF hr
 go_enter Tryz.func47,Tryz.ntmps47
 go_wp2_with (first
 | (go_at_call 13
    have hal:Below w.heap.size w (((w.alloc (.cells #[.int .i64 H,.int .i64 W,.int .i64 C,.slice A n c] 27)).alloc (.cells #[x0,x1,x2,.int .i64 K,.int .i64 S,.int .i64 P,.int .i64 O,.int .i8 Z,.int .i8 Y,.slice WA nW cW,.slice BA nB cB,.int .i32 m1,.int .i64 s1,.int .i8 z1,.int .i32 m2,.int .i64 s2,.int .i8 z2,.int .i8 lo,.int .i8 hi] 44)).alloc (.cells #[.int .i64 0,.int .i64 0,.int .i64 0,.slice none 0 0] 27)):=(((Below.refl _ _).alloc (by first | exact le_refl _ | (simp;done) | (simp;omega)) _).alloc (by first | exact le_refl _ | (simp;done) | (simp;omega)) _).alloc (by first | exact le_refl _ | (simp;done) | (simp;omega)) _
    refine (zac H W C A n c true HT1.out _).mono ?_
    rintro e w1 ⟨rfl,hb⟩
    have hh:Below w.heap.size w w1:=hal.trans (hb.mono hal.size)
    have qTA:=(zbd H W C A n c 27) w
    try simp only [World.size_alloc] at qTA
    have TA:=hid ((qTA.below (B':=w.heap.size+1) (by omega) ((((Below.refl _ _).alloc (by first | exact le_refl _ | (simp;done) | (simp;omega)) _).alloc (by first | exact le_refl _ | (simp;done) | (simp;omega)) _).mono (by simp))).below (by first | (simp;done) | (simp;omega)) hb)
    have yTA:w.heap.size < w1.heap.size:=by have:=hb.size;simp at this;omega
    clear qTA
    have qTN:=(zai.new x0 x1 x2 (.int .i8 Y) (.int .i32 m1) (.int .i64 s1) (.int .i8 z1) (.int .i32 m2) (.int .i64 s2) (.int .i8 z2) (.int .i8 lo) (.int .i8 hi) K S P O Z WA BA nW cW nB cB 44) (w.alloc (.cells #[.int .i64 H,.int .i64 W,.int .i64 C,.slice A n c] 27))
    try simp only [World.size_alloc] at qTN
    have TN:=hid ((qTN.below (B':=w.heap.size+2) (by omega) (((Below.refl _ _).alloc (by first | exact le_refl _ | (simp;done) | (simp;omega)) _).mono (by simp))).below (by first | (simp;done) | (simp;omega)) hb)
    have yTN:w.heap.size+1 < w1.heap.size:=by have:=hb.size;simp at this;omega
    clear qTN
    have qFR:=(za5 27) ((w.alloc (.cells #[.int .i64 H,.int .i64 W,.int .i64 C,.slice A n c] 27)).alloc (.cells #[x0,x1,x2,.int .i64 K,.int .i64 S,.int .i64 P,.int .i64 O,.int .i8 Z,.int .i8 Y,.slice WA nW cW,.slice BA nB cB,.int .i32 m1,.int .i64 s1,.int .i8 z1,.int .i32 m2,.int .i64 s2,.int .i8 z2,.int .i8 lo,.int .i8 hi] 44))
    try simp only [World.size_alloc] at qFR
    have FR:=hid (qFR.below (by first | (simp;done) | (simp;omega)) hb)
    have yFR:w.heap.size+2 < w1.heap.size:=by have:=hb.size;simp at this;omega
    clear qFR
    replace HRA:=hid ((HRA.out.below hh).more hh.size)
    have HBW:Hid (Below w.heap.size w w1):=hid hh
    obtain⟨tap0,tap1,tap2,tap3⟩:=TA.out
    have n11:=TN.out.at 11 _ rfl
    have n12:=TN.out.at 12 _ rfl
    have n13:=TN.out.at 13 _ rfl
    clear hb hh hal)
 | (go_at_call 74
    have hal:Below w1.heap.size w1 w1:=Below.refl _ _
    refine (zbp _ _ _ _).mono ?_
    rintro e w2 ⟨rfl,hb⟩
    have hh:Below w1.heap.size w1 w2:=hal.trans (hb.mono hal.size)
    replace TA:=hid (TA.out.below yTA hh)
    replace yTA:=Nat.lt_of_lt_of_le yTA hh.size
    replace TN:=hid (TN.out.below yTN hh)
    replace yTN:=Nat.lt_of_lt_of_le yTN hh.size
    replace FR:=hid (FR.out.below yFR hh)
    replace yFR:=Nat.lt_of_lt_of_le yFR hh.size
    replace HRA:=hid ((HRA.out.below hh).more hh.size)
    replace HBW:=hid (HBW.out.trans (hh.mono HBW.out.size))
    clear tap0 tap1 tap2 tap3 n11 n12 n13
    rw [HQ.out]
    obtain⟨tap0,tap1,tap2,tap3⟩:=TA.out
    have n11:=TN.out.at 11 _ rfl
    have n12:=TN.out.at 12 _ rfl
    have n13:=TN.out.at 13 _ rfl
    clear hb hh hal)
 | (go_at_call 88
    have HBW2:=HBW
    have YFR2:=hid yFR
    have hal:Below w2.heap.size w2 w2:=Below.refl _ _
    refine (each_of H W C A zs n c HN.out hn6 HZ.out (w.heap.size+1) x0 x1 x2 K S P O Z Y WA BA nW cW nB cB m1 s1 z1 m2 s2 z2 lo hi HNB.out F HF.out _ TN.out yTN HRA.out).mono ?_
    rintro e w3 ⟨v3,rfl,ho3,hb⟩
    have hh:Below w2.heap.size w2 w3:=hal.trans (hb.mono hal.size)
    replace TA:=hid (TA.out.below yTA hh)
    replace yTA:=Nat.lt_of_lt_of_le yTA hh.size
    replace TN:=hid (TN.out.below yTN hh)
    replace yTN:=Nat.lt_of_lt_of_le yTN hh.size
    replace FR:=hid (FR.out.below yFR hh)
    replace yFR:=Nat.lt_of_lt_of_le yFR hh.size
    replace HRA:=hid ((HRA.out.below hh).more hh.size)
    replace HBW:=hid (HBW.out.trans (hh.mono HBW.out.size))
    clear tap0 tap1 tap2 tap3 n11 n12 n13
    obtain⟨⟨z0,z1,z2,z3⟩,z4,z5,z6,z7⟩:=FR.out
    have HGE:Hid (w.heap.size≤w2.heap.size):=hid HBW2.out.size
    have HGT:Hid (w.heap.size+2 < w2.heap.size):=hid YFR2.out
    obtain⟨A3,c3,rfl, -, -, -⟩:=Kit.zam ho3
    have HO3:=hid ho3
    clear ho3
    obtain⟨tap0,tap1,tap2,tap3⟩:=TA.out
    have n11:=TN.out.at 11 _ rfl
    have n12:=TN.out.at 12 _ rfl
    have n13:=TN.out.at 13 _ rfl
    clear hb hh hal))
 refine bodyPost_ret (Kit.zaa rfl _ _ (w.heap.size+2) 0 [.int .i64 H,.int .i64 W,.int .i64 C,.slice A3 n c3] _ rfl (zan (by go_cell) (by go_cell) (by go_cell) (by go_cell)) Tryz.underlying27 rfl (by kernel_rfl)) rfl ?_
 refine⟨_,rfl,Kit.zah (za3 HO3.out ?_) ?_,?_⟩
 any_goals (first | exact HGE.out | exact HGT.out | omega | (simp;done) | (simp;omega))
 exact (((HBW.out.setCell (p:=⟨w.heap.size+2,0,none⟩) (by simp) _).setCell (p:=⟨w.heap.size+2,1,none⟩) (by simp) _).setCell (p:=⟨w.heap.size+2,2,none⟩) (by simp) _).setCell (p:=⟨w.heap.size+2,3,none⟩) (by simp) _
theorem i8b_of {zs:List Int} (h:∀ n∈zs,(Lit.int .i8 n).wf=true):I8b zs:=fun q=>by
 rw [List.getD_eq_getElem?_getD]
 cases hq:zs[q]? with
 | none=>simp
 | some x =>
   have hx:=h x (List.mem_of_getElem? hq)
   have ⟨a,b⟩ : -128≤x∧x≤127:=by simpa [Lit.wf,IntKind.min,IntKind.max,IntKind.signed,IntKind.bits] using hx
   simpa using ⟨a,b⟩
end CAct
end
end Go.Proofs.YtahekhpeomcfjaaGreatDoor
