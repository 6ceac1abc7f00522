/- -/
import Derived.Test.YtfgdfignoakkaaaGreatDoorGBT3
open Go.Lib (hid)
open Nat (le_refl lt_of_succ_lt lt_succ_self)
set_option linter.unusedVariables false
set_option linter.unusedSimpArgs false
set_option maxRecDepth 100000
set_option maxHeartbeats 16000000
namespace Go.Proofs.YtfgdfignoakkaaaGreatDoor
namespace CSat
end CSat
namespace CShape
end CShape
namespace CTensor
end CTensor
open Go Go.ChangeShapes Go.WideShapes Go.ChangeAt Go.RowKit
section
namespace CConv
open Plain CSat CShape CTensor
def convE (H W C K S P O:Int) (nW nB:Nat):Int :=
 if zaz H W C K S P O≠0 then zaz H W C K S P O else if (nW:Int)=O * K * K * C∧nW≤16384∧(nB:Int)=O then 0 else 9
def convS (H W C K S P O:Int) (nW nB:Nat):Array Value :=
 if convE H W C K S P O nW nB=0 then #[.int .i64 (zai H K S P),.int .i64 (zai W K S P),.int .i64 O] else #[.int .i64 0,.int .i64 0,.int .i64 0]
theorem zb0 {H W C K S P O:Int} (h:zaz H W C K S P O=0) :
  zae H W C=true∧argsB H K S P=true∧argsB W K S P=true∧0≤H+2 * P - K∧0≤W+2 * P - K∧zae (zai H K S P) (zai W K S P) O=true:=by
 unfold zaz at h
 by_cases h1:zae H W C=false
 ·rw [if_pos h1] at h;omega
 ·rw [if_neg h1] at h
  by_cases h2:zbd H K S P≠0
  ·rw [if_pos h2] at h;exact absurd h h2
  ·rw [if_neg h2] at h
   by_cases h3:zbd W K S P≠0
   ·rw [if_pos h3] at h;exact absurd h h3
   ·rw [if_neg h3] at h
    by_cases h4:zae (zai H K S P) (zai W K S P) O=false
    ·rw [if_neg (by simp [h4])] at h;omega
    ·have e1:zbd H K S P=0:=by omega
     have e2:zbd W K S P=0:=by omega
     unfold zbd at e1 e2
     have a1:argsB H K S P=true:=by
      cases h:argsB H K S P
      ·rw [h] at e1;simp at e1
      ·rfl
     have a2:argsB W K S P=true:=by
      cases h:argsB W K S P
      ·rw [h] at e2;simp at e2
      ·rfl
     rw [if_pos a1] at e1
     rw [if_pos a2] at e2
     refine⟨by simpa using h1,a1,a2,?_,?_,by simpa using h4⟩
     ·by_cases h:H+2 * P - K < 0
      ·rw [if_pos h] at e1;omega
      ·omega
     ·by_cases h:W+2 * P - K < 0
      ·rw [if_pos h] at e2;omega
      ·omega
theorem zbe {C K O:Int} (h1:1≤C) (h2:C≤1024) (h3:1≤K) (h4:K≤7) (h5:1≤O) (h6:O≤1024) :
  0≤O * K∧O * K≤7168∧0≤O * K * K∧O * K * K≤50176∧0≤O * K * K * C∧O * K * K * C≤51380224:=by
 have e1:0≤O * K:=Int.mul_nonneg (by omega) (by omega)
 have e2:O * K≤1024 * 7:=Int.mul_le_mul h6 h4 (by omega) (by omega)
 have e3:0≤O * K * K:=Int.mul_nonneg e1 (by omega)
 have e4:O * K * K≤7168 * 7:=Int.mul_le_mul (by omega) h4 (by omega) (by omega)
 have e5:0≤O * K * K * C:=Int.mul_nonneg e3 (by omega)
 have e6:O * K * K * C≤50176 * 1024:=Int.mul_le_mul (by omega) h2 (by omega) (by omega)
 omega
theorem conv_err (H W C:Int) (x0 x1 x2 x8 x11 x12 x13 x14 x15 x16 x17 x18:Value) (K S P O Z:Int) (WA BA:Option Addr) (nW cW nB cB:Nat) (e:Int) (he:zaz H W C K S P O=e) (hn:e≠0) (w:World) :
  Calls Tryz.prog 163 #[.agg #[.int .i64 H,.int .i64 W,.int .i64 C],.agg #[x0,x1,x2,.int .i64 K,.int .i64 S,.int .i64 P,.int .i64 O,.int .i8 Z,x8,.slice WA nW cW,.slice BA nB cB,x11,x12,x13,x14,x15,x16,x17,x18]] w fun e' w'=>e'=.returned (.tuple #[.agg #[.int .i64 0,.int .i64 0,.int .i64 0],.int .i64 e])∧Below w.heap.size w w':=by
 have hS:za0 H W C K S P O=#[.int .i64 0,.int .i64 0,.int .i64 0]:=by unfold za0;rw [he,if_neg hn]
 have hnb:(e != 0)=true:=by simpa using hn
 have hnc:(e == 0)=false:=by simpa using hn
 have HE:=hid he
 have HS:=hid hS
 clear he hS
 go_enter Tryz.func163,Tryz.ntmps163
 go_wp2_with (go_at_call 165;(refine (zba H W C K S P O e _ HE.out HS.out _).mono ?_);(rintro e' w1 ⟨rfl,hb⟩;obtain⟨hcc,hff⟩:=Kit.bcell hb;have hz:w.heap.size+3≤w1.heap.size:=(by have:=hb.size;simp at this;omega);have hz2:w.heap.size+2 < w1.heap.size:=(by omega);have hz1:w.heap.size+1 < w1.heap.size:=(by omega);have hz0:w.heap.size < w1.heap.size:=(by omega);have HB:=hid hb;clear hb))
 refine bodyPost_ret (Kit.zaa rfl _ _ (w.heap.size+2) 0 [.int .i64 0,.int .i64 0,.int .i64 0] _ rfl (Kit.zak (by go_cell) (by go_cell) (by go_cell)) Tryz.underlying23 rfl (by kernel_rfl)) rfl ?_
 have hB1:Below w.heap.size w w1:=Below.trans ((((Below.refl _ _).alloc (le_refl _) _).alloc (by simp) _).alloc (by simp;omega) _) (HB.out.mono (by first | omega | (simp;done) | (simp;omega)))
 exact⟨rfl,by exact (((hB1.setCell (p:=⟨w.heap.size+2,0,none⟩) (by simp) _).setCell (p:=⟨w.heap.size+2,1,none⟩) (by simp) _).setCell (p:=⟨w.heap.size+2,2,none⟩) (by simp) _).alloc (by simp;omega) _⟩
theorem conv_w1 (H W C:Int) (x0 x1 x2 x8 x11 x12 x13 x14 x15 x16 x17 x18:Value) (K S P O Z:Int) (WA BA:Option Addr) (nW cW nB cB:Nat) (he:zaz H W C K S P O=0) (hw:(nW:Int)≠O * K * K * C) (w:World) :
  Calls Tryz.prog 163 #[.agg #[.int .i64 H,.int .i64 W,.int .i64 C],.agg #[x0,x1,x2,.int .i64 K,.int .i64 S,.int .i64 P,.int .i64 O,.int .i8 Z,x8,.slice WA nW cW,.slice BA nB cB,x11,x12,x13,x14,x15,x16,x17,x18]] w fun e' w'=>e'=.returned (.tuple #[.agg #[.int .i64 0,.int .i64 0,.int .i64 0],.int .i64 9])∧Below w.heap.size w w':=by
 obtain⟨hs,ha,hb2,hr1,hr2,hr⟩:=zb0 he
 have hS:za0 H W C K S P O=#[.int .i64 (zai H K S P),.int .i64 (zai W K S P),.int .i64 O]:=by unfold za0;rw [he,if_pos rfl]
 obtain⟨-, -, -, -,c1,c2, -⟩:=zah hs
 obtain⟨-, -, -, -,o1,o2, -⟩:=zah hr
 obtain⟨-, -,k1,k2, -⟩:=zbi ha
 obtain⟨p1,p2,p3,p4,p5,p6⟩:=zbe c1 c2 k1 (by omega) o1 o2
 generalize zai H K S P=m at hS ⊢
 generalize zai W K S P=m2 at hS ⊢
 obtain⟨q,hq⟩:∃ q,O * K * K * C=q:=⟨_,rfl⟩
 rw [hq] at p5 p6
 rw [hq] at hw
 have hwb:((nW:Int) != q)=true:=by simpa using hw
 have hwc:((nW:Int) == q)=false:=by simpa using hw
 clear ha hb2 hr1 hr2 hr hs
 have HE:=hid he
 have HS:=hid hS
 clear he hS
 go_enter Tryz.func163,Tryz.ntmps163
 go_wp2_with (go_at_call 165;(refine (zba H W C K S P O 0 _ HE.out HS.out _).mono ?_);(rintro e' w1 ⟨rfl,hb⟩;obtain⟨hcc,hff⟩:=Kit.bcell hb;have hz:w.heap.size+3≤w1.heap.size:=(by have:=hb.size;simp at this;omega);have hz2:w.heap.size+2 < w1.heap.size:=(by omega);have hz1:w.heap.size+1 < w1.heap.size:=(by omega);have hz0:w.heap.size < w1.heap.size:=(by omega);have HB:=hid hb;clear hb))
 refine bodyPost_ret (Kit.zaa rfl _ _ (w.heap.size+2) 0 [.int .i64 0,.int .i64 0,.int .i64 0] _ rfl (Kit.zak (by go_cell) (by go_cell) (by go_cell)) Tryz.underlying23 rfl (by kernel_rfl)) rfl ?_
 have hB1:Below w.heap.size w w1:=Below.trans ((((Below.refl _ _).alloc (le_refl _) _).alloc (by simp) _).alloc (by simp;omega) _) (HB.out.mono (by first | omega | (simp;done) | (simp;omega)))
 exact⟨rfl,by exact (((hB1.setCell (p:=⟨w.heap.size+2,0,none⟩) (by simp) _).setCell (p:=⟨w.heap.size+2,1,none⟩) (by simp) _).setCell (p:=⟨w.heap.size+2,2,none⟩) (by simp) _).alloc (by simp;omega) _⟩
theorem conv_w2 (H W C:Int) (x0 x1 x2 x8 x11 x12 x13 x14 x15 x16 x17 x18:Value) (K S P O Z:Int) (WA BA:Option Addr) (nW cW nB cB:Nat) (he:zaz H W C K S P O=0) (hw:(nW:Int)=O * K * K * C) (hw2:16384 < nW) (w:World) :
  Calls Tryz.prog 163 #[.agg #[.int .i64 H,.int .i64 W,.int .i64 C],.agg #[x0,x1,x2,.int .i64 K,.int .i64 S,.int .i64 P,.int .i64 O,.int .i8 Z,x8,.slice WA nW cW,.slice BA nB cB,x11,x12,x13,x14,x15,x16,x17,x18]] w fun e' w'=>e'=.returned (.tuple #[.agg #[.int .i64 0,.int .i64 0,.int .i64 0],.int .i64 9])∧Below w.heap.size w w':=by
 obtain⟨hs,ha,hb2,hr1,hr2,hr⟩:=zb0 he
 have hS:za0 H W C K S P O=#[.int .i64 (zai H K S P),.int .i64 (zai W K S P),.int .i64 O]:=by unfold za0;rw [he,if_pos rfl]
 obtain⟨-, -, -, -,c1,c2, -⟩:=zah hs
 obtain⟨-, -, -, -,o1,o2, -⟩:=zah hr
 obtain⟨-, -,k1,k2, -⟩:=zbi ha
 obtain⟨p1,p2,p3,p4,p5,p6⟩:=zbe c1 c2 k1 (by omega) o1 o2
 generalize zai H K S P=m at hS ⊢
 generalize zai W K S P=m2 at hS ⊢
 obtain⟨q,hq⟩:∃ q,O * K * K * C=q:=⟨_,rfl⟩
 rw [hq] at p5 p6
 rw [hq] at hw
 subst hw
 have hw3:(16384:Int) < (nW:Int):=by omega
 clear ha hb2 hr1 hr2 hr hs
 have HE:=hid he
 have HS:=hid hS
 clear he hS
 go_enter Tryz.func163,Tryz.ntmps163
 go_wp2_with (go_at_call 165;(refine (zba H W C K S P O 0 _ HE.out HS.out _).mono ?_);(rintro e' w1 ⟨rfl,hb⟩;obtain⟨hcc,hff⟩:=Kit.bcell hb;have hz:w.heap.size+3≤w1.heap.size:=(by have:=hb.size;simp at this;omega);have hz2:w.heap.size+2 < w1.heap.size:=(by omega);have hz1:w.heap.size+1 < w1.heap.size:=(by omega);have hz0:w.heap.size < w1.heap.size:=(by omega);have HB:=hid hb;clear hb))
 refine bodyPost_ret (Kit.zaa rfl _ _ (w.heap.size+2) 0 [.int .i64 0,.int .i64 0,.int .i64 0] _ rfl (Kit.zak (by go_cell) (by go_cell) (by go_cell)) Tryz.underlying23 rfl (by kernel_rfl)) rfl ?_
 have hB1:Below w.heap.size w w1:=Below.trans ((((Below.refl _ _).alloc (le_refl _) _).alloc (by simp) _).alloc (by simp;omega) _) (HB.out.mono (by first | omega | (simp;done) | (simp;omega)))
 exact⟨rfl,by exact (((hB1.setCell (p:=⟨w.heap.size+2,0,none⟩) (by simp) _).setCell (p:=⟨w.heap.size+2,1,none⟩) (by simp) _).setCell (p:=⟨w.heap.size+2,2,none⟩) (by simp) _).alloc (by simp;omega) _⟩
theorem conv_w3 (H W C:Int) (x0 x1 x2 x8 x11 x12 x13 x14 x15 x16 x17 x18:Value) (K S P O Z:Int) (WA BA:Option Addr) (nW cW nB cB:Nat) (he:zaz H W C K S P O=0) (hw:(nW:Int)=O * K * K * C) (hw2:nW≤16384) (hb:(nB:Int)≠O) (w:World) :
  Calls Tryz.prog 163 #[.agg #[.int .i64 H,.int .i64 W,.int .i64 C],.agg #[x0,x1,x2,.int .i64 K,.int .i64 S,.int .i64 P,.int .i64 O,.int .i8 Z,x8,.slice WA nW cW,.slice BA nB cB,x11,x12,x13,x14,x15,x16,x17,x18]] w fun e' w'=>e'=.returned (.tuple #[.agg #[.int .i64 0,.int .i64 0,.int .i64 0],.int .i64 9])∧Below w.heap.size w w':=by
 obtain⟨hs,ha,hb2,hr1,hr2,hr⟩:=zb0 he
 have hS:za0 H W C K S P O=#[.int .i64 (zai H K S P),.int .i64 (zai W K S P),.int .i64 O]:=by unfold za0;rw [he,if_pos rfl]
 obtain⟨-, -, -, -,c1,c2, -⟩:=zah hs
 obtain⟨-, -, -, -,o1,o2, -⟩:=zah hr
 obtain⟨-, -,k1,k2, -⟩:=zbi ha
 obtain⟨p1,p2,p3,p4,p5,p6⟩:=zbe c1 c2 k1 (by omega) o1 o2
 generalize zai H K S P=m at hS ⊢
 generalize zai W K S P=m2 at hS ⊢
 obtain⟨q,hq⟩:∃ q,O * K * K * C=q:=⟨_,rfl⟩
 rw [hq] at p5 p6
 rw [hq] at hw
 subst hw
 have hw3:(nW:Int)≤16384:=by omega
 have hbb:((nB:Int) != O)=true:=by simpa using hb
 have hbc:((nB:Int) == O)=false:=by simpa using hb
 clear ha hb2 hr1 hr2 hr hs
 have HE:=hid he
 have HS:=hid hS
 clear he hS
 go_enter Tryz.func163,Tryz.ntmps163
 go_wp2_with (go_at_call 165;(refine (zba H W C K S P O 0 _ HE.out HS.out _).mono ?_);(rintro e' w1 ⟨rfl,hb⟩;obtain⟨hcc,hff⟩:=Kit.bcell hb;have hz:w.heap.size+3≤w1.heap.size:=(by have:=hb.size;simp at this;omega);have hz2:w.heap.size+2 < w1.heap.size:=(by omega);have hz1:w.heap.size+1 < w1.heap.size:=(by omega);have hz0:w.heap.size < w1.heap.size:=(by omega);have HB:=hid hb;clear hb))
 refine bodyPost_ret (Kit.zaa rfl _ _ (w.heap.size+2) 0 [.int .i64 0,.int .i64 0,.int .i64 0] _ rfl (Kit.zak (by go_cell) (by go_cell) (by go_cell)) Tryz.underlying23 rfl (by kernel_rfl)) rfl ?_
 have hB1:Below w.heap.size w w1:=Below.trans ((((Below.refl _ _).alloc (le_refl _) _).alloc (by simp) _).alloc (by simp;omega) _) (HB.out.mono (by first | omega | (simp;done) | (simp;omega)))
 exact⟨rfl,by exact (((hB1.setCell (p:=⟨w.heap.size+2,0,none⟩) (by simp) _).setCell (p:=⟨w.heap.size+2,1,none⟩) (by simp) _).setCell (p:=⟨w.heap.size+2,2,none⟩) (by simp) _).alloc (by simp;omega) _⟩
theorem conv_ok (H W C:Int) (x0 x1 x2 x8 x11 x12 x13 x14 x15 x16 x17 x18:Value) (K S P O Z:Int) (WA BA:Option Addr) (nW cW nB cB:Nat) (he:zaz H W C K S P O=0) (hw:(nW:Int)=O * K * K * C) (hw2:nW≤16384) (hb:(nB:Int)=O) (w:World) :
  Calls Tryz.prog 163 #[.agg #[.int .i64 H,.int .i64 W,.int .i64 C],.agg #[x0,x1,x2,.int .i64 K,.int .i64 S,.int .i64 P,.int .i64 O,.int .i8 Z,x8,.slice WA nW cW,.slice BA nB cB,x11,x12,x13,x14,x15,x16,x17,x18]] w fun e' w'=>e'=.returned (.tuple #[.agg #[.int .i64 (zai H K S P),.int .i64 (zai W K S P),.int .i64 O],.int .i64 0])∧Below w.heap.size w w':=by
 obtain⟨hs,ha,hb2,hr1,hr2,hr⟩:=zb0 he
 have hS:za0 H W C K S P O=#[.int .i64 (zai H K S P),.int .i64 (zai W K S P),.int .i64 O]:=by unfold za0;rw [he,if_pos rfl]
 obtain⟨-, -, -, -,c1,c2, -⟩:=zah hs
 obtain⟨-, -, -, -,o1,o2, -⟩:=zah hr
 obtain⟨-, -,k1,k2, -⟩:=zbi ha
 obtain⟨p1,p2,p3,p4,p5,p6⟩:=zbe c1 c2 k1 (by omega) o1 o2
 generalize zai H K S P=m at hS ⊢
 generalize zai W K S P=m2 at hS ⊢
 obtain⟨q,hq⟩:∃ q,O * K * K * C=q:=⟨_,rfl⟩
 rw [hq] at p5 p6
 rw [hq] at hw
 subst hw
 have hw3:(nW:Int)≤16384:=by omega
 have hbb:((nB:Int) != O)=false:=by simpa using hb
 clear ha hb2 hr1 hr2 hr hs
 have HE:=hid he
 have HS:=hid hS
 clear he hS
 go_enter Tryz.func163,Tryz.ntmps163
 go_wp2_with (go_at_call 165;(refine (zba H W C K S P O 0 _ HE.out HS.out _).mono ?_);(rintro e' w1 ⟨rfl,hb⟩;obtain⟨hcc,hff⟩:=Kit.bcell hb;have hz:w.heap.size+3≤w1.heap.size:=(by have:=hb.size;simp at this;omega);have hz2:w.heap.size+2 < w1.heap.size:=(by omega);have hz1:w.heap.size+1 < w1.heap.size:=(by omega);have hz0:w.heap.size < w1.heap.size:=(by omega);have HB:=hid hb;clear hb))
 refine bodyPost_ret (Kit.zaa rfl _ _ (w.heap.size+2) 0 [.int .i64 m,.int .i64 m2,.int .i64 O] _ rfl (Kit.zak (by go_cell) (by go_cell) (by go_cell)) Tryz.underlying23 rfl (by kernel_rfl)) rfl ?_
 have hB1:Below w.heap.size w w1:=Below.trans ((((Below.refl _ _).alloc (le_refl _) _).alloc (by simp) _).alloc (by simp;omega) _) (HB.out.mono (by first | omega | (simp;done) | (simp;omega)))
 exact⟨rfl,by exact (((hB1.setCell (p:=⟨w.heap.size+2,0,none⟩) (by simp) _).setCell (p:=⟨w.heap.size+2,1,none⟩) (by simp) _).setCell (p:=⟨w.heap.size+2,2,none⟩) (by simp) _).alloc (by simp;omega) _⟩
theorem conv_to (H W C:Int) (x0 x1 x2 x8 x11 x12 x13 x14 x15 x16 x17 x18:Value) (K S P O Z:Int) (WA BA:Option Addr) (nW cW nB cB:Nat) (e:Int) (v:Array Value) (he:convE H W C K S P O nW nB=e) (hv:convS H W C K S P O nW nB=v) (w:World) :
  Calls Tryz.prog 163 #[.agg #[.int .i64 H,.int .i64 W,.int .i64 C],.agg #[x0,x1,x2,.int .i64 K,.int .i64 S,.int .i64 P,.int .i64 O,.int .i8 Z,x8,.slice WA nW cW,.slice BA nB cB,x11,x12,x13,x14,x15,x16,x17,x18]] w fun e' w'=>e'=.returned (.tuple #[.agg v,.int .i64 e])∧Below w.heap.size w w':=by
 subst hv
 unfold convS
 rw [he]
 unfold convE at he
 by_cases h1:zaz H W C K S P O≠0
 ·rw [if_pos h1] at he
  rw [if_neg (by rw [← he];exact h1)]
  exact conv_err H W C x0 x1 x2 x8 x11 x12 x13 x14 x15 x16 x17 x18 K S P O Z WA BA nW cW nB cB e he (by rw [← he];exact h1) w
 ·have h0:zaz H W C K S P O=0:=by omega
  rw [if_neg h1] at he
  by_cases h2:(nW:Int)=O * K * K * C∧nW≤16384∧(nB:Int)=O
  ·rw [if_pos h2] at he
   subst he
   rw [if_pos rfl]
   exact conv_ok H W C x0 x1 x2 x8 x11 x12 x13 x14 x15 x16 x17 x18 K S P O Z WA BA nW cW nB cB h0 h2.1 h2.2.1 h2.2.2 w
  ·rw [if_neg h2] at he
   subst he
   rw [if_neg (by decide)]
   by_cases h3:(nW:Int)=O * K * K * C
   ·by_cases h4:nW≤16384
    ·exact conv_w3 H W C x0 x1 x2 x8 x11 x12 x13 x14 x15 x16 x17 x18 K S P O Z WA BA nW cW nB cB h0 h3 h4 (fun h5=>h2 ⟨h3,h4,h5⟩) w
    ·exact conv_w2 H W C x0 x1 x2 x8 x11 x12 x13 x14 x15 x16 x17 x18 K S P O Z WA BA nW cW nB cB h0 h3 (by omega) w
   ·exact conv_w1 H W C x0 x1 x2 x8 x11 x12 x13 x14 x15 x16 x17 x18 K S P O Z WA BA nW cW nB cB h0 h3 w
end CConv
end
end Go.Proofs.YtfgdfignoakkaaaGreatDoor
