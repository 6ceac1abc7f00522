/- -/
import Derived.Test.YtahekhpeomcfjaaGreatDoorGJ8
open Go.Lib (hid)
open Nat (le_refl lt_of_succ_lt lt_succ_self)
set_option linter.unusedVariables false
set_option linter.unusedSimpArgs false
set_option maxRecDepth 100000
set_option maxHeartbeats 16000000
namespace Go.Proofs.YtahekhpeomcfjaaGreatDoor
namespace CSat
end CSat
namespace CShape
end CShape
namespace CTensor
end CTensor
open Go Go.ChangeShapes Go.WideShapes Go.ChangeAt Go.RowKit
section
namespace CConv
open Plain CSat CShape CTensor
def convE (H W C K S P O:Int) (nW nB:Nat):Int :=
 if zaz H W C K S P O≠0 then zaz H W C K S P O else if (nW:Int)=O * K * K * C∧nW≤16384∧(nB:Int)=O then 0 else 9
def convS (H W C K S P O:Int) (nW nB:Nat):Array Value :=
 if convE H W C K S P O nW nB=0 then #[.int .i64 (zae H K S P),.int .i64 (zae W K S P),.int .i64 O] else #[.int .i64 0,.int .i64 0,.int .i64 0]
theorem za9 {H W C K S P O:Int} (h:zaz H W C K S P O=0) :
  zad H W C=true∧argsB H K S P=true∧argsB W K S P=true∧0≤H+2 * P - K∧0≤W+2 * P - K∧zad (zae H K S P) (zae W K S P) O=true:=by
 unfold zaz at h
 by_cases h1:zad H W C=false
 ·rw [if_pos h1] at h;omega
 ·rw [if_neg h1] at h
  by_cases h2:zbl H K S P≠0
  ·rw [if_pos h2] at h;exact absurd h h2
  ·rw [if_neg h2] at h
   by_cases h3:zbl W K S P≠0
   ·rw [if_pos h3] at h;exact absurd h h3
   ·rw [if_neg h3] at h
    by_cases h4:zad (zae H K S P) (zae W K S P) O=false
    ·rw [if_neg (by simp [h4])] at h;omega
    ·have e1:zbl H K S P=0:=by omega
     have e2:zbl W K S P=0:=by omega
     unfold zbl at e1 e2
     have a1:argsB H K S P=true:=by
      cases h:argsB H K S P
      ·rw [h] at e1;simp at e1
      ·rfl
     have a2:argsB W K S P=true:=by
      cases h:argsB W K S P
      ·rw [h] at e2;simp at e2
      ·rfl
     rw [if_pos a1] at e1
     rw [if_pos a2] at e2
     refine⟨by simpa using h1,a1,a2,?_,?_,by simpa using h4⟩
     ·by_cases h:H+2 * P - K < 0
      ·rw [if_pos h] at e1;omega
      ·omega
     ·by_cases h:W+2 * P - K < 0
      ·rw [if_pos h] at e2;omega
      ·omega
theorem zbx {C K O:Int} (h1:1≤C) (h2:C≤1024) (h3:1≤K) (h4:K≤7) (h5:1≤O) (h6:O≤1024) :
  0≤O * K∧O * K≤7168∧0≤O * K * K∧O * K * K≤50176∧0≤O * K * K * C∧O * K * K * C≤51380224:=by
 have e1:0≤O * K:=Int.mul_nonneg (by omega) (by omega)
 have e2:O * K≤1024 * 7:=Int.mul_le_mul h6 h4 (by omega) (by omega)
 have e3:0≤O * K * K:=Int.mul_nonneg e1 (by omega)
 have e4:O * K * K≤7168 * 7:=Int.mul_le_mul (by omega) h4 (by omega) (by omega)
 have e5:0≤O * K * K * C:=Int.mul_nonneg e3 (by omega)
 have e6:O * K * K * C≤50176 * 1024:=Int.mul_le_mul (by omega) h2 (by omega) (by omega)
 omega
theorem conv_err (H W C:Int) (x0 x1 x2 x8 x11 x12 x13 x14 x15 x16 x17 x18:Value) (K S P O Z:Int) (WA BA:Option Addr) (nW cW nB cB:Nat) (e:Int) (he:zaz H W C K S P O=e) (hn:e≠0) (w:World) :
  Calls Tryz.prog 75 #[.agg #[.int .i64 H,.int .i64 W,.int .i64 C],.agg #[x0,x1,x2,.int .i64 K,.int .i64 S,.int .i64 P,.int .i64 O,.int .i8 Z,x8,.slice WA nW cW,.slice BA nB cB,x11,x12,x13,x14,x15,x16,x17,x18]] w fun e' w'=>e'=.returned (.tuple #[.agg #[.int .i64 0,.int .i64 0,.int .i64 0],.int .i64 e])∧Below w.heap.size w w':=by
 have hS:za8 H W C K S P O=#[.int .i64 0,.int .i64 0,.int .i64 0]:=by unfold za8;rw [he,if_neg hn]
 have hnb:(e != 0)=true:=by simpa using hn
 have hnc:(e == 0)=false:=by simpa using hn
 have HE:=hid he
 have HS:=hid hS
 clear he hS
 go_enter Tryz.func75,Tryz.ntmps75
 go_wp2_with (go_at_call 78;(refine (zbf H W C K S P O e _ HE.out HS.out _).mono ?_);(rintro e' w1 ⟨rfl,hb⟩;obtain⟨hcc,hff⟩:=Kit.bcell hb;have hz:w.heap.size+3≤w1.heap.size:=(by have:=hb.size;simp at this;omega);have hz2:w.heap.size+2 < w1.heap.size:=(by omega);have hz1:w.heap.size+1 < w1.heap.size:=(by omega);have hz0:w.heap.size < w1.heap.size:=(by omega);have HB:=hid hb;clear hb))
 refine bodyPost_ret (Kit.zaa rfl _ _ (w.heap.size+2) 0 [.int .i64 0,.int .i64 0,.int .i64 0] _ rfl (Kit.zaq (by go_cell) (by go_cell) (by go_cell)) Tryz.underlying24 rfl (by kernel_rfl)) rfl ?_
 have hB1:Below w.heap.size w w1:=Below.trans ((((Below.refl _ _).alloc (le_refl _) _).alloc (by simp) _).alloc (by simp;omega) _) (HB.out.mono (by first | omega | (simp;done) | (simp;omega)))
 exact⟨rfl,by exact (((hB1.setCell (p:=⟨w.heap.size+2,0,none⟩) (by simp) _).setCell (p:=⟨w.heap.size+2,1,none⟩) (by simp) _).setCell (p:=⟨w.heap.size+2,2,none⟩) (by simp) _).alloc (by simp;omega) _⟩
theorem conv_w1 (H W C:Int) (x0 x1 x2 x8 x11 x12 x13 x14 x15 x16 x17 x18:Value) (K S P O Z:Int) (WA BA:Option Addr) (nW cW nB cB:Nat) (he:zaz H W C K S P O=0) (hw:(nW:Int)≠O * K * K * C) (w:World) :
  Calls Tryz.prog 75 #[.agg #[.int .i64 H,.int .i64 W,.int .i64 C],.agg #[x0,x1,x2,.int .i64 K,.int .i64 S,.int .i64 P,.int .i64 O,.int .i8 Z,x8,.slice WA nW cW,.slice BA nB cB,x11,x12,x13,x14,x15,x16,x17,x18]] w fun e' w'=>e'=.returned (.tuple #[.agg #[.int .i64 0,.int .i64 0,.int .i64 0],.int .i64 9])∧Below w.heap.size w w':=by
 obtain⟨hs,ha,hb2,hr1,hr2,hr⟩:=za9 he
 have hS:za8 H W C K S P O=#[.int .i64 (zae H K S P),.int .i64 (zae W K S P),.int .i64 O]:=by unfold za8;rw [he,if_pos rfl]
 obtain⟨-, -, -, -,c1,c2, -⟩:=zab hs
 obtain⟨-, -, -, -,o1,o2, -⟩:=zab hr
 obtain⟨-, -,k1,k2, -⟩:=za7 ha
 obtain⟨p1,p2,p3,p4,p5,p6⟩:=zbx c1 c2 k1 (by omega) o1 o2
 generalize zae H K S P=m at hS ⊢
 generalize zae W K S P=m2 at hS ⊢
 obtain⟨q,hq⟩:∃ q,O * K * K * C=q:=⟨_,rfl⟩
 rw [hq] at p5 p6
 rw [hq] at hw
 have hwb:((nW:Int) != q)=true:=by simpa using hw
 have hwc:((nW:Int) == q)=false:=by simpa using hw
 clear ha hb2 hr1 hr2 hr hs
 have HE:=hid he
 have HS:=hid hS
 clear he hS
 go_enter Tryz.func75,Tryz.ntmps75
 go_wp2_with (go_at_call 78;(refine (zbf H W C K S P O 0 _ HE.out HS.out _).mono ?_);(rintro e' w1 ⟨rfl,hb⟩;obtain⟨hcc,hff⟩:=Kit.bcell hb;have hz:w.heap.size+3≤w1.heap.size:=(by have:=hb.size;simp at this;omega);have hz2:w.heap.size+2 < w1.heap.size:=(by omega);have hz1:w.heap.size+1 < w1.heap.size:=(by omega);have hz0:w.heap.size < w1.heap.size:=(by omega);have HB:=hid hb;clear hb))
 refine bodyPost_ret (Kit.zaa rfl _ _ (w.heap.size+2) 0 [.int .i64 0,.int .i64 0,.int .i64 0] _ rfl (Kit.zaq (by go_cell) (by go_cell) (by go_cell)) Tryz.underlying24 rfl (by kernel_rfl)) rfl ?_
 have hB1:Below w.heap.size w w1:=Below.trans ((((Below.refl _ _).alloc (le_refl _) _).alloc (by simp) _).alloc (by simp;omega) _) (HB.out.mono (by first | omega | (simp;done) | (simp;omega)))
 exact⟨rfl,by exact (((hB1.setCell (p:=⟨w.heap.size+2,0,none⟩) (by simp) _).setCell (p:=⟨w.heap.size+2,1,none⟩) (by simp) _).setCell (p:=⟨w.heap.size+2,2,none⟩) (by simp) _).alloc (by simp;omega) _⟩
theorem conv_w2 (H W C:Int) (x0 x1 x2 x8 x11 x12 x13 x14 x15 x16 x17 x18:Value) (K S P O Z:Int) (WA BA:Option Addr) (nW cW nB cB:Nat) (he:zaz H W C K S P O=0) (hw:(nW:Int)=O * K * K * C) (hw2:16384 < nW) (w:World) :
  Calls Tryz.prog 75 #[.agg #[.int .i64 H,.int .i64 W,.int .i64 C],.agg #[x0,x1,x2,.int .i64 K,.int .i64 S,.int .i64 P,.int .i64 O,.int .i8 Z,x8,.slice WA nW cW,.slice BA nB cB,x11,x12,x13,x14,x15,x16,x17,x18]] w fun e' w'=>e'=.returned (.tuple #[.agg #[.int .i64 0,.int .i64 0,.int .i64 0],.int .i64 9])∧Below w.heap.size w w':=by
 obtain⟨hs,ha,hb2,hr1,hr2,hr⟩:=za9 he
 have hS:za8 H W C K S P O=#[.int .i64 (zae H K S P),.int .i64 (zae W K S P),.int .i64 O]:=by unfold za8;rw [he,if_pos rfl]
 obtain⟨-, -, -, -,c1,c2, -⟩:=zab hs
 obtain⟨-, -, -, -,o1,o2, -⟩:=zab hr
 obtain⟨-, -,k1,k2, -⟩:=za7 ha
 obtain⟨p1,p2,p3,p4,p5,p6⟩:=zbx c1 c2 k1 (by omega) o1 o2
 generalize zae H K S P=m at hS ⊢
 generalize zae W K S P=m2 at hS ⊢
 obtain⟨q,hq⟩:∃ q,O * K * K * C=q:=⟨_,rfl⟩
 rw [hq] at p5 p6
 rw [hq] at hw
 subst hw
 have hw3:(16384:Int) < (nW:Int):=by omega
 clear ha hb2 hr1 hr2 hr hs
 have HE:=hid he
 have HS:=hid hS
 clear he hS
 go_enter Tryz.func75,Tryz.ntmps75
 go_wp2_with (go_at_call 78;(refine (zbf H W C K S P O 0 _ HE.out HS.out _).mono ?_);(rintro e' w1 ⟨rfl,hb⟩;obtain⟨hcc,hff⟩:=Kit.bcell hb;have hz:w.heap.size+3≤w1.heap.size:=(by have:=hb.size;simp at this;omega);have hz2:w.heap.size+2 < w1.heap.size:=(by omega);have hz1:w.heap.size+1 < w1.heap.size:=(by omega);have hz0:w.heap.size < w1.heap.size:=(by omega);have HB:=hid hb;clear hb))
 refine bodyPost_ret (Kit.zaa rfl _ _ (w.heap.size+2) 0 [.int .i64 0,.int .i64 0,.int .i64 0] _ rfl (Kit.zaq (by go_cell) (by go_cell) (by go_cell)) Tryz.underlying24 rfl (by kernel_rfl)) rfl ?_
 have hB1:Below w.heap.size w w1:=Below.trans ((((Below.refl _ _).alloc (le_refl _) _).alloc (by simp) _).alloc (by simp;omega) _) (HB.out.mono (by first | omega | (simp;done) | (simp;omega)))
 exact⟨rfl,by exact (((hB1.setCell (p:=⟨w.heap.size+2,0,none⟩) (by simp) _).setCell (p:=⟨w.heap.size+2,1,none⟩) (by simp) _).setCell (p:=⟨w.heap.size+2,2,none⟩) (by simp) _).alloc (by simp;omega) _⟩
theorem conv_w3 (H W C:Int) (x0 x1 x2 x8 x11 x12 x13 x14 x15 x16 x17 x18:Value) (K S P O Z:Int) (WA BA:Option Addr) (nW cW nB cB:Nat) (he:zaz H W C K S P O=0) (hw:(nW:Int)=O * K * K * C) (hw2:nW≤16384) (hb:(nB:Int)≠O) (w:World) :
  Calls Tryz.prog 75 #[.agg #[.int .i64 H,.int .i64 W,.int .i64 C],.agg #[x0,x1,x2,.int .i64 K,.int .i64 S,.int .i64 P,.int .i64 O,.int .i8 Z,x8,.slice WA nW cW,.slice BA nB cB,x11,x12,x13,x14,x15,x16,x17,x18]] w fun e' w'=>e'=.returned (.tuple #[.agg #[.int .i64 0,.int .i64 0,.int .i64 0],.int .i64 9])∧Below w.heap.size w w':=by
 obtain⟨hs,ha,hb2,hr1,hr2,hr⟩:=za9 he
 have hS:za8 H W C K S P O=#[.int .i64 (zae H K S P),.int .i64 (zae W K S P),.int .i64 O]:=by unfold za8;rw [he,if_pos rfl]
 obtain⟨-, -, -, -,c1,c2, -⟩:=zab hs
 obtain⟨-, -, -, -,o1,o2, -⟩:=zab hr
 obtain⟨-, -,k1,k2, -⟩:=za7 ha
 obtain⟨p1,p2,p3,p4,p5,p6⟩:=zbx c1 c2 k1 (by omega) o1 o2
 generalize zae H K S P=m at hS ⊢
 generalize zae W K S P=m2 at hS ⊢
 obtain⟨q,hq⟩:∃ q,O * K * K * C=q:=⟨_,rfl⟩
 rw [hq] at p5 p6
 rw [hq] at hw
 subst hw
 have hw3:(nW:Int)≤16384:=by omega
 have hbb:((nB:Int) != O)=true:=by simpa using hb
 have hbc:((nB:Int) == O)=false:=by simpa using hb
 clear ha hb2 hr1 hr2 hr hs
 have HE:=hid he
 have HS:=hid hS
 clear he hS
 go_enter Tryz.func75,Tryz.ntmps75
 go_wp2_with (go_at_call 78;(refine (zbf H W C K S P O 0 _ HE.out HS.out _).mono ?_);(rintro e' w1 ⟨rfl,hb⟩;obtain⟨hcc,hff⟩:=Kit.bcell hb;have hz:w.heap.size+3≤w1.heap.size:=(by have:=hb.size;simp at this;omega);have hz2:w.heap.size+2 < w1.heap.size:=(by omega);have hz1:w.heap.size+1 < w1.heap.size:=(by omega);have hz0:w.heap.size < w1.heap.size:=(by omega);have HB:=hid hb;clear hb))
 refine bodyPost_ret (Kit.zaa rfl _ _ (w.heap.size+2) 0 [.int .i64 0,.int .i64 0,.int .i64 0] _ rfl (Kit.zaq (by go_cell) (by go_cell) (by go_cell)) Tryz.underlying24 rfl (by kernel_rfl)) rfl ?_
 have hB1:Below w.heap.size w w1:=Below.trans ((((Below.refl _ _).alloc (le_refl _) _).alloc (by simp) _).alloc (by simp;omega) _) (HB.out.mono (by first | omega | (simp;done) | (simp;omega)))
 exact⟨rfl,by exact (((hB1.setCell (p:=⟨w.heap.size+2,0,none⟩) (by simp) _).setCell (p:=⟨w.heap.size+2,1,none⟩) (by simp) _).setCell (p:=⟨w.heap.size+2,2,none⟩) (by simp) _).alloc (by simp;omega) _⟩
theorem conv_ok (H W C:Int) (x0 x1 x2 x8 x11 x12 x13 x14 x15 x16 x17 x18:Value) (K S P O Z:Int) (WA BA:Option Addr) (nW cW nB cB:Nat) (he:zaz H W C K S P O=0) (hw:(nW:Int)=O * K * K * C) (hw2:nW≤16384) (hb:(nB:Int)=O) (w:World) :
  Calls Tryz.prog 75 #[.agg #[.int .i64 H,.int .i64 W,.int .i64 C],.agg #[x0,x1,x2,.int .i64 K,.int .i64 S,.int .i64 P,.int .i64 O,.int .i8 Z,x8,.slice WA nW cW,.slice BA nB cB,x11,x12,x13,x14,x15,x16,x17,x18]] w fun e' w'=>e'=.returned (.tuple #[.agg #[.int .i64 (zae H K S P),.int .i64 (zae W K S P),.int .i64 O],.int .i64 0])∧Below w.heap.size w w':=by
 obtain⟨hs,ha,hb2,hr1,hr2,hr⟩:=za9 he
 have hS:za8 H W C K S P O=#[.int .i64 (zae H K S P),.int .i64 (zae W K S P),.int .i64 O]:=by unfold za8;rw [he,if_pos rfl]
 obtain⟨-, -, -, -,c1,c2, -⟩:=zab hs
 obtain⟨-, -, -, -,o1,o2, -⟩:=zab hr
 obtain⟨-, -,k1,k2, -⟩:=za7 ha
 obtain⟨p1,p2,p3,p4,p5,p6⟩:=zbx c1 c2 k1 (by omega) o1 o2
 generalize zae H K S P=m at hS ⊢
 generalize zae W K S P=m2 at hS ⊢
 obtain⟨q,hq⟩:∃ q,O * K * K * C=q:=⟨_,rfl⟩
 rw [hq] at p5 p6
 rw [hq] at hw
 subst hw
 have hw3:(nW:Int)≤16384:=by omega
 have hbb:((nB:Int) != O)=false:=by simpa using hb
 clear ha hb2 hr1 hr2 hr hs
 have HE:=hid he
 have HS:=hid hS
 clear he hS
 go_enter Tryz.func75,Tryz.ntmps75
 go_wp2_with (go_at_call 78;(refine (zbf H W C K S P O 0 _ HE.out HS.out _).mono ?_);(rintro e' w1 ⟨rfl,hb⟩;obtain⟨hcc,hff⟩:=Kit.bcell hb;have hz:w.heap.size+3≤w1.heap.size:=(by have:=hb.size;simp at this;omega);have hz2:w.heap.size+2 < w1.heap.size:=(by omega);have hz1:w.heap.size+1 < w1.heap.size:=(by omega);have hz0:w.heap.size < w1.heap.size:=(by omega);have HB:=hid hb;clear hb))
 refine bodyPost_ret (Kit.zaa rfl _ _ (w.heap.size+2) 0 [.int .i64 m,.int .i64 m2,.int .i64 O] _ rfl (Kit.zaq (by go_cell) (by go_cell) (by go_cell)) Tryz.underlying24 rfl (by kernel_rfl)) rfl ?_
 have hB1:Below w.heap.size w w1:=Below.trans ((((Below.refl _ _).alloc (le_refl _) _).alloc (by simp) _).alloc (by simp;omega) _) (HB.out.mono (by first | omega | (simp;done) | (simp;omega)))
 exact⟨rfl,by exact (((hB1.setCell (p:=⟨w.heap.size+2,0,none⟩) (by simp) _).setCell (p:=⟨w.heap.size+2,1,none⟩) (by simp) _).setCell (p:=⟨w.heap.size+2,2,none⟩) (by simp) _).alloc (by simp;omega) _⟩
theorem conv_to (H W C:Int) (x0 x1 x2 x8 x11 x12 x13 x14 x15 x16 x17 x18:Value) (K S P O Z:Int) (WA BA:Option Addr) (nW cW nB cB:Nat) (e:Int) (v:Array Value) (he:convE H W C K S P O nW nB=e) (hv:convS H W C K S P O nW nB=v) (w:World) :
  Calls Tryz.prog 75 #[.agg #[.int .i64 H,.int .i64 W,.int .i64 C],.agg #[x0,x1,x2,.int .i64 K,.int .i64 S,.int .i64 P,.int .i64 O,.int .i8 Z,x8,.slice WA nW cW,.slice BA nB cB,x11,x12,x13,x14,x15,x16,x17,x18]] w fun e' w'=>e'=.returned (.tuple #[.agg v,.int .i64 e])∧Below w.heap.size w w':=by
 subst hv
 unfold convS
 rw [he]
 unfold convE at he
 by_cases h1:zaz H W C K S P O≠0
 ·rw [if_pos h1] at he
  rw [if_neg (by rw [← he];exact h1)]
  exact conv_err H W C x0 x1 x2 x8 x11 x12 x13 x14 x15 x16 x17 x18 K S P O Z WA BA nW cW nB cB e he (by rw [← he];exact h1) w
 ·have h0:zaz H W C K S P O=0:=by omega
  rw [if_neg h1] at he
  by_cases h2:(nW:Int)=O * K * K * C∧nW≤16384∧(nB:Int)=O
  ·rw [if_pos h2] at he
   subst he
   rw [if_pos rfl]
   exact conv_ok H W C x0 x1 x2 x8 x11 x12 x13 x14 x15 x16 x17 x18 K S P O Z WA BA nW cW nB cB h0 h2.1 h2.2.1 h2.2.2 w
  ·rw [if_neg h2] at he
   subst he
   rw [if_neg (by decide)]
   by_cases h3:(nW:Int)=O * K * K * C
   ·by_cases h4:nW≤16384
    ·exact conv_w3 H W C x0 x1 x2 x8 x11 x12 x13 x14 x15 x16 x17 x18 K S P O Z WA BA nW cW nB cB h0 h3 h4 (fun h5=>h2 ⟨h3,h4,h5⟩) w
    ·exact conv_w2 H W C x0 x1 x2 x8 x11 x12 x13 x14 x15 x16 x17 x18 K S P O Z WA BA nW cW nB cB h0 h3 (by omega) w
   ·exact conv_w1 H W C x0 x1 x2 x8 x11 x12 x13 x14 x15 x16 x17 x18 K S P O Z WA BA nW cW nB cB h0 h3 w
theorem zbd (H W C:Int) (A:Option Addr) (n c:Nat) (T:TypeId) (w:World):BoxAt w.heap.size H W C A n c (w.alloc (.cells #[.int .i64 H,.int .i64 W,.int .i64 C,.slice A n c] T)):=BoxAt.new H W C A n c T w
def psum (G:Nat→Int):Nat→Int
 | 0=>0
 | n+1=>psum G n+G n
theorem psum_bd {G:Nat→Int} {b:Int} {n:Nat} (h:∀ k,k < n → -b≤G k∧G k≤b) : -(b * n)≤psum G n∧psum G n≤b * n:=by
 induction n with
 | zero=>simp [psum]
 | succ n ih =>
   have h1:=ih (fun k hk=>h k (by omega))
   have h2:=h n (by omega)
   have e:b * ((n+1:Nat):Int)=b * (n:Int)+b:=by rw [show ((n+1:Nat):Int)=(n:Int)+1 by omega,Int.mul_add,Int.mul_one]
   rw [e]
   simp only [psum]
   omega
theorem zb8 {G G':Nat→Int} {n:Nat} (h:∀ k,k < n→G k=G' k):psum G n=psum G' n:=by
 induction n with
 | zero=>rfl
 | succ n ih=>simp only [psum];rw [ih (fun k hk=>h k (by omega)),h n (by omega)]
theorem psum_zero {G:Nat→Int} {n:Nat} (h:∀ k,k < n→G k=0):psum G n=0:=by
 induction n with
 | zero=>rfl
 | succ n ih=>simp only [psum];rw [ih (fun k hk=>h k (by omega)),h n (by omega)];rfl
theorem zcq (a b:Int):IntKind.i32.wrap (IntKind.i32.wrap a+b)=IntKind.i32.wrap (a+b):=by rw [IntKind.wrap_i32,IntKind.wrap_i32,IntKind.wrap_i32];omega
theorem wrap32_add' (a b:Int):IntKind.i32.wrap (a+IntKind.i32.wrap b)=IntKind.i32.wrap (a+b):=by rw [IntKind.wrap_i32,IntKind.wrap_i32,IntKind.wrap_i32];omega
theorem term_bd {x y z:Int} (x1 : -128≤x) (x2:x≤127) (y1 : -128≤y) (y2:y≤127) (z1 : -128≤z) (z2:z≤127) : -32640≤y * (x - z)∧y * (x - z)≤32640:=by
 have h1 : -255≤x - z:=by omega
 have h2:x - z≤255:=by omega
 generalize x - z=u at h1 h2
 have a1:0≤(128+y) * (255 - u):=Int.mul_nonneg (by omega) (by omega)
 have a2:0≤(128+y) * (255+u):=Int.mul_nonneg (by omega) (by omega)
 have a3:0≤(127 - y) * (255 - u):=Int.mul_nonneg (by omega) (by omega)
 have a4:0≤(127 - y) * (255+u):=Int.mul_nonneg (by omega) (by omega)
 simp only [Int.add_mul,Int.sub_mul,Int.mul_sub,Int.mul_add] at a1 a2 a3 a4
 omega
def I8b (zs:List Int):Prop:=∀ q, -128≤zs.getD q 0∧zs.getD q 0≤127
def termF (zs ws:List Int) (st o:Nat) (Z:Int) (c:Nat):Int:=ws.getD (o+c) 0 * (zs.getD (st+c) 0 - Z)
theorem zav {w:World} {B:Nat} {A:Option Addr} {k:IntKind} {zs:List Int} (h:Kit.Rd w B A (zs.map (.int k))) {j:Nat} (hj:j < zs.length) :
  ∃ b off,A=some ⟨b,off,none⟩∧b < B∧∀ i,i < zs.length→w.cell? ⟨b,off+i,none⟩=some (.int k (zs.getD i 0)):=by
 obtain⟨b,off,e,hb,hc⟩:=h.plain (by simp;omega)
 exact⟨b,off,e,hb,fun i hi=>hc i _ (by simp [List.getD_eq_getElem?_getD,List.getElem?_eq_getElem hi])⟩
def zai (B:Nat) (x0 x1 x2 x8 x11 x12 x13 x14 x15 x16 x17 x18:Value) (K S P O Z:Int) (WA BA:Option Addr) (nW cW nB cB:Nat) (wd:World):Prop:=wd.rangeAt B 0 [x0,x1,x2,.int .i64 K,.int .i64 S,.int .i64 P,.int .i64 O,.int .i8 Z,x8,.slice WA nW cW,.slice BA nB cB,x11,x12,x13,x14,x15,x16,x17,x18]
theorem zai.new (x0 x1 x2 x8 x11 x12 x13 x14 x15 x16 x17 x18:Value) (K S P O Z:Int) (WA BA:Option Addr) (nW cW nB cB:Nat) (T:TypeId) (w:World):zai w.heap.size x0 x1 x2 x8 x11 x12 x13 x14 x15 x16 x17 x18 K S P O Z WA BA nW cW nB cB (w.alloc (.cells #[x0,x1,x2,.int .i64 K,.int .i64 S,.int .i64 P,.int .i64 O,.int .i8 Z,x8,.slice WA nW cW,.slice BA nB cB,x11,x12,x13,x14,x15,x16,x17,x18] T)):=fun j v hj=>by
 rw [Nat.zero_add,Kit.zaf]
 simpa using hj
theorem zai.below {B B':Nat} {x0 x1 x2 x8 x11 x12 x13 x14 x15 x16 x17 x18:Value} {K S P O Z:Int} {WA BA:Option Addr} {nW cW nB cB:Nat} {w w':World} (h:zai B x0 x1 x2 x8 x11 x12 x13 x14 x15 x16 x17 x18 K S P O Z WA BA nW cW nB cB w) (hB:B < B') (hb:Below B' w w'):zai B x0 x1 x2 x8 x11 x12 x13 x14 x15 x16 x17 x18 K S P O Z WA BA nW cW nB cB w':=fun j v hj =>
 (hb.cell (p:=⟨B,0+j,none⟩) hB).trans (h j v hj)
theorem zai.at {B:Nat} {x0 x1 x2 x8 x11 x12 x13 x14 x15 x16 x17 x18:Value} {K S P O Z:Int} {WA BA:Option Addr} {nW cW nB cB:Nat} {w:World} (h:zai B x0 x1 x2 x8 x11 x12 x13 x14 x15 x16 x17 x18 K S P O Z WA BA nW cW nB cB w) (i:Nat) (v:Value) (hi:([x0,x1,x2,.int .i64 K,.int .i64 S,.int .i64 P,.int .i64 O,.int .i8 Z,x8,.slice WA nW cW,.slice BA nB cB,x11,x12,x13,x14,x15,x16,x17,x18]:List Value)[i]?=some v):w.cell? ⟨B,i,none⟩=some v:=by
 have:=h i v hi
 rwa [Nat.zero_add] at this
def placeF (zs ws:List Int) (H W C top left:Int) (d kk o:Nat) (Z:Int) (i j:Nat):Int :=
 if 0≤top+(i:Int)∧top+(i:Int) < H∧0≤left+(j:Int)∧left+(j:Int) < W then psum (termF zs ws (((top+(i:Int)) * W+(left+(j:Int))) * C).toNat (((o * kk+i) * kk+j) * d) Z) d else 0
def rowF (zs ws:List Int) (H W C top left:Int) (d kk o:Nat) (Z:Int) (i:Nat):Int:=psum (placeF zs ws H W C top left d kk o Z i) kk
def winF (zs ws:List Int) (H W C top left:Int) (d kk o:Nat) (Z:Int):Int:=psum (rowF zs ws H W C top left d kk o Z) kk
theorem drop_term (zs ws:List Int) (st o:Nat) (Z:Int) (d:Nat):psum (termF zs (ws.drop o) st 0 Z) d=psum (termF zs ws st o Z) d :=
 zb8 fun k _=>by simp [termF,List.getD_eq_getElem?_getD,List.getElem?_drop]
theorem drop_I8b {ws:List Int} (h:I8b ws) (o:Nat):I8b (ws.drop o):=fun q=>by
 have:=h (o+q)
 rw [List.getD_eq_getElem?_getD,List.getElem?_drop, ← List.getD_eq_getElem?_getD]
 exact this
theorem i8s_drop (ws:List Int) (o:Nat):(I8s ws).drop o=I8s (ws.drop o):=by simp [I8s,List.map_drop]
theorem place_le {a b c d i j k:Nat} (hi:i < a) (hj:j < b) (hk:k < c):((i * b+j) * c+k) * d+d≤a * b * c * d:=by
 have e1:(i+1) * b≤a * b:=Nat.mul_le_mul_right _ hi
 have e2:(i * b+j+1) * c≤a * b * c:=Nat.mul_le_mul_right _ (by rw [Nat.add_mul,Nat.one_mul] at e1;omega)
 have e3:((i * b+j) * c+k+1) * d≤a * b * c * d:=Nat.mul_le_mul_right _ (by rw [Nat.add_mul _ 1 c,Nat.one_mul] at e2;omega)
 rw [Nat.add_mul _ 1 d,Nat.one_mul] at e3
 exact e3
end CConv
end
section
namespace CWheel
open FloatNum CFour
abbrev I64v (zs:List Int):List Value:=zs.map (.int .i64)
def nums (F:Nat→Int) (n:Nat):List Int:=(List.range n).map F
theorem nums_len (F:Nat→Int) (n:Nat):(nums F n).length=n:=by simp [nums]
theorem nums_succ (F:Nat→Int) (n:Nat):nums F (n+1)=nums F n ++ [F n]:=by simp [nums,List.range_succ]
theorem nums_at (F:Nat→Int) {n i:Nat} (h:i < n):(nums F n)[i]?=some (F i):=by simp [nums,h]
theorem nums_getD (F:Nat→Int) {n i:Nat} (h:i < n):(nums F n).getD i 0=F i:=by rw [List.getD_eq_getElem?_getD,nums_at F h];rfl
def Own64 (w:World) (n:Nat) (zs:List Int) (e:Ending) (w':World):Prop :=
 ∃ v,e=.returned v∧w'.ownsRow w.heap.size 2 1 v n (I64v zs)∧Below w.heap.size w w'
theorem own_nil (w:World) (base:Nat) (e:TypeId) (size:Nat):w.ownsRow base e size (.slice none 0 0) 0 []:=⟨by simp,.inl ⟨rfl,rfl⟩⟩
theorem info_i64:(Tryz.prog.info? 2).map (fun i=>(i.zero,i.size,i.bytes))=some (some (.int .i64 0),1,8):=by kernel_rfl
theorem info_c4:(Tryz.prog.info? 217).map (fun i=>(i.zero,i.size,i.bytes))=some (some (.agg #[z0,z0,z0,z0]),4,64):=by kernel_rfl
theorem info_parts {T:Nat} {z:Value} {a b:Nat} (h:(Tryz.prog.info? T).map (fun i=>(i.zero,i.size,i.bytes))=some (some z,a,b)):∃ i,Tryz.prog.info? T=some i∧i.zero=some z∧i.size=a∧i.bytes=b:=by
 obtain⟨i,hi,h2⟩:=Option.map_eq_some_iff.1 h
 simp only [Prod.mk.injEq] at h2
 exact⟨i,hi,h2.1,h2.2.1,h2.2.2⟩
def WF (W:Nat→Nat→Int) (k:Nat) (F:List Value):Prop :=
 F.length=k * 4∧(∀ u∈F,u.oneCell'=true)∧∀ j,j < k→∃ S:Nat→Value,(∀ i,i < 4→IsC (S i) (wh4 (W j 0) 0 (W j 2) (W j 1) i))∧∀ i,i < 4→F[j * 4+i]?=some (S i)
theorem WF.start (W:Nat→Nat→Int):WF W 0 []:=⟨rfl,by simp,fun j hj=>by omega⟩
theorem WF.step {W:Nat→Nat→Int} {k:Nat} {F:List Value} (h:WF W k F) {S:Nat→Value} (hS:∀ i,i < 4→IsC (S i) (wh4 (W k 0) 0 (W k 2) (W k 1) i)):WF W (k+1) (F ++ [S 0,S 1,S 2,S 3]):=by
 obtain⟨h1,h2,h3⟩:=h
 refine⟨by simp [h1];omega,fun u hu=>?_,fun j hj=>?_⟩
 ·rcases List.mem_append.1 hu with h | h
  ·exact h2 u h
  ·have:=oneC hS
   simp at this
   simp at h
   rcases h with rfl | rfl | rfl | rfl
   ·exact this.1
   ·exact this.2.1
   ·exact this.2.2.1
   ·exact this.2.2.2
 ·rcases Nat.lt_or_ge j k with hjk | hjk
  ·obtain⟨S',a,b⟩:=h3 j hjk
   refine⟨S',a,fun i hi=>?_⟩
   rw [List.getElem?_append_left (by rw [h1];omega)]
   exact b i hi
  ·obtain rfl:j=k:=by omega
   refine⟨S,hS,fun i hi=>?_⟩
   rw [List.getElem?_append_right (by rw [h1];omega),h1,show j * 4+i - j * 4=i by omega]
   obtain rfl | rfl | rfl | rfl:=lt4 hi <;> rfl
def WhAt (w:World) (g n:Nat) (W:Nat→Nat→Int):Prop :=
 g < w.heap.size∧∀ k,k < n→∃ S:Nat→Value,(∀ i,i < 4→IsC (S i) (wh4 (W k 0) 0 (W k 2) (W k 1) i))∧w.rangeAt g (0+k * 4) [S 0,S 1,S 2,S 3]
theorem WhAt.wheels {w:World} {g n:Nat} {W:Nat→Nat→Int} (h:WhAt w g n W):Wheels w w.heap.size (some ⟨g,0,none⟩) n W:=fun k hk=>by
 obtain⟨S,a,b⟩:=h.2 k hk
 exact⟨g,0,S,rfl,h.1,a,b⟩
theorem WhAt.of {w:World} {g n B:Nat} {W:Nat→Nat→Int} {F:List Value} (hF:WF W n F) (hr:Kit.Rd w B (some ⟨g,0,none⟩) F) (hg:g < w.heap.size):WhAt w g n W:=⟨hg,fun k hk=>by
 obtain⟨S,a,b⟩:=hF.2.2 k hk
 refine⟨S,a,fun j v hj=>?_⟩
 have hj4:j < 4:=by
  rcases Nat.lt_or_ge j 4 with h | h
  ·exact h
  ·rw [List.getElem?_eq_none (by simpa using h)] at hj;cases hj
 obtain⟨ad,e,_,hc⟩:=hr (k * 4+j) (S j) (b j hj4)
 cases e
 rw [Go.WideShapes.add_plain] at hc
 rw [show 0+k * 4+j=0+(k * 4+j) by omega,hc]
 obtain rfl | rfl | rfl | rfl:=lt4 hj4 <;> simpa using hj⟩
theorem WhAt.grown {w w':World} {g n:Nat} {W:Nat→Nat→Int} {r:Option Nat} (h:WhAt w g n W) (hg:w.grownBy w' r) (hr:r≠some g):WhAt w' g n W:=by
 refine⟨Nat.lt_of_lt_of_le h.1 hg.size,fun k hk=>?_⟩
 obtain⟨S,a,b⟩:=h.2 k hk
 refine⟨S,a,fun j v hj=>?_⟩
 exact hg.cell (b j v hj) (fun e=>hr e.symm)
theorem WhAt.below {w w':World} {B g n:Nat} {W:Nat→Nat→Int} (h:WhAt w g n W) (hb:Below B w w') (hB:g < B):WhAt w' g n W:=by
 refine⟨Nat.lt_of_lt_of_le h.1 hb.size,fun k hk=>?_⟩
 obtain⟨S,a,b⟩:=h.2 k hk
 exact⟨S,a,zcg b hb hB⟩
theorem added_short (A:Option Addr) (rows:List (List Int)) (n cA:Nat) (WA:Value) (L:Nat) (hn:rows.length=n) (h1:1≤n) (hL:∀ row∈rows,row.length=L) (hl:L < 3) (w:World) (hr:Kit.zbr w w.heap.size .i16 A rows) :
  Calls Tryz.prog 151 #[.slice A n cA,WA] w fun e' w'=>e'=.returned (.slice none 0 0)∧w=w':=by
 obtain⟨ba,oa,Ak,m,ck,rfl,hba,hca,hm1,hm2,hm3,hrd⟩:=hr.row (i:=0) (by omega)
 have hmL:m=L:=by rw [← hm1];exact hL _ (List.getElem_mem _)
 subst hmL
 have k1:(0:Int) < (n:Int):=by omega
 have k2:IntKind.i64.wrap ((m:Int) - 3)=(m:Int) - 3:=IntWalk.i64_in _ (by omega)
 have k3:IntKind.i64.wrap ((m:Int) - 3+1)=(m:Int) - 3+1:=IntWalk.i64_in _ (by omega)
 have k4:(m:Int) - 3+1 < 1:=by omega
 rw [Nat.add_zero] at hca
 clear hrd hm1 hm2 hL hr hn hl hm3
 go_enter Tryz.func151,Tryz.ntmps151
 go_wp2
 refine Kit.zb2 0 rfl ?_
 go_wp2
 go_step3
 refine⟨rfl,?_⟩
 go_wp2
 rw [Exit.noGoto_ret]
 go_ret
 exact⟨rfl,rfl⟩
end CWheel
end
end Go.Proofs.YtahekhpeomcfjaaGreatDoor
