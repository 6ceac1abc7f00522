/- -/
import Derived.Test.YtchpdhhpkljdhaaGreatDoorGD6
open Go.Value renaming int→Jj
open Go.IntKind renaming i64→Jq
open Go.Lib (hid)
open Nat (le_refl lt_of_succ_lt lt_succ_self)
set_option linter.unusedVariables false
set_option linter.unusedSimpArgs false
set_option maxRecDepth 100000
set_option maxHeartbeats 16000000
namespace Go.Proofs.YtchpdhhpkljdhaaGreatDoor
namespace CSat
end CSat
open Go Go.ChangeShapes Go.WideShapes Go.ChangeAt Go.RowKit
section
namespace CShape
open Plain CSat
theorem refSlide_wrong (H W C k s p o:Int) (hs:zam H W C=false) (wd:World) :
  Calls Tryz.prog 66 #[.agg #[Jj Jq H,Jj Jq W,Jj Jq C],Jj Jq k,Jj Jq s,Jj Jq p,Jj Jq o] wd fun e w'=>e=.returned (.tuple #[.agg #[Jj Jq 0,Jj Jq 0,Jj Jq 0],Jj Jq 5])∧Below wd.heap.size wd w':=by
 have HS:=hid (zb6 hs)
 clear hs
 go_enter Tryz.func66,Tryz.ntmps66
 go_wp2_with (go_at_call 65;refine (zas _ _ _ 0 HS.out _).mono ?_;rintro e w1 ⟨rfl,hb⟩;obtain⟨hc,hf⟩:=Kit.bcell hb)
 exact Zq
theorem refSlide_one (H W C k s p o m e1:Int) (hs:zam H W C=true) (hm:zad H k s p=m) (he:zbm H k s p=e1) (hn:e1≠0) (wd:World) :
  Calls Tryz.prog 66 #[.agg #[Jj Jq H,Jj Jq W,Jj Jq C],Jj Jq k,Jj Jq s,Jj Jq p,Jj Jq o] wd fun e w'=>e=.returned (.tuple #[.agg #[Jj Jq 0,Jj Jq 0,Jj Jq 0],Jj Jq e1])∧Below wd.heap.size wd w':=by
 obtain⟨n,hn0,hn1,hn2⟩:=zct hs
 have HS:=hid hn0
 have HM:=hid hm
 have HE:=hid he
 clear hs hn0 hm he
 go_enter Tryz.func66,Tryz.ntmps66
 go_wp2_with (first
  | (go_at_call 65;refine (zas _ _ _ n HS.out _).mono ?_;rintro e w1 ⟨rfl,hb⟩;obtain⟨hc,hf⟩:=Kit.bcell hb)
  | (go_at_call 110;refine (zb8 _ _ _ _ m e1 HM.out HE.out _).mono ?_;rintro e w' ⟨rfl,rfl⟩))
 exact Zq
theorem refSlide_two (H W C k s p o m m2 e2:Int) (hs:zam H W C=true) (hm:zad H k s p=m) (he:zbm H k s p=0) (hm2:zad W k s p=m2) (he2:zbm W k s p=e2) (hn:e2≠0) (wd:World) :
  Calls Tryz.prog 66 #[.agg #[Jj Jq H,Jj Jq W,Jj Jq C],Jj Jq k,Jj Jq s,Jj Jq p,Jj Jq o] wd fun e w'=>e=.returned (.tuple #[.agg #[Jj Jq 0,Jj Jq 0,Jj Jq 0],Jj Jq e2])∧Below wd.heap.size wd w':=by
 obtain⟨n,hn0,hn1,hn2⟩:=zct hs
 have HS:=hid hn0
 have HM:=hid hm
 have HE:=hid he
 have HM2:=hid hm2
 have HE2:=hid he2
 clear hs hn0 hm he hm2 he2
 go_enter Tryz.func66,Tryz.ntmps66
 go_wp2_with (first
  | (go_at_call 65;((with_reducible refine (zas H W C n HS.out _).mono ?_);rintro e w1 ⟨rfl,hb⟩;obtain⟨hc,hf⟩:=Kit.bcell hb))
  | (go_at_call 110;((with_reducible refine (zb8 H k s p m 0 HM.out HE.out _).mono ?_);rintro e w' ⟨rfl,rfl⟩))
  | (go_at_call 110;((with_reducible refine (zb8 W k s p m2 e2 HM2.out HE2.out _).mono ?_);rintro e w' ⟨rfl,rfl⟩)))
 exact Zq
theorem refSlide_bad (H W C k s p o m m2:Int) (hs:zam H W C=true) (hm:zad H k s p=m) (he:zbm H k s p=0) (hm2:zad W k s p=m2) (he2:zbm W k s p=0) (hr:zam m m2 o=false) (wd:World) :
  Calls Tryz.prog 66 #[.agg #[Jj Jq H,Jj Jq W,Jj Jq C],Jj Jq k,Jj Jq s,Jj Jq p,Jj Jq o] wd fun e w'=>e=.returned (.tuple #[.agg #[Jj Jq 0,Jj Jq 0,Jj Jq 0],Jj Jq 5])∧Below wd.heap.size wd w':=by
 obtain⟨n,hn0,hn1,hn2⟩:=zct hs
 have HS:=hid hn0
 have HM:=hid hm
 have HE:=hid he
 have HM2:=hid hm2
 have HE2:=hid he2
 have HR:=hid (zb6 hr)
 clear hs hn0 hm he hm2 he2 hr
 go_enter Tryz.func66,Tryz.ntmps66
 go_wp2_with (first
  | (go_at_call 65;((with_reducible refine (zas H W C n HS.out _).mono ?_);rintro e w1 ⟨rfl,hb⟩;obtain⟨hc,hf⟩:=Kit.bcell hb))
  | (go_at_call 110;((with_reducible refine (zb8 H k s p m 0 HM.out HE.out _).mono ?_);rintro e w' ⟨rfl,rfl⟩))
  | (go_at_call 110;((with_reducible refine (zb8 W k s p m2 0 HM2.out HE2.out _).mono ?_);rintro e w' ⟨rfl,rfl⟩))
  | (go_at_call 65;((with_reducible refine (zas m m2 o 0 HR.out _).mono ?_);(rintro e w2 ⟨rfl,hb2⟩;have hs1:wd.heap.size+1 < w1.heap.size:=Zbb;have d0:w2.cell? ⟨wd.heap.size+1,0,none⟩=some (Jj Jq 0):=(hb2.cell (p:=⟨wd.heap.size+1,0,none⟩) Zba).trans Zb6;have d1:w2.cell? ⟨wd.heap.size+1,1,none⟩=some (Jj Jq 0):=(hb2.cell (p:=⟨wd.heap.size+1,1,none⟩) Zba).trans Zb6;have d2:w2.cell? ⟨wd.heap.size+1,2,none⟩=some (Jj Jq 0):=(hb2.cell (p:=⟨wd.heap.size+1,2,none⟩) Zba).trans Zb6;have g0:w2.frozen? ⟨wd.heap.size+1,0,none⟩=false:=(hb2.frozen (p:=⟨wd.heap.size+1,0,none⟩) Zba).trans Zb6;have g1:w2.frozen? ⟨wd.heap.size+1,1,none⟩=false:=(hb2.frozen (p:=⟨wd.heap.size+1,1,none⟩) Zba).trans Zb6;have g2:w2.frozen? ⟨wd.heap.size+1,2,none⟩=false:=(hb2.frozen (p:=⟨wd.heap.size+1,2,none⟩) Zba).trans Zb6;have c0:w2.cell? ⟨w1.heap.size,0,none⟩=some (Jj Jq m):=(hb2.cell (p:=⟨w1.heap.size,0,none⟩) Zb7).trans Zb6;have c1:w2.cell? ⟨w1.heap.size,1,none⟩=some (Jj Jq m2):=(hb2.cell (p:=⟨w1.heap.size,1,none⟩) Zb7).trans Zb6;have c2:w2.cell? ⟨w1.heap.size,2,none⟩=some (Jj Jq o):=(hb2.cell (p:=⟨w1.heap.size,2,none⟩) Zb7).trans Zb6;clear hc hf))))
 exact Z47
theorem refSlide_good (H W C k s p o m m2:Int) (hs:zam H W C=true) (hm:zad H k s p=m) (he:zbm H k s p=0) (hm2:zad W k s p=m2) (he2:zbm W k s p=0) (hr:zam m m2 o=true) (wd:World) :
  Calls Tryz.prog 66 #[.agg #[Jj Jq H,Jj Jq W,Jj Jq C],Jj Jq k,Jj Jq s,Jj Jq p,Jj Jq o] wd fun e w'=>e=.returned (.tuple #[.agg #[Jj Jq m,Jj Jq m2,Jj Jq o],Jj Jq 0])∧Below wd.heap.size wd w':=by
 obtain⟨n,hn0,hn1,hn2⟩:=zct hs
 have HS:=hid hn0
 have HM:=hid hm
 have HE:=hid he
 have HM2:=hid hm2
 have HE2:=hid he2
 obtain⟨n2,hq0,hq1,hq2⟩:=zct hr
 have HR:=hid hq0
 clear hq0 hs hn0 hm he hm2 he2 hr
 go_enter Tryz.func66,Tryz.ntmps66
 go_wp2_with (first
  | (go_at_call 65;((with_reducible refine (zas H W C n HS.out _).mono ?_);rintro e w1 ⟨rfl,hb⟩;obtain⟨hc,hf⟩:=Kit.bcell hb))
  | (go_at_call 110;((with_reducible refine (zb8 H k s p m 0 HM.out HE.out _).mono ?_);rintro e w' ⟨rfl,rfl⟩))
  | (go_at_call 110;((with_reducible refine (zb8 W k s p m2 0 HM2.out HE2.out _).mono ?_);rintro e w' ⟨rfl,rfl⟩))
  | (go_at_call 65;((with_reducible refine (zas m m2 o n2 HR.out _).mono ?_);(rintro e w2 ⟨rfl,hb2⟩;have hs1:wd.heap.size+1 < w1.heap.size:=Zbb;have d0:w2.cell? ⟨wd.heap.size+1,0,none⟩=some (Jj Jq 0):=(hb2.cell (p:=⟨wd.heap.size+1,0,none⟩) Zba).trans Zb6;have d1:w2.cell? ⟨wd.heap.size+1,1,none⟩=some (Jj Jq 0):=(hb2.cell (p:=⟨wd.heap.size+1,1,none⟩) Zba).trans Zb6;have d2:w2.cell? ⟨wd.heap.size+1,2,none⟩=some (Jj Jq 0):=(hb2.cell (p:=⟨wd.heap.size+1,2,none⟩) Zba).trans Zb6;have g0:w2.frozen? ⟨wd.heap.size+1,0,none⟩=false:=(hb2.frozen (p:=⟨wd.heap.size+1,0,none⟩) Zba).trans Zb6;have g1:w2.frozen? ⟨wd.heap.size+1,1,none⟩=false:=(hb2.frozen (p:=⟨wd.heap.size+1,1,none⟩) Zba).trans Zb6;have g2:w2.frozen? ⟨wd.heap.size+1,2,none⟩=false:=(hb2.frozen (p:=⟨wd.heap.size+1,2,none⟩) Zba).trans Zb6;have c0:w2.cell? ⟨w1.heap.size,0,none⟩=some (Jj Jq m):=(hb2.cell (p:=⟨w1.heap.size,0,none⟩) Zb7).trans Zb6;have c1:w2.cell? ⟨w1.heap.size,1,none⟩=some (Jj Jq m2):=(hb2.cell (p:=⟨w1.heap.size,1,none⟩) Zb7).trans Zb6;have c2:w2.cell? ⟨w1.heap.size,2,none⟩=some (Jj Jq o):=(hb2.cell (p:=⟨w1.heap.size,2,none⟩) Zb7).trans Zb6;clear hc hf))))
 exact Z1h
theorem zbl (H W C k s p o e:Int) (v:Array Value) (he:za7 H W C k s p o=e) (hv:za6 H W C k s p o=v) (wd:World) :
  Calls Tryz.prog 66 #[.agg #[Jj Jq H,Jj Jq W,Jj Jq C],Jj Jq k,Jj Jq s,Jj Jq p,Jj Jq o] wd fun r w'=>r=.returned (.tuple #[.agg v,Jj Jq e])∧Below wd.heap.size wd w':=by
 subst hv
 unfold za6
 rw [he]
 unfold za7 at he
 cases hs:zam H W C
 ·rw [if_pos hs] at he
  subst he
  exact refSlide_wrong H W C k s p o hs wd
 ·rw [if_neg (by simp [hs])] at he
  by_cases h1:zbm H k s p=0
  ·rw [if_neg (by simp [h1])] at he
   by_cases h2:zbm W k s p=0
   ·rw [if_neg (by simp [h2])] at he
    cases hr:zam (zad H k s p) (zad W k s p) o
    ·rw [if_neg (by simp [hr])] at he
     subst he
     exact refSlide_bad H W C k s p o _ _ hs rfl h1 rfl h2 hr wd
    ·rw [if_pos hr] at he
     subst he
     exact refSlide_good H W C k s p o _ _ hs rfl h1 rfl h2 hr wd
   ·rw [if_pos h2] at he
    subst he
    rw [if_neg h2]
    exact refSlide_two H W C k s p o _ _ _ hs rfl h1 rfl rfl h2 wd
  ·rw [if_pos h1] at he
   subst he
   rw [if_neg h1]
   exact refSlide_one H W C k s p o _ _ hs rfl rfl h1 wd
def indexZ (H W C h w c z:Int):Int:=if inB H W C h w c then (h * W+w) * C+c else z
theorem indexZ_yes {H W C h w c z:Int} (hs:inB H W C h w c=true):indexZ H W C h w c z=(h * W+w) * C+c:=by unfold indexZ;rw [if_pos hs]
theorem indexZ_no {H W C h w c z:Int} (hs:inB H W C h w c=false):indexZ H W C h w c z=z:=by unfold indexZ;rw [if_neg (by simp [hs])]
theorem index_to (H W C h w c r:Int) (b:Bool) (hs:inB H W C h w c=b) (hr:indexZ H W C h w c 0=r) (wd:World) :
  Calls Tryz.prog 130 #[.agg #[Jj Jq H,Jj Jq W,Jj Jq C],Jj Jq h,Jj Jq w,Jj Jq c] wd fun e w'=>e=.returned (.tuple #[Jj Jq r,.bool b])∧Below wd.heap.size wd w':=by
 subst hr
 cases b
 ·rw [indexZ_no hs];exact index_no H W C h w c hs wd
 ·rw [indexZ_yes hs]
  simp only [inB,Bool.and_eq_true,decide_eq_true_eq] at hs
  obtain⟨h0,h1,h2,h3,h4,h5,h6⟩:=hs
  exact index_yes H W C h w c _ h0 h1 h2 h3 h4 h5 h6 rfl wd
end CShape
end
section
namespace CConv
open Plain CSat CShape CTensor
def convE (H W C K S P O:Int) (nW nB:Nat):Int :=
 if za7 H W C K S P O≠0 then za7 H W C K S P O else if (nW:Int)=O * K * K * C∧nW≤16384∧(nB:Int)=O then 0 else 9
def convS (H W C K S P O:Int) (nW nB:Nat):Array Value :=
 if convE H W C K S P O nW nB=0 then #[Jj Jq (zad H K S P),Jj Jq (zad W K S P),Jj Jq O] else #[Jj Jq 0,Jj Jq 0,Jj Jq 0]
theorem za9 {H W C K S P O:Int} (h:za7 H W C K S P O=0) :
  zam H W C=true∧argsB H K S P=true∧argsB W K S P=true∧0≤H+2 * P - K∧0≤W+2 * P - K∧zam (zad H K S P) (zad W K S P) O=true:=by
 unfold za7 at h
 by_cases h1:zam H W C=false
 ·rw [if_pos h1] at h;omega
 ·rw [if_neg h1] at h
  by_cases h2:zbm H K S P≠0
  ·rw [if_pos h2] at h;exact absurd h h2
  ·rw [if_neg h2] at h
   by_cases h3:zbm W K S P≠0
   ·rw [if_pos h3] at h;exact absurd h h3
   ·rw [if_neg h3] at h
    by_cases h4:zam (zad H K S P) (zad W K S P) O=false
    ·rw [if_neg (by simp [h4])] at h;omega
    ·have e1:zbm H K S P=0:=by omega
     have e2:zbm W K S P=0:=by omega
     unfold zbm at e1 e2
     have a1:argsB H K S P=true:=by
      cases h:argsB H K S P
      ·rw [h] at e1;simp at e1
      ·rfl
     have a2:argsB W K S P=true:=by
      cases h:argsB W K S P
      ·rw [h] at e2;simp at e2
      ·rfl
     rw [if_pos a1] at e1
     rw [if_pos a2] at e2
     refine⟨by simpa using h1,a1,a2,?_,?_,by simpa using h4⟩
     ·by_cases h:H+2 * P - K < 0
      ·rw [if_pos h] at e1;omega
      ·omega
     ·by_cases h:W+2 * P - K < 0
      ·rw [if_pos h] at e2;omega
      ·omega
theorem zbk {C K O:Int} (h1:1≤C) (h2:C≤1024) (h3:1≤K) (h4:K≤7) (h5:1≤O) (h6:O≤1024) :
  0≤O * K∧O * K≤7168∧0≤O * K * K∧O * K * K≤50176∧0≤O * K * K * C∧O * K * K * C≤51380224:=by
 have e1:0≤O * K:=Int.mul_nonneg Zb3 Zb3
 have e2:O * K≤1024 * 7:=Int.mul_le_mul h6 h4 Zb3 Zb3
 have e3:0≤O * K * K:=Int.mul_nonneg e1 Zb3
 have e4:O * K * K≤7168 * 7:=Int.mul_le_mul Zb3 h4 Zb3 Zb3
 have e5:0≤O * K * K * C:=Int.mul_nonneg e3 Zb3
 have e6:O * K * K * C≤50176 * 1024:=Int.mul_le_mul Zb3 h2 Zb3 Zb3
 omega
theorem conv_err (H W C:Int) (x0 x1 x2 x8 x11 x12 x13 x14 x15 x16 x17 x18:Value) (K S P O Z:Int) (WA BA:Option Addr) (nW cW nB cB:Nat) (e:Int) (he:za7 H W C K S P O=e) (hn:e≠0) (w:World) :
  Calls Tryz.prog 74 #[.agg #[Jj Jq H,Jj Jq W,Jj Jq C],.agg #[x0,x1,x2,Jj Jq K,Jj Jq S,Jj Jq P,Jj Jq O,.int .i8 Z,x8,.slice WA nW cW,.slice BA nB cB,x11,x12,x13,x14,x15,x16,x17,x18]] w fun e' w'=>e'=.returned (.tuple #[.agg #[Jj Jq 0,Jj Jq 0,Jj Jq 0],Jj Jq e])∧Below w.heap.size w w':=by
 have hS:za6 H W C K S P O=#[Jj Jq 0,Jj Jq 0,Jj Jq 0]:=by unfold za6;rw [he,if_neg hn]
 refine Za3 ?_;intro hnb hnc HE HS
 clear he hS
 go_enter Tryz.func74,Tryz.ntmps74
 go_wp2_with (go_at_call 98;(refine (zb1 H W C K S P O e _ HE.out HS.out _).mono ?_);(rintro e' w1 ⟨rfl,hb⟩;obtain⟨hcc,hff⟩:=Kit.bcell hb;have hz:w.heap.size+3≤w1.heap.size:=Zbb;have hz2:w.heap.size+2 < w1.heap.size:=Zb3;have hz1:w.heap.size+1 < w1.heap.size:=Zb3;have hz0:w.heap.size < w1.heap.size:=Zb3;have HB:=hid hb;clear hb))
 exact Z1
theorem conv_w1 (H W C:Int) (x0 x1 x2 x8 x11 x12 x13 x14 x15 x16 x17 x18:Value) (K S P O Z:Int) (WA BA:Option Addr) (nW cW nB cB:Nat) (he:za7 H W C K S P O=0) (hw:(nW:Int)≠O * K * K * C) (w:World) :
  Calls Tryz.prog 74 #[.agg #[Jj Jq H,Jj Jq W,Jj Jq C],.agg #[x0,x1,x2,Jj Jq K,Jj Jq S,Jj Jq P,Jj Jq O,.int .i8 Z,x8,.slice WA nW cW,.slice BA nB cB,x11,x12,x13,x14,x15,x16,x17,x18]] w fun e' w'=>e'=.returned (.tuple #[.agg #[Jj Jq 0,Jj Jq 0,Jj Jq 0],Jj Jq 9])∧Below w.heap.size w w':=by
 refine Z6x ?_;intro hs ha hb2 hr1 hr2 hr hS c1 c2 o1 o2 k1 k2 p1 p2 p3 p4 p5 p6
 generalize zad H K S P=m at hS ⊢
 generalize zad W K S P=m2 at hS ⊢
 refine Zad ?_;intro q hq
 rw [hq] at p5 p6
 rw [hq] at hw
 refine Za8 ?_;intro hwb hwc
 exact Z3f
theorem conv_w2 (H W C:Int) (x0 x1 x2 x8 x11 x12 x13 x14 x15 x16 x17 x18:Value) (K S P O Z:Int) (WA BA:Option Addr) (nW cW nB cB:Nat) (he:za7 H W C K S P O=0) (hw:(nW:Int)=O * K * K * C) (hw2:16384 < nW) (w:World) :
  Calls Tryz.prog 74 #[.agg #[Jj Jq H,Jj Jq W,Jj Jq C],.agg #[x0,x1,x2,Jj Jq K,Jj Jq S,Jj Jq P,Jj Jq O,.int .i8 Z,x8,.slice WA nW cW,.slice BA nB cB,x11,x12,x13,x14,x15,x16,x17,x18]] w fun e' w'=>e'=.returned (.tuple #[.agg #[Jj Jq 0,Jj Jq 0,Jj Jq 0],Jj Jq 9])∧Below w.heap.size w w':=by
 refine Z6x ?_;intro hs ha hb2 hr1 hr2 hr hS c1 c2 o1 o2 k1 k2 p1 p2 p3 p4 p5 p6
 generalize zad H K S P=m at hS ⊢
 generalize zad W K S P=m2 at hS ⊢
 refine Zad ?_;intro q hq
 rw [hq] at p5 p6
 rw [hq] at hw
 subst hw
 have hw3:(16384:Int) < (nW:Int):=by omega
 exact Z3f
theorem conv_w3 (H W C:Int) (x0 x1 x2 x8 x11 x12 x13 x14 x15 x16 x17 x18:Value) (K S P O Z:Int) (WA BA:Option Addr) (nW cW nB cB:Nat) (he:za7 H W C K S P O=0) (hw:(nW:Int)=O * K * K * C) (hw2:nW≤16384) (hb:(nB:Int)≠O) (w:World) :
  Calls Tryz.prog 74 #[.agg #[Jj Jq H,Jj Jq W,Jj Jq C],.agg #[x0,x1,x2,Jj Jq K,Jj Jq S,Jj Jq P,Jj Jq O,.int .i8 Z,x8,.slice WA nW cW,.slice BA nB cB,x11,x12,x13,x14,x15,x16,x17,x18]] w fun e' w'=>e'=.returned (.tuple #[.agg #[Jj Jq 0,Jj Jq 0,Jj Jq 0],Jj Jq 9])∧Below w.heap.size w w':=by
 refine Z6x ?_;intro hs ha hb2 hr1 hr2 hr hS c1 c2 o1 o2 k1 k2 p1 p2 p3 p4 p5 p6
 generalize zad H K S P=m at hS ⊢
 generalize zad W K S P=m2 at hS ⊢
 refine Zad ?_;intro q hq
 rw [hq] at p5 p6
 rw [hq] at hw
 subst hw
 have hw3:(nW:Int)≤16384:=by omega
 have hbb:((nB:Int) != O)=true:=by simpa using hb
 have hbc:((nB:Int) == O)=false:=by simpa using hb
 exact Z3f
theorem conv_ok (H W C:Int) (x0 x1 x2 x8 x11 x12 x13 x14 x15 x16 x17 x18:Value) (K S P O Z:Int) (WA BA:Option Addr) (nW cW nB cB:Nat) (he:za7 H W C K S P O=0) (hw:(nW:Int)=O * K * K * C) (hw2:nW≤16384) (hb:(nB:Int)=O) (w:World) :
  Calls Tryz.prog 74 #[.agg #[Jj Jq H,Jj Jq W,Jj Jq C],.agg #[x0,x1,x2,Jj Jq K,Jj Jq S,Jj Jq P,Jj Jq O,.int .i8 Z,x8,.slice WA nW cW,.slice BA nB cB,x11,x12,x13,x14,x15,x16,x17,x18]] w fun e' w'=>e'=.returned (.tuple #[.agg #[Jj Jq (zad H K S P),Jj Jq (zad W K S P),Jj Jq O],Jj Jq 0])∧Below w.heap.size w w':=by
 refine Z6x ?_;intro hs ha hb2 hr1 hr2 hr hS c1 c2 o1 o2 k1 k2 p1 p2 p3 p4 p5 p6
 generalize zad H K S P=m at hS ⊢
 generalize zad W K S P=m2 at hS ⊢
 refine Zad ?_;intro q hq
 rw [hq] at p5 p6
 rw [hq] at hw
 subst hw
 have hw3:(nW:Int)≤16384:=by omega
 have hbb:((nB:Int) != O)=false:=by simpa using hb
 clear ha hb2 hr1 hr2 hr hs
 have HE:=hid he
 have HS:=hid hS
 clear he hS
 go_enter Tryz.func74,Tryz.ntmps74
 go_wp2_with (go_at_call 98;(refine (zb1 H W C K S P O 0 _ HE.out HS.out _).mono ?_);(rintro e' w1 ⟨rfl,hb⟩;obtain⟨hcc,hff⟩:=Kit.bcell hb;have hz:w.heap.size+3≤w1.heap.size:=Zbb;have hz2:w.heap.size+2 < w1.heap.size:=Zb3;have hz1:w.heap.size+1 < w1.heap.size:=Zb3;have hz0:w.heap.size < w1.heap.size:=Zb3;have HB:=hid hb;clear hb))
 exact Z4u
theorem conv_to (H W C:Int) (x0 x1 x2 x8 x11 x12 x13 x14 x15 x16 x17 x18:Value) (K S P O Z:Int) (WA BA:Option Addr) (nW cW nB cB:Nat) (e:Int) (v:Array Value) (he:convE H W C K S P O nW nB=e) (hv:convS H W C K S P O nW nB=v) (w:World) :
  Calls Tryz.prog 74 #[.agg #[Jj Jq H,Jj Jq W,Jj Jq C],.agg #[x0,x1,x2,Jj Jq K,Jj Jq S,Jj Jq P,Jj Jq O,.int .i8 Z,x8,.slice WA nW cW,.slice BA nB cB,x11,x12,x13,x14,x15,x16,x17,x18]] w fun e' w'=>e'=.returned (.tuple #[.agg v,Jj Jq e])∧Below w.heap.size w w':=by
 subst hv
 unfold convS
 rw [he]
 unfold convE at he
 by_cases h1:za7 H W C K S P O≠0
 ·rw [if_pos h1] at he
  rw [if_neg Zbg]
  exact conv_err H W C x0 x1 x2 x8 x11 x12 x13 x14 x15 x16 x17 x18 K S P O Z WA BA nW cW nB cB e he Zbg w
 ·have h0:za7 H W C K S P O=0:=by omega
  rw [if_neg h1] at he
  by_cases h2:(nW:Int)=O * K * K * C∧nW≤16384∧(nB:Int)=O
  ·rw [if_pos h2] at he
   subst he
   rw [if_pos rfl]
   exact conv_ok H W C x0 x1 x2 x8 x11 x12 x13 x14 x15 x16 x17 x18 K S P O Z WA BA nW cW nB cB h0 h2.1 h2.2.1 h2.2.2 w
  ·rw [if_neg h2] at he
   subst he
   rw [if_neg Zbc]
   by_cases h3:(nW:Int)=O * K * K * C
   ·by_cases h4:nW≤16384
    ·exact conv_w3 H W C x0 x1 x2 x8 x11 x12 x13 x14 x15 x16 x17 x18 K S P O Z WA BA nW cW nB cB h0 h3 h4 (fun h5=>h2 ⟨h3,h4,h5⟩) w
    ·exact conv_w2 H W C x0 x1 x2 x8 x11 x12 x13 x14 x15 x16 x17 x18 K S P O Z WA BA nW cW nB cB h0 h3 Zb3 w
   ·exact conv_w1 H W C x0 x1 x2 x8 x11 x12 x13 x14 x15 x16 x17 x18 K S P O Z WA BA nW cW nB cB h0 h3 w
theorem refConv_err (H W C:Int) (x0 x1 x2 x8 x11 x12 x13 x14 x15 x16 x17 x18:Value) (K S P O Z:Int) (WA BA:Option Addr) (nW cW nB cB:Nat) (e:Int) (he:za7 H W C K S P O=e) (hn:e≠0) (w:World) :
  Calls Tryz.prog 86 #[.agg #[Jj Jq H,Jj Jq W,Jj Jq C],.agg #[x0,x1,x2,Jj Jq K,Jj Jq S,Jj Jq P,Jj Jq O,.int .i8 Z,x8,.slice WA nW cW,.slice BA nB cB,x11,x12,x13,x14,x15,x16,x17,x18]] w fun e' w'=>e'=.returned (.tuple #[.agg #[Jj Jq 0,Jj Jq 0,Jj Jq 0],Jj Jq e])∧Below w.heap.size w w':=by
 have hS:za6 H W C K S P O=#[Jj Jq 0,Jj Jq 0,Jj Jq 0]:=by unfold za6;rw [he,if_neg hn]
 refine Za3 ?_;intro hnb hnc HE HS
 clear he hS
 go_enter Tryz.func86,Tryz.ntmps86
 go_wp2_with (go_at_call 66;(refine (zbl H W C K S P O e _ HE.out HS.out _).mono ?_);(rintro e' w1 ⟨rfl,hb⟩;obtain⟨hcc,hff⟩:=Kit.bcell hb;have hz:w.heap.size+3≤w1.heap.size:=Zbb;have hz2:w.heap.size+2 < w1.heap.size:=Zb3;have hz1:w.heap.size+1 < w1.heap.size:=Zb3;have hz0:w.heap.size < w1.heap.size:=Zb3;have HB:=hid hb;clear hb))
 exact Z1
theorem refConv_w1 (H W C:Int) (x0 x1 x2 x8 x11 x12 x13 x14 x15 x16 x17 x18:Value) (K S P O Z:Int) (WA BA:Option Addr) (nW cW nB cB:Nat) (he:za7 H W C K S P O=0) (hw:(nW:Int)≠O * K * K * C) (w:World) :
  Calls Tryz.prog 86 #[.agg #[Jj Jq H,Jj Jq W,Jj Jq C],.agg #[x0,x1,x2,Jj Jq K,Jj Jq S,Jj Jq P,Jj Jq O,.int .i8 Z,x8,.slice WA nW cW,.slice BA nB cB,x11,x12,x13,x14,x15,x16,x17,x18]] w fun e' w'=>e'=.returned (.tuple #[.agg #[Jj Jq 0,Jj Jq 0,Jj Jq 0],Jj Jq 9])∧Below w.heap.size w w':=by
 refine Z6x ?_;intro hs ha hb2 hr1 hr2 hr hS c1 c2 o1 o2 k1 k2 p1 p2 p3 p4 p5 p6
 generalize zad H K S P=m at hS ⊢
 generalize zad W K S P=m2 at hS ⊢
 refine Zad ?_;intro q hq
 rw [hq] at p5 p6
 rw [hq] at hw
 refine Za8 ?_;intro hwb hwc
 exact Z3g
theorem refConv_w2 (H W C:Int) (x0 x1 x2 x8 x11 x12 x13 x14 x15 x16 x17 x18:Value) (K S P O Z:Int) (WA BA:Option Addr) (nW cW nB cB:Nat) (he:za7 H W C K S P O=0) (hw:(nW:Int)=O * K * K * C) (hw2:16384 < nW) (w:World) :
  Calls Tryz.prog 86 #[.agg #[Jj Jq H,Jj Jq W,Jj Jq C],.agg #[x0,x1,x2,Jj Jq K,Jj Jq S,Jj Jq P,Jj Jq O,.int .i8 Z,x8,.slice WA nW cW,.slice BA nB cB,x11,x12,x13,x14,x15,x16,x17,x18]] w fun e' w'=>e'=.returned (.tuple #[.agg #[Jj Jq 0,Jj Jq 0,Jj Jq 0],Jj Jq 9])∧Below w.heap.size w w':=by
 refine Z6x ?_;intro hs ha hb2 hr1 hr2 hr hS c1 c2 o1 o2 k1 k2 p1 p2 p3 p4 p5 p6
 generalize zad H K S P=m at hS ⊢
 generalize zad W K S P=m2 at hS ⊢
 refine Zad ?_;intro q hq
 rw [hq] at p5 p6
 rw [hq] at hw
 subst hw
 have hw3:(16384:Int) < (nW:Int):=by omega
 exact Z3g
theorem refConv_w3 (H W C:Int) (x0 x1 x2 x8 x11 x12 x13 x14 x15 x16 x17 x18:Value) (K S P O Z:Int) (WA BA:Option Addr) (nW cW nB cB:Nat) (he:za7 H W C K S P O=0) (hw:(nW:Int)=O * K * K * C) (hw2:nW≤16384) (hb:(nB:Int)≠O) (w:World) :
  Calls Tryz.prog 86 #[.agg #[Jj Jq H,Jj Jq W,Jj Jq C],.agg #[x0,x1,x2,Jj Jq K,Jj Jq S,Jj Jq P,Jj Jq O,.int .i8 Z,x8,.slice WA nW cW,.slice BA nB cB,x11,x12,x13,x14,x15,x16,x17,x18]] w fun e' w'=>e'=.returned (.tuple #[.agg #[Jj Jq 0,Jj Jq 0,Jj Jq 0],Jj Jq 9])∧Below w.heap.size w w':=by
 refine Z6x ?_;intro hs ha hb2 hr1 hr2 hr hS c1 c2 o1 o2 k1 k2 p1 p2 p3 p4 p5 p6
 generalize zad H K S P=m at hS ⊢
 generalize zad W K S P=m2 at hS ⊢
 refine Zad ?_;intro q hq
 rw [hq] at p5 p6
 rw [hq] at hw
 subst hw
 have hw3:(nW:Int)≤16384:=by omega
 have hbb:((nB:Int) != O)=true:=by simpa using hb
 have hbc:((nB:Int) == O)=false:=by simpa using hb
 exact Z3g
theorem refConv_ok (H W C:Int) (x0 x1 x2 x8 x11 x12 x13 x14 x15 x16 x17 x18:Value) (K S P O Z:Int) (WA BA:Option Addr) (nW cW nB cB:Nat) (he:za7 H W C K S P O=0) (hw:(nW:Int)=O * K * K * C) (hw2:nW≤16384) (hb:(nB:Int)=O) (w:World) :
  Calls Tryz.prog 86 #[.agg #[Jj Jq H,Jj Jq W,Jj Jq C],.agg #[x0,x1,x2,Jj Jq K,Jj Jq S,Jj Jq P,Jj Jq O,.int .i8 Z,x8,.slice WA nW cW,.slice BA nB cB,x11,x12,x13,x14,x15,x16,x17,x18]] w fun e' w'=>e'=.returned (.tuple #[.agg #[Jj Jq (zad H K S P),Jj Jq (zad W K S P),Jj Jq O],Jj Jq 0])∧Below w.heap.size w w':=by
 refine Z6x ?_;intro hs ha hb2 hr1 hr2 hr hS c1 c2 o1 o2 k1 k2 p1 p2 p3 p4 p5 p6
 generalize zad H K S P=m at hS ⊢
 generalize zad W K S P=m2 at hS ⊢
 refine Zad ?_;intro q hq
 rw [hq] at p5 p6
 rw [hq] at hw
 subst hw
 have hw3:(nW:Int)≤16384:=by omega
 have hbb:((nB:Int) != O)=false:=by simpa using hb
 clear ha hb2 hr1 hr2 hr hs
 have HE:=hid he
 have HS:=hid hS
 clear he hS
 go_enter Tryz.func86,Tryz.ntmps86
 go_wp2_with (go_at_call 66;(refine (zbl H W C K S P O 0 _ HE.out HS.out _).mono ?_);(rintro e' w1 ⟨rfl,hb⟩;obtain⟨hcc,hff⟩:=Kit.bcell hb;have hz:w.heap.size+3≤w1.heap.size:=Zbb;have hz2:w.heap.size+2 < w1.heap.size:=Zb3;have hz1:w.heap.size+1 < w1.heap.size:=Zb3;have hz0:w.heap.size < w1.heap.size:=Zb3;have HB:=hid hb;clear hb))
 exact Z4u
theorem refConv_to (H W C:Int) (x0 x1 x2 x8 x11 x12 x13 x14 x15 x16 x17 x18:Value) (K S P O Z:Int) (WA BA:Option Addr) (nW cW nB cB:Nat) (e:Int) (v:Array Value) (he:convE H W C K S P O nW nB=e) (hv:convS H W C K S P O nW nB=v) (w:World) :
  Calls Tryz.prog 86 #[.agg #[Jj Jq H,Jj Jq W,Jj Jq C],.agg #[x0,x1,x2,Jj Jq K,Jj Jq S,Jj Jq P,Jj Jq O,.int .i8 Z,x8,.slice WA nW cW,.slice BA nB cB,x11,x12,x13,x14,x15,x16,x17,x18]] w fun e' w'=>e'=.returned (.tuple #[.agg v,Jj Jq e])∧Below w.heap.size w w':=by
 subst hv
 unfold convS
 rw [he]
 unfold convE at he
 by_cases h1:za7 H W C K S P O≠0
 ·rw [if_pos h1] at he
  rw [if_neg Zbg]
  exact refConv_err H W C x0 x1 x2 x8 x11 x12 x13 x14 x15 x16 x17 x18 K S P O Z WA BA nW cW nB cB e he Zbg w
 ·have h0:za7 H W C K S P O=0:=by omega
  rw [if_neg h1] at he
  by_cases h2:(nW:Int)=O * K * K * C∧nW≤16384∧(nB:Int)=O
  ·rw [if_pos h2] at he
   subst he
   rw [if_pos rfl]
   exact refConv_ok H W C x0 x1 x2 x8 x11 x12 x13 x14 x15 x16 x17 x18 K S P O Z WA BA nW cW nB cB h0 h2.1 h2.2.1 h2.2.2 w
  ·rw [if_neg h2] at he
   subst he
   rw [if_neg Zbc]
   by_cases h3:(nW:Int)=O * K * K * C
   ·by_cases h4:nW≤16384
    ·exact refConv_w3 H W C x0 x1 x2 x8 x11 x12 x13 x14 x15 x16 x17 x18 K S P O Z WA BA nW cW nB cB h0 h3 h4 (fun h5=>h2 ⟨h3,h4,h5⟩) w
    ·exact refConv_w2 H W C x0 x1 x2 x8 x11 x12 x13 x14 x15 x16 x17 x18 K S P O Z WA BA nW cW nB cB h0 h3 Zb3 w
   ·exact refConv_w1 H W C x0 x1 x2 x8 x11 x12 x13 x14 x15 x16 x17 x18 K S P O Z WA BA nW cW nB cB h0 h3 w
end CConv
end
section
namespace CWheel
open FloatNum CFour
def Three (g:Nat) (a b c:Value) (w:World):Prop:=w.cell? ⟨g,0,none⟩=some a∧w.cell? ⟨g,1,none⟩=some b∧w.cell? ⟨g,2,none⟩=some c∧g < w.heap.size
def set3 (g:Nat) (a b c:Value) (w:World):World:=((w.setCell ⟨g,0,none⟩ a).setCell ⟨g,1,none⟩ b).setCell ⟨g,2,none⟩ c
theorem there3 (w:World) (v:Value) (T:TypeId):(w.alloc (.cells #[v,v,v] T)).there w.heap.size 0 3:=fun j hj=>by
 rw [Nat.zero_add]
 rcases j with _ | _ | _ | j
 ·exact⟨by go_cell,by go_cell⟩
 ·exact⟨by go_cell,by go_cell⟩
 ·exact⟨by go_cell,by go_cell⟩
 ·omega
theorem Three.new (w:World) (v a b c:Value) (T:TypeId):Three w.heap.size a b c (set3 w.heap.size a b c (w.alloc (.cells #[v,v,v] T))):=by
 have h:=there3 w v T
 unfold set3
 refine⟨?_,?_,?_,by simp⟩
 ·rw [World.cell?_setCell_other _ _ _ _ (by intro q;cases q),World.cell?_setCell_other _ _ _ _ (by intro q;cases q)]
  exact World.cell?_setCell_same' _ _ _ (h 0 Zb3).1
 ·rw [World.cell?_setCell_other _ _ _ _ (by intro q;cases q)]
  refine World.cell?_setCell_same' _ _ _ ?_
  rw [World.cell?_setCell_other _ _ _ _ (by intro q;cases q)];exact (h 1 Zb3).1
 ·refine World.cell?_setCell_same' _ _ _ ?_
  rw [World.cell?_setCell_other _ _ _ _ (by intro q;cases q),World.cell?_setCell_other _ _ _ _ (by intro q;cases q)];exact (h 2 Zb3).1
theorem below_set3 {B g:Nat} {a w:World} (h:Below B a w) (hg:B≤g) (x y z:Value):Below B a (set3 g x y z w):=((h.setCell (p:=⟨g,0,none⟩) hg x).setCell (p:=⟨g,1,none⟩) hg y).setCell (p:=⟨g,2,none⟩) hg z
theorem one3 (a b c:Int):(#[Value.int .i8 a,.int .i8 b,.int .i8 c].all (·.oneCell'))=true :=
 all_oneCell_toArray (cs:=[Value.int .i8 a,.int .i8 b,.int .i8 c]) (by intro v hv;simp at hv;rcases hv with rfl | rfl | rfl <;> rfl)
theorem one2 (a b:Int):(#[Value.int .i64 a,Jj Jq b].all (·.oneCell'))=true :=
 all_oneCell_toArray (cs:=[Value.int .i64 a,Jj Jq b]) (by intro v hv;simp at hv;rcases hv with rfl | rfl <;> rfl)
theorem oneL {S:Nat→Value} {p:Nat→G} (h:∀ i,i < 4→IsC (S i) (p i)):∀ u∈[S 0,S 1,S 2,S 3],u.oneCell'=true:=by
 have:=oneC h
 simp at this
 intro u hu
 simp at hu
 rcases hu with rfl | rfl | rfl | rfl
 ·exact this.1
 ·exact this.2.1
 ·exact this.2.2.1
 ·exact this.2.2.2
theorem Two.rd {g:Nat} {a b:Value} {w:World} (h:Two g a b w):Kit.Rd w w.heap.size (some ⟨g,0,none⟩) [a,b]:=fun j v hj=>by
 refine⟨_,rfl,h.2.2.2,?_⟩
 rw [Go.WideShapes.add_plain]
 match j,hj with
 | 0,hj=>simpa [← hj] using h.1
 | 1,hj=>simpa [← hj] using h.2.1
theorem zc2 {w:World} {e:TypeId} {g c n:Nat} {xs:List Value} (h:w.ownsRow g e 1 (.slice (some ⟨g,0,none⟩) n c) n xs):g < w.heap.size:=Kit.zbd h
theorem added_yes (A:Option Addr) (rows:List (List Int)) (n cA:Nat) (AW:Option Addr) (cW:Nat) (W:Nat→Nat→Int) (L m:Nat) (hn:rows.length=n) (h1:1≤n) (hN:n≤1024) (hL:∀ row∈rows,row.length=L) (hm:m+2=L) (hm1:1≤m) (hL6:L≤1000000)
  (hX:∀ k i,In16 (XR rows k i)) (hW:∀ k i,InW (W k i)) (F:Nat→Int) (hF:F=mnAt (XR rows) W n) (w:World) (hr:Kit.zb4 w w.heap.size .i16 A rows) (hw:Wts w w.heap.size AW n W) :
  Calls Tryz.prog 119 #[.slice A n cA,.slice AW n cW] w (Own64 w m (nums F m)):=by
 obtain⟨ba,oa,Ak,m0,ck,rfl,hba,hca,e1,e2,e3,hrd⟩:=hr.row (i:=0) Zb3
 have hmL:m0=L:=by rw [← e1];exact hL _ (List.getElem_mem _)
 subst hmL
 have k1:(0:Int) < (n:Int):=by omega
 have k2:IntKind.i64.wrap ((m0:Int) - 3)=(m0:Int) - 3:=IntWalk.i64_in _ Zb3
 have k3:IntKind.i64.wrap ((m0:Int) - 3+1)=(m:Int):=by rw [IntWalk.i64_in _ Zb3];omega
 have k4:¬ (m:Int) < 1:=by omega
 have hm6:m≤1000000:=by omega
 rw [Nat.add_zero] at hca
 have HN:=hid hn
 have HL:=hid hL
 have HXX:=hid hX
 have HWW:=hid hW
 have HR:=hid hr
 have HW:=hid hw
 have HCA:=hid hca
 have HMM:=hid hm
 have HFF:=hid hF
 obtain⟨i0,hi0,hi1,hi2,hi3⟩:=info_parts info_i64
 obtain⟨i4,hj0,hj1,hj2,hj3⟩:=info_parts info_c4
 have HI:=hid (And.intro hi0 (And.intro hi1 (And.intro hi2 hi3)))
 have HJ:=hid (And.intro hj0 (And.intro hj1 (And.intro hj2 hj3)))
 clear hrd e1 hL hr hn e3 hX hW hw hm hF hi0 hi1 hi2 hi3 hj0 hj1 hj2 hj3
 go_enter Tryz.func119,Tryz.ntmps119
 go_wp2
 refine Kit.zce 0 rfl ?_
 go_upto_region 6 with (at_make;refine wpList_make_own _ rfl _ _ 108 rfl w.heap.size 2 i0 (Jj Jq 0) 1 Tryz.underlying108 HI.out.1 HI.out.2.1 HI.out.2.2.1 _ _ _ m rfl rfl Zb3 (by rw [HI.out.2.2.2];omega) (by unfold maxLen;omega) (le_refl _) ?_;intro w1 hown1 hg1)
 have HO1:=hid hown1
 have hlt1:w.heap.size < w1.heap.size:=zc2 hown1
 have HB1:Hid (Below w.heap.size w w1):=hid ((Below.refl w.heap.size w).grown hg1 (le_refl _) (fun q hq=>by cases hq))
 clear hown1 hg1 hca
 go_wp2_with fail
 go_loopw [6,24] (fun v u wr=>∃ (k:Nat) (Fl:List Value),k≤n∧u=Jj Jq k∧Hid (WF W k Fl)∧Hid (wr.ownsRow (w.heap.size+1) 178 4 v k Fl)∧Hid (wr.ownsRow w.heap.size 2 1 (.slice (some ⟨w.heap.size,0,none⟩) 0 m) 0 (I64v (nums F 0)))∧Hid (Below w.heap.size w wr)) (fun _ u _=>n - (intOf u).toNat)
 case atStart=>exact⟨0,[],Nat.zero_le _,rfl,hid (WF.start W),hid (own_nil _ _ _ _),HO1,HB1⟩
 case round =>
  clear HO1 HB1 hlt1
  obtain⟨k,Fl,hk,rfl,HF,HO,HS,HB⟩:=hrel
  by_cases hlt:k < n
  ·have hkI:(k:Int) < (n:Int):=by omega
   refine Z93 ?_;intro hk0
   obtain⟨bw,ow,rfl,hbw,hcw⟩:=HW.out k hlt
   have HRW:=hid (zcv hcw HB.out hbw)
   have hz0:w.heap.size < wr.heap.size:=zc2 HS.out
   have HZ0:=hid hz0
   have hx0:=HWW.out k 0
   have hx1:=HWW.out k 1
   have hx2:=HWW.out k 2
   generalize hq0:W k 0=x0 at hx0 HRW
   generalize hq1:W k 1=x1 at hx1 HRW
   generalize hq2:W k 2=x2 at hx2 HRW
   have HQ:=hid (And.intro hq0 (And.intro hq1 hq2))
   have HXI:=hid (And.intro hx0 (And.intro hx1 hx2))
   clear hcw hq0 hq1 hq2 hx0 hx1 hx2
   go_upto_region 9 with (first
    | (refine wpList_load_mid rfl 153 (.tmp 26) rfl bw (ow+k * 3) rfl [.int .i8 x0,.int .i8 x1,.int .i8 x2] _ HRW.out Tryz.underlying153 rfl Zb5 ?_)
    | (refine wpList_store_mid rfl 153 (.tmp 9) (.tmp 27) rfl wr.heap.size 0 #[.int .i8 x0,.int .i8 x1,.int .i8 x2] rfl rfl (there3 wr (.int .i8 0) 153) Zb5 (one3 _ _ _) ?_;change wpList _ _ _ _ _ (set3 wr.heap.size (.int .i8 x0) (.int .i8 x1) (.int .i8 x2) (wr.alloc (.cells #[.int .i8 0,.int .i8 0,.int .i8 0] 153)))))
   have hal:Below wr.heap.size wr (set3 wr.heap.size (.int .i8 x0) (.int .i8 x1) (.int .i8 x2) (wr.alloc (.cells #[.int .i8 0,.int .i8 0,.int .i8 0] 153))):=below_set3 ((Below.refl wr.heap.size wr).alloc (le_refl _) (.cells #[.int .i8 0,.int .i8 0,.int .i8 0] 153)) (le_refl _) _ _ _
   obtain⟨c0,c1,c2,hg3⟩:=Three.new wr (.int .i8 0) (.int .i8 x0) (.int .i8 x1) (.int .i8 x2) 153
   replace HO:=hid (Kit.own_below HO.out hal)
   replace HS:=hid (Kit.own_below HS.out hal)
   replace HB:=hid (HB.out.trans (hal.mono HB.out.size))
   generalize set3 wr.heap.size (.int .i8 x0) (.int .i8 x1) (.int .i8 x2) (wr.alloc (.cells #[.int .i8 0,.int .i8 0,.int .i8 0] 153))=w2 at c0 c1 c2 hg3 HO HS HB ⊢
   clear hal HRW hz0
   go_wp2_with (first
    | (go_at_call 141;refine (rolled_to x0 x1 x2 HXI.out.1 HXI.out.2.1 HXI.out.2.2 _).mono ?_;rintro e w3' ⟨⟨S,rfl,hS⟩,hb⟩;have HSS:=hid hS;replace HO:=hid (Kit.own_below HO.out hb);replace HS:=hid (Kit.own_below HS.out hb);replace HB:=hid (HB.out.trans (hb.mono HB.out.size));clear hb hS)
    | (at_builtin;refine Kit.zbb _ rfl (.tmp 28) (.tmp 31) _ rfl (w.heap.size+1) 178 i4 (.agg #[z0,z0,z0,z0]) 4 64 Tryz.underlying176 HJ.out.1 HJ.out.2.1 HJ.out.2.2.1 HJ.out.2.2.2 rfl Zbc _ k Fl rfl (Kit.own_below HO.out ((Below.refl _ _).alloc (le_refl _) _)) _ _ 1 1 [S 0,S 1,S 2,S 3] rfl rfl (Kit.Rd.new _ _ _ (lt_succ_self _)) ?_ ?_ ?_ ?_ ?_;(exact oneL HSS.out);(unfold maxLen;omega);(omega);(have:=zc2 HS.out;simp;omega);intro v2 w4 hown2 hg2 hat2;have hS4:=(Kit.own_below HS.out ((Below.refl w3'.heap.size w3').alloc (le_refl _) (.cells #[S 0,S 1,S 2,S 3] 178))).kept hg2 (.inr (fun e=>absurd (Kit.zaq HO.out w.heap.size e.symm) (Nat.not_succ_le_self _)));have hB4:Below w.heap.size w w4:=(HB.out.alloc HB.out.size _).grown hg2 (by have:=HB.out.size;simp;omega) (fun q hq=>by have:=Kit.zaq HO.out q hq;omega);have HF2:=hid (HF.out.step (S:=S) (by rw [HQ.out.1,HQ.out.2.1,HQ.out.2.2];exact HSS.out));have HO4:=hid hown2;have HS4:=hid hS4;have HB4:=hid hB4;clear hS4 hB4 hown2 hg2 hat2 c0 c1 c2 hg3))
   go_roundw
   case rel=>exact⟨k+1,_,by omega,by go_num,HF2,HO4,HS4,HB4⟩
   case measure=>simp [intOf];omega
  ·obtain rfl:k=n:=by omega
   obtain⟨gW,capW,rfl,hgW,hc1,hc2,hrw⟩:=Kit.own_form HO.out Zb3
   have hwa:=WhAt.of HF.out hrw (Kit.zbd HO.out)
   have HWA:=hid hwa
   have hnw:¬ w.heap.size=gW:=by omega
   have hca:=(HB.out.cell (p:=⟨ba,oa,none⟩) hba).trans HCA.out
   obtain⟨Bn,hBn⟩:∃ Bn,(m0 - 1) / 2=Bn:=⟨_,rfl⟩
   have hBi:(Bn:Int)=if (m0:Int) < 3 then 0 else ((m0:Int) - 1) / 2:=by have:=HMM.out;rw [if_neg Zb3];omega
   have HBI:=hid hBi
   have hBb:2 * Bn≤m+1∧m≤2 * Bn:=by have:=HMM.out;omega
   have HBN:=hid hBb
   clear hrw hwa hBi HF HO hBn hBb hc1 hc2
   go_wp2_with (go_at_call 142;refine (blocks_to (m0:Int) Zb3 Zb3 (Bn:Int) HBI.out _).mono ?_;rintro e w2 ⟨rfl,rfl⟩)
   clear hca
   go_loopw [5,39] (fun v u wx=>∃ (b s:Nat),b≤Bn∧u=Jj Jq b∧s=min (b * 2) m∧Hid (wx.ownsRow w.heap.size 2 1 v s (I64v (nums F s)))∧Hid (WhAt wx gW k W)∧Hid (v.ownBlock≠some gW)∧Hid (Below w.heap.size w wx)) (fun _ u _=>Bn - (intOf u).toNat)
   case atStart=>exact⟨0,0,Nat.zero_le _,rfl,by simp,HS,HWA,hid (fun e=>hnw (Option.some.inj e)),HB⟩
   case round =>
    clear HS HWA HB
    obtain⟨b,s,hb,rfl,hs,HO,HWA,HNE,HB⟩:=hrel
    have hB2:=HBN.out
    by_cases hlt2:b < Bn
    ·obtain⟨f,hf⟩:∃ f,b * 2=f:=⟨_,rfl⟩
     obtain rfl:s=f:=by omega
     have k5:IntKind.i64.wrap ((b:Int) * 2)=(s:Int):=by rw [IntWalk.i64_in _ Zb3];omega
     have k6:(b:Int) < (Bn:Int):=by omega
     have hsm:s < m:=by omega
     obtain⟨As,cs,rfl,hs1,hs2,hs3⟩:=Kit.zaj HO.out
     obtain⟨y0,hy0⟩:∃ y,F s=y:=⟨_,rfl⟩
     obtain⟨y1,hy1⟩:∃ y,F (s+1)=y:=⟨_,rfl⟩
     have HY0:=hid hy0
     have HY1:=hid hy1
     have HSB:=hid (And.intro hf hs)
     have HFM:Hid (s+3≤m0):=hid (by have:=HMM.out;omega)
     clear hs3 hy0 hy1 hf hs
     go_upto_region 15 with (first
      | (go_at_call 144;refine (turned_to (some ⟨ba,oa,none⟩) rows k cA (some ⟨gW,0,none⟩) capW W m0 s HN.out hN HL.out HFM.out HXX.out HWW.out _ ((HR.out.below HB.out).more HB.out.size) HWA.out.wheels).mono ?_;rintro e w2 ⟨⟨S,p,rfl,hS,hT⟩,hbb⟩;have HSS:=hid hS;have HTT:=hid hT;replace HO:=hid (Kit.own_below HO.out hbb);replace HWA:=hid (HWA.out.below hbb HWA.out.1);replace HB:=hid (HB.out.trans (hbb.mono HB.out.size));clear hbb hS hT)
      | (go_at_call 143;refine (unrolled_to S p (k * 134217728) Zb3 HSS.out HTT.out.bound _ HTT.out.back y0 y1 (by rw [← HY0.out,HFF.out];rfl) (by rw [← HY1.out,HFF.out];rfl) _).mono ?_;rintro e w3' ⟨rfl,hbb⟩;replace HO:=hid (Kit.own_below HO.out hbb);replace HWA:=hid (HWA.out.below hbb HWA.out.1);replace HB:=hid (HB.out.trans (hbb.mono HB.out.size));clear hbb)
      | (refine wpList_store_mid rfl 180 (.tmp 11) (.tmp 47) rfl w3'.heap.size 0 #[Jj Jq y0,Jj Jq y1] rfl rfl (Two.new w3' (Jj Jq 0) (Jj Jq 0) 180).there Zb5 (one2 _ _) ?_;change wpList _ _ _ _ _ (CFour.set2 w3'.heap.size (Jj Jq y0) (Jj Jq y1) (w3'.alloc (.cells #[Jj Jq 0,Jj Jq 0] 180)))))
     have hal:Below w3'.heap.size w3' (CFour.set2 w3'.heap.size (Jj Jq y0) (Jj Jq y1) (w3'.alloc (.cells #[Jj Jq 0,Jj Jq 0] 180))):=zcq ((Below.refl w3'.heap.size w3').alloc (le_refl _) (.cells #[Jj Jq 0,Jj Jq 0] 180)) (le_refl _) _ _
     have h180:=(Two.new w3' (Jj Jq 0) (Jj Jq 0) 180).set2 (Jj Jq y0) (Jj Jq y1)
     replace HO:=hid (Kit.own_below HO.out hal)
     replace HWA:=hid (HWA.out.below hal HWA.out.1)
     replace HB:=hid (HB.out.trans (hal.mono HB.out.size))
     generalize CFour.set2 w3'.heap.size (Jj Jq y0) (Jj Jq y1) (w3'.alloc (.cells #[Jj Jq 0,Jj Jq 0] 180))=w4 at h180 HO HWA HB ⊢
     have H180:=hid (Two.rd h180)
     clear hal h180
     by_cases h2:s+2≤m
     ·have q1:IntKind.i64.wrap ((m:Int) - (s:Int))=(m:Int) - (s:Int):=IntWalk.i64_in _ Zb3
      have q2:(2:Int)≤(m:Int) - (s:Int):=by omega
      have q3:¬ (m:Int) - (s:Int) < 2:=by omega
      go_wp2_with (at_builtin;refine Kit.zbb _ rfl (.tmp 48) (.tmp 54) _ rfl w.heap.size 2 i0 (Jj Jq 0) 1 8 Tryz.underlying108 HI.out.1 HI.out.2.1 HI.out.2.2.1 HI.out.2.2.2 rfl Zbc _ s (I64v (nums F s)) rfl HO.out _ _ 2 2 [Jj Jq y0,Jj Jq y1] rfl rfl H180.out ?_ ?_ ?_ ?_ ?_;(exact (Kit.za5 .i64 [y0,y1]));(unfold maxLen;omega);(omega);(exact HB.out.size);intro v2 w5 hown2 hg2 hat2)
      have hne2:v2.ownBlock≠some gW:=by
       exact Z2q
      have HWA5:=hid (HWA.out.grown hg2 HNE.out)
      have HB5:Hid (Below w.heap.size w w5):=hid (HB.out.grown hg2 HB.out.size (fun q hq=>Kit.zaq HO.out q hq))
      have e5:I64v (nums F s) ++ [Jj Jq y0,Jj Jq y1]=I64v (nums F (s+2)):=by rw [show s+2=s+1+1 from rfl];simp only [nums_succ,List.map_append,List.append_assoc];rw [HY0.out,HY1.out];rfl
      rw [e5] at hown2
      have HO5:=hid hown2
      have HNE5:=hid hne2
      clear hown2 hg2 hat2 hne2 e5
      go_roundw
      case rel=>exact⟨b+1,s+2,by omega,by go_num,by have:=HSB.out;omega,HO5,HWA5,HNE5,HB5⟩
      case measure=>simp [intOf];omega
     ·have q1:IntKind.i64.wrap ((m:Int) - (s:Int))=1:=by rw [IntWalk.i64_in _ Zb3];omega
      go_wp2_with (at_builtin;refine Kit.zbb _ rfl (.tmp 48) (.tmp 54) _ rfl w.heap.size 2 i0 (Jj Jq 0) 1 8 Tryz.underlying108 HI.out.1 HI.out.2.1 HI.out.2.2.1 HI.out.2.2.2 rfl Zbc _ s (I64v (nums F s)) rfl HO.out _ _ 1 2 [Jj Jq y0] rfl rfl (H180.out.take 1) ?_ ?_ ?_ ?_ ?_;(exact (Kit.za5 .i64 [y0]));(unfold maxLen;omega);(omega);(exact HB.out.size);intro v2 w5 hown2 hg2 hat2)
      have hne2:v2.ownBlock≠some gW:=by
       exact Z2q
      have HWA5:=hid (HWA.out.grown hg2 HNE.out)
      have HB5:Hid (Below w.heap.size w w5):=hid (HB.out.grown hg2 HB.out.size (fun q hq=>Kit.zaq HO.out q hq))
      have e5:I64v (nums F s) ++ [Jj Jq y0]=I64v (nums F (s+1)):=by rw [nums_succ,HY0.out];show _=(nums F s ++ [y0]).map _;rw [List.map_append];rfl
      rw [e5] at hown2
      have HO5:=hid hown2
      have HNE5:=hid hne2
      clear hown2 hg2 hat2 hne2 e5
      go_roundw
      case rel=>exact⟨b+1,s+1,by omega,by go_num,by have:=HSB.out;omega,HO5,HWA5,HNE5,HB5⟩
      case measure=>simp [intOf];omega
    ·obtain rfl:b=Bn:=by omega
     obtain rfl:s=m:=by omega
     obtain⟨As,cs,rfl, -, -, -⟩:=Kit.zaj HO.out
     go_wp2
     go_step3
     go_wp2
     go_ret
     exact⟨_,rfl,HO.out,HB.out⟩
end CWheel
end
end Go.Proofs.YtchpdhhpkljdhaaGreatDoor
