/- -/
import Derived.Test.YtoffcaldhojjoaaDoorGVP27
open Go.Lib (hid)
open Nat (le_refl lt_of_succ_lt lt_succ_self)
set_option linter.unusedVariables false
set_option linter.unusedSimpArgs false
set_option maxRecDepth 100000
set_option maxHeartbeats 16000000
namespace Go.Proofs.YtoffcaldhojjoaaDoor
namespace CConv
end CConv
namespace CDense
end CDense
namespace CFix
end CFix
namespace CGraph
end CGraph
namespace CJoin
end CJoin
namespace CKind
end CKind
namespace CSat
end CSat
namespace CShape
end CShape
namespace CSpan
end CSpan
namespace CTensor
end CTensor
open Go Go.ChangeShapes Go.WideShapes Go.ChangeAt Go.RowKit Go.Deep
section
namespace CKind
open Plain CSat CShape CTensor CConv CDense CDepth
theorem valid_to (H W C e u0 u1 u2:Int) (b:Bool) (hb:zad H W C=b) (he:(if b=true then (0:Int) else 5)=e) (hv:(if b=true then (#[.int .i64 H,.int .i64 W,.int .i64 C]:Array Value) else #[.int .i64 0,.int .i64 0,.int .i64 0])=#[.int .i64 u0,.int .i64 u1,.int .i64 u2]) (w:World) :
  Calls Tryd.prog 75 #[.agg #[.int .i64 H,.int .i64 W,.int .i64 C]] w fun r w'=>r=.returned (.tuple #[.agg #[.int .i64 u0,.int .i64 u1,.int .i64 u2],.int .i64 e])∧Below w.heap.size w w':=by
 have HR:=hid (zaj H W C b hb)
 have HB:Hid (Below w.heap.size w ((w.alloc (.cells #[.int .i64 H,.int .i64 W,.int .i64 C] 30)).alloc (.cells #[.int .i64 0,.int .i64 0,.int .i64 0] 30))):=hid (((Below.refl _ _).alloc (by first | exact le_refl _ | (simp;done) | (simp;omega) | omega) _).alloc (by first | exact le_refl _ | (simp;done) | (simp;omega) | omega) _)
 clear hb
 cases b
 all_goals
  simp only [if_true,if_false,Bool.false_eq_true] at he hv
  obtain⟨rfl,rfl,rfl⟩:=three_inj hv
  subst he
  clear hv
  go_enter Tryd.func75,Tryd.ntmps75
  go_wp2_with (go_at_call 30;(with_reducible refine (HR.out _).mono ?_);rintro e1 w1 ⟨rfl,hb⟩;obtain⟨hcc,hff⟩:=Kit.bcell hb;have hz1:w.heap.size+1 < w1.heap.size:=(by have:=hb.size;simp at this;omega);(replace HB:=hid (HB.out.trans (hb.mono HB.out.size)));clear hb)
 ·refine bodyPost_ret (Kit.zaa rfl _ _ (w.heap.size+1) 0 [.int .i64 0,.int .i64 0,.int .i64 0] _ rfl (Kit.zai (by go_cell) (by go_cell) (by go_cell)) Tryd.underlying30 rfl (by kernel_rfl)) rfl ?_
  exact⟨rfl,((HB.out.setCell (p:=⟨w.heap.size+1,0,none⟩) (Nat.le_succ _) _).setCell (p:=⟨w.heap.size+1,1,none⟩) (Nat.le_succ _) _).setCell (p:=⟨w.heap.size+1,2,none⟩) (Nat.le_succ _) _⟩
 ·refine bodyPost_ret (Kit.zaa rfl _ _ (w.heap.size+1) 0 [.int .i64 H,.int .i64 W,.int .i64 C] _ rfl (Kit.zai (by go_cell) (by go_cell) (by go_cell)) Tryd.underlying30 rfl (by kernel_rfl)) rfl ?_
  exact⟨rfl,((HB.out.setCell (p:=⟨w.heap.size+1,0,none⟩) (Nat.le_succ _) _).setCell (p:=⟨w.heap.size+1,1,none⟩) (Nat.le_succ _) _).setCell (p:=⟨w.heap.size+1,2,none⟩) (Nat.le_succ _) _⟩
theorem shape_in {H W C:Int} (h:zad H W C=true):1≤H∧H≤16∧1≤W∧W≤16:=by
 obtain⟨a1,a2,a3,a4,_,_,_⟩:=zaf h
 exact⟨a1,a2,a3,a4⟩
theorem widened_to (H W C P e u0 u1 u2:Int) (he:(if zad H W C=false then (5:Int) else if P < 0∨4 < P then 2 else if zad (H+2 * P) (W+2 * P) C=false then 5 else 0)=e) (hv:(if e≠0 then (#[.int .i64 0,.int .i64 0,.int .i64 0]:Array Value) else #[.int .i64 (H+2 * P),.int .i64 (W+2 * P),.int .i64 C])=#[.int .i64 u0,.int .i64 u1,.int .i64 u2]) (w:World) :
  Calls Tryd.prog 76 #[.agg #[.int .i64 H,.int .i64 W,.int .i64 C],.int .i64 P] w fun r w'=>r=.returned (.tuple #[.agg #[.int .i64 u0,.int .i64 u1,.int .i64 u2],.int .i64 e])∧Below w.heap.size w w':=by
 have HB:Hid (Below w.heap.size w ((w.alloc (.cells #[.int .i64 H,.int .i64 W,.int .i64 C] 30)).alloc (.cells #[.int .i64 0,.int .i64 0,.int .i64 0] 30))):=hid (((Below.refl _ _).alloc (by first | exact le_refl _ | (simp;done) | (simp;omega) | omega) _).alloc (by first | exact le_refl _ | (simp;done) | (simp;omega) | omega) _)
 cases hs:zad H W C
 ·have HR:=hid (zaj H W C false hs)
  rw [if_pos hs] at he
  subst he
  rw [if_pos (by decide)] at hv
  obtain⟨rfl,rfl,rfl⟩:=three_inj hv
  clear hv hs
  go_enter Tryd.func76,Tryd.ntmps76
  go_wp2_with (go_at_call 30;(with_reducible refine (HR.out _).mono ?_);rintro e1 w1 ⟨rfl,hb⟩;obtain⟨hcc,hff⟩:=Kit.bcell hb;have hz1:w.heap.size+1 < w1.heap.size:=(by have:=hb.size;simp at this;omega);(replace HB:=hid (HB.out.trans (hb.mono HB.out.size)));clear hb)
  refine bodyPost_ret (Kit.zaa rfl _ _ (w.heap.size+1) 0 [.int .i64 0,.int .i64 0,.int .i64 0] _ rfl (Kit.zai (by go_cell) (by go_cell) (by go_cell)) Tryd.underlying30 rfl (by kernel_rfl)) rfl ?_
  exact⟨rfl,((HB.out.setCell (p:=⟨w.heap.size+1,0,none⟩) (Nat.le_succ _) _).setCell (p:=⟨w.heap.size+1,1,none⟩) (Nat.le_succ _) _).setCell (p:=⟨w.heap.size+1,2,none⟩) (Nat.le_succ _) _⟩
 ·have HR:=hid (zaj H W C true hs)
  obtain⟨a1,a2,a3,a4⟩:=shape_in hs
  rw [if_neg (by simp [hs])] at he
  clear hs
  by_cases hp:P < 0∨4 < P
  ·rw [if_pos hp] at he
   subst he
   rw [if_pos (by decide)] at hv
   obtain⟨rfl,rfl,rfl⟩:=three_inj hv
   clear hv a1 a2 a3 a4
   rcases (show P < 0∨(¬ P < 0∧4 < P) by omega) with hq | ⟨hq,hq2⟩
   all_goals
    clear hp
    go_enter Tryd.func76,Tryd.ntmps76
    go_wp2_with (go_at_call 30;(with_reducible refine (HR.out _).mono ?_);rintro e1 w1 ⟨rfl,hb⟩;obtain⟨hcc,hff⟩:=Kit.bcell hb;have hz1:w.heap.size+1 < w1.heap.size:=(by have:=hb.size;simp at this;omega);(replace HB:=hid (HB.out.trans (hb.mono HB.out.size)));clear hb)
    refine bodyPost_ret (Kit.zaa rfl _ _ (w.heap.size+1) 0 [.int .i64 0,.int .i64 0,.int .i64 0] _ rfl (Kit.zai (by go_cell) (by go_cell) (by go_cell)) Tryd.underlying30 rfl (by kernel_rfl)) rfl ?_
    exact⟨rfl,((HB.out.setCell (p:=⟨w.heap.size+1,0,none⟩) (Nat.le_succ _) _).setCell (p:=⟨w.heap.size+1,1,none⟩) (Nat.le_succ _) _).setCell (p:=⟨w.heap.size+1,2,none⟩) (Nat.le_succ _) _⟩
  ·rw [if_neg hp] at he
   have p1:¬ P < 0:=by omega
   have p2:¬ 4 < P:=by omega
   have i1:IntKind.i64.wrap (2 * P)=2 * P:=IntWalk.i64_in _ (by omega)
   have i2:IntKind.i64.wrap (H+2 * P)=H+2 * P:=IntWalk.i64_in _ (by omega)
   have i3:IntKind.i64.wrap (W+2 * P)=W+2 * P:=IntWalk.i64_in _ (by omega)
   clear hp a1 a2 a3 a4
   have hva:(if zad (H+2 * P) (W+2 * P) C=true then (0:Int) else 5)=e:=by
    rw [← he];cases zad (H+2 * P) (W+2 * P) C <;> rfl
   have hvv:(if zad (H+2 * P) (W+2 * P) C=true then (#[.int .i64 (H+2 * P),.int .i64 (W+2 * P),.int .i64 C]:Array Value) else #[.int .i64 0,.int .i64 0,.int .i64 0])=#[.int .i64 u0,.int .i64 u1,.int .i64 u2]:=by
    rw [← hv, ← he];cases zad (H+2 * P) (W+2 * P) C <;> simp
   have HV:=hid (valid_to (H+2 * P) (W+2 * P) C e u0 u1 u2 _ rfl hva hvv)
   clear he hv hva hvv
   go_enter Tryd.func76,Tryd.ntmps76
   go_wp2_with (first
    | (go_at_call 30;(with_reducible refine (HR.out _).mono ?_);rintro e1 w1 ⟨rfl,hb⟩;obtain⟨hcc,hff⟩:=Kit.bcell hb;have hz1:w.heap.size+1 < w1.heap.size:=(by have:=hb.size;simp at this;omega);(replace HB:=hid (HB.out.trans (hb.mono HB.out.size)));clear hb)
    | (go_at_call 75;(with_reducible refine (HV.out _).mono ?_);rintro e1 w2 ⟨rfl,hb⟩;obtain⟨hcd,hfd⟩:=Kit.bcell hb;have hz2:w.heap.size+1 < w2.heap.size:=(Nat.lt_of_lt_of_le hz1 hb.size);(replace HB:=hid (HB.out.trans (hb.mono HB.out.size)));clear hb))
   refine bodyPost_ret (Kit.zaa rfl _ _ (w.heap.size+1) 0 [.int .i64 u0,.int .i64 u1,.int .i64 u2] _ rfl (Kit.zai (by go_cell) (by go_cell) (by go_cell)) Tryd.underlying30 rfl (by kernel_rfl)) rfl ?_
   exact⟨rfl,((HB.out.setCell (p:=⟨w.heap.size+1,0,none⟩) (Nat.le_succ _) _).setCell (p:=⟨w.heap.size+1,1,none⟩) (Nat.le_succ _) _).setCell (p:=⟨w.heap.size+1,2,none⟩) (Nat.le_succ _) _⟩
end CKind
end
section
namespace CGuard
open Plain CSat CFix CShape CTensor CConv CSpan CKind CGraph CJoin
theorem cgn_sum1 {w:World} (x:Nd) (hx:x.Small) (hT:zae w) (l h l2 h2:Int) (bd:(-128≤l∧l≤127)∧(-128≤h∧h≤127)∧(-128≤l2∧l2≤127)∧(-128≤h2∧h2≤127)) (ok:NBd x.Z x.Y x.m1 x.z1 x.m2 x.z2 x.lo x.hi) (he:x.checkZ=0) (hk:x.kd=1) (hlh:l≤h) (ra rb rc:Int) (hB:∀ w':World,Below w.heap.size w w'→Calls Tryd.prog 77 #[.agg x.val,.agg #[.int .i8 l,.int .i8 h]] w' fun e w''=>e=.returned (.tuple #[.agg #[.int .i8 ra,.int .i8 rb],.int .i64 rc])∧Below w'.heap.size w' w'') :
  Calls Tryd.prog 57 #[.agg x.val,.agg #[.int .i8 l,.int .i8 h],.agg #[.int .i8 l2,.int .i8 h2]] w fun e w'=>e=.returned (.tuple #[.agg #[.int .i8 (ra),.int .i8 (rb)],.int .i64 (rc)])∧Below w.heap.size w w':=by
 obtain⟨hg0,hw0⟩:=zaz.newC w x l h l2 h2
 have HG:=hid hg0
 have HW:=hid hw0
 have HT:=hid hT
 have hck:=fun (w:World) (hT:zae w)=>zaw x hx w hT
 rw [he] at hck
 have CE1:=hid (fun w:World=>za2 l h w)
 rw [show decide (h < l)=false by simp;omega] at CE1
 have dk1:(x.kd == 1)=true:=by simp [hk]
 have dk2:(x.kd == 2)=false:=by simp [hk]
 have dk3:(x.kd == 3)=false:=by simp [hk]
 have dk6:(x.kd == 6)=false:=by simp [hk]
 have dk7:(x.kd == 7)=false:=by simp [hk]
 have dk8:(x.kd == 8)=false:=by simp [hk]
 have CB:=hid hB
 have CK:=hid hck
 clear hg0 hw0 hck hT he hk hlh hB
 go_enter Tryd.func57,Tryd.ntmps57
 go_upto_region 1 with fail
 generalize (((w.alloc (.cells x.val 67)).alloc (.cells #[.int .i8 l,.int .i8 h] 75)).alloc (.cells #[.int .i8 l2,.int .i8 h2] 75)).alloc (.cells #[.int .i8 0,.int .i8 0] 75)=W0 at HG HW ⊢
 have c0:=HG.out.1.at 0 _ rfl
 have c5:=HG.out.1.at 5 _ rfl
 have c7:=HG.out.1.at 7 _ rfl
 obtain⟨a0,a1⟩:=HG.out.2.1
 obtain⟨b0,b1⟩:=HG.out.2.2.1
 go_wp2_with (refine zab rfl _ rfl w.heap.size x rfl HG.out.1 ?_)
 go_at_call 52
 refine (CK.out _ (HT.out.grown HW.out)).mono ?_
 rintro e w1 ⟨rfl,hb⟩
 replace HG:=hid (HG.out.below hb)
 replace HW:=hid (HW.out.trans (hb.mono HW.out.size))
 clear hb c0 c5 c7 a0 a1 b0 b1
 have c0:=HG.out.1.at 0 _ rfl
 have c5:=HG.out.1.at 5 _ rfl
 have c7:=HG.out.1.at 7 _ rfl
 obtain⟨a0,a1⟩:=HG.out.2.1
 obtain⟨b0,b1⟩:=HG.out.2.2.1
 go_wp2_with (refine zab rfl _ rfl w.heap.size x rfl HG.out.1 ?_)
 go_at_call 34
 refine (CE1.out _).mono ?_
 rintro e w2 ⟨rfl,hb⟩
 replace HG:=hid (HG.out.below hb)
 replace HW:=hid (HW.out.trans (hb.mono HW.out.size))
 clear hb c0 c5 c7 a0 a1 b0 b1
 have c0:=HG.out.1.at 0 _ rfl
 have c5:=HG.out.1.at 5 _ rfl
 have c7:=HG.out.1.at 7 _ rfl
 obtain⟨a0,a1⟩:=HG.out.2.1
 obtain⟨b0,b1⟩:=HG.out.2.2.1
 go_wp2_with (refine zab rfl _ rfl w.heap.size x rfl HG.out.1 ?_)
 go_at_call 77
 refine (CB.out _ HW.out).mono ?_
 rintro e w3 ⟨rfl,hb⟩
 replace HG:=hid (HG.out.below hb)
 replace HW:=hid (HW.out.trans (hb.mono HW.out.size))
 clear hb c0 c5 c7 a0 a1 b0 b1
 have c0:=HG.out.1.at 0 _ rfl
 have c5:=HG.out.1.at 5 _ rfl
 have c7:=HG.out.1.at 7 _ rfl
 obtain⟨a0,a1⟩:=HG.out.2.1
 obtain⟨b0,b1⟩:=HG.out.2.2.1
 obtain⟨⟨z0,z1⟩,z2,z3⟩:=HG.out.2.2.2.1
 go_wp2_with (refine zab rfl _ rfl w.heap.size x rfl HG.out.1 ?_)
 refine bodyPost_ret (Kit.zaa rfl _ _ (w.heap.size+3) 0 [.int .i8 (ra),.int .i8 (rb)] _ rfl (Kit.zam (by go_cell) (by go_cell)) Tryd.underlying75 rfl (by kernel_rfl)) rfl ?_
 exact⟨rfl,(HW.out.setCell (p:=⟨w.heap.size+3,0,none⟩) (Nat.le_add_right _ _) _).setCell (p:=⟨w.heap.size+3,1,none⟩) (Nat.le_add_right _ _) _⟩
theorem cgn_sum2 {w:World} (x:Nd) (hx:x.Small) (hT:zae w) (l h l2 h2:Int) (bd:(-128≤l∧l≤127)∧(-128≤h∧h≤127)∧(-128≤l2∧l2≤127)∧(-128≤h2∧h2≤127)) (ok:NBd x.Z x.Y x.m1 x.z1 x.m2 x.z2 x.lo x.hi) (he:x.checkZ=0) (hk:x.kd=2) (hlh:l≤h) (ra rb rc:Int) (hB:∀ w':World,Below w.heap.size w w'→Calls Tryd.prog 77 #[.agg x.val,.agg #[.int .i8 l,.int .i8 h]] w' fun e w''=>e=.returned (.tuple #[.agg #[.int .i8 ra,.int .i8 rb],.int .i64 rc])∧Below w'.heap.size w' w'') :
  Calls Tryd.prog 57 #[.agg x.val,.agg #[.int .i8 l,.int .i8 h],.agg #[.int .i8 l2,.int .i8 h2]] w fun e w'=>e=.returned (.tuple #[.agg #[.int .i8 (ra),.int .i8 (rb)],.int .i64 (rc)])∧Below w.heap.size w w':=by
 obtain⟨hg0,hw0⟩:=zaz.newC w x l h l2 h2
 have HG:=hid hg0
 have HW:=hid hw0
 have HT:=hid hT
 have hck:=fun (w:World) (hT:zae w)=>zaw x hx w hT
 rw [he] at hck
 have CE1:=hid (fun w:World=>za2 l h w)
 rw [show decide (h < l)=false by simp;omega] at CE1
 have dk1:(x.kd == 1)=false:=by simp [hk]
 have dk2:(x.kd == 2)=true:=by simp [hk]
 have dk3:(x.kd == 3)=false:=by simp [hk]
 have dk6:(x.kd == 6)=false:=by simp [hk]
 have dk7:(x.kd == 7)=false:=by simp [hk]
 have dk8:(x.kd == 8)=false:=by simp [hk]
 have CB:=hid hB
 have CK:=hid hck
 clear hg0 hw0 hck hT he hk hlh hB
 go_enter Tryd.func57,Tryd.ntmps57
 go_upto_region 1 with fail
 generalize (((w.alloc (.cells x.val 67)).alloc (.cells #[.int .i8 l,.int .i8 h] 75)).alloc (.cells #[.int .i8 l2,.int .i8 h2] 75)).alloc (.cells #[.int .i8 0,.int .i8 0] 75)=W0 at HG HW ⊢
 have c0:=HG.out.1.at 0 _ rfl
 have c5:=HG.out.1.at 5 _ rfl
 have c7:=HG.out.1.at 7 _ rfl
 obtain⟨a0,a1⟩:=HG.out.2.1
 obtain⟨b0,b1⟩:=HG.out.2.2.1
 go_wp2_with (refine zab rfl _ rfl w.heap.size x rfl HG.out.1 ?_)
 go_at_call 52
 refine (CK.out _ (HT.out.grown HW.out)).mono ?_
 rintro e w1 ⟨rfl,hb⟩
 replace HG:=hid (HG.out.below hb)
 replace HW:=hid (HW.out.trans (hb.mono HW.out.size))
 clear hb c0 c5 c7 a0 a1 b0 b1
 have c0:=HG.out.1.at 0 _ rfl
 have c5:=HG.out.1.at 5 _ rfl
 have c7:=HG.out.1.at 7 _ rfl
 obtain⟨a0,a1⟩:=HG.out.2.1
 obtain⟨b0,b1⟩:=HG.out.2.2.1
 go_wp2_with (refine zab rfl _ rfl w.heap.size x rfl HG.out.1 ?_)
 go_at_call 34
 refine (CE1.out _).mono ?_
 rintro e w2 ⟨rfl,hb⟩
 replace HG:=hid (HG.out.below hb)
 replace HW:=hid (HW.out.trans (hb.mono HW.out.size))
 clear hb c0 c5 c7 a0 a1 b0 b1
 have c0:=HG.out.1.at 0 _ rfl
 have c5:=HG.out.1.at 5 _ rfl
 have c7:=HG.out.1.at 7 _ rfl
 obtain⟨a0,a1⟩:=HG.out.2.1
 obtain⟨b0,b1⟩:=HG.out.2.2.1
 go_wp2_with (refine zab rfl _ rfl w.heap.size x rfl HG.out.1 ?_)
 go_at_call 77
 refine (CB.out _ HW.out).mono ?_
 rintro e w3 ⟨rfl,hb⟩
 replace HG:=hid (HG.out.below hb)
 replace HW:=hid (HW.out.trans (hb.mono HW.out.size))
 clear hb c0 c5 c7 a0 a1 b0 b1
 have c0:=HG.out.1.at 0 _ rfl
 have c5:=HG.out.1.at 5 _ rfl
 have c7:=HG.out.1.at 7 _ rfl
 obtain⟨a0,a1⟩:=HG.out.2.1
 obtain⟨b0,b1⟩:=HG.out.2.2.1
 obtain⟨⟨z0,z1⟩,z2,z3⟩:=HG.out.2.2.2.1
 go_wp2_with (refine zab rfl _ rfl w.heap.size x rfl HG.out.1 ?_)
 refine bodyPost_ret (Kit.zaa rfl _ _ (w.heap.size+3) 0 [.int .i8 (ra),.int .i8 (rb)] _ rfl (Kit.zam (by go_cell) (by go_cell)) Tryd.underlying75 rfl (by kernel_rfl)) rfl ?_
 exact⟨rfl,(HW.out.setCell (p:=⟨w.heap.size+3,0,none⟩) (Nat.le_add_right _ _) _).setCell (p:=⟨w.heap.size+3,1,none⟩) (Nat.le_add_right _ _) _⟩
end CGuard
end
end Go.Proofs.YtoffcaldhojjoaaDoor
