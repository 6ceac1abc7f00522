/- -/
import Derived.Test.YtoffcaldhojjoaaDoorGVP29
import Derived.Test.YtoffcaldhojjoaaDoorGVP30
import Derived.Test.YtoffcaldhojjoaaDoorGVP31
open Go.Lib (hid)
open Nat (le_refl lt_of_succ_lt lt_succ_self)
set_option linter.unusedVariables false
set_option linter.unusedSimpArgs false
set_option maxRecDepth 100000
set_option maxHeartbeats 16000000
namespace Go.Proofs.YtoffcaldhojjoaaDoor
namespace CConv
end CConv
namespace CDense
end CDense
namespace CFix
end CFix
namespace CGraph
end CGraph
namespace CJoin
end CJoin
namespace CKind
end CKind
namespace CSat
end CSat
namespace CShape
end CShape
namespace CSpan
end CSpan
namespace CTensor
end CTensor
open Go Go.ChangeShapes Go.WideShapes Go.ChangeAt Go.RowKit Go.Deep
section
namespace CKind
open Plain CSat CShape CTensor CConv CDense CDepth
theorem shape_flat (H W C:Int):zad 1 1 (zan H W C)=zad H W C:=by
 cases hs:zad H W C
 ·rw [elemsZ_no hs];decide
 ·obtain⟨a1,a2,a3,a4,a5,a6,a7⟩:=zaf hs
  have:=prod_bd a1 a2 a3 a4 a5 a6
  rw [za3 hs]
  generalize H * W * C=n at *
  exact decide_eq_true ⟨by omega,by omega,by omega,by omega,by omega,by omega,by omega⟩
theorem shape_to (x:Nd):ShapeIs 55 x:=by
 intro H W C H2 W2 C2 e u0 u1 u2 he hv w
 by_cases h0:x.kd < 1∨9 < x.kd
 ·have n1:¬ x.kd=1:=by omega
  have n2:¬ x.kd=2:=by omega
  have n3:¬ x.kd=3:=by omega
  have n4:¬ (x.kd=4∨x.kd=5):=by omega
  have e6:x.shE H W C H2 W2 C2=6:=by unfold Nd.shE;rw [if_neg n1,if_neg n2,if_neg n3,if_neg n4,if_pos h0]
  refine csh_0 x h0 H W C H2 W2 C2 e u0 u1 u2 (e6.symm.trans he) ?_ w
  rw [← hv];unfold Nd.shV;rw [if_neg n1,if_neg n2,if_neg n3,if_neg n4,e6,if_pos (by decide)]
 have hk:x.kd=1∨x.kd=2∨x.kd=3∨x.kd=4∨x.kd=5∨x.kd=6∨x.kd=7∨x.kd=8∨x.kd=9:=by omega
 clear h0
 have c0:∀ {b:Bool} {y:Int},(if b=false then (5:Int) else y)=if b=true then y else 5:=fun {b} {y} => by cases b <;> rfl
 unfold Nd.shV Nd.shE at hv
 unfold Nd.shE at he
 rcases hk with h | h | h | h | h | h | h | h | h
 all_goals simp only [h,if_true,if_false,show ¬ (2:Int)=1 by decide,show ¬ (3:Int)=1 by decide,show ¬ (4:Int)=1 by decide,show ¬ (5:Int)=1 by decide,show ¬ (6:Int)=1 by decide,show ¬ (7:Int)=1 by decide,show ¬ (8:Int)=1 by decide,show ¬ (9:Int)=1 by decide,
  show ¬ (3:Int)=2 by decide,show ¬ (4:Int)=2 by decide,show ¬ (5:Int)=2 by decide,show ¬ (6:Int)=2 by decide,show ¬ (7:Int)=2 by decide,show ¬ (8:Int)=2 by decide,show ¬ (9:Int)=2 by decide,
  show ¬ (4:Int)=3 by decide,show ¬ (5:Int)=3 by decide,show ¬ (6:Int)=3 by decide,show ¬ (7:Int)=3 by decide,show ¬ (8:Int)=3 by decide,show ¬ (9:Int)=3 by decide,
  show ((4:Int)=4∨(4:Int)=5) by decide,show ((5:Int)=4∨(5:Int)=5) by decide,show ¬ ((6:Int)=4∨(6:Int)=5) by decide,show ¬ ((7:Int)=4∨(7:Int)=5) by decide,show ¬ ((8:Int)=4∨(8:Int)=5) by decide,show ¬ ((9:Int)=4∨(9:Int)=5) by decide,
  show ¬ ((6:Int) < 1∨(9:Int) < 6) by decide,show ¬ ((7:Int) < 1∨(9:Int) < 7) by decide,show ¬ ((8:Int) < 1∨(9:Int) < 8) by decide,show ¬ ((9:Int) < 1∨(9:Int) < 9) by decide,
  show ¬ (7:Int)=6 by decide,show ¬ (8:Int)=6 by decide,show ¬ (9:Int)=6 by decide,show ¬ (6:Int)=8 by decide,show ¬ (7:Int)=8 by decide,show ¬ (9:Int)=8 by decide,show ¬ (6:Int)=9 by decide,show ¬ (7:Int)=9 by decide,show ¬ (8:Int)=9 by decide,true_and,false_and] at he hv
 ·exact csh_1 x h H W C H2 W2 C2 e u0 u1 u2 he hv w
 ·exact csh_2 x h H W C H2 W2 C2 e u0 u1 u2 he hv w
 ·exact csh_3 x h H W C H2 W2 C2 e u0 u1 u2 he hv w
 ·exact csh_4 x h H W C H2 W2 C2 e u0 u1 u2 he hv w
 ·exact csh_5 x h H W C H2 W2 C2 e u0 u1 u2 he hv w
 ·cases hd:(H == H2 && (W == W2 && C == C2))
  ·have h5:(if zad H W C=false then (5:Int) else if (H == H2 && (W == W2 && C == C2))=false then 5 else 0)=5:=by rw [hd];cases zad H W C <;> rfl
   rw [h5] at he hv
   exact csh_6n x h H W C H2 W2 C2 e u0 u1 u2 hd he (by rw [← hv,if_pos (by decide)]) w
  ·have h5:(if zad H W C=false then (5:Int) else if (H == H2 && (W == W2 && C == C2))=false then 5 else 0)=if zad H W C=true then 0 else 5:=by rw [hd];cases zad H W C <;> rfl
   rw [h5] at he hv
   refine csh_6y x h H W C H2 W2 C2 e u0 u1 u2 hd he ?_ w
   rw [← hv];cases zad H W C <;> rfl
 ·rw [c0] at he hv
  refine csh_7 x h H W C H2 W2 C2 e u0 u1 u2 he ?_ w
  rw [← hv];cases zad H W C <;> rfl
 ·refine csh_8 x h H W C H2 W2 C2 e u0 u1 u2 he ?_ w
  rw [← hv, ← he]
 ·rw [c0] at he hv
  refine csh_9 x h H W C H2 W2 C2 e u0 u1 u2 _ rfl (by rw [shape_flat];exact he) ?_ w
  rw [shape_flat, ← hv];cases zad H W C <;> rfl
end CKind
end
section
namespace CGuard
open Plain CSat CFix CShape CTensor CConv CSpan CKind CGraph CJoin
theorem cgn_sum3 {w:World} (x:Nd) (hx:x.Small) (hT:zae w) (l h l2 h2:Int) (bd:(-128≤l∧l≤127)∧(-128≤h∧h≤127)∧(-128≤l2∧l2≤127)∧(-128≤h2∧h2≤127)) (ok:NBd x.Z x.Y x.m1 x.z1 x.m2 x.z2 x.lo x.hi) (he:x.checkZ=0) (hk:x.kd=3) (hlh:l≤h) (ra rb rc:Int) (hB:∀ w':World,Below w.heap.size w w'→Calls Tryd.prog 77 #[.agg x.val,.agg #[.int .i8 l,.int .i8 h]] w' fun e w''=>e=.returned (.tuple #[.agg #[.int .i8 ra,.int .i8 rb],.int .i64 rc])∧Below w'.heap.size w' w'') :
  Calls Tryd.prog 57 #[.agg x.val,.agg #[.int .i8 l,.int .i8 h],.agg #[.int .i8 l2,.int .i8 h2]] w fun e w'=>e=.returned (.tuple #[.agg #[.int .i8 (ra),.int .i8 (rb)],.int .i64 (rc)])∧Below w.heap.size w w':=by
 obtain⟨hg0,hw0⟩:=zaz.newC w x l h l2 h2
 have HG:=hid hg0
 have HW:=hid hw0
 have HT:=hid hT
 have hck:=fun (w:World) (hT:zae w)=>zaw x hx w hT
 rw [he] at hck
 have CE1:=hid (fun w:World=>za2 l h w)
 rw [show decide (h < l)=false by simp;omega] at CE1
 have dk1:(x.kd == 1)=false:=by simp [hk]
 have dk2:(x.kd == 2)=false:=by simp [hk]
 have dk3:(x.kd == 3)=true:=by simp [hk]
 have dk6:(x.kd == 6)=false:=by simp [hk]
 have dk7:(x.kd == 7)=false:=by simp [hk]
 have dk8:(x.kd == 8)=false:=by simp [hk]
 have CB:=hid hB
 have CK:=hid hck
 clear hg0 hw0 hck hT he hk hlh hB
 go_enter Tryd.func57,Tryd.ntmps57
 go_upto_region 1 with fail
 generalize (((w.alloc (.cells x.val 67)).alloc (.cells #[.int .i8 l,.int .i8 h] 75)).alloc (.cells #[.int .i8 l2,.int .i8 h2] 75)).alloc (.cells #[.int .i8 0,.int .i8 0] 75)=W0 at HG HW ⊢
 have c0:=HG.out.1.at 0 _ rfl
 have c5:=HG.out.1.at 5 _ rfl
 have c7:=HG.out.1.at 7 _ rfl
 obtain⟨a0,a1⟩:=HG.out.2.1
 obtain⟨b0,b1⟩:=HG.out.2.2.1
 go_wp2_with (refine zab rfl _ rfl w.heap.size x rfl HG.out.1 ?_)
 go_at_call 52
 refine (CK.out _ (HT.out.grown HW.out)).mono ?_
 rintro e w1 ⟨rfl,hb⟩
 replace HG:=hid (HG.out.below hb)
 replace HW:=hid (HW.out.trans (hb.mono HW.out.size))
 clear hb c0 c5 c7 a0 a1 b0 b1
 have c0:=HG.out.1.at 0 _ rfl
 have c5:=HG.out.1.at 5 _ rfl
 have c7:=HG.out.1.at 7 _ rfl
 obtain⟨a0,a1⟩:=HG.out.2.1
 obtain⟨b0,b1⟩:=HG.out.2.2.1
 go_wp2_with (refine zab rfl _ rfl w.heap.size x rfl HG.out.1 ?_)
 go_at_call 34
 refine (CE1.out _).mono ?_
 rintro e w2 ⟨rfl,hb⟩
 replace HG:=hid (HG.out.below hb)
 replace HW:=hid (HW.out.trans (hb.mono HW.out.size))
 clear hb c0 c5 c7 a0 a1 b0 b1
 have c0:=HG.out.1.at 0 _ rfl
 have c5:=HG.out.1.at 5 _ rfl
 have c7:=HG.out.1.at 7 _ rfl
 obtain⟨a0,a1⟩:=HG.out.2.1
 obtain⟨b0,b1⟩:=HG.out.2.2.1
 go_wp2_with (refine zab rfl _ rfl w.heap.size x rfl HG.out.1 ?_)
 go_at_call 77
 refine (CB.out _ HW.out).mono ?_
 rintro e w3 ⟨rfl,hb⟩
 replace HG:=hid (HG.out.below hb)
 replace HW:=hid (HW.out.trans (hb.mono HW.out.size))
 clear hb c0 c5 c7 a0 a1 b0 b1
 have c0:=HG.out.1.at 0 _ rfl
 have c5:=HG.out.1.at 5 _ rfl
 have c7:=HG.out.1.at 7 _ rfl
 obtain⟨a0,a1⟩:=HG.out.2.1
 obtain⟨b0,b1⟩:=HG.out.2.2.1
 obtain⟨⟨z0,z1⟩,z2,z3⟩:=HG.out.2.2.2.1
 go_wp2_with (refine zab rfl _ rfl w.heap.size x rfl HG.out.1 ?_)
 refine bodyPost_ret (Kit.zaa rfl _ _ (w.heap.size+3) 0 [.int .i8 (ra),.int .i8 (rb)] _ rfl (Kit.zam (by go_cell) (by go_cell)) Tryd.underlying75 rfl (by kernel_rfl)) rfl ?_
 exact⟨rfl,(HW.out.setCell (p:=⟨w.heap.size+3,0,none⟩) (Nat.le_add_right _ _) _).setCell (p:=⟨w.heap.size+3,1,none⟩) (Nat.le_add_right _ _) _⟩
end CGuard
end
end Go.Proofs.YtoffcaldhojjoaaDoor
