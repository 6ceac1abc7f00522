/- -/
import Derived.Test.YtjhlkmnpfibgaaaDoorGT29
import Derived.Test.YtjhlkmnpfibgaaaDoorGT30
import Derived.Test.YtjhlkmnpfibgaaaDoorGT31
open Go.Lib (hid)
open Nat (le_refl lt_of_succ_lt lt_succ_self)
set_option linter.unusedVariables false
set_option linter.unusedSimpArgs false
set_option maxRecDepth 100000
set_option maxHeartbeats 16000000
namespace Go.Proofs.YtjhlkmnpfibgaaaDoor
namespace CConv
end CConv
namespace CDense
end CDense
namespace CSat
end CSat
namespace CTensor
end CTensor
open Go Go.ChangeShapes Go.WideShapes Go.ChangeAt Go.RowKit Go.Deep
section
namespace CKind
open Plain CSat CShape CTensor CConv
def Nd.Small (x:Nd):Prop:=(-128≤x.Z∧x.Z≤127)∧(-128≤x.Y∧x.Y≤127)∧(-128≤x.lo∧x.lo≤127)∧(-128≤x.hi∧x.hi≤127)
def Nd.nine (x:Nd):Array Value:=#[.int .i64 x.nb,.int .i64 x.K,.int .i64 x.S,.int .i64 x.P,.int .i64 x.O,.int .i64 x.Z,.int .i64 x.Y,.int .i64 x.lo,.int .i64 x.hi]
theorem there_new9 (w:World) {cs:Array Value} (T:TypeId) {n:Nat} (h:cs.size=n):(w.alloc (.cells cs T)).there w.heap.size 0 n:=fun j hj=>by
 rw [Nat.zero_add]
 constructor
 ·rw [Kit.zak]
  simp [h,hj]
 ·unfold World.frozen?;rw [heap_alloc_new];rfl
theorem setCells_below {g B:Nat} (hg:B≤g):∀ (vs:List Value) (o:Nat) (w:World),Below B w (w.setCells g o vs)
 | [],_,w=>Below.refl _ _
 | v :: vs,o,w=>((Below.refl B w).setCell (p:=⟨g,o,none⟩) hg v).trans (setCells_below hg vs (o+1) _)
theorem numbers_to (x:Nd) (hx:x.Small) (w:World) :
  Calls Tryd.prog 64 #[.agg x.val] w fun e w'=>e=.returned (.agg x.nine)∧Below w.heap.size w w':=by
 obtain⟨⟨z0,z1⟩,⟨y0,y1⟩,⟨l0,l1⟩,⟨h0,h1⟩⟩:=hx
 have i7:IntKind.i64.wrap x.Z=x.Z:=IntWalk.i64_in _ (by omega)
 have i8:IntKind.i64.wrap x.Y=x.Y:=IntWalk.i64_in _ (by omega)
 have i17:IntKind.i64.wrap x.lo=x.lo:=IntWalk.i64_in _ (by omega)
 have i18:IntKind.i64.wrap x.hi=x.hi:=IntWalk.i64_in _ (by omega)
 clear z0 z1 y0 y1 l0 l1 h0 h1
 have TN:=hid (NdAt.new x 35 w)
 go_enter Tryd.func64,Tryd.ntmps64
 go_upto_region 1 with fail
 have hth:=there_new9 (w.alloc (.cells x.val 35)) (cs:=#[.int .i64 0,.int .i64 0,.int .i64 0,.int .i64 0,.int .i64 0,.int .i64 0,.int .i64 0,.int .i64 0,.int .i64 0]) 118 (n:=9) rfl
 rw [World.size_alloc] at hth
 have HT:=hid hth
 clear hth
 replace TN:=hid (TN.out.below (B:=w.heap.size+1) (lt_succ_self _) ((Below.refl _ _).alloc (by simp) (.cells #[.int .i64 0,.int .i64 0,.int .i64 0,.int .i64 0,.int .i64 0,.int .i64 0,.int .i64 0,.int .i64 0,.int .i64 0] 118)))
 have HB:=hid (((Below.refl w.heap.size w).alloc (le_refl _) (.cells x.val 35)).alloc (by simp) (.cells #[.int .i64 0,.int .i64 0,.int .i64 0,.int .i64 0,.int .i64 0,.int .i64 0,.int .i64 0,.int .i64 0,.int .i64 0] 118))
 generalize (w.alloc (.cells x.val 35)).alloc (.cells #[.int .i64 0,.int .i64 0,.int .i64 0,.int .i64 0,.int .i64 0,.int .i64 0,.int .i64 0,.int .i64 0,.int .i64 0] 118)=W0 at TN HT HB ⊢
 have n2:=TN.out.at 2 (.int .i64 x.nb) rfl
 have n3:=TN.out.at 3 (.int .i64 x.K) rfl
 have n4:=TN.out.at 4 (.int .i64 x.S) rfl
 have n5:=TN.out.at 5 (.int .i64 x.P) rfl
 have n6:=TN.out.at 6 (.int .i64 x.O) rfl
 have n7:=TN.out.at 7 (.int .i8 x.Z) rfl
 have n8:=TN.out.at 8 (.int .i8 x.Y) rfl
 have n17:=TN.out.at 17 (.int .i8 x.lo) rfl
 have n18:=TN.out.at 18 (.int .i8 x.hi) rfl
 go_wp2_with (refine wpList_store_mid rfl 118 (.tmp 2) (.tmp 25) rfl (w.heap.size+1) 0 x.nine rfl rfl HT.out (by kernel_rfl) (by simp [Nd.nine,Value.oneCell']) ?_;have HQ:=hid (World.rangeAt_setCells_same W0 (w.heap.size+1) 0 x.nine.toList HT.out);have HZ:Hid (Below w.heap.size W0 (W0.setCells (w.heap.size+1) 0 x.nine.toList)):=hid (setCells_below (Nat.le_succ _) _ _ _);generalize W0.setCells (w.heap.size+1) 0 x.nine.toList=W1 at HQ HZ ⊢)
 refine bodyPost_ret (Kit.results_c rfl _ _ (w.heap.size+1) 0 x.nine.toList _ rfl HQ.out Tryd.underlying118 rfl (by kernel_rfl)) rfl ?_
 exact⟨rfl,HB.out.trans HZ.out⟩
def nineB (x y:Nd):Bool:=x.nb == y.nb && x.K == y.K && x.S == y.S && x.P == y.P && x.O == y.O && x.Z == y.Z && x.Y == y.Y && x.lo == y.lo && x.hi == y.hi
theorem eqNine (x y:Nd) (b:Bool) (hb:nineB x y=b) (w:World):(Op.equalIn 10000 118 (.agg x.nine) (.agg y.nine)).run Tryd.prog w=.ok b w:=by
 subst hb
 have u3:=Tryd.underlying3
 have a3:=Tryd.isAgg3
 have z3:=Tryd.sizeOf3
 unfold Nd.nine nineB
 rw [show (10000:Nat)=9999+1 from rfl,Op.equalIn]
 simp only [Sem.run_bind,run_underlying Tryd.underlying118,Result.andThen_ok]
 simp only [Std.Legacy.Range.forIn_eq_forIn_range',Std.Legacy.Range.size,Nat.sub_zero,Nat.add_sub_cancel,Nat.div_one,List.range'_succ,List.range'_zero,List.forIn_cons,List.forIn_nil]
 go_simp
 by_cases h0:x.nb=y.nb
 rotate_left
 ·simp [h0]
 by_cases h1:x.K=y.K
 rotate_left
 ·simp [h0,h1]
 by_cases h2:x.S=y.S
 rotate_left
 ·simp [h0,h1,h2]
 by_cases h3:x.P=y.P
 rotate_left
 ·simp [h0,h1,h2,h3]
 by_cases h4:x.O=y.O
 rotate_left
 ·simp [h0,h1,h2,h3,h4]
 by_cases h5:x.Z=y.Z
 rotate_left
 ·simp [h0,h1,h2,h3,h4,h5]
 by_cases h6:x.Y=y.Y
 rotate_left
 ·simp [h0,h1,h2,h3,h4,h5,h6]
 by_cases h7:x.lo=y.lo
 rotate_left
 ·simp [h0,h1,h2,h3,h4,h5,h6,h7]
 by_cases h8:x.hi=y.hi
 rotate_left
 ·simp [h0,h1,h2,h3,h4,h5,h6,h7,h8]
 simp [h0,h1,h2,h3,h4,h5,h6,h7,h8]
end CKind
end
section
namespace CKind
open Plain CSat CShape CTensor CConv CDense CDepth
theorem shape_flat (H W C:Int):zae 1 1 (zam H W C)=zae H W C:=by
 cases hs:zae H W C
 ·rw [za8 hs];decide
 ·obtain⟨a1,a2,a3,a4,a5,a6,a7⟩:=zad hs
  have:=zbi a1 a2 a3 a4 a5 a6
  rw [zao hs]
  generalize H * W * C=n at *
  exact decide_eq_true ⟨by omega,by omega,by omega,by omega,by omega,by omega,by omega⟩
theorem zby (x:Nd):ShapeIs 22 x:=by
 intro H W C H2 W2 C2 e u0 u1 u2 he hv w
 by_cases h0:x.kd < 1∨9 < x.kd
 ·have n1:¬ x.kd=1:=by omega
  have n2:¬ x.kd=2:=by omega
  have n3:¬ x.kd=3:=by omega
  have n4:¬ (x.kd=4∨x.kd=5):=by omega
  have e6:x.shE H W C H2 W2 C2=6:=by unfold Nd.shE;rw [if_neg n1,if_neg n2,if_neg n3,if_neg n4,if_pos h0]
  refine csh_0 x h0 H W C H2 W2 C2 e u0 u1 u2 (e6.symm.trans he) ?_ w
  rw [← hv];unfold Nd.shV;rw [if_neg n1,if_neg n2,if_neg n3,if_neg n4,e6,if_pos (by decide)]
 have hk:x.kd=1∨x.kd=2∨x.kd=3∨x.kd=4∨x.kd=5∨x.kd=6∨x.kd=7∨x.kd=8∨x.kd=9:=by omega
 clear h0
 have c0:∀ {b:Bool} {y:Int},(if b=false then (5:Int) else y)=if b=true then y else 5:=fun {b} {y} => by cases b <;> rfl
 unfold Nd.shV Nd.shE at hv
 unfold Nd.shE at he
 rcases hk with h | h | h | h | h | h | h | h | h
 all_goals simp only [h,if_true,if_false,show ¬ (2:Int)=1 by decide,show ¬ (3:Int)=1 by decide,show ¬ (4:Int)=1 by decide,show ¬ (5:Int)=1 by decide,show ¬ (6:Int)=1 by decide,show ¬ (7:Int)=1 by decide,show ¬ (8:Int)=1 by decide,show ¬ (9:Int)=1 by decide,
  show ¬ (3:Int)=2 by decide,show ¬ (4:Int)=2 by decide,show ¬ (5:Int)=2 by decide,show ¬ (6:Int)=2 by decide,show ¬ (7:Int)=2 by decide,show ¬ (8:Int)=2 by decide,show ¬ (9:Int)=2 by decide,
  show ¬ (4:Int)=3 by decide,show ¬ (5:Int)=3 by decide,show ¬ (6:Int)=3 by decide,show ¬ (7:Int)=3 by decide,show ¬ (8:Int)=3 by decide,show ¬ (9:Int)=3 by decide,
  show ((4:Int)=4∨(4:Int)=5) by decide,show ((5:Int)=4∨(5:Int)=5) by decide,show ¬ ((6:Int)=4∨(6:Int)=5) by decide,show ¬ ((7:Int)=4∨(7:Int)=5) by decide,show ¬ ((8:Int)=4∨(8:Int)=5) by decide,show ¬ ((9:Int)=4∨(9:Int)=5) by decide,
  show ¬ ((6:Int) < 1∨(9:Int) < 6) by decide,show ¬ ((7:Int) < 1∨(9:Int) < 7) by decide,show ¬ ((8:Int) < 1∨(9:Int) < 8) by decide,show ¬ ((9:Int) < 1∨(9:Int) < 9) by decide,
  show ¬ (7:Int)=6 by decide,show ¬ (8:Int)=6 by decide,show ¬ (9:Int)=6 by decide,show ¬ (6:Int)=8 by decide,show ¬ (7:Int)=8 by decide,show ¬ (9:Int)=8 by decide,show ¬ (6:Int)=9 by decide,show ¬ (7:Int)=9 by decide,show ¬ (8:Int)=9 by decide,true_and,false_and] at he hv
 ·exact csh_1 x h H W C H2 W2 C2 e u0 u1 u2 he hv w
 ·exact csh_2 x h H W C H2 W2 C2 e u0 u1 u2 he hv w
 ·exact csh_3 x h H W C H2 W2 C2 e u0 u1 u2 he hv w
 ·exact csh_4 x h H W C H2 W2 C2 e u0 u1 u2 he hv w
 ·exact csh_5 x h H W C H2 W2 C2 e u0 u1 u2 he hv w
 ·cases hd:(H == H2 && (W == W2 && C == C2))
  ·have h5:(if zae H W C=false then (5:Int) else if (H == H2 && (W == W2 && C == C2))=false then 5 else 0)=5:=by rw [hd];cases zae H W C <;> rfl
   rw [h5] at he hv
   exact csh_6n x h H W C H2 W2 C2 e u0 u1 u2 hd he (by rw [← hv,if_pos (by decide)]) w
  ·have h5:(if zae H W C=false then (5:Int) else if (H == H2 && (W == W2 && C == C2))=false then 5 else 0)=if zae H W C=true then 0 else 5:=by rw [hd];cases zae H W C <;> rfl
   rw [h5] at he hv
   refine csh_6y x h H W C H2 W2 C2 e u0 u1 u2 hd he ?_ w
   rw [← hv];cases zae H W C <;> rfl
 ·rw [c0] at he hv
  refine csh_7 x h H W C H2 W2 C2 e u0 u1 u2 he ?_ w
  rw [← hv];cases zae H W C <;> rfl
 ·refine csh_8 x h H W C H2 W2 C2 e u0 u1 u2 he ?_ w
  rw [← hv, ← he]
 ·rw [c0] at he hv
  refine csh_9 x h H W C H2 W2 C2 e u0 u1 u2 _ rfl (by rw [shape_flat];exact he) ?_ w
  rw [shape_flat, ← hv];cases zae H W C <;> rfl
end CKind
end
end Go.Proofs.YtjhlkmnpfibgaaaDoor
