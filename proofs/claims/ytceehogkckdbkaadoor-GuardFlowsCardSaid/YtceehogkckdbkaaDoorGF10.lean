/- -/
import Derived.Test.YtceehogkckdbkaaDoorGF4
import Derived.Test.YtceehogkckdbkaaDoorGF6
import Derived.Test.YtceehogkckdbkaaDoorGF7
import Derived.Test.YtceehogkckdbkaaDoorGF8
import Derived.Test.YtceehogkckdbkaaDoorGF9
open Go.Lib (hid)
open Nat (le_refl lt_of_succ_lt lt_succ_self)
set_option linter.unusedVariables false
set_option linter.unusedSimpArgs false
set_option maxRecDepth 100000
set_option maxHeartbeats 16000000
namespace Go.Proofs.YtceehogkckdbkaaDoor
namespace CConv
end CConv
namespace CFix
end CFix
namespace CGraph
end CGraph
namespace CKind
end CKind
namespace CSat
end CSat
namespace CShape
end CShape
namespace CTensor
end CTensor
namespace Kit
end Kit
open Go Go.ChangeShapes Go.WideShapes Go.ChangeAt Go.RowKit Go.Deep
section
namespace CConv
open Go Go.ChangeShapes Go.WideShapes Go.ChangeAt Go.RowKit
open Plain CSat CShape CTensor
def I32v (zs:List Int):List Value:=zs.map (.int .i32)
end CConv
end
section
namespace CKind
open Plain CSat CShape CTensor CConv
theorem refMore_to (x:Nd):MoreIs x:=by
 by_cases h0:x.kd < 1∨9 < x.kd
 ·exact more_o x h0
 ·have:x.kd=1∨x.kd=2∨x.kd=3∨x.kd=4∨x.kd=5∨x.kd=6∨x.kd=7∨x.kd=8∨x.kd=9:=by omega
  rcases this with h | h | h | h | h | h | h | h | h
  ·exact more_1 x h
  ·exact more_2 x h
  ·exact more_3 x h
  ·exact more_4 x h
  ·exact more_5 x h
  ·exact more_6 x h
  ·exact more_7 x h
  ·exact more_8 x h
  ·exact more_9 x h
end CKind
end
section
namespace CKind
open Plain CSat CFix CShape CTensor CConv
def kname (k:Int):ByteArray :=
 if k=1 then ⟨#[99,111,110,118]⟩ else if k=2 then ⟨#[100,101,112,116,104]⟩ else if k=3 then ⟨#[100,101,110,115,101]⟩ else if k=4 then ⟨#[109,97,120,112,111,111,108]⟩ else if k=5 then ⟨#[97,118,103,112,111,111,108]⟩ else if k=6 then ⟨#[106,111,105,110]⟩ else if k=7 then ⟨#[97,99,116]⟩ else if k=8 then ⟨#[112,97,100]⟩ else if k=9 then ⟨#[102,108,97,116]⟩ else ⟨#[]⟩
theorem kname_no {k:Int} (h:k < 1∨9 < k):kname k=⟨#[]⟩:=by
 unfold kname
 simp only [show ¬ k=1 by omega,show ¬ k=2 by omega,show ¬ k=3 by omega,show ¬ k=4 by omega,show ¬ k=5 by omega,show ¬ k=6 by omega,show ¬ k=7 by omega,show ¬ k=8 by omega,show ¬ k=9 by omega,if_false]
theorem refName_to (k:Int) (w:World):Calls Tryd.prog 57 #[.int .i64 k] w fun e w'=>e=.returned (.string (kname k))∧Below w.heap.size w w':=by
 by_cases h:k < 0∨9 < k
 ·have HK:=hid (kname_no (k:=k) (by omega))
  rcases h with h | h
  all_goals
   go_enter Tryd.func57,Tryd.ntmps57
   go_wp2_with fail
   go_ret
   exact⟨by rw [HK.out];rfl,(Below.refl _ _).alloc (le_refl _) _⟩
 ·have:k=0∨k=1∨k=2∨k=3∨k=4∨k=5∨k=6∨k=7∨k=8∨k=9:=by omega
  clear h
  rcases this with rfl | rfl | rfl | rfl | rfl | rfl | rfl | rfl | rfl | rfl
  all_goals
   go_enter Tryd.func57,Tryd.ntmps57
   go_wp2_with fail
   go_ret
   exact⟨rfl,(Below.refl _ _).alloc (le_refl _) _⟩
end CKind
end
section
namespace CKind
open Plain CSat CShape CTensor CConv
def Nd.zero:Nd:=⟨0,0,0,0,0,0,0,0,0,none,0,0,none,0,0,0,0,0,0,0,0,0,0⟩
def Nd.ownK (x:Nd) (k:Int):Nd :=
 ⟨k,x.na,if k == 6 then x.nb else 0,if zad k then x.K else 0,if zad k then x.S else 0,if zad k || k == 8 then x.P else 0,if k == 1 || k == 3 then x.O else 0,if zac k || k == 8 then x.Z else 0,if k == 6 then x.Y else 0,
  if sumsB k then x.WA else none,if sumsB k then x.nW else 0,if sumsB k then x.cW else 0,if sumsB k then x.BA else none,if sumsB k then x.nB else 0,if sumsB k then x.cB else 0,
  if zac k then x.m1 else 0,if zac k then x.s1 else 0,if zac k then x.z1 else 0,if k == 6 then x.m2 else 0,if k == 6 then x.s2 else 0,0,if zac k then x.lo else 0,if zac k then x.hi else 0⟩
def Nd.Small (x:Nd):Prop:=(-128≤x.Z∧x.Z≤127)∧(-128≤x.Y∧x.Y≤127)∧(-128≤x.lo∧x.lo≤127)∧(-128≤x.hi∧x.hi≤127)
def Nd.nine (x:Nd):Array Value:=#[.int .i64 x.nb,.int .i64 x.K,.int .i64 x.S,.int .i64 x.P,.int .i64 x.O,.int .i64 x.Z,.int .i64 x.Y,.int .i64 x.lo,.int .i64 x.hi]
theorem there_new9 (w:World) {cs:Array Value} (T:TypeId) {n:Nat} (h:cs.size=n):(w.alloc (.cells cs T)).there w.heap.size 0 n:=fun j hj=>by
 rw [Nat.zero_add]
 constructor
 ·rw [Kit.zar]
  simp [h,hj]
 ·unfold World.frozen?;rw [heap_alloc_new];rfl
theorem setCells_below {g B:Nat} (hg:B≤g):∀ (vs:List Value) (o:Nat) (w:World),Below B w (w.setCells g o vs)
 | [],_,w=>Below.refl _ _
 | v :: vs,o,w=>((Below.refl B w).setCell (p:=⟨g,o,none⟩) hg v).trans (setCells_below hg vs (o+1) _)
theorem numbers_to (x:Nd) (hx:x.Small) (w:World) :
  Calls Tryd.prog 81 #[.agg x.val] w fun e w'=>e=.returned (.agg x.nine)∧Below w.heap.size w w':=by
 obtain⟨⟨z0,z1⟩,⟨y0,y1⟩,⟨l0,l1⟩,⟨h0,h1⟩⟩:=hx
 have i7:IntKind.i64.wrap x.Z=x.Z:=IntWalk.i64_in _ (by omega)
 have i8:IntKind.i64.wrap x.Y=x.Y:=IntWalk.i64_in _ (by omega)
 have i17:IntKind.i64.wrap x.lo=x.lo:=IntWalk.i64_in _ (by omega)
 have i18:IntKind.i64.wrap x.hi=x.hi:=IntWalk.i64_in _ (by omega)
 clear z0 z1 y0 y1 l0 l1 h0 h1
 have TN:=hid (NdAt.new x 29 w)
 go_enter Tryd.func81,Tryd.ntmps81
 go_upto_region 1 with fail
 have hth:=there_new9 (w.alloc (.cells x.val 29)) (cs:=#[.int .i64 0,.int .i64 0,.int .i64 0,.int .i64 0,.int .i64 0,.int .i64 0,.int .i64 0,.int .i64 0,.int .i64 0]) 123 (n:=9) rfl
 rw [World.size_alloc] at hth
 have HT:=hid hth
 clear hth
 replace TN:=hid (TN.out.below (B:=w.heap.size+1) (lt_succ_self _) ((Below.refl _ _).alloc (by simp) (.cells #[.int .i64 0,.int .i64 0,.int .i64 0,.int .i64 0,.int .i64 0,.int .i64 0,.int .i64 0,.int .i64 0,.int .i64 0] 123)))
 have HB:=hid (((Below.refl w.heap.size w).alloc (le_refl _) (.cells x.val 29)).alloc (by simp) (.cells #[.int .i64 0,.int .i64 0,.int .i64 0,.int .i64 0,.int .i64 0,.int .i64 0,.int .i64 0,.int .i64 0,.int .i64 0] 123))
 generalize (w.alloc (.cells x.val 29)).alloc (.cells #[.int .i64 0,.int .i64 0,.int .i64 0,.int .i64 0,.int .i64 0,.int .i64 0,.int .i64 0,.int .i64 0,.int .i64 0] 123)=W0 at TN HT HB ⊢
 have n2:=TN.out.at 2 (.int .i64 x.nb) rfl
 have n3:=TN.out.at 3 (.int .i64 x.K) rfl
 have n4:=TN.out.at 4 (.int .i64 x.S) rfl
 have n5:=TN.out.at 5 (.int .i64 x.P) rfl
 have n6:=TN.out.at 6 (.int .i64 x.O) rfl
 have n7:=TN.out.at 7 (.int .i8 x.Z) rfl
 have n8:=TN.out.at 8 (.int .i8 x.Y) rfl
 have n17:=TN.out.at 17 (.int .i8 x.lo) rfl
 have n18:=TN.out.at 18 (.int .i8 x.hi) rfl
 go_wp2_with (refine wpList_store_mid rfl 123 (.tmp 2) (.tmp 25) rfl (w.heap.size+1) 0 x.nine rfl rfl HT.out (by kernel_rfl) (by simp [Nd.nine,Value.oneCell']) ?_;have HQ:=hid (World.rangeAt_setCells_same W0 (w.heap.size+1) 0 x.nine.toList HT.out);have HZ:Hid (Below w.heap.size W0 (W0.setCells (w.heap.size+1) 0 x.nine.toList)):=hid (setCells_below (Nat.le_succ _) _ _ _);generalize W0.setCells (w.heap.size+1) 0 x.nine.toList=W1 at HQ HZ ⊢)
 refine bodyPost_ret (Kit.za3 rfl _ _ (w.heap.size+1) 0 x.nine.toList _ rfl HQ.out Tryd.underlying123 rfl (by kernel_rfl)) rfl ?_
 exact⟨rfl,HB.out.trans HZ.out⟩
def nineB (x y:Nd):Bool:=x.nb == y.nb && x.K == y.K && x.S == y.S && x.P == y.P && x.O == y.O && x.Z == y.Z && x.Y == y.Y && x.lo == y.lo && x.hi == y.hi
theorem eqNine (x y:Nd) (b:Bool) (hb:nineB x y=b) (w:World):(Op.equalIn 10000 123 (.agg x.nine) (.agg y.nine)).run Tryd.prog w=.ok b w:=by
 subst hb
 have u3:=Tryd.underlying3
 have a3:=Tryd.isAgg3
 have z3:=Tryd.sizeOf3
 unfold Nd.nine nineB
 rw [show (10000:Nat)=9999+1 from rfl,Op.equalIn]
 simp only [Sem.run_bind,run_underlying Tryd.underlying123,Result.andThen_ok]
 simp only [Std.Legacy.Range.forIn_eq_forIn_range',Std.Legacy.Range.size,Nat.sub_zero,Nat.add_sub_cancel,Nat.div_one,List.range'_succ,List.range'_zero,List.forIn_cons,List.forIn_nil]
 go_simp
 by_cases h0:x.nb=y.nb
 rotate_left
 ·simp [h0]
 by_cases h1:x.K=y.K
 rotate_left
 ·simp [h0,h1]
 by_cases h2:x.S=y.S
 rotate_left
 ·simp [h0,h1,h2]
 by_cases h3:x.P=y.P
 rotate_left
 ·simp [h0,h1,h2,h3]
 by_cases h4:x.O=y.O
 rotate_left
 ·simp [h0,h1,h2,h3,h4]
 by_cases h5:x.Z=y.Z
 rotate_left
 ·simp [h0,h1,h2,h3,h4,h5]
 by_cases h6:x.Y=y.Y
 rotate_left
 ·simp [h0,h1,h2,h3,h4,h5,h6]
 by_cases h7:x.lo=y.lo
 rotate_left
 ·simp [h0,h1,h2,h3,h4,h5,h6,h7]
 by_cases h8:x.hi=y.hi
 rotate_left
 ·simp [h0,h1,h2,h3,h4,h5,h6,h7,h8]
 simp [h0,h1,h2,h3,h4,h5,h6,h7,h8]
end CKind
end
section
namespace CBund
open Kit CKind CGraph
section
variable {H:Type} {enc:TypeId × Value→H} {P:Program} {w:World} {base b0:Nat} {spare:Nat→Bool} {held:Bool} {r:Reach}
theorem choose_fnE {α:Type} (d:α) {p:Nat→α→Prop} {n:Nat} (h:∀ j,j < n→∃ x,p j x):∃ X:Nat→α,∀ j,j < n→p j (X j) :=
 ⟨fun j=>if hj:j < n then Classical.choose (h j hj) else d,fun j hj=>by simp only [dif_pos hj];exact Classical.choose_spec (h j hj)⟩
end
/-! ### blocks -/
section
variable {H:Type} {enc:TypeId × Value→H} {w:World} {base b0:Nat} {spare:Nat→Bool} {held:Bool} {r:Reach}
end
/-! ### models and bundles -/
section
variable {H:Type} {enc:TypeId × Value→H} {w:World} {base b0:Nat} {spare:Nat→Bool} {held:Bool} {r:Reach}
end
end CBund
end
section
namespace CConv
open Go Go.ChangeShapes Go.WideShapes Go.ChangeAt Go.RowKit
open Plain CSat CShape CTensor
theorem few_yes (H W C:Int) (A:Option Addr) (n c:Nat) (x0 x1 x2 x8 x11 x12 x13 x14 x15 x16 x17 x18:Value) (K S P O Z:Int) (WA BA:Option Addr) (nW cW nB cB:Nat) (h1:n≤1024) (h2:nW≤2000) (h3:nB≤200) (w:World) :
  Calls Tryd.prog 7 #[.agg #[.int .i64 H,.int .i64 W,.int .i64 C,.slice A n c],.agg #[x0,x1,x2,.int .i64 K,.int .i64 S,.int .i64 P,.int .i64 O,.int .i8 Z,x8,.slice WA nW cW,.slice BA nB cB,x11,x12,x13,x14,x15,x16,x17,x18]] w fun e w'=>e=.returned (.bool true)∧Below w.heap.size w w':=by
 have i1:(n:Int)≤1024:=by omega
 have i2:(nW:Int)≤2000:=by omega
 have i3:(nB:Int)≤200:=by omega
 go_enter Tryd.func7,Tryd.ntmps7
 go_wp2_with fail
 go_ret
 exact⟨rfl,((Below.refl _ _).alloc (le_refl _) _).alloc (by simp) _⟩
theorem few_no (H W C:Int) (A:Option Addr) (n c:Nat) (x0 x1 x2 x8 x11 x12 x13 x14 x15 x16 x17 x18:Value) (K S P O Z:Int) (WA BA:Option Addr) (nW cW nB cB:Nat) (h:¬ (n≤1024∧nW≤2000∧nB≤200)) (w:World) :
  Calls Tryd.prog 7 #[.agg #[.int .i64 H,.int .i64 W,.int .i64 C,.slice A n c],.agg #[x0,x1,x2,.int .i64 K,.int .i64 S,.int .i64 P,.int .i64 O,.int .i8 Z,x8,.slice WA nW cW,.slice BA nB cB,x11,x12,x13,x14,x15,x16,x17,x18]] w fun e w'=>e=.returned (.bool false)∧Below w.heap.size w w':=by
 rcases (show (1024:Int) < n∨((n:Int)≤1024∧(2000:Int) < nW)∨((n:Int)≤1024∧(nW:Int)≤2000∧(200:Int) < nB) by omega) with i1 | ⟨i1,i2⟩ | ⟨i1,i2,i3⟩
 all_goals
  clear h
  go_enter Tryd.func7,Tryd.ntmps7
  go_wp2_with fail
  go_ret
  exact⟨by first | rfl | exact congrArg (fun b=>Ending.returned (Value.bool b)) (decide_eq_false (by omega)),((Below.refl _ _).alloc (le_refl _) _).alloc (by simp) _⟩
end CConv
end
end Go.Proofs.YtceehogkckdbkaaDoor
