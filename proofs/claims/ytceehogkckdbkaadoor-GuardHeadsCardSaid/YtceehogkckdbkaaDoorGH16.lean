/- -/
import Derived.Test.YtceehogkckdbkaaDoorGH12
open Go.Lib (hid)
open Nat (le_refl lt_of_succ_lt lt_succ_self)
set_option linter.unusedVariables false
set_option linter.unusedSimpArgs false
set_option maxRecDepth 100000
set_option maxHeartbeats 16000000
namespace Go.Proofs.YtceehogkckdbkaaDoor
namespace CConv
end CConv
namespace CSat
end CSat
namespace CShape
end CShape
namespace CTensor
end CTensor
open Go Go.ChangeShapes Go.WideShapes Go.ChangeAt Go.RowKit Go.Deep
section
namespace CKind
open Plain CSat CShape CTensor CConv
def Nd.Small (x:Nd):Prop:=(-128≤x.Z∧x.Z≤127)∧(-128≤x.Y∧x.Y≤127)∧(-128≤x.lo∧x.lo≤127)∧(-128≤x.hi∧x.hi≤127)
def Nd.nine (x:Nd):Array Value:=#[.int .i64 x.nb,.int .i64 x.K,.int .i64 x.S,.int .i64 x.P,.int .i64 x.O,.int .i64 x.Z,.int .i64 x.Y,.int .i64 x.lo,.int .i64 x.hi]
theorem there_new9 (w:World) {cs:Array Value} (T:TypeId) {n:Nat} (h:cs.size=n):(w.alloc (.cells cs T)).there w.heap.size 0 n:=fun j hj=>by
 rw [Nat.zero_add]
 constructor
 ·rw [Kit.zae]
  simp [h,hj]
 ·unfold World.frozen?;rw [heap_alloc_new];rfl
theorem setCells_below {g B:Nat} (hg:B≤g):∀ (vs:List Value) (o:Nat) (w:World),Below B w (w.setCells g o vs)
 | [],_,w=>Below.refl _ _
 | v :: vs,o,w=>((Below.refl B w).setCell (p:=⟨g,o,none⟩) hg v).trans (setCells_below hg vs (o+1) _)
theorem numbers_to (x:Nd) (hx:x.Small) (w:World) :
  Calls Tryd.prog 81 #[.agg x.val] w fun e w'=>e=.returned (.agg x.nine)∧Below w.heap.size w w':=by
 obtain⟨⟨z0,z1⟩,⟨y0,y1⟩,⟨l0,l1⟩,⟨h0,h1⟩⟩:=hx
 have i7:IntKind.i64.wrap x.Z=x.Z:=IntWalk.i64_in _ (by omega)
 have i8:IntKind.i64.wrap x.Y=x.Y:=IntWalk.i64_in _ (by omega)
 have i17:IntKind.i64.wrap x.lo=x.lo:=IntWalk.i64_in _ (by omega)
 have i18:IntKind.i64.wrap x.hi=x.hi:=IntWalk.i64_in _ (by omega)
 clear z0 z1 y0 y1 l0 l1 h0 h1
 have TN:=hid (NdAt.new x 29 w)
 go_enter Tryd.func81,Tryd.ntmps81
 go_upto_region 1 with fail
 have hth:=there_new9 (w.alloc (.cells x.val 29)) (cs:=#[.int .i64 0,.int .i64 0,.int .i64 0,.int .i64 0,.int .i64 0,.int .i64 0,.int .i64 0,.int .i64 0,.int .i64 0]) 123 (n:=9) rfl
 rw [World.size_alloc] at hth
 have HT:=hid hth
 clear hth
 replace TN:=hid (TN.out.below (B:=w.heap.size+1) (lt_succ_self _) ((Below.refl _ _).alloc (by simp) (.cells #[.int .i64 0,.int .i64 0,.int .i64 0,.int .i64 0,.int .i64 0,.int .i64 0,.int .i64 0,.int .i64 0,.int .i64 0] 123)))
 have HB:=hid (((Below.refl w.heap.size w).alloc (le_refl _) (.cells x.val 29)).alloc (by simp) (.cells #[.int .i64 0,.int .i64 0,.int .i64 0,.int .i64 0,.int .i64 0,.int .i64 0,.int .i64 0,.int .i64 0,.int .i64 0] 123))
 generalize (w.alloc (.cells x.val 29)).alloc (.cells #[.int .i64 0,.int .i64 0,.int .i64 0,.int .i64 0,.int .i64 0,.int .i64 0,.int .i64 0,.int .i64 0,.int .i64 0] 123)=W0 at TN HT HB ⊢
 have n2:=TN.out.at 2 (.int .i64 x.nb) rfl
 have n3:=TN.out.at 3 (.int .i64 x.K) rfl
 have n4:=TN.out.at 4 (.int .i64 x.S) rfl
 have n5:=TN.out.at 5 (.int .i64 x.P) rfl
 have n6:=TN.out.at 6 (.int .i64 x.O) rfl
 have n7:=TN.out.at 7 (.int .i8 x.Z) rfl
 have n8:=TN.out.at 8 (.int .i8 x.Y) rfl
 have n17:=TN.out.at 17 (.int .i8 x.lo) rfl
 have n18:=TN.out.at 18 (.int .i8 x.hi) rfl
 go_wp2_with (refine wpList_store_mid rfl 123 (.tmp 2) (.tmp 25) rfl (w.heap.size+1) 0 x.nine rfl rfl HT.out (by kernel_rfl) (by simp [Nd.nine,Value.oneCell']) ?_;have HQ:=hid (World.rangeAt_setCells_same W0 (w.heap.size+1) 0 x.nine.toList HT.out);have HZ:Hid (Below w.heap.size W0 (W0.setCells (w.heap.size+1) 0 x.nine.toList)):=hid (setCells_below (Nat.le_succ _) _ _ _);generalize W0.setCells (w.heap.size+1) 0 x.nine.toList=W1 at HQ HZ ⊢)
 refine bodyPost_ret (Kit.zao rfl _ _ (w.heap.size+1) 0 x.nine.toList _ rfl HQ.out Tryd.underlying123 rfl (by kernel_rfl)) rfl ?_
 exact⟨rfl,HB.out.trans HZ.out⟩
def nineB (x y:Nd):Bool:=x.nb == y.nb && x.K == y.K && x.S == y.S && x.P == y.P && x.O == y.O && x.Z == y.Z && x.Y == y.Y && x.lo == y.lo && x.hi == y.hi
theorem eqNine (x y:Nd) (b:Bool) (hb:nineB x y=b) (w:World):(Op.equalIn 10000 123 (.agg x.nine) (.agg y.nine)).run Tryd.prog w=.ok b w:=by
 subst hb
 have u3:=Tryd.underlying3
 have a3:=Tryd.isAgg3
 have z3:=Tryd.sizeOf3
 unfold Nd.nine nineB
 rw [show (10000:Nat)=9999+1 from rfl,Op.equalIn]
 simp only [Sem.run_bind,run_underlying Tryd.underlying123,Result.andThen_ok]
 simp only [Std.Legacy.Range.forIn_eq_forIn_range',Std.Legacy.Range.size,Nat.sub_zero,Nat.add_sub_cancel,Nat.div_one,List.range'_succ,List.range'_zero,List.forIn_cons,List.forIn_nil]
 go_simp
 by_cases h0:x.nb=y.nb
 rotate_left
 ·simp [h0]
 by_cases h1:x.K=y.K
 rotate_left
 ·simp [h0,h1]
 by_cases h2:x.S=y.S
 rotate_left
 ·simp [h0,h1,h2]
 by_cases h3:x.P=y.P
 rotate_left
 ·simp [h0,h1,h2,h3]
 by_cases h4:x.O=y.O
 rotate_left
 ·simp [h0,h1,h2,h3,h4]
 by_cases h5:x.Z=y.Z
 rotate_left
 ·simp [h0,h1,h2,h3,h4,h5]
 by_cases h6:x.Y=y.Y
 rotate_left
 ·simp [h0,h1,h2,h3,h4,h5,h6]
 by_cases h7:x.lo=y.lo
 rotate_left
 ·simp [h0,h1,h2,h3,h4,h5,h6,h7]
 by_cases h8:x.hi=y.hi
 rotate_left
 ·simp [h0,h1,h2,h3,h4,h5,h6,h7,h8]
 simp [h0,h1,h2,h3,h4,h5,h6,h7,h8]
end CKind
end
end Go.Proofs.YtceehogkckdbkaaDoor
