/- -/
import Derived.Test.YtoffcaldhojjoaaDoorGVP7
open Go.Lib (hid)
open Nat (le_refl lt_of_succ_lt lt_succ_self)
set_option linter.unusedVariables false
set_option linter.unusedSimpArgs false
set_option maxRecDepth 100000
set_option maxHeartbeats 16000000
namespace Go.Proofs.YtoffcaldhojjoaaDoor
namespace CConv
end CConv
namespace CFix
end CFix
namespace CSat
end CSat
namespace CShape
end CShape
namespace CTensor
end CTensor
open Go Go.ChangeShapes Go.WideShapes Go.ChangeAt Go.RowKit Go.Deep
section
namespace CKind
open Plain CSat CFix CShape CTensor CConv
def Nd.checkZ (x:Nd):Int :=
 if x.kd < 1∨9 < x.kd then 6 else if x.moreB=true then 2 else if ((za9 x.kd && !zat x.m1 x.s1) || (x.kd == 6 && !zat x.m2 x.s2))=true then 7 else if (za9 x.kd && decide (x.hi < x.lo))=true then 2 else 0
end CKind
end
section
namespace CKind
open Plain CSat CShape CTensor CConv
def Nd.zero:Nd:=⟨0,0,0,0,0,0,0,0,0,none,0,0,none,0,0,0,0,0,0,0,0,0,0⟩
def Nd.ownK (x:Nd) (k:Int):Nd :=
 ⟨k,x.na,if k == 6 then x.nb else 0,if slidesB k then x.K else 0,if slidesB k then x.S else 0,if slidesB k || k == 8 then x.P else 0,if k == 1 || k == 3 then x.O else 0,if za9 k || k == 8 then x.Z else 0,if k == 6 then x.Y else 0,
  if sumsB k then x.WA else none,if sumsB k then x.nW else 0,if sumsB k then x.cW else 0,if sumsB k then x.BA else none,if sumsB k then x.nB else 0,if sumsB k then x.cB else 0,
  if za9 k then x.m1 else 0,if za9 k then x.s1 else 0,if za9 k then x.z1 else 0,if k == 6 then x.m2 else 0,if k == 6 then x.s2 else 0,0,if za9 k then x.lo else 0,if za9 k then x.hi else 0⟩
def Nd.Small (x:Nd):Prop:=(-128≤x.Z∧x.Z≤127)∧(-128≤x.Y∧x.Y≤127)∧(-128≤x.lo∧x.lo≤127)∧(-128≤x.hi∧x.hi≤127)
def Nd.nine (x:Nd):Array Value:=#[.int .i64 x.nb,.int .i64 x.K,.int .i64 x.S,.int .i64 x.P,.int .i64 x.O,.int .i64 x.Z,.int .i64 x.Y,.int .i64 x.lo,.int .i64 x.hi]
theorem there_new9 (w:World) {cs:Array Value} (T:TypeId) {n:Nat} (h:cs.size=n):(w.alloc (.cells cs T)).there w.heap.size 0 n:=fun j hj=>by
 rw [Nat.zero_add]
 constructor
 ·rw [Kit.zac]
  simp [h,hj]
 ·unfold World.frozen?;rw [heap_alloc_new];rfl
theorem setCells_below {g B:Nat} (hg:B≤g):∀ (vs:List Value) (o:Nat) (w:World),Below B w (w.setCells g o vs)
 | [],_,w=>Below.refl _ _
 | v :: vs,o,w=>((Below.refl B w).setCell (p:=⟨g,o,none⟩) hg v).trans (setCells_below hg vs (o+1) _)
theorem numbers_to (x:Nd) (hx:x.Small) (w:World) :
  Calls Tryd.prog 84 #[.agg x.val] w fun e w'=>e=.returned (.agg x.nine)∧Below w.heap.size w w':=by
 obtain⟨⟨z0,z1⟩,⟨y0,y1⟩,⟨l0,l1⟩,⟨h0,h1⟩⟩:=hx
 have i7:IntKind.i64.wrap x.Z=x.Z:=IntWalk.i64_in _ (by omega)
 have i8:IntKind.i64.wrap x.Y=x.Y:=IntWalk.i64_in _ (by omega)
 have i17:IntKind.i64.wrap x.lo=x.lo:=IntWalk.i64_in _ (by omega)
 have i18:IntKind.i64.wrap x.hi=x.hi:=IntWalk.i64_in _ (by omega)
 clear z0 z1 y0 y1 l0 l1 h0 h1
 have TN:=hid (NdAt.new x 67 w)
 go_enter Tryd.func84,Tryd.ntmps84
 go_upto_region 1 with fail
 have hth:=there_new9 (w.alloc (.cells x.val 67)) (cs:=#[.int .i64 0,.int .i64 0,.int .i64 0,.int .i64 0,.int .i64 0,.int .i64 0,.int .i64 0,.int .i64 0,.int .i64 0]) 142 (n:=9) rfl
 rw [World.size_alloc] at hth
 have HT:=hid hth
 clear hth
 replace TN:=hid (TN.out.below (B:=w.heap.size+1) (lt_succ_self _) ((Below.refl _ _).alloc (by simp) (.cells #[.int .i64 0,.int .i64 0,.int .i64 0,.int .i64 0,.int .i64 0,.int .i64 0,.int .i64 0,.int .i64 0,.int .i64 0] 142)))
 have HB:=hid (((Below.refl w.heap.size w).alloc (le_refl _) (.cells x.val 67)).alloc (by simp) (.cells #[.int .i64 0,.int .i64 0,.int .i64 0,.int .i64 0,.int .i64 0,.int .i64 0,.int .i64 0,.int .i64 0,.int .i64 0] 142))
 generalize (w.alloc (.cells x.val 67)).alloc (.cells #[.int .i64 0,.int .i64 0,.int .i64 0,.int .i64 0,.int .i64 0,.int .i64 0,.int .i64 0,.int .i64 0,.int .i64 0] 142)=W0 at TN HT HB ⊢
 have n2:=TN.out.at 2 (.int .i64 x.nb) rfl
 have n3:=TN.out.at 3 (.int .i64 x.K) rfl
 have n4:=TN.out.at 4 (.int .i64 x.S) rfl
 have n5:=TN.out.at 5 (.int .i64 x.P) rfl
 have n6:=TN.out.at 6 (.int .i64 x.O) rfl
 have n7:=TN.out.at 7 (.int .i8 x.Z) rfl
 have n8:=TN.out.at 8 (.int .i8 x.Y) rfl
 have n17:=TN.out.at 17 (.int .i8 x.lo) rfl
 have n18:=TN.out.at 18 (.int .i8 x.hi) rfl
 go_wp2_with (refine wpList_store_mid rfl 142 (.tmp 2) (.tmp 25) rfl (w.heap.size+1) 0 x.nine rfl rfl HT.out (by kernel_rfl) (by simp [Nd.nine,Value.oneCell']) ?_;have HQ:=hid (World.rangeAt_setCells_same W0 (w.heap.size+1) 0 x.nine.toList HT.out);have HZ:Hid (Below w.heap.size W0 (W0.setCells (w.heap.size+1) 0 x.nine.toList)):=hid (setCells_below (Nat.le_succ _) _ _ _);generalize W0.setCells (w.heap.size+1) 0 x.nine.toList=W1 at HQ HZ ⊢)
 refine bodyPost_ret (Kit.zaq rfl _ _ (w.heap.size+1) 0 x.nine.toList _ rfl HQ.out Tryd.underlying142 rfl (by kernel_rfl)) rfl ?_
 exact⟨rfl,HB.out.trans HZ.out⟩
def nineB (x y:Nd):Bool:=x.nb == y.nb && x.K == y.K && x.S == y.S && x.P == y.P && x.O == y.O && x.Z == y.Z && x.Y == y.Y && x.lo == y.lo && x.hi == y.hi
theorem eqNine (x y:Nd) (b:Bool) (hb:nineB x y=b) (w:World):(Op.equalIn 10000 142 (.agg x.nine) (.agg y.nine)).run Tryd.prog w=.ok b w:=by
 subst hb
 have u3:=Tryd.underlying3
 have a3:=Tryd.isAgg3
 have z3:=Tryd.sizeOf3
 unfold Nd.nine nineB
 rw [show (10000:Nat)=9999+1 from rfl,Op.equalIn]
 simp only [Sem.run_bind,run_underlying Tryd.underlying142,Result.andThen_ok]
 simp only [Std.Legacy.Range.forIn_eq_forIn_range',Std.Legacy.Range.size,Nat.sub_zero,Nat.add_sub_cancel,Nat.div_one,List.range'_succ,List.range'_zero,List.forIn_cons,List.forIn_nil]
 go_simp
 by_cases h0:x.nb=y.nb
 rotate_left
 ·simp [h0]
 by_cases h1:x.K=y.K
 rotate_left
 ·simp [h0,h1]
 by_cases h2:x.S=y.S
 rotate_left
 ·simp [h0,h1,h2]
 by_cases h3:x.P=y.P
 rotate_left
 ·simp [h0,h1,h2,h3]
 by_cases h4:x.O=y.O
 rotate_left
 ·simp [h0,h1,h2,h3,h4]
 by_cases h5:x.Z=y.Z
 rotate_left
 ·simp [h0,h1,h2,h3,h4,h5]
 by_cases h6:x.Y=y.Y
 rotate_left
 ·simp [h0,h1,h2,h3,h4,h5,h6]
 by_cases h7:x.lo=y.lo
 rotate_left
 ·simp [h0,h1,h2,h3,h4,h5,h6,h7]
 by_cases h8:x.hi=y.hi
 rotate_left
 ·simp [h0,h1,h2,h3,h4,h5,h6,h7,h8]
 simp [h0,h1,h2,h3,h4,h5,h6,h7,h8]
end CKind
end
section
namespace CSpan
open Go Go.ChangeShapes Go.WideShapes Go.ChangeAt Go.RowKit
open Plain CSat CFix CShape CTensor CConv
def c32 (a:Int):Int:=min (max a (-2147483648)) 2147483647
theorem c32_bd (a:Int) : -2147483648≤c32 a∧c32 a≤2147483647:=by unfold c32;omega
theorem heldZ_bds (a m s z lo hi:Int) (hl1 : -128≤lo) (hl2:lo≤127) (hh1 : -128≤hi) (hh2:hi≤127) : -128≤heldZ a m s z lo hi∧heldZ a m s z lo hi≤127:=by
 unfold heldZ zbl;split <;> (try split) <;> (try split) <;> omega
theorem min_ite (a b:Int):(if b < a then b else a)=min a b:=by split <;> omega
theorem max_ite (a b:Int):(if a < b then b else a)=max a b:=by split <;> omega
def wsOf (ws:List Int) (each o:Nat):List Int:=(ws.drop (o * each)).take each
def rowP (ws bs:List Int) (lo hi z:Int) (g:Bool) (each o:Nat):Int:=bs.getD o 0+psum (dnF (wsOf ws each o) lo hi z g) each
def rowQ (ws bs:List Int) (lo hi z:Int) (g:Bool) (each o:Nat):Int:=bs.getD o 0+psum (upF (wsOf ws each o) lo hi z g) each
theorem wsOf_len {ws:List Int} {n nB each o:Nat} (hn:ws.length=n) (h:each * nB=n) (ho:o < nB):(wsOf ws each o).length=each:=by
 have h1:(o+1) * each≤nB * each:=Nat.mul_le_mul_right _ ho
 rw [Nat.mul_comm nB,h,Nat.add_mul,Nat.one_mul] at h1
 unfold wsOf
 rw [List.length_take,List.length_drop,hn]
 omega
theorem wsOf_I8b {ws:List Int} (h:I8b ws) (each o:Nat):I8b (wsOf ws each o):=fun q=>by
 unfold wsOf
 rw [List.getD_eq_getElem?_getD,List.getElem?_take]
 split
 ·rw [List.getElem?_drop, ← List.getD_eq_getElem?_getD];exact h _
 ·simp
theorem rowPQ_bd {ws bs:List Int} (hw:I8b ws) (hb:∀ q, -2147483648≤bs.getD q 0∧bs.getD q 0≤2147483647) {lo hi z:Int} (l1 : -128≤lo) (l2:lo≤127) (h1 : -128≤hi) (h2:hi≤127) (z1 : -128≤z) (z2:z≤127) (g:Bool) {each:Nat} (he:each≤1000000) (o:Nat) :
  (-40000000000≤rowP ws bs lo hi z g each o∧rowP ws bs lo hi z g each o≤40000000000)∧(-40000000000≤rowQ ws bs lo hi z g each o∧rowQ ws bs lo hi z g each o≤40000000000):=by
 have a:=psum_bd (G:=dnF (wsOf ws each o) lo hi z g) (b:=32640) (n:=each) (fun j _=>dnF_bd (wsOf_I8b hw each o) l1 l2 h1 h2 z1 z2 g j)
 have b:=psum_bd (G:=upF (wsOf ws each o) lo hi z g) (b:=32640) (n:=each) (fun j _=>upF_bd (wsOf_I8b hw each o) l1 l2 h1 h2 z1 z2 g j)
 have c:=hb o
 unfold rowP rowQ
 omega
end CSpan
end
end Go.Proofs.YtoffcaldhojjoaaDoor
