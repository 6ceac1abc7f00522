/- -/
import Derived.Test.YtceehogkckdbkaaDoorRows
import Derived.Test.YtceehogkckdbkaaDoorGH3
open Nat (le_refl lt_of_succ_lt lt_succ_self)
set_option linter.unusedVariables false
set_option linter.unusedSimpArgs false
set_option maxRecDepth 100000
set_option maxHeartbeats 16000000
namespace Go.Proofs.YtceehogkckdbkaaDoor
open Go Go.ChangeShapes Go.WideShapes Go.ChangeAt Go.RowKit Go.Deep
section
namespace Plain
open Go Go.RowKit
def clampZ (v lo hi:Int):Int:=if v < lo then lo else if v > hi then hi else v
theorem clampZ_lo {v lo hi:Int} (h:v < lo):lo=clampZ v lo hi:=by unfold clampZ;rw [if_pos h]
theorem clampZ_hi {v lo hi:Int} (h:lo≤v) (h2:hi < v):hi=clampZ v lo hi:=by unfold clampZ;rw [if_neg (by omega),if_pos h2]
theorem clampZ_in {v lo hi:Int} (h:lo≤v) (h2:v≤hi):v=clampZ v lo hi:=by unfold clampZ;rw [if_neg (by omega),if_neg (by omega)]
end Plain
end
section
namespace CSat
open Go.ChangeShapes Go.WideShapes Go.ChangeAt Go.RowKit
open Plain
theorem ret_int {k:IntKind} {a b:Int} (h:a=b):Ending.returned (.int k a)=.returned (.int k b):=by rw [h]
theorem clamp (v lo hi:Int) (hl1 : -128≤lo) (hl2:lo≤127) (hh1 : -128≤hi) (hh2:hi≤127) (w:World) :
  Calls Tryd.prog 86 #[.int .i64 v,.int .i8 lo,.int .i8 hi] w fun e w'=>e=.returned (.int .i8 (clampZ v lo hi))∧w=w':=by
 by_cases h1:v < lo
 ·go_enter Tryd.func86,Tryd.ntmps86
  go_wp2
  go_ret
  exact⟨ret_int (by exact clampZ_lo (by omega)),rfl⟩
 ·by_cases h2:v > hi
  ·go_enter Tryd.func86,Tryd.ntmps86
   go_wp2
   go_ret
   exact⟨ret_int (by exact clampZ_hi (by omega) (by omega)),rfl⟩
  ·go_enter Tryd.func86,Tryd.ntmps86
   go_wp2
   go_ret
   exact⟨ret_int (by exact clampZ_in (by omega) (by omega)),rfl⟩
theorem mul_bd (a b:Int) (ha1 : -2147483648≤a) (ha2:a≤2147483647) (hb1 : -2147483648≤b) (hb2:b≤2147483647) : -4611686018427387904≤a * b∧a * b≤4611686018427387904:=by
 have h:(a * b).natAbs≤2147483648 * 2147483648:=by
  rw [Int.natAbs_mul];exact Nat.mul_le_mul (by omega) (by omega)
 omega
end CSat
end
section
namespace Kit
section
variable {H:Type} {enc:TypeId × Value→H} {P:Program} {w:World} {base b0:Nat} {spare:Nat→Bool} {held:Bool} {r:Reach}
theorem flat_islice {t e:TypeId} {k:IntKind} {cs:Array Value} {j:Nat} {v:Value} (ht:P.underlying t=some (.slice e)) (he:P.underlying e=some (.int k)) (hce:P.cellsOf e=1) (hv:cs[j]?=some v)
  (h:∃ (u:Value) (n:Nat) (x:DataW H × List MemPlace),cs[j]?=some u∧DataW.trod enc P w base spare held n t [u]=some x) :
  ∃ (A:Option Addr) (zs:List Int) (c:Nat),v=.slice A zs.length c∧zs.length≤c∧c≤maxLen∧(∀ n∈zs,(Lit.int k n).wf=true)∧Rd w w.heap.size A (zs.map (.int k)):=by
 obtain⟨u,n,x,hu,hx⟩:=h
 rw [hv] at hu
 cases hu
 exact trod_islice_n ht he hce hx
end
end Kit
end
end Go.Proofs.YtceehogkckdbkaaDoor
