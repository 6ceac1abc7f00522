/- -/
import Derived.Test.YtceehogkckdbkaaDoorGH12
open Nat (le_refl lt_of_succ_lt lt_succ_self)
set_option linter.unusedVariables false
set_option linter.unusedSimpArgs false
set_option maxRecDepth 100000
set_option maxHeartbeats 16000000
namespace Go.Proofs.YtceehogkckdbkaaDoor
namespace CConv
end CConv
namespace CFix
end CFix
namespace CKind
end CKind
namespace CSat
end CSat
namespace CShape
end CShape
namespace CTensor
end CTensor
namespace Kit
end Kit
open Go Go.ChangeShapes Go.WideShapes Go.ChangeAt Go.RowKit Go.Deep
section
namespace CSpan
open Go Go.ChangeShapes Go.WideShapes Go.ChangeAt Go.RowKit
open Plain CSat CFix CShape CTensor CConv
def wsOf (ws:List Int) (each o:Nat):List Int:=(ws.drop (o * each)).take each
def rowP (ws bs:List Int) (lo hi z:Int) (g:Bool) (each o:Nat):Int:=bs.getD o 0+psum (dnF (wsOf ws each o) lo hi z g) each
def rowQ (ws bs:List Int) (lo hi z:Int) (g:Bool) (each o:Nat):Int:=bs.getD o 0+psum (upF (wsOf ws each o) lo hi z g) each
theorem wsOf_len {ws:List Int} {n nB each o:Nat} (hn:ws.length=n) (h:each * nB=n) (ho:o < nB):(wsOf ws each o).length=each:=by
 have h1:(o+1) * each≤nB * each:=Nat.mul_le_mul_right _ ho
 rw [Nat.mul_comm nB,h,Nat.add_mul,Nat.one_mul] at h1
 unfold wsOf
 rw [List.length_take,List.length_drop,hn]
 omega
theorem wsOf_I8b {ws:List Int} (h:I8b ws) (each o:Nat):I8b (wsOf ws each o):=fun q=>by
 unfold wsOf
 rw [List.getD_eq_getElem?_getD,List.getElem?_take]
 split
 ·rw [List.getElem?_drop, ← List.getD_eq_getElem?_getD];exact h _
 ·simp
theorem rowPQ_bd {ws bs:List Int} (hw:I8b ws) (hb:∀ q, -2147483648≤bs.getD q 0∧bs.getD q 0≤2147483647) {lo hi z:Int} (l1 : -128≤lo) (l2:lo≤127) (h1 : -128≤hi) (h2:hi≤127) (z1 : -128≤z) (z2:z≤127) (g:Bool) {each:Nat} (he:each≤1000000) (o:Nat) :
  (-40000000000≤rowP ws bs lo hi z g each o∧rowP ws bs lo hi z g each o≤40000000000)∧(-40000000000≤rowQ ws bs lo hi z g each o∧rowQ ws bs lo hi z g each o≤40000000000):=by
 have a:=psum_bd (G:=dnF (wsOf ws each o) lo hi z g) (b:=32640) (n:=each) (fun j _=>dnF_bd (wsOf_I8b hw each o) l1 l2 h1 h2 z1 z2 g j)
 have b:=psum_bd (G:=upF (wsOf ws each o) lo hi z g) (b:=32640) (n:=each) (fun j _=>upF_bd (wsOf_I8b hw each o) l1 l2 h1 h2 z1 z2 g j)
 have c:=hb o
 unfold rowP rowQ
 omega
end CSpan
end
section
namespace CGraph
open Kit CKind
structure NdOk (w:World) (B:Nat) (x:Nd):Prop where
 z : -128≤x.Z∧x.Z≤127
 a : -9223372036854775808≤x.na∧x.na≤9223372036854775807
 b : -9223372036854775808≤x.nb∧x.nb≤9223372036854775807
 ks:(-9223372036854775808≤x.K∧x.K≤9223372036854775807)∧(-9223372036854775808≤x.S∧x.S≤9223372036854775807)∧(-9223372036854775808≤x.P∧x.P≤9223372036854775807)∧(-9223372036854775808≤x.O∧x.O≤9223372036854775807)
 q:(-2147483648≤x.m1∧x.m1≤2147483647)∧(-2147483648≤x.m2∧x.m2≤2147483647)∧(-128≤x.z1∧x.z1≤127)∧(-128≤x.z2∧x.z2≤127)∧(-128≤x.lo∧x.lo≤127)∧(-128≤x.hi∧x.hi≤127)∧(-128≤x.Y∧x.Y≤127)
 s:(-9223372036854775808≤x.s1∧x.s1≤9223372036854775807)∧(-9223372036854775808≤x.s2∧x.s2≤9223372036854775807)∧(-9223372036854775808≤x.kd∧x.kd≤9223372036854775807)
 ws:∃ zs:List Int,zs.length=x.nW∧x.nW≤x.cW∧x.cW≤maxLen∧(∀ n∈zs,(Lit.int .i8 n).wf=true)∧Rd w B x.WA (zs.map (.int .i8))
 bs:∃ zs:List Int,zs.length=x.nB∧x.nB≤x.cB∧x.cB≤maxLen∧(∀ n∈zs,(Lit.int .i32 n).wf=true)∧Rd w B x.BA (zs.map (.int .i32))
section
variable {H:Type} {enc:TypeId × Value→H} {P:Program} {w:World} {base b0:Nat} {spare:Nat→Bool} {held:Bool} {r:Reach}
end
section
variable {H:Type} {enc:TypeId × Value→H} {w:World} {base b0:Nat} {spare:Nat→Bool} {held:Bool} {r:Reach}
end
end CGraph
end
end Go.Proofs.YtceehogkckdbkaaDoor
