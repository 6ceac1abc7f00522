/- -/
import Derived.Test.YtceehogkckdbkaaDoorGH7
import Derived.Test.YtceehogkckdbkaaDoorGH10
import Derived.Test.YtceehogkckdbkaaDoorGH11
open Nat (le_refl lt_of_succ_lt lt_succ_self)
set_option linter.unusedVariables false
set_option linter.unusedSimpArgs false
set_option maxRecDepth 100000
set_option maxHeartbeats 16000000
namespace Go.Proofs.YtceehogkckdbkaaDoor
namespace CConv
end CConv
namespace CFix
end CFix
namespace CSat
end CSat
namespace CShape
end CShape
namespace CTensor
end CTensor
open Go Go.ChangeShapes Go.WideShapes Go.ChangeAt Go.RowKit Go.Deep
section
namespace CSpan
open Go Go.ChangeShapes Go.WideShapes Go.ChangeAt Go.RowKit
open Plain CSat CFix CShape CTensor CConv
def c32 (a:Int):Int:=min (max a (-2147483648)) 2147483647
theorem c32_bd (a:Int) : -2147483648≤c32 a∧c32 a≤2147483647:=by unfold c32;omega
theorem min_ite (a b:Int):(if b < a then b else a)=min a b:=by split <;> omega
theorem max_ite (a b:Int):(if a < b then b else a)=max a b:=by split <;> omega
end CSpan
end
section
namespace CConv
open Go Go.ChangeShapes Go.WideShapes Go.ChangeAt Go.RowKit
open Plain CSat CShape CTensor
def I32v (zs:List Int):List Value:=zs.map (.int .i32)
end CConv
end
section
namespace CKind
open Plain CSat CFix CShape CTensor CConv
def Nd.checkZ (x:Nd):Int :=
 if x.kd < 1∨9 < x.kd then 6 else if x.moreB=true then 2 else if ((zaq x.kd && !zah x.m1 x.s1) || (x.kd == 6 && !zah x.m2 x.s2))=true then 7 else if (zaq x.kd && decide (x.hi < x.lo))=true then 2 else 0
end CKind
end
section
namespace CKind
open Plain CSat CShape CTensor CConv
def Nd.zero:Nd:=⟨0,0,0,0,0,0,0,0,0,none,0,0,none,0,0,0,0,0,0,0,0,0,0⟩
def Nd.ownK (x:Nd) (k:Int):Nd :=
 ⟨k,x.na,if k == 6 then x.nb else 0,if slidesB k then x.K else 0,if slidesB k then x.S else 0,if slidesB k || k == 8 then x.P else 0,if k == 1 || k == 3 then x.O else 0,if zaq k || k == 8 then x.Z else 0,if k == 6 then x.Y else 0,
  if sumsB k then x.WA else none,if sumsB k then x.nW else 0,if sumsB k then x.cW else 0,if sumsB k then x.BA else none,if sumsB k then x.nB else 0,if sumsB k then x.cB else 0,
  if zaq k then x.m1 else 0,if zaq k then x.s1 else 0,if zaq k then x.z1 else 0,if k == 6 then x.m2 else 0,if k == 6 then x.s2 else 0,0,if zaq k then x.lo else 0,if zaq k then x.hi else 0⟩
end CKind
end
end Go.Proofs.YtceehogkckdbkaaDoor
