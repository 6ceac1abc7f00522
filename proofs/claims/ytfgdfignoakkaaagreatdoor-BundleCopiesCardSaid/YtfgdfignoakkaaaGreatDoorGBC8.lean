/- -/
import Derived.Test.YtfgdfignoakkaaaGreatDoorRows
import Derived.Shelf.Bits.Mul64
import Derived.Deep.RegionHeld3
import Derived.Lib.SliceRun
import Derived.Handy
import Derived.Test.YtfgdfignoakkaaaGreatDoorGBC1
import Derived.Test.YtfgdfignoakkaaaGreatDoorGBC3
open Nat (le_refl lt_of_succ_lt lt_succ_self)
set_option linter.unusedVariables false
set_option linter.unusedSimpArgs false
set_option maxRecDepth 100000
set_option maxHeartbeats 16000000
namespace Go.Proofs.YtfgdfignoakkaaaGreatDoor
namespace CSat
end CSat
namespace CShape
end CShape
namespace Plain
end Plain
open Go Go.ChangeShapes Go.WideShapes Go.ChangeAt Go.RowKit
section
namespace CTensor
open Plain CSat CShape
theorem eqShape (a b c x y z:Int) (w:World):(Op.equalIn 10000 23 (.agg #[.int .i64 a,.int .i64 b,.int .i64 c]) (.agg #[.int .i64 x,.int .i64 y,.int .i64 z])).run Tryz.prog w=.ok (a == x && (b == y && c == z)) w:=by
 have u3:=Tryz.underlying3
 have a3:=Tryz.isAgg3
 have z3:=Tryz.sizeOf3
 have hS:Tryz.prog.underlying 23=some (.struct (Tryz.prog.fieldsOf 23)):=by kernel_rfl
 rw [show (10000:Nat)=9999+1 from rfl,run_equalIn_agg w 9999 23 _ _ hS Tryz.stoodInHeld23]
 simp only [Program.fieldsOf,Tryz.underlying23]
 go_simp
 by_cases h1:a=x <;> by_cases h2:b=y <;> by_cases h3:c=z <;> simp [h1,h2,h3]
end CTensor
end
end Go.Proofs.YtfgdfignoakkaaaGreatDoor
