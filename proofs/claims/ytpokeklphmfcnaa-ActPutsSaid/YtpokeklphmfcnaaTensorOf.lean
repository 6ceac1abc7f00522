/- Contracts of package tensor (layer 5): tensors of numbers, places. -/
import Derived.Test.YtpokeklphmfcnaaTensorTwo
import Derived.Handy
namespace Go.Proofs.Ytpokeklphmfcnaa.CTensor
open Go Go.ChangeShapes Go.WideShapes Go.ChangeAt Go.RowKit
open Plain CSat CShape
set_option linter.unusedVariables false

/-- a tensor of the call's own, handed back with an error's number. -/
def Made (w : World) (H W C : Int) (n : Nat) (zs : List Int) (x : Value) (e : Ending) (w' : World) : Prop :=
  ∃ v, e = .returned (.tuple #[.agg #[.int .i64 H, .int .i64 W, .int .i64 C, v], x]) ∧ w'.ownsRow w.heap.size 27 1 v n (I8s zs) ∧ Below w.heap.size w w'
end Go.Proofs.Ytpokeklphmfcnaa.CTensor
