/- Texts of this seat, one behind the other: KindOwnD, KindSame. -/
import Derived.Deep.CutRange
import Derived.Laws.StructEq
import Derived.Test.YtahekhpeomcfjaaDoorGE11
import Derived.Test.YtahekhpeomcfjaaDoorGE20
namespace Go.Proofs.YtahekhpeomcfjaaDoor.CConv
end Go.Proofs.YtahekhpeomcfjaaDoor.CConv
namespace Go.Proofs.YtahekhpeomcfjaaDoor.CTensor
end Go.Proofs.YtahekhpeomcfjaaDoor.CTensor
section
namespace Go.Proofs.YtahekhpeomcfjaaDoor.CKind
open Go Go.ChangeShapes Go.WideShapes Go.ChangeAt Go.RowKit Go.Deep
open Plain CSat CShape CTensor CConv
set_option linter.unusedVariables false
set_option linter.unusedSimpArgs false
/-- the node of no numbers. -/
def Nd.zero : Nd := ⟨0, 0, 0, 0, 0, 0, 0, 0, 0, none, 0, 0, none, 0, 0, 0, 0, 0, 0, 0, 0, 0, 0⟩
/-- a node with what kind k tells alone. -/
def Nd.ownK (x : Nd) (k : Int) : Nd :=
  ⟨k, x.na, if k == 6 then x.nb else 0, if slidesB k then x.K else 0, if slidesB k then x.S else 0, if slidesB k || k == 8 then x.P else 0, if k == 1 || k == 3 then x.O else 0, if scaledB k || k == 8 then x.Z else 0, if k == 6 then x.Y else 0,
   if sumsB k then x.WA else none, if sumsB k then x.nW else 0, if sumsB k then x.cW else 0, if sumsB k then x.BA else none, if sumsB k then x.nB else 0, if sumsB k then x.cB else 0,
   if scaledB k then x.m1 else 0, if scaledB k then x.s1 else 0, if scaledB k then x.z1 else 0, if k == 6 then x.m2 else 0, if k == 6 then x.s2 else 0, 0, if scaledB k then x.lo else 0, if scaledB k then x.hi else 0⟩
end Go.Proofs.YtahekhpeomcfjaaDoor.CKind
end
section
namespace Go.Proofs.YtahekhpeomcfjaaDoor.CKind
open Go Go.ChangeShapes Go.WideShapes Go.ChangeAt Go.RowKit Go.Deep
open Plain CSat CShape CTensor CConv
set_option linter.unusedVariables false
set_option linter.unusedSimpArgs false
theorem eqQuantK (a b c x y z : Int) (w : World) : (Op.equalIn 10000 43 (.agg #[.int .i32 a, .int .i64 b, .int .i8 c]) (.agg #[.int .i32 x, .int .i64 y, .int .i8 z])).run Tryd.prog w = .ok (a == x && (b == y && c == z)) w := by
  have u1 := Tryd.underlying21
  have a1 := Tryd.isAgg21
  have z1 := Tryd.sizeOf21
  have u2 := Tryd.underlying40
  have a2 := Tryd.isAgg40
  have z2 := Tryd.sizeOf40
  have u3 := Tryd.underlying3
  have a3 := Tryd.isAgg3
  have z3 := Tryd.sizeOf3
  have hS : Tryd.prog.underlying 43 = some (.struct (Tryd.prog.fieldsOf 43)) := by kernel_rfl
  rw [show (10000 : Nat) = 9999 + 1 from rfl, run_equalIn_agg w 9999 43 _ _ hS Tryd.stoodInHeld43]
  simp only [Program.fieldsOf, Tryd.underlying43]
  go_simp
  by_cases h1 : a = x <;> by_cases h2 : b = y <;> by_cases h3 : c = z <;> simp [h1, h2, h3]
end Go.Proofs.YtahekhpeomcfjaaDoor.CKind
end
