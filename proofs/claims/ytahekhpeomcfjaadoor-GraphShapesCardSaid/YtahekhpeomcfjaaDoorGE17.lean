/- Texts of this seat, one behind the other: KindRef, FixRef, TensorSame. -/
import Derived.Deep.CutRange
import Derived.OrdersHeld
import Derived.Deep.RegionHeld3
import Derived.Lib.SliceRun
import Derived.Laws.StructEq
import Derived.Test.YtahekhpeomcfjaaDoorGE2
import Derived.Test.YtahekhpeomcfjaaDoorGE5
import Derived.Test.YtahekhpeomcfjaaDoorGE7
import Derived.Test.YtahekhpeomcfjaaDoorGE13
import Derived.Test.YtahekhpeomcfjaaDoorGE14
import Derived.Test.YtahekhpeomcfjaaDoorGE15
import Derived.Test.YtahekhpeomcfjaaDoorGE16
namespace Go.Proofs.YtahekhpeomcfjaaDoor.CConv
end Go.Proofs.YtahekhpeomcfjaaDoor.CConv
namespace Go.Proofs.YtahekhpeomcfjaaDoor.CTensor
end Go.Proofs.YtahekhpeomcfjaaDoor.CTensor
section
namespace Go.Proofs.YtahekhpeomcfjaaDoor.CKind
open Go Go.ChangeShapes Go.WideShapes Go.ChangeAt Go.RowKit Go.Deep
open Plain CSat CShape CTensor CConv
set_option linter.unusedVariables false
set_option linter.unusedSimpArgs false
theorem refMore_to (x : Nd) : MoreIs x := by
  by_cases h0 : x.kd < 1 ∨ 9 < x.kd
  · exact more_o x h0
  · have : x.kd = 1 ∨ x.kd = 2 ∨ x.kd = 3 ∨ x.kd = 4 ∨ x.kd = 5 ∨ x.kd = 6 ∨ x.kd = 7 ∨ x.kd = 8 ∨ x.kd = 9 := by omega
    rcases this with h | h | h | h | h | h | h | h | h
    · exact more_1 x h
    · exact more_2 x h
    · exact more_3 x h
    · exact more_4 x h
    · exact more_5 x h
    · exact more_6 x h
    · exact more_7 x h
    · exact more_8 x h
    · exact more_9 x h
end Go.Proofs.YtahekhpeomcfjaaDoor.CKind
end
section
namespace Go.Proofs.YtahekhpeomcfjaaDoor.CFix
open Go Go.ChangeShapes Go.WideShapes Go.ChangeAt Go.RowKit
open Plain CSat
set_option linter.unusedVariables false
theorem refRight_yes (m s z : Int) (h : rightB m s = true) (w : World) :
    Calls Tryd.prog 27 #[.agg #[.int .i32 m, .int .i64 s, .int .i8 z]] w fun e w' => e = .returned (.bool true) ∧ Below w.heap.size w w' := by
  obtain ⟨h1, h2, h3⟩ : 0 < m ∧ 0 ≤ s ∧ s ≤ 62 := by simpa [rightB] using h
  clear h
  go_enter Tryd.func27, Tryd.ntmps27
  go_wp2
  go_ret
  exact ⟨rfl, (Below.refl _ _).alloc (Nat.le_refl _) _⟩
theorem refRight_no (m s z : Int) (h : rightB m s = false) (w : World) :
    Calls Tryd.prog 27 #[.agg #[.int .i32 m, .int .i64 s, .int .i8 z]] w fun e w' => e = .returned (.bool false) ∧ Below w.heap.size w w' := by
  have h0 : ¬ (0 < m ∧ 0 ≤ s ∧ s ≤ 62) := by simpa [rightB] using h
  clear h
  have h1 : (decide (0 < m) = false) ∨ (0 < m ∧ decide (0 ≤ s) = false) ∨ (0 < m ∧ 0 ≤ s ∧ decide (s ≤ 62) = false) := by simp; omega
  clear h0
  rcases h1 with h1 | ⟨h1, h2⟩ | ⟨h1, h2, h3⟩
  all_goals
    go_enter Tryd.func27, Tryd.ntmps27
    go_wp2
    go_ret
    exact ⟨rfl, (Below.refl _ _).alloc (Nat.le_refl _) _⟩
end Go.Proofs.YtahekhpeomcfjaaDoor.CFix
end
section
namespace Go.Proofs.YtahekhpeomcfjaaDoor.CTensor
open Go Go.ChangeShapes Go.WideShapes Go.ChangeAt Go.RowKit
open Plain CSat CShape
set_option linter.unusedVariables false
theorem eqShape (a b c x y z : Int) (w : World) : (Op.equalIn 10000 24 (.agg #[.int .i64 a, .int .i64 b, .int .i64 c]) (.agg #[.int .i64 x, .int .i64 y, .int .i64 z])).run Tryd.prog w = .ok (a == x && (b == y && c == z)) w := by
  have u3 := Tryd.underlying3
  have a3 := Tryd.isAgg3
  have z3 := Tryd.sizeOf3
  have hS : Tryd.prog.underlying 24 = some (.struct (Tryd.prog.fieldsOf 24)) := by kernel_rfl
  rw [show (10000 : Nat) = 9999 + 1 from rfl, run_equalIn_agg w 9999 24 _ _ hS Tryd.stoodInHeld24]
  simp only [Program.fieldsOf, Tryd.underlying24]
  go_simp
  by_cases h1 : a = x <;> by_cases h2 : b = y <;> by_cases h3 : c = z <;> simp [h1, h2, h3]
end Go.Proofs.YtahekhpeomcfjaaDoor.CTensor
end
