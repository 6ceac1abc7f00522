/- Texts of this seat, one behind the other: Fix. -/
import Derived.Laws.ShiftsVar
import Derived.Laws.ShiftsVarLaws
import Derived.Test.YtahekhpeomcfjaaDoorGE1
import Derived.Test.YtahekhpeomcfjaaDoorGE4
section
namespace Go.Proofs.YtahekhpeomcfjaaDoor.CFix
open Go Go.ChangeShapes Go.WideShapes Go.ChangeAt Go.RowKit
open Plain CSat
set_option linter.unusedVariables false
theorem right_yes (s : Int) (h1 : 0 ≤ s) (h2 : s ≤ 62) (w : World) :
    Calls Tryd.prog 50 #[.int .i64 s] w fun e w' => e = .returned (.bool true) ∧ w = w' := by
  go_enter Tryd.func50, Tryd.ntmps50
  go_wp2
  go_ret
  exact ⟨rfl, rfl⟩
theorem right_no (s : Int) (h : s < 0 ∨ 62 < s) (w : World) :
    Calls Tryd.prog 50 #[.int .i64 s] w fun e w' => e = .returned (.bool false) ∧ w = w' := by
  rcases h with h | h
  · go_enter Tryd.func50, Tryd.ntmps50
    go_wp2
    go_ret
    exact ⟨rfl, rfl⟩
  · by_cases h0 : 0 ≤ s
    · have hd : decide (s ≤ 62) = false := by simp; omega
      go_enter Tryd.func50, Tryd.ntmps50
      go_wp2
      go_ret
      exact ⟨rfl, rfl⟩
    · go_enter Tryd.func50, Tryd.ntmps50
      go_wp2
      go_ret
      exact ⟨rfl, rfl⟩
/-- is a scale right? -/
def rightB (m s : Int) : Bool := decide (0 < m ∧ 0 ≤ s ∧ s ≤ 62)
theorem isRight_yes (m s z : Int) (h : rightB m s = true) (w : World) :
    Calls Tryd.prog 38 #[.agg #[.int .i32 m, .int .i64 s, .int .i8 z]] w fun e w' => e = .returned (.bool true) ∧ Below w.heap.size w w' := by
  obtain ⟨h1, h2, h3⟩ : 0 < m ∧ 0 ≤ s ∧ s ≤ 62 := by simpa [rightB] using h
  clear h
  go_enter Tryd.func38, Tryd.ntmps38
  go_wp2_with (go_at_call 50; refine (right_yes _ (by omega) (by omega) _).mono ?_; rintro e w' ⟨rfl, rfl⟩)
  go_ret
  exact ⟨rfl, (Below.refl _ _).alloc (Nat.le_refl _) _⟩
theorem isRight_no (m s z : Int) (h : rightB m s = false) (w : World) :
    Calls Tryd.prog 38 #[.agg #[.int .i32 m, .int .i64 s, .int .i8 z]] w fun e w' => e = .returned (.bool false) ∧ Below w.heap.size w w' := by
  have h0 : ¬ (0 < m ∧ 0 ≤ s ∧ s ≤ 62) := by simpa [rightB] using h
  clear h
  by_cases h1 : 0 < m
  · have h2 : s < 0 ∨ 62 < s := by omega
    clear h0
    go_enter Tryd.func38, Tryd.ntmps38
    go_wp2_with (go_at_call 50; refine (right_no _ h2 _).mono ?_; rintro e w' ⟨rfl, rfl⟩)
    go_ret
    exact ⟨rfl, (Below.refl _ _).alloc (Nat.le_refl _) _⟩
  · have hd : decide (0 < m) = false := by simpa using h1
    clear h0
    go_enter Tryd.func38, Tryd.ntmps38
    go_wp2_with fail
    go_ret
    exact ⟨rfl, (Below.refl _ _).alloc (Nat.le_refl _) _⟩
end Go.Proofs.YtahekhpeomcfjaaDoor.CFix
end
