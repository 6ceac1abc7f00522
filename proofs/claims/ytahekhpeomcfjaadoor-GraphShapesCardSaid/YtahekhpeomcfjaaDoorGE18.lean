/- Texts of this seat, one behind the other: KindName. -/
import Derived.Deep.CutRange
import Derived.Test.YtahekhpeomcfjaaDoorGE17
namespace Go.Proofs.YtahekhpeomcfjaaDoor.CConv
end Go.Proofs.YtahekhpeomcfjaaDoor.CConv
namespace Go.Proofs.YtahekhpeomcfjaaDoor.CTensor
end Go.Proofs.YtahekhpeomcfjaaDoor.CTensor
section
namespace Go.Proofs.YtahekhpeomcfjaaDoor.CKind
open Go Go.ChangeShapes Go.WideShapes Go.ChangeAt Go.RowKit Go.Deep
open Plain CSat CFix CShape CTensor CConv
set_option linter.unusedVariables false
set_option linter.unusedSimpArgs false
/-- what a kind is called. -/
def kname (k : Int) : ByteArray :=
  if k = 1 then ⟨#[99, 111, 110, 118]⟩ else if k = 2 then ⟨#[100, 101, 112, 116, 104]⟩ else if k = 3 then ⟨#[100, 101, 110, 115, 101]⟩ else if k = 4 then ⟨#[109, 97, 120, 112, 111, 111, 108]⟩ else if k = 5 then ⟨#[97, 118, 103, 112, 111, 111, 108]⟩ else if k = 6 then ⟨#[106, 111, 105, 110]⟩ else if k = 7 then ⟨#[97, 99, 116]⟩ else if k = 8 then ⟨#[112, 97, 100]⟩ else if k = 9 then ⟨#[102, 108, 97, 116]⟩ else ⟨#[]⟩
theorem kname_no {k : Int} (h : k < 1 ∨ 9 < k) : kname k = ⟨#[]⟩ := by
  unfold kname
  simp only [show ¬ k = 1 by omega, show ¬ k = 2 by omega, show ¬ k = 3 by omega, show ¬ k = 4 by omega, show ¬ k = 5 by omega, show ¬ k = 6 by omega, show ¬ k = 7 by omega, show ¬ k = 8 by omega, show ¬ k = 9 by omega, if_false]
set_option maxRecDepth 100000 in
set_option maxHeartbeats 4000000 in
theorem refName_to (k : Int) (w : World) : Calls Tryd.prog 24 #[.int .i64 k] w fun e w' => e = .returned (.string (kname k)) ∧ Below w.heap.size w w' := by
  by_cases h : k < 0 ∨ 9 < k
  · have HK := Lib.hid (kname_no (k := k) (by omega))
    rcases h with h | h
    all_goals
      go_enter Tryd.func24, Tryd.ntmps24
      go_wp2_with fail
      go_ret
      exact ⟨by rw [HK.out]; rfl, (Below.refl _ _).alloc (Nat.le_refl _) _⟩
  · have : k = 0 ∨ k = 1 ∨ k = 2 ∨ k = 3 ∨ k = 4 ∨ k = 5 ∨ k = 6 ∨ k = 7 ∨ k = 8 ∨ k = 9 := by omega
    clear h
    rcases this with rfl | rfl | rfl | rfl | rfl | rfl | rfl | rfl | rfl | rfl
    all_goals
      go_enter Tryd.func24, Tryd.ntmps24
      go_wp2_with fail
      go_ret
      exact ⟨rfl, (Below.refl _ _).alloc (Nat.le_refl _) _⟩
end Go.Proofs.YtahekhpeomcfjaaDoor.CKind
end
