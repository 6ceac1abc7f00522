/- Texts of this seat, one behind the other: KindNames. -/
import Derived.Deep.CutRange
import Derived.Test.YtahekhpeomcfjaaDoorGE18
import Derived.Test.YtahekhpeomcfjaaDoorGE20
namespace Go.Proofs.YtahekhpeomcfjaaDoor.CConv
end Go.Proofs.YtahekhpeomcfjaaDoor.CConv
namespace Go.Proofs.YtahekhpeomcfjaaDoor.CTensor
end Go.Proofs.YtahekhpeomcfjaaDoor.CTensor
section
namespace Go.Proofs.YtahekhpeomcfjaaDoor.CKind
open Go Go.ChangeShapes Go.WideShapes Go.ChangeAt Go.RowKit Go.Deep
open Plain CSat CFix CShape CTensor CConv
set_option linter.unusedVariables false
set_option linter.unusedSimpArgs false
/-- the kinds' names, as the program's text lays them. -/
def NamesIn (w : World) : Prop := ∀ n : Nat, n < 10 → w.cell? ⟨0, n, none⟩ = some (.string (kname n))
theorem NamesIn.size {w : World} (h : NamesIn w) : 0 < w.heap.size := by
  have h0 := h 0 (by decide)
  unfold World.cell? at h0
  rcases Nat.lt_or_ge 0 w.heap.size with hlt | hge
  · exact hlt
  · rw [show w.heap[(⟨0, 0, none⟩ : Addr).block]? = none from Array.getElem?_eq_none hge] at h0
    cases h0
theorem NamesIn.below {w w' : World} {n : Nat} (h : NamesIn w) (hb : Below n w w') (hn : 0 < n) : NamesIn w' := fun j hj => (hb.cell (p := ⟨0, j, none⟩) hn).trans (h j hj)
theorem NamesIn.grown {w w' : World} (h : NamesIn w) (hb : Below w.heap.size w w') : NamesIn w' := h.below hb h.size
set_option maxRecDepth 100000 in
set_option maxHeartbeats 4000000 in
theorem name_to (k : Int) (w : World) (hT : NamesIn w) : Calls Tryd.prog 47 #[.int .i64 k] w fun e w' => e = .returned (.string (kname k)) ∧ w = w' := by
  by_cases h : k < 0 ∨ 9 < k
  · have HK := Lib.hid (kname_no (k := k) (by omega))
    rcases h with h | h
    · go_enter Tryd.func47, Tryd.ntmps47
      go_wp2_with fail
      go_ret
      exact ⟨by rw [HK.out]; rfl, rfl⟩
    · have h2 : ¬ k < 0 := by omega
      have h3 : (10 : Int) ≤ k := by omega
      go_enter Tryd.func47, Tryd.ntmps47
      go_wp2_with fail
      go_ret
      exact ⟨by rw [HK.out]; rfl, rfl⟩
  · obtain ⟨n, rfl⟩ : ∃ n : Nat, k = (n : Int) := ⟨k.toNat, by omega⟩
    have h9 : n < 10 := by omega
    have hc := hT n h9
    obtain ⟨s, hs⟩ : ∃ s, kname (n : Int) = s := ⟨_, rfl⟩
    rw [hs] at hc ⊢
    have h0 : ¬ (n : Int) < 0 := by omega
    have h10 : ¬ (10 : Int) ≤ (n : Int) := by omega
    have h11 : (n : Int) < 10 := by omega
    clear hs hT h
    go_enter Tryd.func47, Tryd.ntmps47
    go_wp2_with fail
    go_ret
    exact ⟨rfl, rfl⟩
/-- is there such a kind? -/
def knownB (k : Int) : Bool := decide (1 ≤ k ∧ k ≤ 9)
theorem kname_ne (k : Int) : (kname k).toList.isEmpty = !knownB k := by
  rw [ByteArray.toList_eq]
  by_cases h : k < 1 ∨ 9 < k
  · rw [kname_no h, show knownB k = false from decide_eq_false (by omega)]; decide
  · have : k = 1 ∨ k = 2 ∨ k = 3 ∨ k = 4 ∨ k = 5 ∨ k = 6 ∨ k = 7 ∨ k = 8 ∨ k = 9 := by omega
    rcases this with rfl | rfl | rfl | rfl | rfl | rfl | rfl | rfl | rfl <;> decide
set_option maxRecDepth 100000 in
set_option maxHeartbeats 4000000 in
theorem known_to (k : Int) (w : World) (hT : NamesIn w) : Calls Tryd.prog 34 #[.int .i64 k] w fun e w' => e = .returned (.bool (knownB k)) ∧ w = w' := by
  have HN := Lib.hid (name_to k w hT)
  have hne := kname_ne k
  clear hT
  obtain ⟨s, hs⟩ : ∃ s, kname k = s := ⟨_, rfl⟩
  rw [hs] at HN hne
  clear hs
  cases hb : knownB k
  all_goals
    rw [hb] at hne
    simp only [Bool.not_false, Bool.not_true] at hne
    clear hb
    go_enter Tryd.func34, Tryd.ntmps34
    go_wp2_with (go_at_call 47; (with_reducible refine HN.out.mono ?_); rintro e w1 ⟨rfl, rfl⟩)
    go_ret
    exact ⟨rfl, rfl⟩
theorem sums_to (k : Int) (w : World) : Calls Tryd.prog 49 #[.int .i64 k] w fun e w' => e = .returned (.bool (sumsB k)) ∧ w = w' := by
  go_enter Tryd.func49, Tryd.ntmps49
  go_wp2_with fail
  all_goals go_ret
  all_goals exact ⟨by simp_all [sumsB], rfl⟩
theorem scaled_to (k : Int) (w : World) : Calls Tryd.prog 37 #[.int .i64 k] w fun e w' => e = .returned (.bool (scaledB k)) ∧ w = w' := by
  have HS := Lib.hid (sums_to k)
  obtain ⟨b, hb⟩ : ∃ b, sumsB k = b := ⟨_, rfl⟩
  have HZ : Hid (scaledB k = (b || k == 6 || k == 7)) := Lib.hid (by rw [← hb]; rfl)
  rw [hb] at HS
  clear hb
  cases b
  all_goals
    go_enter Tryd.func37, Tryd.ntmps37
    go_wp2_with (go_at_call 49; (with_reducible refine (HS.out _).mono ?_); rintro e w1 ⟨rfl, rfl⟩)
    all_goals go_ret
    all_goals exact ⟨by rw [HZ.out]; simp_all, rfl⟩
end Go.Proofs.YtahekhpeomcfjaaDoor.CKind
end
