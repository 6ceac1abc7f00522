/- Texts of this seat, one behind the other: KindShV. -/
import Derived.Deep.CutRange
import Derived.Test.YtahekhpeomcfjaaDoorGE20
import Derived.Test.YtahekhpeomcfjaaDoorGE21
import Derived.Test.YtahekhpeomcfjaaDoorGE25
import Derived.Test.YtahekhpeomcfjaaDoorGE27
import Derived.Test.YtahekhpeomcfjaaDoorGE32
namespace Go.Proofs.YtahekhpeomcfjaaDoor.CConv
end Go.Proofs.YtahekhpeomcfjaaDoor.CConv
namespace Go.Proofs.YtahekhpeomcfjaaDoor.CDense
end Go.Proofs.YtahekhpeomcfjaaDoor.CDense
namespace Go.Proofs.YtahekhpeomcfjaaDoor.CTensor
end Go.Proofs.YtahekhpeomcfjaaDoor.CTensor
section
namespace Go.Proofs.YtahekhpeomcfjaaDoor.CKind
open Go Go.ChangeShapes Go.WideShapes Go.ChangeAt Go.RowKit Go.Deep
open Plain CSat CShape CTensor CConv CDense CDepth
set_option linter.unusedVariables false
set_option linter.unusedSimpArgs false
theorem valid_to (H W C e u0 u1 u2 : Int) (b : Bool) (hb : shapeB H W C = b) (he : (if b = true then (0 : Int) else 5) = e) (hv : (if b = true then (#[.int .i64 H, .int .i64 W, .int .i64 C] : Array Value) else #[.int .i64 0, .int .i64 0, .int .i64 0]) = #[.int .i64 u0, .int .i64 u1, .int .i64 u2]) (w : World) :
    Calls Tryd.prog 43 #[.agg #[.int .i64 H, .int .i64 W, .int .i64 C]] w fun r w' => r = .returned (.tuple #[.agg #[.int .i64 u0, .int .i64 u1, .int .i64 u2], .int .i64 e]) ∧ Below w.heap.size w w' := by
  have HR := Lib.hid (right_to H W C b hb)
  have HB : Hid (Below w.heap.size w ((w.alloc (.cells #[.int .i64 H, .int .i64 W, .int .i64 C] 24)).alloc (.cells #[.int .i64 0, .int .i64 0, .int .i64 0] 24))) := Lib.hid (((Below.refl _ _).alloc (by first | exact Nat.le_refl _ | (simp; done) | (simp; omega) | omega) _).alloc (by first | exact Nat.le_refl _ | (simp; done) | (simp; omega) | omega) _)
  clear hb
  cases b
  all_goals
    simp only [if_true, if_false, Bool.false_eq_true] at he hv
    obtain ⟨rfl, rfl, rfl⟩ := three_inj hv
    subst he
    clear hv
    go_enter Tryd.func43, Tryd.ntmps43
    go_wp2_with (go_at_call 11; (with_reducible refine (HR.out _).mono ?_); rintro e1 w1 ⟨rfl, hb⟩; obtain ⟨hcc, hff⟩ := Kit.bcell hb; have hz1 : w.heap.size + 1 < w1.heap.size := (by have := hb.size; simp at this; omega); (replace HB := Lib.hid (HB.out.trans (hb.mono HB.out.size))); clear hb)
  · refine bodyPost_ret (Kit.results_ct rfl _ _ (w.heap.size + 1) 0 [.int .i64 0, .int .i64 0, .int .i64 0] _ rfl (Kit.range_3 (by go_cell) (by go_cell) (by go_cell)) Tryd.underlying24 rfl (by kernel_rfl)) rfl ?_
    exact ⟨rfl, ((HB.out.setCell (p := ⟨w.heap.size + 1, 0, none⟩) (Nat.le_succ _) _).setCell (p := ⟨w.heap.size + 1, 1, none⟩) (Nat.le_succ _) _).setCell (p := ⟨w.heap.size + 1, 2, none⟩) (Nat.le_succ _) _⟩
  · refine bodyPost_ret (Kit.results_ct rfl _ _ (w.heap.size + 1) 0 [.int .i64 H, .int .i64 W, .int .i64 C] _ rfl (Kit.range_3 (by go_cell) (by go_cell) (by go_cell)) Tryd.underlying24 rfl (by kernel_rfl)) rfl ?_
    exact ⟨rfl, ((HB.out.setCell (p := ⟨w.heap.size + 1, 0, none⟩) (Nat.le_succ _) _).setCell (p := ⟨w.heap.size + 1, 1, none⟩) (Nat.le_succ _) _).setCell (p := ⟨w.heap.size + 1, 2, none⟩) (Nat.le_succ _) _⟩
theorem shape_in {H W C : Int} (h : shapeB H W C = true) : 1 ≤ H ∧ H ≤ 16 ∧ 1 ≤ W ∧ W ≤ 16 := by
  obtain ⟨a1, a2, a3, a4, _, _, _⟩ := shapeB_yes h
  exact ⟨a1, a2, a3, a4⟩
set_option maxRecDepth 100000 in
theorem widened_to (H W C P e u0 u1 u2 : Int) (he : (if shapeB H W C = false then (5 : Int) else if P < 0 ∨ 4 < P then 2 else if shapeB (H + 2 * P) (W + 2 * P) C = false then 5 else 0) = e) (hv : (if e ≠ 0 then (#[.int .i64 0, .int .i64 0, .int .i64 0] : Array Value) else #[.int .i64 (H + 2 * P), .int .i64 (W + 2 * P), .int .i64 C]) = #[.int .i64 u0, .int .i64 u1, .int .i64 u2]) (w : World) :
    Calls Tryd.prog 44 #[.agg #[.int .i64 H, .int .i64 W, .int .i64 C], .int .i64 P] w fun r w' => r = .returned (.tuple #[.agg #[.int .i64 u0, .int .i64 u1, .int .i64 u2], .int .i64 e]) ∧ Below w.heap.size w w' := by
  have HB : Hid (Below w.heap.size w ((w.alloc (.cells #[.int .i64 H, .int .i64 W, .int .i64 C] 24)).alloc (.cells #[.int .i64 0, .int .i64 0, .int .i64 0] 24))) := Lib.hid (((Below.refl _ _).alloc (by first | exact Nat.le_refl _ | (simp; done) | (simp; omega) | omega) _).alloc (by first | exact Nat.le_refl _ | (simp; done) | (simp; omega) | omega) _)
  cases hs : shapeB H W C
  · have HR := Lib.hid (right_to H W C false hs)
    rw [if_pos hs] at he
    subst he
    rw [if_pos (by decide)] at hv
    obtain ⟨rfl, rfl, rfl⟩ := three_inj hv
    clear hv hs
    go_enter Tryd.func44, Tryd.ntmps44
    go_wp2_with (go_at_call 11; (with_reducible refine (HR.out _).mono ?_); rintro e1 w1 ⟨rfl, hb⟩; obtain ⟨hcc, hff⟩ := Kit.bcell hb; have hz1 : w.heap.size + 1 < w1.heap.size := (by have := hb.size; simp at this; omega); (replace HB := Lib.hid (HB.out.trans (hb.mono HB.out.size))); clear hb)
    refine bodyPost_ret (Kit.results_ct rfl _ _ (w.heap.size + 1) 0 [.int .i64 0, .int .i64 0, .int .i64 0] _ rfl (Kit.range_3 (by go_cell) (by go_cell) (by go_cell)) Tryd.underlying24 rfl (by kernel_rfl)) rfl ?_
    exact ⟨rfl, ((HB.out.setCell (p := ⟨w.heap.size + 1, 0, none⟩) (Nat.le_succ _) _).setCell (p := ⟨w.heap.size + 1, 1, none⟩) (Nat.le_succ _) _).setCell (p := ⟨w.heap.size + 1, 2, none⟩) (Nat.le_succ _) _⟩
  · have HR := Lib.hid (right_to H W C true hs)
    obtain ⟨a1, a2, a3, a4⟩ := shape_in hs
    rw [if_neg (by simp [hs])] at he
    clear hs
    by_cases hp : P < 0 ∨ 4 < P
    · rw [if_pos hp] at he
      subst he
      rw [if_pos (by decide)] at hv
      obtain ⟨rfl, rfl, rfl⟩ := three_inj hv
      clear hv a1 a2 a3 a4
      rcases (show P < 0 ∨ (¬ P < 0 ∧ 4 < P) by omega) with hq | ⟨hq, hq2⟩
      all_goals
        clear hp
        go_enter Tryd.func44, Tryd.ntmps44
        go_wp2_with (go_at_call 11; (with_reducible refine (HR.out _).mono ?_); rintro e1 w1 ⟨rfl, hb⟩; obtain ⟨hcc, hff⟩ := Kit.bcell hb; have hz1 : w.heap.size + 1 < w1.heap.size := (by have := hb.size; simp at this; omega); (replace HB := Lib.hid (HB.out.trans (hb.mono HB.out.size))); clear hb)
        refine bodyPost_ret (Kit.results_ct rfl _ _ (w.heap.size + 1) 0 [.int .i64 0, .int .i64 0, .int .i64 0] _ rfl (Kit.range_3 (by go_cell) (by go_cell) (by go_cell)) Tryd.underlying24 rfl (by kernel_rfl)) rfl ?_
        exact ⟨rfl, ((HB.out.setCell (p := ⟨w.heap.size + 1, 0, none⟩) (Nat.le_succ _) _).setCell (p := ⟨w.heap.size + 1, 1, none⟩) (Nat.le_succ _) _).setCell (p := ⟨w.heap.size + 1, 2, none⟩) (Nat.le_succ _) _⟩
    · rw [if_neg hp] at he
      have p1 : ¬ P < 0 := by omega
      have p2 : ¬ 4 < P := by omega
      have i1 : IntKind.i64.wrap (2 * P) = 2 * P := IntWalk.i64_in _ (by omega)
      have i2 : IntKind.i64.wrap (H + 2 * P) = H + 2 * P := IntWalk.i64_in _ (by omega)
      have i3 : IntKind.i64.wrap (W + 2 * P) = W + 2 * P := IntWalk.i64_in _ (by omega)
      clear hp a1 a2 a3 a4
      have hva : (if shapeB (H + 2 * P) (W + 2 * P) C = true then (0 : Int) else 5) = e := by
        rw [← he]; cases shapeB (H + 2 * P) (W + 2 * P) C <;> rfl
      have hvv : (if shapeB (H + 2 * P) (W + 2 * P) C = true then (#[.int .i64 (H + 2 * P), .int .i64 (W + 2 * P), .int .i64 C] : Array Value) else #[.int .i64 0, .int .i64 0, .int .i64 0]) = #[.int .i64 u0, .int .i64 u1, .int .i64 u2] := by
        rw [← hv, ← he]; cases shapeB (H + 2 * P) (W + 2 * P) C <;> simp
      have HV := Lib.hid (valid_to (H + 2 * P) (W + 2 * P) C e u0 u1 u2 _ rfl hva hvv)
      clear he hv hva hvv
      go_enter Tryd.func44, Tryd.ntmps44
      go_wp2_with (first
        | (go_at_call 11; (with_reducible refine (HR.out _).mono ?_); rintro e1 w1 ⟨rfl, hb⟩; obtain ⟨hcc, hff⟩ := Kit.bcell hb; have hz1 : w.heap.size + 1 < w1.heap.size := (by have := hb.size; simp at this; omega); (replace HB := Lib.hid (HB.out.trans (hb.mono HB.out.size))); clear hb)
        | (go_at_call 43; (with_reducible refine (HV.out _).mono ?_); rintro e1 w2 ⟨rfl, hb⟩; obtain ⟨hcd, hfd⟩ := Kit.bcell hb; have hz2 : w.heap.size + 1 < w2.heap.size := (Nat.lt_of_lt_of_le hz1 hb.size); (replace HB := Lib.hid (HB.out.trans (hb.mono HB.out.size))); clear hb))
      refine bodyPost_ret (Kit.results_ct rfl _ _ (w.heap.size + 1) 0 [.int .i64 u0, .int .i64 u1, .int .i64 u2] _ rfl (Kit.range_3 (by go_cell) (by go_cell) (by go_cell)) Tryd.underlying24 rfl (by kernel_rfl)) rfl ?_
      exact ⟨rfl, ((HB.out.setCell (p := ⟨w.heap.size + 1, 0, none⟩) (Nat.le_succ _) _).setCell (p := ⟨w.heap.size + 1, 1, none⟩) (Nat.le_succ _) _).setCell (p := ⟨w.heap.size + 1, 2, none⟩) (Nat.le_succ _) _⟩
end Go.Proofs.YtahekhpeomcfjaaDoor.CKind
end
