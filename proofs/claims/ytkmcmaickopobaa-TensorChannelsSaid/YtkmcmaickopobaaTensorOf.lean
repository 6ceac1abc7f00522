/- Contracts of package tensor (layer 5): tensors of numbers, places. -/
import Derived.Test.YtkmcmaickopobaaTensorTwo
import Derived.Handy
namespace Go.Proofs.Ytkmcmaickopobaa.CTensor
open Go Go.ChangeShapes Go.WideShapes Go.ChangeAt Go.RowKit
open Plain CSat CShape
set_option linter.unusedVariables false

theorem of_no (H W C : Int) (A : Option Addr) (n c : Nat) (ht : tensB H W C n = false) (w : World) :
    Calls Try.prog 8 #[.agg #[.int .i64 H, .int .i64 W, .int .i64 C], .slice A n c] w fun e w' => e = .returned (.tuple #[.agg #[.int .i64 0, .int .i64 0, .int .i64 0, .slice none 0 0], .int .i64 5]) ∧ Below w.heap.size w w' := by
  have HT := Lib.hid ht
  clear ht
  go_enter Try.func8, Try.ntmps8
  go_wp2_with (go_at_call 11; ((with_reducible refine (right_to H W C A n c false HT.out _).mono ?_); (rintro e w1 ⟨rfl, hb⟩; obtain ⟨hc, hf⟩ := Kit.bcell hb; have hz : w.heap.size + 3 ≤ w1.heap.size := (by have := hb.size; simp at this; omega); have hw1 : Below w.heap.size w w1 := Below.trans (by go_grown) (hb.mono (by simp; omega)))))
  refine bodyPost_ret (Kit.results_ct rfl _ _ (w.heap.size + 1) 0 [.int .i64 0, .int .i64 0, .int .i64 0, .slice none 0 0] _ rfl (range_4 (by go_cell) (by go_cell) (by go_cell) (by go_cell)) Try.underlying28 rfl (by kernel_rfl)) rfl ?_
  exact ⟨rfl, ((((hw1.setCell (p := ⟨w.heap.size + 1, 0, none⟩) (by simp) _).setCell (p := ⟨w.heap.size + 1, 1, none⟩) (by simp) _).setCell (p := ⟨w.heap.size + 1, 2, none⟩) (by simp) _).setCell (p := ⟨w.heap.size + 1, 3, none⟩) (by simp) _)⟩

/-- a tensor of the call's own, handed back with an error's number. -/
def Made (w : World) (H W C : Int) (n : Nat) (zs : List Int) (x : Value) (e : Ending) (w' : World) : Prop :=
  ∃ v, e = .returned (.tuple #[.agg #[.int .i64 H, .int .i64 W, .int .i64 C, v], x]) ∧ w'.ownsRow w.heap.size 25 1 v n (I8s zs) ∧ Below w.heap.size w w'
theorem of_yes (H W C : Int) (A : Option Addr) (zs : List Int) (n c : Nat) (hn : zs.length = n) (hl : n ≤ 1000000) (ht : tensB H W C n = true) {B : Nat} (w : World) (hB : B ≤ w.heap.size) (hr : Kit.Rd w B A (zs.map (.int .i8))) :
    Calls Try.prog 8 #[.agg #[.int .i64 H, .int .i64 W, .int .i64 C], .slice A n c] w (Made w H W C n zs (.int .i64 0)) := by
  have HT := Lib.hid ht
  have HN := Lib.hid hn
  have HR := Lib.hid hr
  clear ht hn hr
  go_enter Try.func8, Try.ntmps8
  have H0 := Lib.hid (Below.refl w.heap.size w)
  go_wp2_with (first
    | (go_at_call 11; ((with_reducible refine (right_to H W C A n c true HT.out _).mono ?_); (rintro e w1 ⟨rfl, hb⟩; obtain ⟨hc, hf⟩ := Kit.bcell hb; have hz : w.heap.size + 3 ≤ w1.heap.size := (by have := hb.size; simp at this; omega); have hw1 : Below w.heap.size w w1 := Below.trans (by go_grown) (hb.mono (by simp; omega)); have HB := Lib.hid hb)))
    | (go_at_call 25; have hrd := HR.out.below (hw1.mono hB); ((with_reducible refine (clone_to H W C A zs n c HN.out hl (B := B) _ (by omega) hrd).mono ?_); (rintro e w2 ⟨v2, rfl, ho2, hb2⟩; obtain ⟨hc2, hf2⟩ := Kit.bcell hb2; obtain ⟨A2, c2, rfl, _, _, _⟩ := Kit.own_rd ho2; have HO := Lib.hid ho2; have HB2 := Lib.hid (hw1.trans (hb2.mono (by omega))); have hz2 : w1.heap.size ≤ w2.heap.size := hb2.size; have hz3 : w.heap.size + 1 < w1.heap.size := (by omega); clear hw1 hrd ho2))))
  refine bodyPost_ret (Kit.results_ct rfl _ _ (w.heap.size + 1) 0 [.int .i64 H, .int .i64 W, .int .i64 C, .slice A2 n c2] _ rfl (range_4 (by go_cell) (by go_cell) (by go_cell) (by go_cell)) Try.underlying28 rfl (by kernel_rfl)) rfl ?_
  refine ⟨_, rfl, Kit.own_base (own_set (own_set (own_set (own_set HO.out _ _ ?_) _ _ ?_) _ _ ?_) _ _ ?_) ?_, ?_⟩
  any_goals (first | omega | (simp; done) | (simp; omega))
  exact ((((HB2.out.setCell (p := ⟨w.heap.size + 1, 0, none⟩) (by simp) _).setCell (p := ⟨w.heap.size + 1, 1, none⟩) (by simp) _).setCell (p := ⟨w.heap.size + 1, 2, none⟩) (by simp) _).setCell (p := ⟨w.heap.size + 1, 3, none⟩) (by simp) _)
end Go.Proofs.Ytkmcmaickopobaa.CTensor
