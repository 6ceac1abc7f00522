/- Layer 11 (patch): fixed calls; two lists that are one. -/
import Derived.Test.YtbolneejjjjaeaaPatchRow
namespace Go.Proofs.Ytbolneejjjjaeaa.CPatch
open Go Go.ChangeShapes Go.WideShapes Go.ChangeAt Go.RowKit
open Plain CSat CShape CTensor CConv
set_option linter.unusedVariables false

theorem quiet_below {P : Program} {f : FuncId} {args : Array Value} {w : World} {v : Value} (h : Calls P f args w fun e w' => e = .returned v ∧ ∃ m, w' = w.drewN m) : Calls P f args w fun e w' => e = .returned v ∧ Below w.heap.size w w' :=
  h.mono fun e w' ⟨he, m, hw⟩ => ⟨he, by subst hw; exact Kit.below_drewN (Below.refl _ _) m⟩
set_option maxRecDepth 100000 in
set_option maxHeartbeats 4000000 in
theorem known11 (w : World) : Calls Try.prog 5 #[] w fun e w' => e = .returned (.bool true) ∧ Below w.heap.size w w' := by
  have hz : I8b [1, 2, 3] := fun q => by rcases q with _ | _ | _ | q <;> simp
  have he : slideE 1 3 1 1 1 0 1 = 0 := by decide
  have ht : tensB 1 3 1 3 = true := by decide
  have hF : listF (numF [1, 2, 3] 1 3 1 1 0 0 3 1 1 1) 3 = [1, 2, 3] := by decide
  have HZ := Lib.hid hz
  have HE := Lib.hid he
  have HT := Lib.hid ht
  have HF := Lib.hid hF
  clear hz he ht hF
  go_enter Try.func5, Try.ntmps5
  go_wp2_with fail
  go_at_call 12
  have r1 : Kit.Rd (w.alloc (.cells #[.int .i8 1, .int .i8 2, .int .i8 3] 24)) (w.alloc (.cells #[.int .i8 1, .int .i8 2, .int .i8 3] 24)).heap.size (some ⟨w.heap.size, 0, none⟩) (I8s [1, 2, 3]) :=
    (Kit.Rd.new w [.int .i8 1, .int .i8 2, .int .i8 3] 24 (Nat.lt_succ_self _)).more (by simp)
  refine (pOf_yes 1 3 1 _ [1, 2, 3] 3 3 rfl HZ.out _ _ _ _ _ _ _ _ _ _ _ _ 1 1 0 0 0 none none 0 0 0 0 (by omega) (by omega) HT.out HE.out 1 3 1 1 1 1 3 3 (by decide) (by decide) rfl rfl rfl rfl rfl rfl _ rfl _ r1).mono ?_
  rintro e w1 ⟨v1, rfl, ho1, hb1⟩
  rw [HF.out] at ho1
  obtain ⟨A1, c1, rfl, hc1, hcm, hrd⟩ := Kit.own_rd ho1
  have HB : Hid (Below w.heap.size w w1) := Lib.hid (((Below.refl w.heap.size w).alloc (Nat.le_refl _) (.cells #[.int .i8 1, .int .i8 2, .int .i8 3] 24)).trans (hb1.mono (by simp)))
  have hal : Below w1.heap.size w1 (w1.alloc (.cells #[.int .i64 3, .int .i64 1, .slice A1 3 c1] 37)) := (Below.refl _ _).alloc (Nat.le_refl _) _
  have RA := Lib.hid ((hrd.below hal).more hal.size)
  have HB2 := Lib.hid (HB.out.trans (hal.mono HB.out.size))
  have RX : Hid (RBox w1.heap.size 3 1 (.slice A1 3 c1) (w1.alloc (.cells #[.int .i64 3, .int .i64 1, .slice A1 3 c1] 37))) := Lib.hid ⟨Kit.new_cell _ _ _ _, Kit.new_cell _ _ _ _, Kit.new_cell _ _ _ _⟩
  have hlt : w1.heap.size < (w1.alloc (.cells #[.int .i64 3, .int .i64 1, .slice A1 3 c1] 37)).heap.size := by simp
  clear ho1 hb1 hrd r1 hal
  go_wp2_with fail
  generalize w1.alloc (.cells #[.int .i64 3, .int .i64 1, .slice A1 3 c1] 37) = W2 at RA HB2 RX hlt ⊢
  go_at_call 13
  have e3 : (([1, 2, 3] : List Int).drop (2 * 1)).take 1 = [3] := by decide
  refine (row_yes 3 1 A1 [1, 2, 3] 3 c1 2 rfl hc1 hcm (by omega) (by omega) rfl (by omega) (by omega) _ RA.out).mono ?_
  rintro e W3 ⟨v3, rfl, ho3, hb3⟩
  rw [e3] at ho3
  obtain ⟨g3, c3, rfl, -, -, -, -⟩ := Kit.own_form ho3 (by omega)
  replace RA := Lib.hid ((RA.out.below hb3).more hb3.size)
  replace RX := Lib.hid (RX.out.below hlt hb3)
  replace HB2 := Lib.hid (HB2.out.trans (hb3.mono HB2.out.size))
  clear ho3 hb3
  obtain ⟨q0, q1, q2⟩ := RX.out
  go_wp2_with fail
  go_at_call 13
  refine (row_yes 3 1 A1 [1, 2, 3] 3 c1 2 rfl hc1 hcm (by omega) (by omega) rfl (by omega) (by omega) _ RA.out).mono ?_
  rintro e W4 ⟨v4, rfl, ho4, hb4⟩
  rw [e3] at ho4
  obtain ⟨g4, c4, rfl, -, -, -, -⟩ := Kit.own_form ho4 (by omega)
  have k4 : W4.cell? ⟨g4, 0, none⟩ = some (.int .i16 3) := by rw [ho4.cellAt 0 (by omega)]; rfl
  replace HB2 := Lib.hid (HB2.out.trans (hb4.mono HB2.out.size))
  clear ho4 hb4 q0 q1 q2 RX RA
  go_wp2_with fail
  go_ret
  exact ⟨rfl, HB2.out⟩
end Go.Proofs.Ytbolneejjjjaeaa.CPatch
