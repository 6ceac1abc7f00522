/- Layer 14 (four): the contract of four.Back. -/
import Derived.Test.YtceejjliboiciaaFourTurn
import Derived.Test.YtceejjliboiciaaFourOf
import Derived.Laws.FloatArith
namespace Go.Proofs.Ytceejjliboiciaa.CFour
open Go Go.ChangeShapes Go.WideShapes Go.ChangeAt Go.RowKit
open FloatNum
set_option linter.unusedVariables false

def agi (L : Nat → Int) : Value := .agg #[.int .i64 (L 0), .int .i64 (L 1), .int .i64 (L 2), .int .i64 (L 3)]
/-- whole numbers of 64 bits, filled from the left. -/
def IntR (L : Nat → Int) (k : Nat) (S : Nat → Value) : Prop := ∀ i, i < 4 → S i = .int .i64 (if i < k then L i else 0)
theorem IntR.step {L : Nat → Int} {k : Nat} {S : Nat → Value} (h : IntR L k S) : IntR L (k + 1) (fun i => if i = k then .int .i64 (L k) else S i) := fun i hi => by
  by_cases e : i = k
  · subst e; simp only [if_true]; rw [if_pos (by omega)]
  · simp only [if_neg e]
    rw [h i hi]
    by_cases h1 : i < k
    · rw [if_pos h1, if_pos (by omega)]
    · rw [if_neg h1, if_neg (by omega)]
theorem IntR.all {L : Nat → Int} {S : Nat → Value} (h : IntR L 4 S) {i : Nat} (hi : i < 4) : S i = .int .i64 (L i) := by rw [h i hi, if_pos hi]

set_option maxHeartbeats 4000000 in
theorem back_to (c : Nat → Value) (p : Nat → G) (B : Nat) (hB : B ≤ 2 ^ 48) (hc : ∀ i, i < 4 → IsC (c i) (p i)) (hp : ∀ i, Bd B (p i)) (L : Nat → Int) (hL : ∀ i, i < 4 → (gpart p 1 i 4).1 = 4 * L i) (w : World) :
    Calls Try.prog 62 #[agg4 c] w fun e' w' => e' = .returned (agi L) ∧ Below w.heap.size w w' := by
  have HC := Lib.hid hc
  have HP := Lib.hid hp
  have HL := Lib.hid hL
  have HBB := Lib.hid hB
  clear hc hp hB hL
  have hn1 : IsC (.complex .f64 0 4607182418800017408) (0, 1) := ⟨_, _, rfl, isF_zero, isF_one⟩
  have HN := Lib.hid hn1
  clear hn1
  go_enter Try.func62, Try.ntmps62
  go_wp2_with (go_at_call 65; ((with_reducible refine (turned_to c p (.complex .f64 0 4607182418800017408) 1 (.inl rfl) B HBB.out HC.out HP.out HN.out _).mono ?_); rintro e2 w2 ⟨⟨Y, rfl, hAll⟩, hb2⟩; obtain ⟨hcc, hff⟩ := Kit.bcell hb2))
  have HY := Lib.hid hAll
  clear hAll
  have hR : Four (w.heap.size + 1) (fun _ => .int .i64 0) w2 := by
    have h1 := (Four.new (w.alloc (.cells #[c 0, c 1, c 2, c 3] 101)) (.int .i64 0) 114).below ((Below.refl _ _).alloc (Nat.le_refl _) (.cells #[.int .i64 0, .int .i64 0, .int .i64 0, .int .i64 0] 114)) (by simp)
    have e1 : (w.alloc (.cells #[c 0, c 1, c 2, c 3] 101)).heap.size = w.heap.size + 1 := by simp
    rw [e1] at h1
    exact h1.below hb2 (by simp)
  have hF : Four (w.heap.size + 1 + 1) (fun _ => .int .i64 0) w2 := by
    have h1 := (Four.new ((w.alloc (.cells #[c 0, c 1, c 2, c 3] 101)).alloc (.cells #[.int .i64 0, .int .i64 0, .int .i64 0, .int .i64 0] 114)) (.int .i64 0) 114)
    have e1 : ((w.alloc (.cells #[c 0, c 1, c 2, c 3] 101)).alloc (.cells #[.int .i64 0, .int .i64 0, .int .i64 0, .int .i64 0] 114)).heap.size = w.heap.size + 1 + 1 := by simp
    rw [e1] at h1
    exact h1.below hb2 (by simp)
  have hBw : Below w.heap.size w w2 := ((((Below.refl _ _).alloc (Nat.le_refl _) _).alloc (by simp) _).alloc (by simp; omega) _).trans (hb2.mono (by simp; omega))
  clear hcc hff hb2
  have HR := Lib.hid hR
  have HF := Lib.hid hF
  have HBw := Lib.hid hBw
  clear hR hF hBw
  go_loopw [8] (fun u wr => ∃ (k : Nat) (S : Nat → Value), k ≤ 4 ∧ u = .int .i64 k ∧ Hid (IntR L k S) ∧ Hid (Four (w.heap.size + 1 + 1) S wr) ∧ Hid (Four (w.heap.size + 1) (fun _ => .int .i64 0) wr) ∧ Hid (Below w.heap.size w wr)) (fun u _ => 4 - (intOf u).toNat)
  case atStart => exact ⟨0, fun _ => .int .i64 0, by omega, rfl, Lib.hid (fun i hi => by rw [if_neg (by omega)]), HF, HR, HBw⟩
  case round =>
    obtain ⟨k, S, hk, rfl, hS, hF, hR, hB1⟩ := hrel
    by_cases hlt : k < 4
    · obtain ⟨a, b, hY, h1, h2⟩ := HY.out k hlt
      rw [HL.out k hlt] at h1
      have hbd : (4 * L k).natAbs ≤ 2 ^ 50 := by
        have := (gpart_bd (.inl rfl) HP.out k 4).1
        rw [HL.out k hlt] at this
        have := HBB.out
        omega
      obtain ⟨r, hr1, hr2⟩ := h1.quarter (Nat.lt_of_le_of_lt hbd (by decide))
      have hi := hr2.toInt (by omega) .i64 (by show (-9223372036854775808 : Int) ≤ _; omega) (by show _ ≤ (9223372036854775807 : Int); omega)
      have hq : ∀ (w : World) (t : TypeId), (binOp .quo t (.float .f64 a) (.float .f64 4616189618054758400)).run Try.prog w = .ok (.float .f64 r) w := fun w t => run_float_arith w .quo t .f64 a _ r hr1
      have hcv : ∀ (w : World), (convert 118 2 (.float .f64 r)).run Try.prog w = .ok (.int .i64 (L k)) w := fun w => run_convert_float_int w _ _ .f64 .i64 r _ (by kernel_rfl) (by kernel_rfl) hi
      have HT := Lib.hid hS.out.step
      have HG := Lib.hid (hF.out.set hlt (.int .i64 (L k)))
      have HR1 := Lib.hid (hR.out.other (g' := w.heap.size + 1 + 1) (k := k) (.int .i64 (L k)) (by omega))
      have HB1 := Lib.hid (hB1.out.setCell (p := ⟨w.heap.size + 1 + 1, k, none⟩) (by show w.heap.size ≤ w.heap.size + 1 + 1; omega) (.int .i64 (L k)))
      clear hi hr1 hr2 h1 h2 hbd
      have x0 := ix0 Y
      have x1 := ix1 Y
      have x2 := ix2 Y
      have x3 := ix3 Y
      have c0 := hF.out.1 0 (by omega)
      have c1 := hF.out.1 1 (by omega)
      have c2 := hF.out.1 2 (by omega)
      have c3 := hF.out.1 3 (by omega)
      have f0 := hF.out.2.1 0 (by omega)
      have f1 := hF.out.2.1 1 (by omega)
      have f2 := hF.out.2.1 2 (by omega)
      have f3 := hF.out.2.1 3 (by omega)
      obtain rfl | rfl | rfl | rfl := lt4 hlt
      all_goals
        go_wp2
        go_roundw
        case rel => exact ⟨_, _, by omega, by go_num, HT, HG, HR1, HB1⟩
        case measure => simp [intOf]
    · have hk4 : k = 4 := by omega
      subst hk4
      have c0 := hF.out.1 0 (by omega)
      have c1 := hF.out.1 1 (by omega)
      have c2 := hF.out.1 2 (by omega)
      have c3 := hF.out.1 3 (by omega)
      have d0 := hR.out.1 0 (by omega)
      have d1 := hR.out.1 1 (by omega)
      have d2 := hR.out.1 2 (by omega)
      have d3 := hR.out.1 3 (by omega)
      have f0 := hR.out.2.1 0 (by omega)
      have f1 := hR.out.2.1 1 (by omega)
      have f2 := hR.out.2.1 2 (by omega)
      have f3 := hR.out.2.1 3 (by omega)
      have s0 := hS.out.all (i := 0) (by omega)
      have s1 := hS.out.all (i := 1) (by omega)
      have s2 := hS.out.all (i := 2) (by omega)
      have s3 := hS.out.all (i := 3) (by omega)
      rw [s0] at c0
      rw [s1] at c1
      rw [s2] at c2
      rw [s3] at c3
      clear s0 s1 s2 s3 hlt hk
      go_wp2
      refine bodyPost_ret (Kit.results_c rfl _ _ (w.heap.size + 1) 0 [.int .i64 (L 0), .int .i64 (L 1), .int .i64 (L 2), .int .i64 (L 3)] _ rfl (range_4 (by go_cell) (by go_cell) (by go_cell) (by go_cell)) Try.underlying114 rfl (by kernel_rfl)) rfl ?_
      refine ⟨rfl, ?_⟩
      have := hB1.out
      go_grown
end Go.Proofs.Ytceejjliboiciaa.CFour
