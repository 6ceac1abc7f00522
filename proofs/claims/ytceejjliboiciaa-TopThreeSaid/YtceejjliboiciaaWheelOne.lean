/- Layer 15 (wheel): the contracts of the code's small parts: weights as turned sums, sums taken back, how many times four. -/
import Derived.Test.YtceejjliboiciaaWheelMem
import Derived.Test.YtceejjliboiciaaWheelNum
import Derived.Test.YtceejjliboiciaaFourOf
import Derived.Test.YtceejjliboiciaaFourPlus
import Derived.Test.YtceejjliboiciaaFourBack0
namespace Go.Proofs.Ytceejjliboiciaa.CWheel
open Go Go.ChangeShapes Go.WideShapes Go.ChangeAt Go.RowKit
open FloatNum CFour
set_option linter.unusedVariables false

/-- three weights by value. -/
abbrev w3 (x y z : Int) : Value := .agg #[.int .i8 x, .int .i8 y, .int .i8 z]
set_option maxHeartbeats 4000000 in
theorem rolled_to (x y z : Int) (hx : InW x) (hy : InW y) (hz : InW z) (w : World) :
    Calls Try.prog 54 #[w3 x y z] w fun e' w' => (∃ S, e' = .returned (agg4 S) ∧ ∀ i, i < 4 → IsC (S i) (wh4 x 0 z y i)) ∧ Below w.heap.size w w' := by
  have h0 : In16 0 := by unfold In16; omega
  have H0 := Lib.hid h0
  have HX := Lib.hid hx.to16
  have HY := Lib.hid hy.to16
  have HZ := Lib.hid hz.to16
  have e1 : IntKind.i16.wrap x = x := IntWalk.i16_in _ (by unfold InW at hx; omega)
  have e2 : IntKind.i16.wrap y = y := IntWalk.i16_in _ (by unfold InW at hy; omega)
  have e3 : IntKind.i16.wrap z = z := IntWalk.i16_in _ (by unfold InW at hz; omega)
  clear hx hy hz h0
  go_enter Try.func54, Try.ntmps54
  go_wp2_with fail
  go_at_call 61
  refine (of_to x 0 z y HX.out H0.out HZ.out HY.out _).mono ?_
  rintro e2 w2 ⟨⟨S, rfl, hS⟩, hb2⟩
  have HS := Lib.hid hS
  have hR : Four (w.heap.size + 1) (fun _ => z0) w2 := by
    have h1 := Four.new (w.alloc (.cells #[.int .i8 x, .int .i8 y, .int .i8 z] 82)) z0 101
    have e1 : (w.alloc (.cells #[.int .i8 x, .int .i8 y, .int .i8 z] 82)).heap.size = w.heap.size + 1 := by simp
    rw [e1] at h1
    exact h1.below hb2 (by simp)
  have hBw : Below w.heap.size w w2 := (((Below.refl _ _).alloc (Nat.le_refl _) _).alloc (by simp) _).trans (hb2.mono (by simp; omega))
  have h1c := oneC hS
  have HR := Lib.hid hR
  have HBw := Lib.hid hBw
  clear hR hBw hb2 hS e1 e2 e3
  go_wp2_with (refine wpList_store_mid rfl 101 (.tmp 2) (.tmp 13) rfl (w.heap.size + 1) 0 #[S 0, S 1, S 2, S 3] rfl rfl HR.out.there (by kernel_rfl) h1c ?_; change wpList _ _ _ _ _ (CFour.set4 (w.heap.size + 1) S w2); have hR2 := HR.out.set4 S; have hB2 := below_set4 HBw.out (g := w.heap.size + 1) (by omega) S; generalize CFour.set4 (w.heap.size + 1) S w2 = w3' at hR2 hB2 ⊢; have c0 := hR2.1 0 (by omega); have c1 := hR2.1 1 (by omega); have c2 := hR2.1 2 (by omega); have c3 := hR2.1 3 (by omega))
  refine bodyPost_ret (Kit.results_c rfl _ _ (w.heap.size + 1) 0 [S 0, S 1, S 2, S 3] _ rfl (range_4 c0 c1 c2 c3) Try.underlying101 rfl (by kernel_rfl)) rfl ?_
  exact ⟨⟨S, rfl, HS.out⟩, hB2⟩

set_option maxHeartbeats 4000000 in
theorem unrolled_to (c : Nat → Value) (p : Nat → G) (B : Nat) (hB : B ≤ 2 ^ 48) (hc : ∀ i, i < 4 → IsC (c i) (p i)) (hp : ∀ i, Bd B (p i)) (L : Nat → Int) (hL : ∀ i, i < 4 → bk p i = 4 * L i) (a b : Int) (ha : L 0 = a) (hb : L 1 = b) (w : World) :
    Calls Try.prog 56 #[agg4 c] w fun e' w' => e' = .returned (.agg #[.int .i64 a, .int .i64 b]) ∧ Below w.heap.size w w' := by
  have HC := Lib.hid hc
  have HP := Lib.hid hp
  have HL := Lib.hid hL
  have HBB := Lib.hid hB
  subst ha hb
  clear hc hp hB hL
  go_enter Try.func56, Try.ntmps56
  go_wp2_with fail
  go_at_call 62
  refine (back_to c p B HBB.out HC.out HP.out L HL.out _).mono ?_
  rintro e2 w2 ⟨rfl, hb2⟩
  have hR : Two (w.heap.size + 1) (.int .i64 0) (.int .i64 0) w2 := by
    have h1 := Two.new (w.alloc (.cells #[c 0, c 1, c 2, c 3] 101)) (.int .i64 0) (.int .i64 0) 103
    have e1 : (w.alloc (.cells #[c 0, c 1, c 2, c 3] 101)).heap.size = w.heap.size + 1 := by simp
    rw [e1] at h1
    exact h1.below hb2 (by simp)
  have hBw : Below w.heap.size w w2 := (((Below.refl _ _).alloc (Nat.le_refl _) _).alloc (by simp) _).trans (hb2.mono (by simp; omega))
  have hlt : w.heap.size + 1 < w2.heap.size := hR.2.2.2
  have HR := Lib.hid hR
  have HBw := Lib.hid hBw
  clear hR hBw hb2
  go_wp2_with (first
    | (refine wpList_store_mid rfl 114 (.tmp 3) (.tmp 5) rfl w2.heap.size 0 #[.int .i64 (L 0), .int .i64 (L 1), .int .i64 (L 2), .int .i64 (L 3)] rfl rfl (Four.new w2 (.int .i64 0) 114).there (by kernel_rfl) (one4 _ _ _ _) ?_; change wpList _ _ _ _ _ (CFour.set4 w2.heap.size (fun i => .int .i64 (L i)) (w2.alloc (.cells #[.int .i64 0, .int .i64 0, .int .i64 0, .int .i64 0] 114))); have hF := (Four.new w2 (.int .i64 0) 114).set4 (fun i => .int .i64 (L i)); have hR2 := (HR.out.below ((Below.refl w2.heap.size w2).alloc (Nat.le_refl _) (.cells #[.int .i64 0, .int .i64 0, .int .i64 0, .int .i64 0] 114)) hlt).oth4 (g' := w2.heap.size) (fun i => .int .i64 (L i)) (Nat.ne_of_lt hlt); have hB2 := below_set4 (HBw.out.trans (((Below.refl w2.heap.size w2).alloc (Nat.le_refl _) (.cells #[.int .i64 0, .int .i64 0, .int .i64 0, .int .i64 0] 114)).mono (by omega))) (g := w2.heap.size) (by omega) (fun i => .int .i64 (L i)); generalize CFour.set4 w2.heap.size (fun i => Value.int .i64 (L i)) (w2.alloc (.cells #[.int .i64 0, .int .i64 0, .int .i64 0, .int .i64 0] 114)) = w3' at hF hR2 hB2 ⊢; generalize w2.heap.size = gg at hF hR2 hB2 hlt ⊢; have d0 := hF.1 0 (by omega); have d1 := hF.1 1 (by omega); have HR2 := Lib.hid hR2; have HB2 := Lib.hid hB2; clear hF hR2 hB2)
    | (refine wpList_store_mid rfl 103 (.tmp 2) (.tmp 10) rfl (w.heap.size + 1) 0 #[.int .i64 (L 0), .int .i64 (L 1)] rfl rfl HR2.out.there (by kernel_rfl) (all_oneCell_toArray (cs := [Value.int .i64 (L 0), .int .i64 (L 1)]) (by intro v hv; simp at hv; rcases hv with rfl | rfl <;> rfl)) ?_; change wpList _ _ _ _ _ (CFour.set2 (w.heap.size + 1) (.int .i64 (L 0)) (.int .i64 (L 1)) w3'); have hR3 := HR2.out.set2 (.int .i64 (L 0)) (.int .i64 (L 1)); have hB3 := below_set2 HB2.out (g := w.heap.size + 1) (by omega) (.int .i64 (L 0)) (.int .i64 (L 1)); generalize CFour.set2 (w.heap.size + 1) (.int .i64 (L 0)) (.int .i64 (L 1)) w3' = w4 at hR3 hB3 ⊢))
  refine bodyPost_ret (Kit.results_c rfl _ _ (w.heap.size + 1) 0 [.int .i64 (L 0), .int .i64 (L 1)] _ rfl (Kit.range_2 hR3.1 hR3.2.1) Try.underlying103 rfl (by kernel_rfl)) rfl ?_
  exact ⟨rfl, hB3⟩

theorem blocks_to (n : Int) (h1 : -9223372036854775808 ≤ n) (h2 : n ≤ 9223372036854775807) (b : Int) (hb : b = if n < 3 then 0 else (n - 1) / 2) (w : World) :
    Calls Try.prog 55 #[.int .i64 n] w fun e' w' => e' = .returned (.int .i64 b) ∧ w = w' := by
  by_cases h : n < 3
  · rw [if_pos h] at hb
    subst hb
    go_enter Try.func55, Try.ntmps55
    go_wp2_with fail
    go_ret
    exact ⟨rfl, rfl⟩
  · rw [if_neg h] at hb
    have e1 : IntKind.i64.wrap (n - 3) = n - 3 := IntWalk.i64_in _ (by omega)
    have e2 : IntKind.i64.wrap (n - 3 + 2) = n - 1 := by rw [IntWalk.i64_in _ (by omega)]; omega
    have e3 : (n - 1).tdiv 2 = b := by rw [hb]; exact Int.tdiv_eq_ediv_of_nonneg (by omega)
    have e4 : IntKind.i64.wrap b = b := IntWalk.i64_in _ (by omega)
    clear hb
    go_enter Try.func55, Try.ntmps55
    go_wp2_with fail
    go_ret
    exact ⟨rfl, rfl⟩
end Go.Proofs.Ytceejjliboiciaa.CWheel
