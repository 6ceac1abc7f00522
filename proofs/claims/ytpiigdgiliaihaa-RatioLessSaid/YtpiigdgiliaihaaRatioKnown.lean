/- Contracts of package ratio and of the document's own answers to it, the rest: scales that are not right, equal scales, and the fixed calls. -/
import Derived.Test.YtpiigdgiliaihaaRatioRefThree
import Derived.Laws.StructEq
namespace Go.Proofs.Ytpiigdgiliaihaa.CRatio
open Go Go.ChangeShapes Go.WideShapes Go.ChangeAt Go.RowKit
open Plain CSat CFix Num
set_option linter.unusedVariables false

theorem eqQuant (a b c x y z : Int) (w : World) : (Op.equalIn 10000 24 (.agg #[.int .i32 a, .int .i64 b, .int .i8 c]) (.agg #[.int .i32 x, .int .i64 y, .int .i8 z])).run Try.prog w = .ok (a == x && (b == y && c == z)) w := by
  have u1 := Try.underlying21
  have a1 := Try.isAgg21
  have z1 := Try.sizeOf21
  have u2 := Try.underlying22
  have a2 := Try.isAgg22
  have z2 := Try.sizeOf22
  have u3 := Try.underlying3
  have a3 := Try.isAgg3
  have z3 := Try.sizeOf3
  have hS : Try.prog.underlying 24 = some (.struct (Try.prog.fieldsOf 24)) := by kernel_rfl
  rw [show (10000 : Nat) = 9999 + 1 from rfl, run_equalIn_agg w 9999 24 _ _ hS Try.stoodInHeld24]
  simp only [Program.fieldsOf, Try.underlying24]
  go_simp
  by_cases h1 : a = x <;> by_cases h2 : b = y <;> by_cases h3 : c = z <;> simp [h1, h2, h3]

theorem refLess_no (m s m' s' zz zz' : Int) (h : rightB m s = false ∨ (rightB m s = true ∧ rightB m' s' = false)) (w : World) :
    Calls Try.prog 15 #[.agg #[.int .i32 m, .int .i64 s, .int .i8 zz], .agg #[.int .i32 m', .int .i64 s', .int .i8 zz']] w fun e w' => e = .returned (.bool false) ∧ Below w.heap.size w w' := by
  rcases h with h | ⟨h, h'⟩
  · have HR := Lib.hid h
    clear h
    go_enter Try.func15, Try.ntmps15
    go_wp2_with (go_at_call 16; ((with_reducible refine (refRight_no m s zz HR.out _).mono ?_); rintro e w1 ⟨rfl, hb1⟩))
    go_ret
    exact ⟨rfl, (((Below.refl _ _).alloc (Nat.le_refl _) _).alloc (by simp) _).trans (hb1.mono (by simp; omega))⟩
  · have HR := Lib.hid h
    have HR' := Lib.hid h'
    clear h h'
    go_enter Try.func15, Try.ntmps15
    go_wp2_with (first
      | (go_at_call 16; ((with_reducible refine (refRight_yes m s zz HR.out _).mono ?_); rintro e w1 ⟨rfl, hb1⟩; obtain ⟨hc1, hf1⟩ := Kit.bcell hb1))
      | (go_at_call 16; ((with_reducible refine (refRight_no m' s' zz' HR'.out _).mono ?_); rintro e w2 ⟨rfl, hb2⟩)))
    go_ret
    exact ⟨rfl, ((((Below.refl _ _).alloc (Nat.le_refl _) _).alloc (by simp) _).trans (hb1.mono (by simp; omega))).trans (hb2.mono (by have := hb1.size; simp at this; omega))⟩
theorem refLess_to (m s zz m' s' zz' : Int) (b : Bool) (hm : m ≤ 2147483647) (hm' : m' ≤ 2147483647) (hb : lessB m s m' s' = b) (w : World) :
    Calls Try.prog 15 #[.agg #[.int .i32 m, .int .i64 s, .int .i8 zz], .agg #[.int .i32 m', .int .i64 s', .int .i8 zz']] w fun e w' => e = .returned (.bool b) ∧ Below w.heap.size w w' := by
  subst hb
  unfold lessB
  cases h : rightB m s
  · exact refLess_no m s m' s' zz zz' (.inl h) w
  · cases h' : rightB m' s'
    · exact refLess_no m s m' s' zz zz' (.inr ⟨h, h'⟩) w
    · obtain ⟨a, b, rfl, rfl, a1, b1⟩ := right_nat h
      obtain ⟨c, d, rfl, rfl, c1, d1⟩ := right_nat h'
      exact refLess_yes a b c d zz zz' _ a1 (by omega) b1 c1 (by omega) d1 rfl w

theorem times_no (m s m' s' zz zz' : Int) (h : rightB m s = false ∨ (rightB m s = true ∧ rightB m' s' = false)) (w : World) :
    Calls Try.prog 10 #[.agg #[.int .i32 m, .int .i64 s, .int .i8 zz], .agg #[.int .i32 m', .int .i64 s', .int .i8 zz']] w fun e w' => e = .returned (.tuple #[.agg #[.int .i32 0, .int .i64 0, .int .i8 0], .int .i64 7]) ∧ Below w.heap.size w w' := by
  rcases h with h | ⟨h, h'⟩
  · have HR := Lib.hid h
    clear h
    go_enter Try.func10, Try.ntmps10
    go_wp2_with (go_at_call 19; ((with_reducible refine (isRight_no m s zz HR.out _).mono ?_); rintro e w1 ⟨rfl, hb1⟩; obtain ⟨hc1, hf1⟩ := Kit.bcell hb1))
    have s1 : w.heap.size + 2 < w1.heap.size := by have := hb1.size; simp at this; omega
    have z1 : Below w.heap.size w w1 := ((((Below.refl _ _).alloc (Nat.le_refl _) _).alloc (by simp) _).alloc (by simp; omega) _).trans (hb1.mono (by simp; omega))
    refine bodyPost_ret (Kit.results_ct rfl _ _ (w.heap.size + 2) 0 [.int .i32 0, .int .i64 0, .int .i8 0] _ rfl (Kit.range_3 (by go_cell) (by go_cell) (by go_cell)) Try.underlying24 rfl (by kernel_rfl)) rfl ?_
    exact ⟨rfl, by go_grown⟩
  · have HR := Lib.hid h
    have HR' := Lib.hid h'
    clear h h'
    go_enter Try.func10, Try.ntmps10
    go_wp2_with (first
      | (go_at_call 19; ((with_reducible refine (isRight_yes m s zz HR.out _).mono ?_); rintro e w1 ⟨rfl, hb1⟩; obtain ⟨hc1, hf1⟩ := Kit.bcell hb1))
      | (go_at_call 19; ((with_reducible refine (isRight_no m' s' zz' HR'.out _).mono ?_); (rintro e w2 ⟨rfl, hb2⟩; have s1 : w.heap.size + 2 < w1.heap.size := (by have := hb1.size; simp at this; omega); have d0 := (hb2.cell (p := ⟨w.heap.size + 1 + 1, 0, none⟩) (by omega)).trans (hc1 _ _ (by simp)); have d1 := (hb2.cell (p := ⟨w.heap.size + 1 + 1, 1, none⟩) (by omega)).trans (hc1 _ _ (by simp)); have d2 := (hb2.cell (p := ⟨w.heap.size + 1 + 1, 2, none⟩) (by omega)).trans (hc1 _ _ (by simp)); have f0 := (hb2.frozen (p := ⟨w.heap.size + 1 + 1, 0, none⟩) (by omega)).trans (hf1 _ _ (by simp)); have f1 := (hb2.frozen (p := ⟨w.heap.size + 1 + 1, 1, none⟩) (by omega)).trans (hf1 _ _ (by simp)); have f2 := (hb2.frozen (p := ⟨w.heap.size + 1 + 1, 2, none⟩) (by omega)).trans (hf1 _ _ (by simp))))))
    have s2 : w.heap.size + 2 < w2.heap.size := by have := hb2.size; omega
    have z1 : Below w.heap.size w w2 := (((((Below.refl _ _).alloc (Nat.le_refl _) _).alloc (by simp) _).alloc (by simp; omega) _).trans (hb1.mono (by simp; omega))).trans (hb2.mono (by omega))
    refine bodyPost_ret (Kit.results_ct rfl _ _ (w.heap.size + 2) 0 [.int .i32 0, .int .i64 0, .int .i8 0] _ rfl (Kit.range_3 (by go_cell) (by go_cell) (by go_cell)) Try.underlying24 rfl (by kernel_rfl)) rfl ?_
    exact ⟨rfl, by go_grown⟩

theorem refTimes_no (m s m' s' zz zz' : Int) (h : rightB m s = false ∨ (rightB m s = true ∧ rightB m' s' = false)) (w : World) :
    Calls Try.prog 11 #[.agg #[.int .i32 m, .int .i64 s, .int .i8 zz], .agg #[.int .i32 m', .int .i64 s', .int .i8 zz']] w fun e w' => e = .returned (.tuple #[.agg #[.int .i32 0, .int .i64 0, .int .i8 0], .int .i64 7]) ∧ Below w.heap.size w w' := by
  rcases h with h | ⟨h, h'⟩
  · have HR := Lib.hid h
    clear h
    go_enter Try.func11, Try.ntmps11
    go_wp2_with (go_at_call 16; ((with_reducible refine (refRight_no m s zz HR.out _).mono ?_); rintro e w1 ⟨rfl, hb1⟩; obtain ⟨hc1, hf1⟩ := Kit.bcell hb1))
    have s1 : w.heap.size + 2 < w1.heap.size := by have := hb1.size; simp at this; omega
    have z1 : Below w.heap.size w w1 := ((((Below.refl _ _).alloc (Nat.le_refl _) _).alloc (by simp) _).alloc (by simp; omega) _).trans (hb1.mono (by simp; omega))
    refine bodyPost_ret (Kit.results_ct rfl _ _ (w.heap.size + 2) 0 [.int .i32 0, .int .i64 0, .int .i8 0] _ rfl (Kit.range_3 (by go_cell) (by go_cell) (by go_cell)) Try.underlying24 rfl (by kernel_rfl)) rfl ?_
    exact ⟨rfl, by go_grown⟩
  · have HR := Lib.hid h
    have HR' := Lib.hid h'
    clear h h'
    go_enter Try.func11, Try.ntmps11
    go_wp2_with (first
      | (go_at_call 16; ((with_reducible refine (refRight_yes m s zz HR.out _).mono ?_); rintro e w1 ⟨rfl, hb1⟩; obtain ⟨hc1, hf1⟩ := Kit.bcell hb1))
      | (go_at_call 16; ((with_reducible refine (refRight_no m' s' zz' HR'.out _).mono ?_); (rintro e w2 ⟨rfl, hb2⟩; have s1 : w.heap.size + 2 < w1.heap.size := (by have := hb1.size; simp at this; omega); have d0 := (hb2.cell (p := ⟨w.heap.size + 1 + 1, 0, none⟩) (by omega)).trans (hc1 _ _ (by simp)); have d1 := (hb2.cell (p := ⟨w.heap.size + 1 + 1, 1, none⟩) (by omega)).trans (hc1 _ _ (by simp)); have d2 := (hb2.cell (p := ⟨w.heap.size + 1 + 1, 2, none⟩) (by omega)).trans (hc1 _ _ (by simp)); have f0 := (hb2.frozen (p := ⟨w.heap.size + 1 + 1, 0, none⟩) (by omega)).trans (hf1 _ _ (by simp)); have f1 := (hb2.frozen (p := ⟨w.heap.size + 1 + 1, 1, none⟩) (by omega)).trans (hf1 _ _ (by simp)); have f2 := (hb2.frozen (p := ⟨w.heap.size + 1 + 1, 2, none⟩) (by omega)).trans (hf1 _ _ (by simp))))))
    have s2 : w.heap.size + 2 < w2.heap.size := by have := hb2.size; omega
    have z1 : Below w.heap.size w w2 := (((((Below.refl _ _).alloc (Nat.le_refl _) _).alloc (by simp) _).alloc (by simp; omega) _).trans (hb1.mono (by simp; omega))).trans (hb2.mono (by omega))
    refine bodyPost_ret (Kit.results_ct rfl _ _ (w.heap.size + 2) 0 [.int .i32 0, .int .i64 0, .int .i8 0] _ rfl (Kit.range_3 (by go_cell) (by go_cell) (by go_cell)) Try.underlying24 rfl (by kernel_rfl)) rfl ?_
    exact ⟨rfl, by go_grown⟩

theorem known03 (w : World) : Calls Try.prog 9 #[] w fun e w' => e = .returned (.bool true) ∧ Below w.heap.size w w' := by
  have hQ : IsOf 1 1 30 := ⟨by decide, by decide, by decide⟩
  have hof : ∀ w, Calls Try.prog 7 #[.int .i64 1, .int .i64 1] w fun e w' => e = .returned (.tuple #[.agg #[.int .i32 1073741824, .int .i64 30, .int .i8 0], .int .i64 0]) ∧ Below w.heap.size w w' := fun w => of_good 1 1 30 1073741824 (by decide) (by decide) (by decide) (by decide) hQ (by decide) w
  have HO := Lib.hid hof
  have HE := eqQuant 1073741824 30 0 1073741824 30 0
  have hg := Try.eqGuardType24
  clear hQ hof
  go_enter Try.func9, Try.ntmps9
  go_wp2_with (first
    | (go_at_call 7; (refine (HO.out _).mono ?_; rintro e w1 ⟨rfl, h1⟩; have l1 : w.heap.size ≤ w1.heap.size := h1.size))
    | (go_at_call 14; (refine (less_to _ _ _ _ _ _ true (by decide) (by decide) (by decide) _).mono ?_; rintro e w2 ⟨rfl, h2⟩)))
  go_ret
  exact ⟨rfl, (by go_grown : Below w.heap.size w _).trans (h2.mono (by simp; omega))⟩

theorem of_both (num den : Int) : ∃ x y e : Int,
    (∀ w : World, Calls Try.prog 7 #[.int .i64 num, .int .i64 den] w fun r w' => r = .returned (.tuple #[.agg #[.int .i32 x, .int .i64 y, .int .i8 0], .int .i64 e]) ∧ Below w.heap.size w w') ∧
    (∀ w : World, Calls Try.prog 8 #[.int .i64 num, .int .i64 den] w fun r w' => r = .returned (.tuple #[.agg #[.int .i32 x, .int .i64 y, .int .i8 0], .int .i64 e]) ∧ Below w.heap.size w w') := by
  by_cases h : 1 ≤ num ∧ num ≤ 2147483647 ∧ 1 ≤ den ∧ den ≤ 2147483647
  · obtain ⟨h1, h2, h3, h4⟩ := h
    obtain ⟨n, rfl⟩ := Int.eq_ofNat_of_zero_le (show 0 ≤ num by omega)
    obtain ⟨d, rfl⟩ := Int.eq_ofNat_of_zero_le (show 0 ≤ den by omega)
    obtain ⟨j, hj⟩ := isOf n d (by omega) (by omega)
    exact ⟨_, _, _, fun w => of_good n d j _ (by omega) (by omega) (by omega) (by omega) hj rfl w, fun w => refOf_good n d j _ (by omega) (by omega) (by omega) (by omega) hj rfl w⟩
  · exact ⟨_, _, _, fun w => of_arg num den (by omega) w, fun w => refOf_arg num den (by omega) w⟩
theorem plain_both (m s z : Int) (hm : m ≤ 2147483647) : ∃ x y z' : Int,
    (∀ w : World, Calls Try.prog 12 #[.agg #[.int .i32 m, .int .i64 s, .int .i8 z]] w fun r w' => r = .returned (.agg #[.int .i32 x, .int .i64 y, .int .i8 z']) ∧ Below w.heap.size w w') ∧
    (∀ w : World, Calls Try.prog 13 #[.agg #[.int .i32 m, .int .i64 s, .int .i8 z]] w fun r w' => r = .returned (.agg #[.int .i32 x, .int .i64 y, .int .i8 z']) ∧ Below w.heap.size w w') := by
  cases h : rightB m s
  · exact ⟨_, _, _, fun w => plain_no m s z h w, fun w => refPlain_no m s z h w⟩
  · obtain ⟨a, b, rfl, rfl, a1, b1⟩ := right_nat h
    obtain ⟨j, x, hj⟩ := isPlain a b
    exact ⟨_, _, _, fun w => plain_yes a b j x _ z a1 (by omega) b1 hj rfl w, fun w => refPlain_yes a b j x _ z a1 (by omega) b1 hj rfl w⟩
end Go.Proofs.Ytpiigdgiliaihaa.CRatio
