/- Layer 19 (pool): the code's Near, and known. -/
import Derived.Test.YtccngjgbhbeobaaPoolRef
import Derived.BigQuiet
namespace Go.Proofs.Ytccngjgbhbeobaa.CPool
open Go Go.ChangeShapes Go.WideShapes Go.ChangeAt Go.RowKit
open Plain CSat CShape CTensor CConv
set_option linter.unusedVariables false

set_option maxHeartbeats 4000000 in
theorem near_to (s m : Int) (s1 : -4611686018427387904 ≤ s) (s2 : s ≤ 4611686018427387904) (m2 : m ≤ 9223372036854775807) (R : Int) (hR : nearZ s m = R) (w : World) :
    Calls Try.prog 7 #[.int .i64 s, .int .i64 m] w fun e w' => e = .returned (.int .i64 R) ∧ ∃ q, w' = w.drewN q := by
  by_cases hm : m < 1
  · have h0 : R = 0 := by rw [← hR]; unfold nearZ; rw [if_pos hm]
    subst h0
    clear hR
    go_enter Try.func7, Try.ntmps7
    go_wp2_with fail
    go_ret
    exact ⟨rfl, 0, rfl⟩
  · have hm1 : 1 ≤ m := by omega
    have hm9 : ¬ m = 0 := by omega
    by_cases hs : s < 0
    · obtain ⟨z, hz⟩ : ∃ z, z = -s := ⟨_, rfl⟩
      have hz0 : 0 ≤ z ∧ z ≤ 4611686018427387904 := by omega
      have hzr : (2 * z + m) / (2 * m) = if m - z % m ≤ z % m then z / m + 1 else z / m := near_way hm1 hz0.1
      have hRz : R = -((2 * z + m) / (2 * m)) := by
        rw [← hR, hz]; unfold nearZ; rw [if_neg hm, if_pos hs]
      rw [hzr] at hRz
      have r1 : 0 ≤ z % m := Int.emod_nonneg _ (by omega)
      have r2 : z % m < m := Int.emod_lt_of_pos _ (by omega)
      have q1 : 0 ≤ z / m := Int.ediv_nonneg hz0.1 (by omega)
      have q2 : z / m ≤ z := Int.ediv_le_self _ hz0.1
      have e : s = -z := by omega
      have d1 : s.tdiv m = -(z / m) := by rw [e, Int.neg_tdiv, Int.tdiv_eq_ediv_of_nonneg hz0.1]
      have d2 : s.tmod m = -(z % m) := by rw [e, Int.neg_tmod, Int.tmod_eq_emod_of_nonneg hz0.1]
      generalize z / m = q at hRz q1 q2 d1
      generalize z % m = r at hRz r1 r2 d2
      obtain ⟨q', hq'⟩ : ∃ q', -q = q' := ⟨_, rfl⟩
      obtain ⟨r', hr'⟩ : ∃ r', -r = r' := ⟨_, rfl⟩
      rw [hq'] at d1
      rw [hr'] at d2
      have w1 : IntKind.i64.wrap q' = q' := IntWalk.i64_in _ (by omega)
      have w2 : IntKind.i64.wrap r' = r' := IntWalk.i64_in _ (by omega)
      have w3 : IntKind.i64.wrap (m + r') = m + r' := IntWalk.i64_in _ (by omega)
      have w4 : IntKind.i64.wrap (q' - 1) = q' - 1 := IntWalk.i64_in _ (by omega)
      have w5 : IntKind.i64.wrap (-r') = -r' := IntWalk.i64_in _ (by omega)
      have w6 : ¬ r' > 0 := by omega
      clear hR hzr hz0
      by_cases hr : m - r ≤ r
      · have hRq : R = q' - 1 := by rw [hRz, if_pos hr]; omega
        have t1 : r' < 0 := by omega
        have t2 : -r' ≥ m + r' := by omega
        subst hRq
        clear hRz hq' hr' hz e hr r1 r2 q1 q2
        go_enter Try.func7, Try.ntmps7
        go_wp2_with fail
        go_quiet (fail)
        go_wp2_with fail
        go_ret
        exact ⟨rfl, _, rfl⟩
      · have hRq : R = q' := by rw [hRz, if_neg hr]; omega
        subst hRq
        by_cases t1 : r' < 0
        · have t2 : ¬ -r' ≥ m + r' := by omega
          clear hRz hr' hz e hr r1 r2 q1 q2
          go_enter Try.func7, Try.ntmps7
          go_wp2_with fail
          go_quiet (fail)
          go_wp2_with fail
          go_ret
          exact ⟨rfl, _, rfl⟩
        · clear hRz hr' hz e hr r1 r2 q1 q2
          go_enter Try.func7, Try.ntmps7
          go_wp2_with fail
          go_quiet (fail)
          go_wp2_with fail
          go_ret
          exact ⟨rfl, _, rfl⟩
    · have hz0 : 0 ≤ s := by omega
      have hzr : (2 * s + m) / (2 * m) = if m - s % m ≤ s % m then s / m + 1 else s / m := near_way hm1 hz0
      have hRz : R = (2 * s + m) / (2 * m) := by
        rw [← hR]; unfold nearZ; rw [if_neg hm, if_neg hs]
      rw [hzr] at hRz
      have r1 : 0 ≤ s % m := Int.emod_nonneg _ (by omega)
      have r2 : s % m < m := Int.emod_lt_of_pos _ (by omega)
      have q1 : 0 ≤ s / m := Int.ediv_nonneg hz0 (by omega)
      have q2 : s / m ≤ s := Int.ediv_le_self _ hz0
      have d1 : s.tdiv m = s / m := Int.tdiv_eq_ediv_of_nonneg hz0
      have d2 : s.tmod m = s % m := Int.tmod_eq_emod_of_nonneg hz0
      generalize s / m = q at hRz q1 q2 d1
      generalize s % m = r at hRz r1 r2 d2
      have w1 : IntKind.i64.wrap q = q := IntWalk.i64_in _ (by omega)
      have w2 : IntKind.i64.wrap r = r := IntWalk.i64_in _ (by omega)
      have w3 : IntKind.i64.wrap (m - r) = m - r := IntWalk.i64_in _ (by omega)
      have w4 : IntKind.i64.wrap (q + 1) = q + 1 := IntWalk.i64_in _ (by omega)
      have w6 : ¬ r < 0 := by omega
      clear hR hzr
      by_cases hr : m - r ≤ r
      · have hRq : R = q + 1 := by rw [hRz, if_pos hr]
        have t1 : r > 0 := by omega
        have t2 : r ≥ m - r := by omega
        subst hRq
        clear hRz hr r1 r2 q1 q2 hz0
        go_enter Try.func7, Try.ntmps7
        go_wp2_with fail
        go_quiet (fail)
        go_wp2_with fail
        go_ret
        exact ⟨rfl, _, rfl⟩
      · have hRq : R = q := by rw [hRz, if_neg hr]
        subst hRq
        by_cases t1 : r > 0
        · have t2 : ¬ r ≥ m - r := by omega
          clear hRz hr r1 r2 q1 q2 hz0
          go_enter Try.func7, Try.ntmps7
          go_wp2_with fail
          go_quiet (fail)
          go_wp2_with fail
          go_ret
          exact ⟨rfl, _, rfl⟩
        · clear hRz hr r1 r2 q1 q2 hz0
          go_enter Try.func7, Try.ntmps7
          go_wp2_with fail
          go_quiet (fail)
          go_wp2_with fail
          go_ret
          exact ⟨rfl, _, rfl⟩
/-- what must come of fixed calls. -/
theorem known19 (w : World) :
    Calls Try.prog 9 #[] w fun e w' => e = .returned (.bool true) ∧ Below w.heap.size w w' := by
  go_enter Try.func9, Try.ntmps9
  go_wp2_with (first
    | (go_at_call 7; (with_reducible refine (near_to (-5) 2 (by omega) (by omega) (by omega) (-3) (by decide) _).mono ?_); rintro e w1 ⟨rfl, q1, rfl⟩)
    | (go_at_call 7; (with_reducible refine (near_to 5 2 (by omega) (by omega) (by omega) 3 (by decide) _).mono ?_); rintro e w1 ⟨rfl, q2, rfl⟩)
    | (go_at_call 7; (with_reducible refine (near_to 4 3 (by omega) (by omega) (by omega) 1 (by decide) _).mono ?_); rintro e w1 ⟨rfl, q3, rfl⟩))
  go_ret
  exact ⟨rfl, by repeat (first | exact Below.refl _ _ | refine Kit.below_drewN ?_ _)⟩
end Go.Proofs.Ytccngjgbhbeobaa.CPool
