/- Contracts of the document's own answers of layer 3 (ratio), but for products. -/
import Derived.Test.YtpiigdgiliaihaaRatioTwo
import Derived.Deep.LoopGhost
namespace Go.Proofs.Ytpiigdgiliaihaa.CRatio
open Go Go.ChangeShapes Go.WideShapes Go.ChangeAt Go.RowKit
open Plain CSat CFix Num
set_option linter.unusedVariables false

theorem refOf_arg (num den : Int) (h : num < 1 ∨ (1 ≤ num ∧ 2147483647 < num) ∨ (1 ≤ num ∧ num ≤ 2147483647 ∧ den < 1) ∨ (1 ≤ num ∧ num ≤ 2147483647 ∧ 1 ≤ den ∧ 2147483647 < den)) (w : World) :
    Calls Try.prog 8 #[.int .i64 num, .int .i64 den] w fun e w' => e = .returned (.tuple #[.agg #[.int .i32 0, .int .i64 0, .int .i8 0], .int .i64 2]) ∧ Below w.heap.size w w' := by
  rcases h with h1 | ⟨h1, h2⟩ | ⟨h1, h2, h3⟩ | ⟨h1, h2, h3, h4⟩
  all_goals
    go_enter Try.func8, Try.ntmps8
    go_wp2
    refine bodyPost_ret (Kit.results_ct rfl _ _ w.heap.size 0 [.int .i32 0, .int .i64 0, .int .i8 0] _ rfl (Kit.range_3 (by go_cell) (by go_cell) (by go_cell)) Try.underlying24 rfl (by kernel_rfl)) rfl ?_
    exact ⟨rfl, by go_grown⟩

theorem of_step {num den j i a r : Nat} (hj : IsOf num den j) (hd : 1 ≤ den) (hi : i ≤ j) (h : a * den + r = num * 2 ^ i) (hr : r < den) : (i < j → a < 1073741824) ∧ (i = j → 1073741824 ≤ a ∧ num * 2 ^ j / den = a) := by
  refine ⟨fun h1 => ?_, fun h1 => ?_⟩
  · have h2 := hj.2.1 i h1
    apply Nat.lt_of_mul_lt_mul_right (a := den)
    rw [Nat.mul_comm 1073741824]; omega
  · subst h1
    have h2 := hj.2.2
    rw [← h] at h2 ⊢
    refine ⟨?_, ?_⟩
    · apply Nat.le_of_lt_succ
      apply Nat.lt_of_mul_lt_mul_right (a := den)
      rw [Nat.mul_comm 1073741824, Nat.succ_mul]; omega
    · rw [Nat.mul_comm a den, Nat.mul_add_div (by omega), Nat.div_eq_of_lt hr]; rfl

theorem refOf_good (num den j q : Nat) (h1 : 1 ≤ num) (h2 : num ≤ 2147483647) (h3 : 1 ≤ den) (h4 : den ≤ 2147483647) (hj : IsOf num den j) (hq : num * 2 ^ j / den = q) (w : World) :
    Calls Try.prog 8 #[.int .i64 (num : Int), .int .i64 (den : Int)] w fun e w' => e = .returned (.tuple #[.agg #[.int .i32 (q : Int), .int .i64 (j : Int), .int .i8 0], .int .i64 0]) ∧ Below w.heap.size w w' := by
  have j1 : j ≤ 61 := hj.1
  obtain ⟨a0, ha0⟩ : ∃ a, num / den = a := ⟨_, rfl⟩
  obtain ⟨r0, hr0⟩ : ∃ a, num % den = a := ⟨_, rfl⟩
  have tq : (num : Int).tdiv (den : Int) = (a0 : Int) := by rw [← ha0]; simp
  have tr : (num : Int).tmod (den : Int) = (r0 : Int) := by rw [← hr0, Int.tmod_eq_emod_of_nonneg (by omega)]; simp
  have a1 : a0 ≤ 2147483647 := by rw [← ha0]; exact Nat.le_trans (Nat.div_le_self _ _) h2
  have wq : IntKind.i64.wrap (a0 : Int) = (a0 : Int) := IntWalk.i64_in _ (by omega)
  have r1 : r0 < den := by rw [← hr0]; exact Nat.mod_lt _ (by omega)
  have n0 : ¬ (den : Int) = 0 := by omega
  have e0 : Hid (a0 * den + r0 = num * 2 ^ 0) := Lib.hid (by rw [← ha0, ← hr0, Nat.mul_comm, Nat.div_add_mod]; simp)
  have HJ := Lib.hid hj
  have HQ := Lib.hid hq
  clear hj hq ha0 hr0
  go_enter Try.func8, Try.ntmps8
  go_wp2
  go_quiet (fail)
  generalize hW : World.drewN _ nq = w1
  have z1 : Below w.heap.size w w1 := by rw [← hW]; exact Kit.below_drewN ((Below.refl _ _).alloc (Nat.le_refl _) _) _
  have s1 : w.heap.size < w1.heap.size := by rw [← hW]; simp
  have c0 : w1.cell? ⟨w.heap.size, 0, none⟩ = some (.int .i32 0) := by rw [← hW]; exact Kit.new_cell _ _ _ _
  have c1 : w1.cell? ⟨w.heap.size, 1, none⟩ = some (.int .i64 0) := by rw [← hW]; exact Kit.new_cell _ _ _ _
  have c2 : w1.cell? ⟨w.heap.size, 2, none⟩ = some (.int .i8 0) := by rw [← hW]; exact Kit.new_cell _ _ _ _
  have f0 : w1.frozen? ⟨w.heap.size, 0, none⟩ = false := by rw [← hW]; exact World.frozen?_alloc_at _ _ _ _ rfl
  have f1 : w1.frozen? ⟨w.heap.size, 1, none⟩ = false := by rw [← hW]; exact World.frozen?_alloc_at _ _ _ _ rfl
  have f2 : w1.frozen? ⟨w.heap.size, 2, none⟩ = false := by rw [← hW]; exact World.frozen?_alloc_at _ _ _ _ rfl
  clear hW
  go_wp2
  go_loop [6, 7, 8] (fun x y t => ∃ (i : Nat) (a r : Int), i ≤ j ∧ 0 ≤ a ∧ a ≤ 2147483647 ∧ 0 ≤ r ∧ r < (den : Int) ∧ x = .int .i64 a ∧ y = .int .i64 r ∧ t = .int .i64 (i : Int) ∧ Hid (a.toNat * den + r.toNat = num * 2 ^ i)) (fun _ _ t => (62 - intOf t).toNat)
  case atStart => exact ⟨0, a0, r0, Nat.zero_le _, by omega, by omega, by omega, by omega, rfl, rfl, rfl, e0⟩
  case round =>
    obtain ⟨i, a, r, hi, ha0, ha, hr0, hr, rfl, rfl, rfl, he⟩ := hrel
    have hst := of_step HJ.out h3 hi he.out (by omega)
    clear e0 tq tr wq n0 a1 r1
    by_cases hlt : i < j
    · have hlow0 := hst.1 hlt
      have hlow : a < 1073741824 := by omega
      clear hst hlow0
      by_cases hge : (den : Int) ≤ 2 * r
      · have hn : Hid ((2 * a + 1).toNat * den + (2 * r - den).toNat = num * 2 ^ (i + 1)) := Lib.hid (by
          have e1 : (2 * a + 1).toNat = 2 * a.toNat + 1 := by omega
          rw [e1, dbl_succ, ← he.out, Nat.add_mul, Nat.mul_assoc, Nat.one_mul]; omega)
        go_wp2
        go_round
        case rel => exact ⟨i + 1, 2 * a + 1, 2 * r - den, by omega, by omega, by omega, by omega, by omega, by go_num, by go_num, by go_num, hn⟩
        case measure => simp [intOf]; omega
      · have hn : Hid ((2 * a).toNat * den + (2 * r).toNat = num * 2 ^ (i + 1)) := Lib.hid (by
          have e1 : (2 * a).toNat = 2 * a.toNat := by omega
          rw [e1, dbl_succ, ← he.out, Nat.mul_assoc]; omega)
        go_wp2
        go_round
        case rel => exact ⟨i + 1, 2 * a, 2 * r, by omega, by omega, by omega, by omega, by omega, by go_num, by go_num, by go_num, hn⟩
        case measure => simp [intOf]; omega
    · have hie : i = j := by omega
      obtain ⟨hlow0, hqa⟩ := hst.2 hie
      have hlow : (1073741824 : Int) ≤ a := by omega
      have hqq : (q : Int) = a := by rw [← HQ.out, hqa]; omega
      have HQQ := Lib.hid hqq
      clear hst hqa hlow0 hqq
      subst hie
      go_wp2
      refine bodyPost_ret (Kit.results_ct rfl _ _ w.heap.size 0 [.int .i32 a, .int .i64 (i : Int), .int .i8 0] _ rfl (Kit.range_3 (by go_cell) (by go_cell) (by go_cell)) Try.underlying24 rfl (by kernel_rfl)) rfl ?_
      exact ⟨by rw [HQQ.out]; rfl, by go_grown⟩
end Go.Proofs.Ytpiigdgiliaihaa.CRatio
