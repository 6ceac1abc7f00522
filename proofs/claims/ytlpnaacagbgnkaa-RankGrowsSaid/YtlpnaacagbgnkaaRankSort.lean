/- Layer 22 (rank): numbers compared by a closure; a number's place; the order, sorted. -/
import Derived.Test.YtlpnaacagbgnkaaRankCode
import Derived.Test.YtlpnaacagbgnkaaShelf
import Derived.Laws.MakeOwn
namespace Go.Proofs.Ytlpnaacagbgnkaa.CRank
open Go Go.ChangeShapes Go.WideShapes Go.ChangeAt Go.RowKit
open Plain
set_option linter.unusedVariables false

set_option maxHeartbeats 1000000 in
theorem nan_to (x : Int) (w : World) : Calls Try.prog 26 #[.int .i32 x] w fun e w' => e = .returned (.bool false) ∧ w = w' := by
  go_enter Try.func26, Try.ntmps26
  go_wp2
  go_ret
  exact ⟨by simp, rfl⟩
/-- cmp.Compare at two numbers of 32 bits. -/
def cmpZ (x y : Int) : Int := if x < y then -1 else if y < x then 1 else 0
set_option maxHeartbeats 2000000 in
theorem cmp32_to (x y R : Int) (hR : cmpZ x y = R) (w : World) : Calls Try.prog 22 #[.int .i32 x, .int .i32 y] w fun e w' => e = .returned (.int .i64 R) ∧ w = w' := by
  have HR := Lib.hid hR
  go_enter Try.func22, Try.ntmps22
  rcases Int.lt_trichotomy x y with h | h | h
  · have e : R = -1 := by rw [← HR.out]; unfold cmpZ; rw [if_pos h]
    subst e
    clear hR
    go_wp2_with (go_at_call 26; (refine (nan_to _ _).mono ?_); rintro e w1 ⟨rfl, rfl⟩)
    go_ret
    exact ⟨rfl, rfl⟩
  · subst h
    have e : R = 0 := by rw [← HR.out]; unfold cmpZ; rw [if_neg (by omega), if_neg (by omega)]
    subst e
    clear hR
    go_wp2_with (go_at_call 26; (refine (nan_to _ _).mono ?_); rintro e w1 ⟨rfl, rfl⟩)
    go_ret
    exact ⟨rfl, rfl⟩
  · have e : R = 1 := by rw [← HR.out]; unfold cmpZ; rw [if_neg (by omega), if_pos h]
    subst e
    have h2 : ¬ x < y := by omega
    clear hR
    go_wp2_with (go_at_call 26; (refine (nan_to _ _).mono ?_); rintro e w1 ⟨rfl, rfl⟩)
    go_ret
    exact ⟨rfl, rfl⟩
theorem cmp64_to (x y R : Int) (hR : cmpZ x y = R) (w : World) : Calls Try.prog 21 #[.int .i64 x, .int .i64 y] w fun e w' => e = .returned (.int .i64 R) ∧ w = w' := by
  have h := Try.cmp_Compare_int x y w
  have e : Lib.compareInt x y = R := by
    rw [← hR]; unfold Lib.compareInt cmpZ
    rfl
  rw [e] at h
  exact h.mono fun _ _ ⟨h1, h2⟩ => ⟨h1, h2.symm⟩
/-- what the closure answers of two places. -/
def ordZ (G : Nat → Int) (i j : Nat) : Int := if G i = G j then cmpZ i j else cmpZ (G j) (G i)
theorem ordZ_neg (G : Nat → Int) (i j : Nat) : decide (ordZ G i j < 0) = ahd G i j := by
  unfold ordZ cmpZ ahd
  by_cases h : G i = G j
  · rw [if_pos h]
    by_cases h2 : (i : Int) < j
    · rw [if_pos h2]; simp [h]; omega
    · rw [if_neg h2]
      split <;> simp [h] <;> omega
  · rw [if_neg h]
    by_cases h2 : G j < G i
    · rw [if_pos h2]; simp [h2]
    · rw [if_neg h2]
      split <;> simp [h, h2]
set_option maxRecDepth 100000 in
set_option maxHeartbeats 2000000 in
theorem closure_to (G : Nat → Int) (n : Nat) (hn : n ≤ 60) (A : Option Addr) (c : Nat) (i j : Nat) (hi : i < n) (hj : j < n) (R : Int) (hR : ordZ G i j = R) (bx : Nat) (w : World) (hx : w.cell? ⟨bx, 0, none⟩ = some (.slice A n c)) {B : Nat} (hr : Kit.Rd w B A (I32v (rowL G n))) :
    Calls Try.prog 20 #[.int .i64 i, .int .i64 j, .pointer (some ⟨bx, 0, none⟩)] w fun e w' => e = .returned (.int .i64 R) ∧ ∃ m, w' = w.drewN m := by
  obtain ⟨b, o, rfl, -, hc⟩ := rd32 hr (by omega)
  have hci := hc i hi
  have hcj := hc j hj
  have i0 : (0 : Int) ≤ (i : Int) := by omega
  have i1 : (i : Int) < (n : Int) := by omega
  have j0 : (0 : Int) ≤ (j : Int) := by omega
  have j1 : (j : Int) < (n : Int) := by omega
  by_cases h : G i = G j
  · have hc1 := fun w => cmp64_to (i : Int) (j : Int) R (by rw [← hR]; unfold ordZ; rw [if_pos h]) w
    rw [h] at hci
    generalize G j = y at hci hcj
    clear hR hr hc h
    go_enter Try.func20, Try.ntmps20
    go_wp2_with fail
    go_quiet (fail)
    go_wp2_with (go_at_call 21; (refine (hc1 _).mono ?_); rintro e w1 ⟨rfl, rfl⟩)
    go_ret
    exact ⟨rfl, _, rfl⟩
  · have hc2 := fun w => cmp32_to (G j) (G i) R (by rw [← hR]; unfold ordZ; rw [if_neg h]) w
    have h3 : (G i == G j) = false := by simp [h]
    generalize G j = y at *
    generalize G i = x at *
    clear hR hr hc
    go_enter Try.func20, Try.ntmps20
    go_wp2_with fail
    go_quiet (fail)
    go_wp2_with fail
    obtain ⟨W, hW, k1, k2, k3⟩ : ∃ W, w.drewN nq = W ∧ W.cell? ⟨bx, 0, none⟩ = some (.slice (some ⟨b, o, none⟩) n c) ∧ W.cell? ⟨b, o + i, none⟩ = some (.int .i32 x) ∧ W.cell? ⟨b, o + j, none⟩ = some (.int .i32 y) := ⟨_, rfl, hx, hci, hcj⟩
    rw [hW]
    have HW := Lib.hid hW
    clear hW hx hci hcj
    go_quiet ((go_at_call 22; exact Kit.quiet_l (hc2 _)))
    go_wp2
    go_ret
    exact ⟨rfl, _, by rw [← HW.out]; exact World.drewN_drewN _ _ _⟩
theorem inOrder_to (A : Option Addr) (n c : Nat) (w : World) :
    Calls Try.prog 18 #[.slice A n c] w fun e w' => e = .returned (.func (.func 20) #[] #[.pointer (some ⟨w.heap.size, 0, none⟩)]) ∧ w' = w.alloc (.cells #[.slice A n c] 22) := by
  go_enter Try.func18, Try.ntmps18
  go_wp2_with fail
  go_ret
  exact ⟨rfl, rfl⟩
end Go.Proofs.Ytlpnaacagbgnkaa.CRank
