/- Layer 22 (rank): a number's place, by the closure. -/
import Derived.Test.YtlpnaacagbgnkaaRankSort
namespace Go.Proofs.Ytlpnaacagbgnkaa.CRank
open Go Go.ChangeShapes Go.WideShapes Go.ChangeAt Go.RowKit
open Plain
set_option linter.unusedVariables false

theorem place_no (n : Nat) (A : Option Addr) (c : Nat) (i : Int) (hi : i < 0 ∨ (n : Int) ≤ i) (w : World) :
    Calls Try.prog 11 #[.slice A n c, .int .i64 i] w fun e w' => e = .returned (.int .i64 (-1)) ∧ w = w' := by
  go_enter Try.func11, Try.ntmps11
  rcases Int.lt_or_le i 0 with h | h
  · go_wp2
    go_ret
    exact ⟨rfl, rfl⟩
  · have h2 : (n : Int) ≤ i := by omega
    have h3 : ¬ i < 0 := by omega
    have h4 : i ≥ (n : Int) := h2
    clear hi
    go_wp2
    go_ret
    exact ⟨rfl, rfl⟩
set_option maxRecDepth 100000 in
set_option maxHeartbeats 4000000 in
theorem place_yes (G : Nat → Int) (n : Nat) (hn : n ≤ 60) (A : Option Addr) (c : Nat) (i : Nat) (hi : i < n) (R : Nat) (hR : placeN G i n = R) (w : World) (hr : Kit.Rd w w.heap.size A (I32v (rowL G n))) :
    Calls Try.prog 11 #[.slice A n c, .int .i64 i] w fun e w' => e = .returned (.int .i64 R) ∧ Below w.heap.size w w' := by
  have HR := Lib.hid hR
  have hal : Below w.heap.size w (w.alloc (.cells #[.slice A n c] 22)) := (Below.refl _ _).alloc (Nat.le_refl _) _
  have HAL := Lib.hid hal
  have HA := Lib.hid (hr.below hal)
  have hnew := Kit.new_cell w #[.slice A n c] 22 0
  have i2 : ¬ (i : Int) < 0 := by omega
  have i3 : ¬ (i : Int) ≥ (n : Int) := by omega
  have i4 : ¬ (n : Int) ≤ (i : Int) := by omega
  have i5 : (i : Int) < (n : Int) := by omega
  have i6 : (0 : Int) ≤ (i : Int) := by omega
  have HN := Lib.hid hnew
  clear hR hr hal hnew
  go_enter Try.func11, Try.ntmps11
  go_wp2_with (go_at_call 18; (refine (inOrder_to A n c w).mono ?_); rintro e w1 ⟨rfl, hw1⟩; subst hw1)
  clear i2 i3 i4 i5 i6
  generalize hW : w.alloc (.cells #[.slice A n c] 22) = W at HAL HA HN ⊢
  clear hW
  go_loopw [6, 20] (fun s u wr => ∃ k nq : Nat, k ≤ n ∧ u = .int .i64 k ∧ s = .int .i64 (placeN G i k) ∧ Hid (wr = W.drewN nq)) (fun _ u _ => n - (intOf u).toNat)
  case atStart => exact ⟨0, 0, Nat.zero_le _, rfl, rfl, Lib.hid rfl⟩
  case round =>
    obtain ⟨k, nq, hk, rfl, rfl, hw⟩ := hrel
    by_cases hlt : k < n
    · have k0 : (0 : Int) ≤ (k : Int) := by omega
      have k1 : (k : Int) < (n : Int) := by omega
      have hp := placeN_le G i k
      obtain ⟨p, hp2⟩ : ∃ p, placeN G i k = p := ⟨_, rfl⟩
      rw [hp2] at hp ⊢
      obtain ⟨z, hz⟩ : ∃ z, ordZ G k i = z := ⟨_, rfl⟩
      have hc := closure_to G n hn A c k i hlt hi z hz w.heap.size wr (by rw [hw.out]; exact HN.out) (B := w.heap.size) (by rw [hw.out]; exact HA.out)
      have hd := ordZ_neg G k i
      rw [hz] at hd
      have HC := Lib.hid hc
      clear hc hz
      cases ha : ahd G k i
      · have hnext := Lib.hid ((placeN_no ha).trans hp2)
        rw [ha] at hd
        have hd2 : ¬ z < 0 := by simpa using hd
        clear ha hp2 hd
        go_wp2_with (go_at_call 20; (refine HC.out.mono ?_); rintro e w1 ⟨rfl, m, hm⟩)
        go_roundw
        case rel => exact ⟨k + 1, nq + m, by omega, by go_num, by rw [hnext.out], Lib.hid (by rw [hw.out, World.drewN_drewN])⟩
        case measure => simp [intOf]; omega
      · have hnext := Lib.hid ((placeN_yes ha).trans (congrArg (· + 1) hp2))
        rw [ha] at hd
        have hd2 : z < 0 := by simpa using hd
        clear ha hp2 hd
        go_wp2_with (go_at_call 20; (refine HC.out.mono ?_); rintro e w1 ⟨rfl, m, hm⟩)
        go_roundw
        case rel => exact ⟨k + 1, nq + m, by omega, by go_num, by rw [hnext.out]; rfl, Lib.hid (by rw [hw.out, World.drewN_drewN])⟩
        case measure => simp [intOf]; omega
    · obtain rfl : k = n := by omega
      rw [HR.out]
      go_wp2_with fail
      go_ret
      exact ⟨rfl, by rw [hw.out]; exact Kit.below_drewN HAL.out _⟩
end Go.Proofs.Ytlpnaacagbgnkaa.CRank
