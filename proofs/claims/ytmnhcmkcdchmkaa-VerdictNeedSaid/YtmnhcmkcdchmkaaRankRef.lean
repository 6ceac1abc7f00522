/- Layer 22 (rank), the document: a number's place, the best, the margin. -/
import Derived.Test.YtmnhcmkcdchmkaaRankCode
namespace Go.Proofs.Ytmnhcmkcdchmkaa.CRank
open Go Go.ChangeShapes Go.WideShapes Go.ChangeAt Go.RowKit
open Plain
set_option linter.unusedVariables false

theorem refPlace_no (n : Nat) (A : Option Addr) (c : Nat) (i : Int) (hi : i < 0 ∨ (n : Int) ≤ i) (w : World) :
    Calls Try.prog 27 #[.slice A n c, .int .i64 i] w fun e w' => e = .returned (.int .i64 (-1)) ∧ w = w' := by
  go_enter Try.func27, Try.ntmps27
  rcases Int.lt_or_le i 0 with h | h
  · go_wp2
    go_ret
    exact ⟨rfl, rfl⟩
  · have h2 : (n : Int) ≤ i := by omega
    have h3 : ¬ i < 0 := by omega
    have h4 : i ≥ (n : Int) := h2
    clear hi
    go_wp2
    go_ret
    exact ⟨rfl, rfl⟩
set_option maxRecDepth 100000 in
set_option maxHeartbeats 4000000 in
theorem refPlace_yes (G : Nat → Int) (n : Nat) (hn : n ≤ 60) (A : Option Addr) (c : Nat) (i : Nat) (hi : i < n) (R : Nat) (hR : placeN G i n = R) (w : World) {B : Nat} (hr : Kit.Rd w B A (I32v (rowL G n))) :
    Calls Try.prog 27 #[.slice A n c, .int .i64 i] w fun e w' => e = .returned (.int .i64 R) ∧ ∃ m, w' = w.drewN m := by
  have HR := Lib.hid hR
  obtain ⟨b, o, rfl, -, hc⟩ := rd32 hr (by omega)
  have HC := Lib.hid hc
  have hci := hc i hi
  have i0 : (0 : Int) ≤ (i : Int) := by omega
  have i1 : (i : Int) < (n : Int) := by omega
  have i2 : ¬ (i : Int) < 0 := by omega
  have i3 : ¬ (i : Int) ≥ (n : Int) := by omega
  have i4 : ¬ (n : Int) ≤ (i : Int) := by omega
  clear hR hr hc
  go_enter Try.func27, Try.ntmps27
  go_wp2_with fail
  clear i2 i3 i4
  go_loopw [5, 6] (fun s u wr => ∃ k nq : Nat, k ≤ n ∧ u = .int .i64 k ∧ s = .int .i64 (placeN G i k) ∧ Hid (wr = w.drewN nq)) (fun _ u _ => n - (intOf u).toNat)
  case atStart => exact ⟨0, 0, Nat.zero_le _, rfl, rfl, Lib.hid rfl⟩
  case round =>
    obtain ⟨k, nq, hk, rfl, rfl, hw⟩ := hrel
    obtain rfl := hw.out
    clear hw
    by_cases hlt : k < n
    · have hck := HC.out k hlt
      have k0 : (0 : Int) ≤ (k : Int) := by omega
      have k1 : (k : Int) < (n : Int) := by omega
      have hp := placeN_le G i k
      obtain ⟨p, hp2⟩ : ∃ p, placeN G i k = p := ⟨_, rfl⟩
      rw [hp2] at hp ⊢
      have hp3 : IntKind.i64.wrap ((p : Int) + 1) = ((p + 1 : Nat) : Int) := by rw [IntWalk.i64_in _ (by omega)]; omega
      cases ha : ahd G k i
      · have hnext := Lib.hid ((placeN_no ha).trans hp2)
        simp only [ahd, Bool.or_eq_false_iff, Bool.and_eq_false_iff, decide_eq_false_iff_not] at ha
        by_cases he : G k = G i
        · have h3 : ¬ (k : Int) < (i : Int) := by rcases ha.2 with h | h <;> omega
          rw [he] at hck
          generalize G i = y at hck hci
          clear ha he hp2
          go_wp2_with fail
          go_quiet (fail)
          go_wp2
          go_roundw
          case rel => exact ⟨k + 1, _, by omega, by go_num, by rw [hnext.out], Lib.hid rfl⟩
          case measure => simp [intOf]; omega
        · have h4 : ¬ G i < G k := ha.1
          have h5 : (G k == G i) = false := by simp [he]
          generalize G i = y at hck hci he h4 h5
          generalize G k = x at hck hci he h4 h5
          clear ha hp2
          go_wp2_with fail
          go_quiet (fail)
          go_wp2
          go_roundw
          case rel => exact ⟨k + 1, _, by omega, by go_num, by rw [hnext.out], Lib.hid rfl⟩
          case measure => simp [intOf]; omega
      · have hnext := Lib.hid ((placeN_yes ha).trans (congrArg (· + 1) hp2))
        simp only [ahd, Bool.or_eq_true, Bool.and_eq_true, decide_eq_true_eq] at ha
        by_cases hg : G i < G k
        · generalize G i = y at hck hci hg
          generalize G k = x at hck hci hg
          clear ha hp2
          go_wp2_with fail
          go_quiet (fail)
          go_wp2
          go_roundw
          case rel => exact ⟨k + 1, _, by omega, by go_num, by rw [hnext.out]; rfl, Lib.hid rfl⟩
          case measure => simp [intOf]; omega
        · have he : G k = G i := by omega
          have h3 : (k : Int) < (i : Int) := by omega
          rw [he] at hck
          generalize G i = y at hck hci
          clear ha he hp2 hg
          go_wp2_with fail
          go_quiet (fail)
          go_wp2
          go_roundw
          case rel => exact ⟨k + 1, _, by omega, by go_num, by rw [hnext.out]; rfl, Lib.hid rfl⟩
          case measure => simp [intOf]; omega
    · obtain rfl : k = n := by omega
      rw [HR.out]
      go_wp2_with fail
      go_ret
      exact ⟨rfl, nq, rfl⟩
end Go.Proofs.Ytmnhcmkcdchmkaa.CRank
