/- Layer 28 (arena): the most at one step, code and document. -/
import Derived.Test.YtplmcmjfgocdkaaArenaPlc
import Derived.Test.YtplmcmjfgocdkaaArenaDoc
namespace Go.Proofs.Ytplmcmjfgocdkaa.CArena
open Go Go.ChangeShapes Go.WideShapes Go.ChangeAt Go.RowKit
open Plain
set_option linter.unusedVariables false

set_option maxRecDepth 100000 in
set_option maxHeartbeats 2000000 in
theorem peak_no (S : Nat → Int) (n c m c' : Nat) (hn : n ≤ 900) (hno : rightB S n m = false) (A A' : Option Addr) (w : World) {B : Nat} (hr : Kit.Rd w B A (rowV S n)) :
    Calls Try.prog 9 #[.slice A n c, .slice A' m c'] w fun e w' => e = .returned (.int .i64 0) ∧ w = w' := by
  have C := right_to S n c m c' (by omega) A A' w hr
  rw [hno] at C
  have HC := Lib.hid C
  clear C hr hno
  go_enter Try.func9, Try.ntmps9
  go_wp2_with (go_at_call 15; (refine HC.out.mono ?_); rintro e w1 ⟨rfl, rfl⟩)
  go_ret
  exact ⟨rfl, rfl⟩
theorem peak_nonneg {S U : Nat → Int} {n : Nat} (hS : ∀ k, k < n → 0 ≤ S k ∧ S k ≤ 1048576) : ∀ s, s ≤ n → 0 ≤ peakZ S U s := by
  intro s
  induction s with
  | zero => intro _; simp [peakZ]
  | succ s ih => intro h; rw [peakZ]; have := ih (by omega); omega
set_option maxRecDepth 100000 in
set_option maxHeartbeats 8000000 in
theorem peak_yes (S U : Nat → Int) (n c c' : Nat) (hn : n ≤ 900) (hyes : ∀ k, k < n → 0 ≤ S k ∧ S k ≤ 1048576) (A A' : Option Addr) (w : World) {B B' : Nat} (hr : Kit.Rd w B A (rowV S n)) (hr' : Kit.Rd w B' A' (rowV U n)) :
    Calls Try.prog 9 #[.slice A n c, .slice A' n c'] w fun e w' => e = .returned (.int .i64 (peakZ S U n)) ∧ w = w' := by
  have C := right_to S n c n c' (by omega) A A' w hr
  rw [(rightB_iff (by omega)).2 ⟨rfl, hyes⟩] at C
  have HC := Lib.hid C
  have HR := Lib.hid hr
  have HR' := Lib.hid hr'
  have HY := Lib.hid hyes
  clear C hr hr' hyes
  go_enter Try.func9, Try.ntmps9
  go_wp2_with (go_at_call 15; (refine HC.out.mono ?_); rintro e w1 ⟨rfl, rfl⟩)
  go_loop [5, 15] (fun a u => ∃ s : Nat, s ≤ n ∧ u = .int .i64 s ∧ a = .int .i64 (peakZ S U s)) (fun _ u => n - (intOf u).toNat)
  case atStart => exact ⟨0, Nat.zero_le _, rfl, rfl⟩
  case round =>
    obtain ⟨s, hs, rfl, rfl⟩ := hrel
    by_cases hlt : s < n
    · have s1 : (s : Int) < (n : Int) := by omega
      have es : IntKind.i64.wrap ((s : Int) + 1) = (s : Int) + 1 := IntWalk.i64_in _ (by omega)
      obtain ⟨pk, hpk⟩ : ∃ pk, peakZ S U s = pk := ⟨_, rfl⟩
      rw [hpk]
      have hnx : peakZ S U (s + 1) = max pk (stepZ S U s (s + 1)) := by rw [peakZ, hpk]
      have HNX := Lib.hid hnx
      clear hpk hnx
      go_wp2_with fail
      go_loop [7, 20] (fun a u => ∃ i : Nat, i ≤ s + 1 ∧ u = .int .i64 i ∧ a = .int .i64 (stepZ S U s i)) (fun _ u => s + 1 - (intOf u).toNat)
      case atStart => exact ⟨0, Nat.zero_le _, rfl, rfl⟩
      case round =>
        obtain ⟨i, hi, rfl, rfl⟩ := hrel
        by_cases hlti : i < s + 1
        · obtain ⟨b, o, rfl, -, h1⟩ := rd_at HR.out (by omega)
          have d1 := h1 i (by omega)
          have i0 : (0 : Int) ≤ (i : Int) := by omega
          have i1 : (i : Int) < (n : Int) := by omega
          have i2 : (i : Int) < (s : Int) + 1 := by omega
          obtain ⟨b1, b2⟩ := step_bound (U := U) (s := s) (n := i) (fun k hk => HY.out k (by omega))
          obtain ⟨b3, b4⟩ := HY.out i (by omega)
          have e1 : IntKind.i64.wrap (stepZ S U s i + S i) = stepZ S U s i + S i := IntWalk.i64_in _ (by omega)
          have hst : stepZ S U s (i + 1) = stepZ S U s i + (if liveZ U i s then S i else 0) := rfl
          have CL := Lib.hid (live_to U i n c' (s : Int) s rfl (by omega) A' w HR'.out)
          cases hv : liveZ U i s with
          | true =>
            rw [hv] at CL hst
            rw [if_pos rfl] at hst
            have HST := Lib.hid hst
            clear hv hst h1 b1 b2
            generalize stepZ S U s i = t at *
            go_wp2_with (go_at_call 18; (refine CL.out.mono ?_); rintro e w1 ⟨rfl, rfl⟩)
            go_round
            case rel => exact ⟨i + 1, by omega, by go_num, congrArg (Value.int .i64) HST.out.symm⟩
            case measure => simp [intOf]; omega
          | false =>
            rw [hv] at CL hst
            rw [if_neg (by decide), Int.add_zero] at hst
            have HST := Lib.hid hst
            clear hv hst h1 b1 b2
            generalize stepZ S U s i = t at *
            go_wp2_with (go_at_call 18; (refine CL.out.mono ?_); rintro e w1 ⟨rfl, rfl⟩)
            go_round
            case rel => exact ⟨i + 1, by omega, by go_num, congrArg (Value.int .i64) HST.out.symm⟩
            case measure => simp [intOf]; omega
        · obtain rfl : i = s + 1 := by omega
          have i2 : ¬ ((s + 1 : Nat) : Int) < (s : Int) + 1 := by omega
          obtain ⟨t, ht⟩ : ∃ t, stepZ S U s (s + 1) = t := ⟨_, rfl⟩
          rw [ht] at HNX ⊢
          have hmx := max_ite pk t
          have hm2 : (if pk < t then t else pk) = peakZ S U (s + 1) := by rw [hmx, HNX.out]
          have HM := Lib.hid hm2
          clear ht hmx hm2
          go_wp2_with fail
          go_round
          case rel => exact ⟨s + 1, by omega, by go_num, (by first | exact congrArg (Value.int .i64) HM.out | exact congrArg (Value.int .i64) HNX.out.symm)⟩
          case measure => simp [intOf]; omega
    · obtain rfl : s = n := by omega
      go_wp2_with fail
      go_ret
      exact ⟨rfl, rfl⟩
theorem there_live {U : Nat → Int} {i s : Nat} (h : i ≤ s) : thereZ U i s = liveZ U i s := by
  simp only [thereZ, liveZ]; rw [decide_eq_decide]; omega
theorem there_no {U : Nat → Int} {i s : Nat} (h : s < i) : thereZ U i s = false := by
  simp only [thereZ, decide_eq_false_iff_not]; omega
set_option maxRecDepth 100000 in
set_option maxHeartbeats 8000000 in
theorem rpeak_yes (S U : Nat → Int) (n c c' : Nat) (hn : n ≤ 900) (hyes : ∀ k, k < n → 0 ≤ S k ∧ S k ≤ 1048576) (A A' : Option Addr) (w : World) {B B' : Nat} (hr : Kit.Rd w B A (rowV S n)) (hr' : Kit.Rd w B' A' (rowV U n)) :
    Calls Try.prog 12 #[.slice A n c, .slice A' n c'] w fun e w' => e = .returned (.int .i64 (peakZ S U n)) ∧ w = w' := by
  have HR := Lib.hid hr
  have HR' := Lib.hid hr'
  have HY := Lib.hid hyes
  clear hr hr' hyes
  go_enter Try.func12, Try.ntmps12
  go_wp2_with fail
  go_loop [5, 6] (fun a u => ∃ s : Nat, s ≤ n ∧ u = .int .i64 s ∧ a = .int .i64 (peakZ S U s)) (fun _ u => n - (intOf u).toNat)
  case atStart => exact ⟨0, Nat.zero_le _, rfl, rfl⟩
  case round =>
    obtain ⟨s, hs, rfl, rfl⟩ := hrel
    by_cases hlt : s < n
    · have s1 : (s : Int) < (n : Int) := by omega
      obtain ⟨pk, hpk⟩ : ∃ pk, peakZ S U s = pk := ⟨_, rfl⟩
      rw [hpk]
      have hnx : peakZ S U (s + 1) = max pk (stepZ S U s (s + 1)) := by rw [peakZ, hpk]
      have HNX := Lib.hid hnx
      clear hpk hnx
      go_wp2_with fail
      go_loop [7, 8] (fun a u => ∃ i : Nat, i ≤ n ∧ u = .int .i64 i ∧ a = .int .i64 (stepZ S U s (min i (s + 1)))) (fun _ u => n - (intOf u).toNat)
      case atStart => exact ⟨0, Nat.zero_le _, rfl, by rw [Nat.zero_min]; rfl⟩
      case round =>
        obtain ⟨i, hi, rfl, rfl⟩ := hrel
        by_cases hlti : i < n
        · obtain ⟨b, o, rfl, -, h1⟩ := rd_at HR.out (by omega)
          have d1 := h1 i (by omega)
          have i0 : (0 : Int) ≤ (i : Int) := by omega
          have i1 : (i : Int) < (n : Int) := by omega
          have CL := Lib.hid (there_to U i s n c' (by omega) A' w HR'.out)
          obtain ⟨b3, b4⟩ := HY.out i (by omega)
          by_cases his : i ≤ s
          · have m1 : min i (s + 1) = i := by omega
            have m2 : min (i + 1) (s + 1) = i + 1 := by omega
            rw [m1]
            obtain ⟨b1, b2⟩ := step_bound (U := U) (s := s) (n := i) (fun k hk => HY.out k (by omega))
            have e1 : IntKind.i64.wrap (stepZ S U s i + S i) = stepZ S U s i + S i := IntWalk.i64_in _ (by omega)
            have hst : stepZ S U s (min (i + 1) (s + 1)) = stepZ S U s i + (if liveZ U i s then S i else 0) := by rw [m2]; rfl
            rw [there_live his] at CL
            cases hv : liveZ U i s with
            | true =>
              rw [hv] at CL hst
              rw [if_pos rfl] at hst
              have HST := Lib.hid hst
              clear hv hst h1 b1 b2 m1 m2 his
              generalize stepZ S U s i = t at *
              go_wp2_with (go_at_call 20; (refine CL.out.mono ?_); rintro e w1 ⟨rfl, rfl⟩)
              go_round
              case rel => exact ⟨i + 1, by omega, by go_num, congrArg (Value.int .i64) HST.out.symm⟩
              case measure => simp [intOf]; omega
            | false =>
              rw [hv] at CL hst
              rw [if_neg (by decide), Int.add_zero] at hst
              have HST := Lib.hid hst
              clear hv hst h1 b1 b2 m1 m2 his
              generalize stepZ S U s i = t at *
              go_wp2_with (go_at_call 20; (refine CL.out.mono ?_); rintro e w1 ⟨rfl, rfl⟩)
              go_round
              case rel => exact ⟨i + 1, by omega, by go_num, congrArg (Value.int .i64) HST.out.symm⟩
              case measure => simp [intOf]; omega
          · have m1 : min i (s + 1) = s + 1 := by omega
            have m2 : min (i + 1) (s + 1) = s + 1 := by omega
            rw [m1]
            rw [there_no (by omega)] at CL
            have HST : Hid (stepZ S U s (min (i + 1) (s + 1)) = stepZ S U s (s + 1)) := Lib.hid (by rw [m2])
            clear h1 m1 m2 his
            generalize stepZ S U s (s + 1) = t at *
            go_wp2_with (go_at_call 20; (refine CL.out.mono ?_); rintro e w1 ⟨rfl, rfl⟩)
            go_round
            case rel => exact ⟨i + 1, by omega, by go_num, congrArg (Value.int .i64) HST.out.symm⟩
            case measure => simp [intOf]; omega
        · obtain rfl : i = n := by omega
          rw [show min i (s + 1) = s + 1 by omega]
          obtain ⟨t, ht⟩ : ∃ t, stepZ S U s (s + 1) = t := ⟨_, rfl⟩
          rw [ht] at HNX ⊢
          have hmx := max_ite pk t
          have hm2 : (if pk < t then t else pk) = peakZ S U (s + 1) := by rw [hmx, HNX.out]
          have HM := Lib.hid hm2
          clear ht hmx hm2
          go_wp2_with fail
          go_round
          case rel => exact ⟨s + 1, by omega, by go_num, (by first | exact congrArg (Value.int .i64) HM.out | exact congrArg (Value.int .i64) HNX.out.symm)⟩
          case measure => simp [intOf]; omega
    · obtain rfl : s = n := by omega
      go_wp2_with fail
      go_ret
      exact ⟨rfl, rfl⟩
end Go.Proofs.Ytplmcmjfgocdkaa.CArena
