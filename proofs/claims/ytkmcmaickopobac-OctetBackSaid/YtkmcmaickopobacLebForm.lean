/- Contracts of package leb (layer 6): getting, the other ways; numbers with signs. -/
import Derived.Test.YtkmcmaickopobacLebGet
namespace Go.Proofs.Ytkmcmaickopobac.CLeb
open Go Go.ChangeShapes Go.WideShapes Go.ChangeAt Go.RowKit
open LebNum
set_option linter.unusedVariables false

theorem get_form (A : Option Addr) (zs : List Int) (c : Nat) (hj : 9 < zs.length) (hh : AllHi zs 9) (hz : 1 < zs[9]) (hb : Bytes zs)
    (hm : zs.length ≤ 9223372036854775807) {B : Nat} (w : World) (hrd : Kit.Rd w B A (zs.map (.int .u8))) :
    Calls Try.prog 30 #[.slice A zs.length c] w fun r w' => r = .returned (.tuple #[.int .u64 0, .int .i64 0, .int .i64 21]) ∧ w = w' := by
  obtain ⟨b, off, rfl, hbB, hcz⟩ := hrd.ints hj
  obtain ⟨z, hze⟩ : ∃ z, zs[9] = z := ⟨_, rfl⟩
  rw [hze] at hcz hz
  clear hze
  go_enter Try.func30, Try.ntmps30
  go_wp2
  go_step3
  go_wp2
  go_step3
  go_wp2
  go_loop [5, 6, 11] (fun a s i => ∃ (m : Nat) (N : Int), m ≤ 9 ∧ i = .int .i64 m ∧ s = .int .i64 0 ∧ a = .int .u64 N) (fun _ _ i => 9 - (intOf i).toNat)
  case atStart => exact ⟨0, 0, Nat.zero_le _, rfl, rfl, rfl⟩
  case round =>
    obtain ⟨m, N, hm1, rfl, rfl, rfl⟩ := hrel
    by_cases hlt : m < 9
    · have hml : m < zs.length := by omega
      obtain ⟨b', off', hA, _, hcm⟩ := hrd.ints hml
      cases hA
      obtain ⟨x, hx⟩ : ∃ x, zs[m] = x := ⟨_, rfl⟩
      have hx1 : 128 ≤ x := by rw [← hx]; exact hh m hml hlt
      have hx2 : x < 256 := by rw [← hx]; exact (hb _ (List.getElem_mem hml)).2
      rw [hx] at hcm
      clear hx hh hb
      go_wp2
      go_round
      case rel => exact ⟨m + 1, _, by omega, by go_num, rfl, rfl⟩
      case measure => simp [intOf]; omega
    · have hmj : m = 9 := by omega
      subst hmj
      clear hh hb
      go_wp2
      go_ret3
      exact ⟨rfl, rfl⟩

theorem get_short (A : Option Addr) (zs : List Int) (c : Nat) (hj : zs.length ≤ 9) (hh : AllHi zs zs.length) (hb : Bytes zs) {B : Nat} (w : World) (hrd : Kit.Rd w B A (zs.map (.int .u8))) :
    Calls Try.prog 30 #[.slice A zs.length c] w fun r w' => r = .returned (.tuple #[.int .u64 0, .int .i64 0, .int .i64 20]) ∧ w = w' := by
  go_enter Try.func30, Try.ntmps30
  go_wp2
  go_step3
  go_wp2
  go_step3
  go_wp2
  go_loop [5, 6, 11] (fun a s i => ∃ (m : Nat) (N : Int), m ≤ zs.length ∧ i = .int .i64 m ∧ s = .int .i64 0 ∧ a = .int .u64 N) (fun _ _ i => zs.length - (intOf i).toNat)
  case atStart => exact ⟨0, 0, Nat.zero_le _, rfl, rfl, rfl⟩
  case round =>
    obtain ⟨m, N, hm1, rfl, rfl, rfl⟩ := hrel
    by_cases hlt : m < zs.length
    · obtain ⟨b', off', rfl, _, hcm⟩ := hrd.ints hlt
      obtain ⟨x, hx⟩ : ∃ x, zs[m] = x := ⟨_, rfl⟩
      have hx1 : 128 ≤ x := by rw [← hx]; exact hh m hlt hlt
      have hx2 : x < 256 := by rw [← hx]; exact (hb _ (List.getElem_mem hlt)).2
      rw [hx] at hcm
      clear hx hh hb
      go_wp2
      go_round
      case rel => exact ⟨m + 1, _, by omega, by go_num, rfl, rfl⟩
      case measure => simp [intOf]; omega
    · have hmj : m = zs.length := by omega
      subst hmj
      clear hh hb
      go_wp2
      go_ret3
      exact ⟨rfl, rfl⟩

/-- Get, by what the bytes begin with. -/
theorem get_to (A : Option Addr) (zs : List Int) (c : Nat) (hb : Bytes zs) (n : Int) (k : Nat) (e : Int) (hr : GetR zs n k e) (hm : zs.length ≤ 9223372036854775807) {B : Nat} (w : World) (hrd : Kit.Rd w B A (zs.map (.int .u8))) :
    Calls Try.prog 30 #[.slice A zs.length c] w fun r w' => r = .returned (.tuple #[.int .u64 n, .int .i64 k, .int .i64 e]) ∧ w = w' := by
  rcases hr with ⟨j, hj, h9, h1, h2, h3, h4, rfl, rfl, rfl⟩ | ⟨j, hj, a1, a2, a3, a4, rfl, rfl, rfl⟩ | ⟨a1, a2, a3, rfl, rfl, rfl⟩ | ⟨a1, a2, rfl, rfl, rfl⟩
  · exact get_lo A zs c j hj h9 h1 _ rfl h2 h3 hb _ _ _ (.inr ⟨h4, rfl, rfl, rfl⟩) hm w hrd
  · exact get_lo A zs c j hj a2 a3 _ rfl (by omega) (by omega) hb _ _ _ (.inl ⟨by omega, a4, rfl, rfl, rfl⟩) hm w hrd
  · exact get_form A zs c a1 a2 a3 hb hm w hrd
  · exact get_short A zs c a1 a2 hb w hrd

theorem ret_get2 {a a' b b' e : Int} (h : a = a') (h2 : b = b') : Ending.returned (.tuple #[.int .i64 a, .int .i64 b, .int .i64 e]) = .returned (.tuple #[.int .i64 a', .int .i64 b', .int .i64 e]) := by rw [h, h2]
theorem getInt_to (A : Option Addr) (zs : List Int) (c : Nat) (hb : Bytes zs) (n : Int) (k : Nat) (e : Int) (hr : GetR zs n k e) (v : Int) (hv : (e ≠ 0 ∧ v = 0) ∨ (e = 0 ∧ v = unfoldZ n)) (hm : zs.length ≤ 9223372036854775807) {B : Nat} (w : World) (hrd : Kit.Rd w B A (zs.map (.int .u8))) :
    Calls Try.prog 39 #[.slice A zs.length c] w fun r w' => r = .returned (.tuple #[.int .i64 v, .int .i64 k, .int .i64 e]) ∧ w = w' := by
  obtain ⟨b1, b2, b3, b4, b5, b6⟩ := getR_bd hb hr
  have HR := Lib.hid hr
  clear hr
  rcases hv with ⟨h1, rfl⟩ | ⟨rfl, rfl⟩
  · obtain ⟨rfl, rfl⟩ := b6 h1
    have h2 : ¬ e = 0 := h1
    clear b6
    rcases b5 with b5 | rfl | rfl
    · exact absurd b5 h1
    all_goals
      clear h1 h2
      go_enter Try.func39, Try.ntmps39
      go_wp2_with (go_at_call 30; ((with_reducible refine (get_to A zs c hb _ _ _ HR.out hm w hrd).mono ?_); rintro r w1 ⟨rfl, rfl⟩))
      go_ret3
      exact ⟨rfl, rfl⟩
  · unfold unfoldZ
    clear b5 b6
    by_cases h : n % 2 = 0
    · rw [if_pos h]
      have HH := Lib.hid h
      go_enter Try.func39, Try.ntmps39
      go_wp2_with (go_at_call 30; ((with_reducible refine (get_to A zs c hb _ _ _ HR.out hm w hrd).mono ?_); rintro r w1 ⟨rfl, rfl⟩))
      go_ret3
      exact ⟨rfl, rfl⟩
    · rw [if_neg h]
      have HX := Lib.hid (xor_neg (n / 2) (by omega) (by omega))
      go_enter Try.func39, Try.ntmps39
      go_wp2_with (go_at_call 30; ((with_reducible refine (get_to A zs c hb _ _ _ HR.out hm w hrd).mono ?_); rintro r w1 ⟨rfl, rfl⟩))
      go_ret3
      exact ⟨ret_get2 HX.out rfl, rfl⟩
end Go.Proofs.Ytkmcmaickopobac.CLeb
