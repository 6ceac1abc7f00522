/- Contracts of the document's own answers of layer 6: getting. -/
import Derived.Test.YtikendjjolpnoaaLebForm
namespace Go.Proofs.Ytikendjjolpnoaa.CLeb
open Go Go.ChangeShapes Go.WideShapes Go.ChangeAt Go.RowKit
open LebNum
set_option linter.unusedVariables false

set_option maxHeartbeats 4000000 in
theorem refGet_lo (A : Option Addr) (zs : List Int) (c : Nat) (j : Nat) (hj : j < zs.length) (h9 : j ≤ 9) (hh : AllHi zs j) (z : Int) (hz : zs[j] = z) (hlo : z < 128) (h1 : j = 9 → z ≤ 1) (hb : Bytes zs)
    (n : Int) (k : Nat) (e : Int) (hr : LoR zs j z n k e) (hm : zs.length ≤ 9223372036854775807) {B : Nat} (w : World) (hrd : Kit.Rd w B A (zs.map (.int .u8))) :
    Calls Try.prog 36 #[.slice A zs.length c] w fun r w' => r = .returned (.tuple #[.int .u64 n, .int .i64 k, .int .i64 e]) ∧ w = w' := by
  have hz0 : 0 ≤ z := by rw [← hz]; exact (hb _ (List.getElem_mem hj)).1
  have htop := valD_top hj h9 (by rw [hz]; exact hz0) (by rw [hz]; exact h1)
  obtain ⟨b, off, rfl, hbB, hcz⟩ := hrd.ints hj
  rw [hz] at hcz
  have hcz0 : j = 0 → w.cell? ⟨b, off, none⟩ = some (.int .u8 z) := by rintro rfl; exact hcz
  have hcz9 : j = 9 → w.cell? ⟨b, off + 9, none⟩ = some (.int .u8 z) := by rintro rfl; exact hcz
  have H0 := Lib.hid hcz0
  have H9 := Lib.hid hcz9
  have HZ := Lib.hid hz
  have HR := Lib.hid hr
  clear hz hr hcz0 hcz9
  go_enter Try.func36, Try.ntmps36
  go_wp2
  go_loop [5, 6] (fun s i => ∃ (m : Nat) (E : Int), m ≤ 10 ∧ m ≤ zs.length ∧ i = .int .i64 m ∧ s = .int .i64 E ∧ ((m ≤ j ∧ E = -1) ∨ (j < m ∧ E = j))) (fun _ i => 10 - (intOf i).toNat)
  case atStart => exact ⟨0, -1, Nat.zero_le _, Nat.zero_le _, rfl, rfl, .inl ⟨Nat.zero_le _, rfl⟩⟩
  case round =>
    obtain ⟨m, E, hm10, hml, rfl, rfl, hE⟩ := hrel
    by_cases hlt : m < zs.length ∧ m < 10
    · obtain ⟨hlt, hlt10⟩ := hlt
      obtain ⟨b', off', hA, _, hcm⟩ := hrd.ints hlt
      cases hA
      rcases hE with ⟨hmj, rfl⟩ | ⟨hmj, rfl⟩
      · by_cases he : m = j
        · subst he
          clear hh hb hcm
          go_wp2
          go_round
          case rel => exact ⟨m + 1, _, by omega, by omega, by go_num, rfl, .inr ⟨by omega, rfl⟩⟩
          case measure => simp [intOf]; omega
        · obtain ⟨x, hx⟩ : ∃ x, zs[m] = x := ⟨_, rfl⟩
          have hx1 : 128 ≤ x := by rw [← hx]; exact hh m hlt (by omega)
          rw [hx] at hcm
          clear hx hh hb
          go_wp2
          go_round
          case rel => exact ⟨m + 1, _, by omega, by omega, by go_num, rfl, .inl ⟨by omega, rfl⟩⟩
          case measure => simp [intOf]; omega
      · clear hh hb hcm
        go_wp2
        go_round
        case rel => exact ⟨m + 1, _, by omega, by omega, by go_num, rfl, .inr ⟨by omega, rfl⟩⟩
        case measure => simp [intOf]; omega
    · have hE2 : j < m ∧ E = j := by omega
      obtain ⟨hjm, rfl⟩ := hE2
      clear hE
      have hout : (m = zs.length) ∨ (m < zs.length ∧ m = 10) := by omega
      have hres : (∃ _ : 0 < j, z = 0 ∧ n = 0 ∧ k = 0 ∧ e = 21) ∨ ((j = 0 ∨ (0 < j ∧ 1 ≤ z)) ∧ n = valD (zs.take (j + 1)) ∧ k = j + 1 ∧ e = 0) := by
        rcases HR.out with ⟨r1, r2, r3, r4, r5⟩ | ⟨r1, r3, r4, r5⟩
        · exact .inl ⟨r1, r2, r3, r4, r5⟩
        · refine .inr ⟨?_, r3, r4, r5⟩
          rcases Nat.eq_zero_or_pos j with h0 | h0
          · exact .inl h0
          · have := r1 h0; exact .inr ⟨h0, by omega⟩
      clear HR hh
      have hge : (10 : Int) ≤ zs.length ∨ j < 9 := by omega
      rcases hres with ⟨r1, rfl, rfl, rfl, rfl⟩ | ⟨r1, rfl, rfl, rfl⟩
      · clear hb
        by_cases e9 : j = 9
        · subst e9
          rcases hout with ho | ⟨ho, rfl⟩
          · subst ho
            go_wp2
            go_ret3
            exact ⟨rfl, rfl⟩
          · go_wp2
            go_ret3
            exact ⟨rfl, rfl⟩
        · rcases hout with ho | ⟨ho, rfl⟩
          · subst ho
            go_wp2
            go_ret3
            exact ⟨rfl, rfl⟩
          · go_wp2
            go_ret3
            exact ⟨rfl, rfl⟩
      · have HB := Lib.hid hb
        have HTOP := Lib.hid htop
        have HZ1 := Lib.hid h1
        clear hb htop h1 HZ
        have hsplit : (j ≤ 0 ∧ Hid (j = 0)) ∨ (0 < j ∧ 1 ≤ z ∧ ((j : Int) == 9) = true ∧ 9 < zs.length ∧ z ≤ 1 ∧ w.cell? ⟨b, off + 9, none⟩ = some (.int .u8 z)) ∨ (0 < j ∧ 1 ≤ z ∧ ((j : Int) == 9) = false) := by
          rcases r1 with r0 | ⟨r0, r1⟩
          · exact .inl ⟨by omega, Lib.hid r0⟩
          · by_cases e9 : j = 9
            · exact .inr (.inl ⟨r0, r1, by rw [e9]; rfl, by omega, HZ1.out e9, H9.out e9⟩)
            · refine .inr (.inr ⟨r0, r1, ?_⟩)
              simp; omega
        have hjI : (j : Int) ≤ 9 := by omega
        clear r1
        rcases hout with ho | ⟨ho, rfl⟩
        all_goals
          try subst ho
          rcases hsplit with ⟨r0, hj0⟩ | ⟨r0, r1, r2, r3, r4, r5⟩ | ⟨r0, r1, r2⟩
          all_goals
            go_wp2
            go_loop [7, 8] (fun a i => (∃ (s : Nat) (N : Int), s ≤ j ∧ i = .int .i64 s ∧ a = .int .u64 N ∧ Hid (N = valD ((zs.take (j + 1)).drop (s + 1)))) ∨ (i = .int .i64 (-1) ∧ a = .int .u64 (valD (zs.take (j + 1))))) (fun _ i => (intOf i + 1).toNat)
            case atStart => exact .inl ⟨j, 0, Nat.le_refl _, rfl, rfl, Lib.hid (by rw [List.drop_eq_nil_of_le (by simp; omega)]; rfl)⟩
            case round =>
              rcases hrel with ⟨s, N, hs, rfl, rfl, hN⟩ | ⟨rfl, rfl⟩
              · have hsl : s < zs.length := by omega
                obtain ⟨b', off', hA, _, hcm⟩ := hrd.ints hsl
                cases hA
                obtain ⟨x, hx⟩ : ∃ x, zs[s] = x := ⟨_, rfl⟩
                have hx0 : 0 ≤ x := by rw [← hx]; exact (HB.out _ (List.getElem_mem hsl)).1
                have hx2 : x < 256 := by rw [← hx]; exact (HB.out _ (List.getElem_mem hsl)).2
                have hd := valD_drop (zs := zs) (i := s) (m := j + 1) (by omega) (by omega)
                rw [hx, ← hN.out] at hd
                have hle := valD_drop_le zs s (j + 1)
                have hN0 : 0 ≤ N := by rw [hN.out]; exact valD_nonneg _
                have hsum : N * 128 + x % 128 ≤ 18446744073709551615 := by have := HTOP.out; omega
                have HD : Hid (N * 128 + x % 128 = valD ((zs.take (j + 1)).drop s)) := Lib.hid (by omega)
                rw [hx] at hcm
                clear hd hle hx
                by_cases h0 : s = 0
                · have hcm0 : w.cell? ⟨b, off, none⟩ = some (.int .u8 x) := by subst h0; exact hcm
                  have HD0 : Hid (N * 128 + x % 128 = valD (zs.take (j + 1))) := Lib.hid (by have := HD.out; rw [h0] at this; exact this)
                  subst h0
                  clear hcm HD hN
                  go_wp2
                  go_round
                  case rel => exact .inr ⟨by go_num, by rw [HD0.out]⟩
                  case measure => simp [intOf]
                · have hs1 : 1 ≤ s := by omega
                  go_wp2
                  go_round
                  case rel => exact .inl ⟨s - 1, _, by omega, by go_num, rfl, Lib.hid (by have := HD.out; rw [show s - 1 + 1 = s by omega]; exact this)⟩
                  case measure => (first | (simp [intOf]; done) | (simp [intOf]; omega))
              · go_wp2
                go_ret3
                exact ⟨rfl, rfl⟩
end Go.Proofs.Ytikendjjolpnoaa.CLeb
