/- Layer 14 (four): the document's sums and products. -/
import Derived.Test.YtdohcmjpaepmlaaFourTurn
import Derived.Test.YtdohcmjpaepmlaaFourParts0
namespace Go.Proofs.Ytdohcmjpaepmlaa.CFour
open Go Go.ChangeShapes Go.WideShapes Go.ChangeAt Go.RowKit
open FloatNum
set_option linter.unusedVariables false

theorem gmul_down (p : G) (n : Nat) {X Y : Int} (h : gmul p (upow (-1) n) = (X, Y)) : gmul p (upow (-1) (n + 1)) = (Y, -X) := by
  have h1 : (gmul p (upow (-1) n)).1 = X := by rw [h]
  have h2 : (gmul p (upow (-1) n)).2 = Y := by rw [h]
  subst h1 h2
  unfold gmul
  simp only [upow]
  apply Prod.ext
  · show p.1 * -(-1 * (upow (-1) n).2) - p.2 * (-1 * (upow (-1) n).1) = _
    rw [Int.neg_mul, Int.one_mul, Int.neg_neg, Int.neg_mul, Int.one_mul, Int.mul_neg, Int.sub_neg]
  · show p.1 * (-1 * (upow (-1) n).1) + p.2 * -(-1 * (upow (-1) n).2) = _
    rw [Int.neg_mul, Int.one_mul, Int.neg_mul, Int.one_mul, Int.neg_neg, Int.mul_neg]
    show _ = -(p.1 * (upow (-1) n).1 - p.2 * (upow (-1) n).2)
    omega

set_option maxHeartbeats 8000000 in
theorem refParts_to (a b c d : Int) (ha : In16 a) (hb : In16 b) (hc : In16 c) (hd : In16 d) (k : Nat) (hk : k < 4) (w : World) :
    Calls Try.prog 7 #[.agg #[.int .i16 a, .int .i16 b, .int .i16 c, .int .i16 d], .int .i64 k] w fun e' w' => e' = .returned (.tuple #[.int .i64 (reF a b c d k), .int .i64 (imF a b c d k)]) ∧ Below w.heap.size w w' := by
  have HP := Lib.hid (lp_bd ha hb hc hd)
  unfold In16 at ha hb hc hd
  obtain ⟨a1, a2⟩ := ha
  obtain ⟨b1, b2⟩ := hb
  obtain ⟨c1, c2⟩ := hc
  obtain ⟨d1, d2⟩ := hd
  obtain ⟨RF, hRF⟩ : ∃ f, reF a b c d = f := ⟨_, rfl⟩
  obtain ⟨IF, hIF⟩ : ∃ f, imF a b c d = f := ⟨_, rfl⟩
  rw [hRF, hIF]
  have HRF := Lib.hid hRF
  have HIF := Lib.hid hIF
  clear hRF hIF
  obtain rfl | rfl | rfl | rfl := lt4 hk
  all_goals clear hk
  · go_enter Try.func7, Try.ntmps7
    go_wp2_with fail
    go_loop [6, 7, 8] (fun r i j => ∃ (m : Nat) (R I : Int), m ≤ 4 ∧ j = .int .i64 m ∧ r = .int .i64 R ∧ i = .int .i64 I ∧ Hid (gpart (lp a b c d) (-1) 0 m = (R, I))) (fun _ _ j => 4 - (intOf j).toNat)
    case atStart => exact ⟨0, 0, 0, by omega, rfl, rfl, rfl, Lib.hid rfl⟩
    case round =>
      obtain ⟨m, R, I, hm, rfl, rfl, rfl, hg⟩ := hrel
      have hbd := gpart_bd (.inr rfl) HP.out 0 m
      rw [hg.out] at hbd
      have r1 : -131072 ≤ R ∧ R ≤ 131072 := by
        have := hbd.1
        simp only at this
        have : m * 32768 ≤ 131072 := Nat.mul_le_mul_right 32768 hm
        omega
      have r2 : -131072 ≤ I ∧ I ≤ 131072 := by
        have := hbd.2
        simp only at this
        have : m * 32768 ≤ 131072 := Nat.mul_le_mul_right 32768 hm
        omega
      obtain ⟨r3, r4⟩ := r1
      obtain ⟨r5, r6⟩ := r2
      clear hbd
      by_cases hlt : m < 4
      · obtain rfl | rfl | rfl | rfl := lt4 hlt
        all_goals clear hlt hm
        · go_wp2
          go_loop [9, 10, 11] (fun x y q => ∃ (n : Nat) (X Y : Int), n ≤ 0 ∧ q = .int .i64 n ∧ x = .int .i64 X ∧ y = .int .i64 Y ∧ Hid (gmul (lp a b c d 0) (upow (-1) n) = (X, Y))) (fun _ _ q => 0 - (intOf q).toNat)
          case atStart => exact ⟨0, a, 0, by omega, rfl, rfl, rfl, Lib.hid (by simp [lp, l4, gmul, upow])⟩
          case round =>
            obtain ⟨n, X, Y, hn, rfl, rfl, rfl, hq⟩ := hrel
            have hbd := (HP.out 0).turn (upow_u (.inr rfl) n)
            rw [hq.out] at hbd
            have x1 : -32768 ≤ X ∧ X ≤ 32768 := by
              have := hbd.1
              simp only at this
              omega
            have x2 : -32768 ≤ Y ∧ Y ≤ 32768 := by
              have := hbd.2
              simp only at this
              omega
            obtain ⟨x3, x4⟩ := x1
            obtain ⟨x5, x6⟩ := x2
            clear hbd
            by_cases hln : n < 0
            · exact absurd hln (by omega)
            · have hne : n = 0 := by omega
              subst hne
              have hg2 : Hid (gpart (lp a b c d) (-1) 0 (0 + 1) = (R + X, I + Y)) := Lib.hid (by
                show gadd (gpart (lp a b c d) (-1) 0 0) (gmul (lp a b c d 0) (upow (-1) (0 * 0))) = _
                rw [hg.out]
                have e := hq.out
                rw [show (0 * 0 : Nat) = 0 by decide, e]
                rfl)
              clear hln hn
              go_wp2
              go_round
              case rel => first | exact ⟨0 + 1, R + X, I + Y, by omega, by go_num, by go_num, by go_num, hg2⟩ | exact ⟨_, _, _, ⟨0 + 1, by omega, by go_num, R + X, by go_num, I + Y, by go_num, hg2⟩, rfl, rfl, rfl⟩
              case measure => simp [intOf]
        · go_wp2
          go_loop [9, 10, 11] (fun x y q => ∃ (n : Nat) (X Y : Int), n ≤ 0 ∧ q = .int .i64 n ∧ x = .int .i64 X ∧ y = .int .i64 Y ∧ Hid (gmul (lp a b c d 1) (upow (-1) n) = (X, Y))) (fun _ _ q => 0 - (intOf q).toNat)
          case atStart => exact ⟨0, b, 0, by omega, rfl, rfl, rfl, Lib.hid (by simp [lp, l4, gmul, upow])⟩
          case round =>
            obtain ⟨n, X, Y, hn, rfl, rfl, rfl, hq⟩ := hrel
            have hbd := (HP.out 1).turn (upow_u (.inr rfl) n)
            rw [hq.out] at hbd
            have x1 : -32768 ≤ X ∧ X ≤ 32768 := by
              have := hbd.1
              simp only at this
              omega
            have x2 : -32768 ≤ Y ∧ Y ≤ 32768 := by
              have := hbd.2
              simp only at this
              omega
            obtain ⟨x3, x4⟩ := x1
            obtain ⟨x5, x6⟩ := x2
            clear hbd
            by_cases hln : n < 0
            · exact absurd hln (by omega)
            · have hne : n = 0 := by omega
              subst hne
              have hg2 : Hid (gpart (lp a b c d) (-1) 0 (1 + 1) = (R + X, I + Y)) := Lib.hid (by
                show gadd (gpart (lp a b c d) (-1) 0 1) (gmul (lp a b c d 1) (upow (-1) (0 * 1))) = _
                rw [hg.out]
                have e := hq.out
                rw [show (0 * 1 : Nat) = 0 by decide, e]
                rfl)
              clear hln hn
              go_wp2
              go_round
              case rel => first | exact ⟨1 + 1, R + X, I + Y, by omega, by go_num, by go_num, by go_num, hg2⟩ | exact ⟨_, _, _, ⟨1 + 1, by omega, by go_num, R + X, by go_num, I + Y, by go_num, hg2⟩, rfl, rfl, rfl⟩
              case measure => simp [intOf]
        · go_wp2
          go_loop [9, 10, 11] (fun x y q => ∃ (n : Nat) (X Y : Int), n ≤ 0 ∧ q = .int .i64 n ∧ x = .int .i64 X ∧ y = .int .i64 Y ∧ Hid (gmul (lp a b c d 2) (upow (-1) n) = (X, Y))) (fun _ _ q => 0 - (intOf q).toNat)
          case atStart => exact ⟨0, c, 0, by omega, rfl, rfl, rfl, Lib.hid (by simp [lp, l4, gmul, upow])⟩
          case round =>
            obtain ⟨n, X, Y, hn, rfl, rfl, rfl, hq⟩ := hrel
            have hbd := (HP.out 2).turn (upow_u (.inr rfl) n)
            rw [hq.out] at hbd
            have x1 : -32768 ≤ X ∧ X ≤ 32768 := by
              have := hbd.1
              simp only at this
              omega
            have x2 : -32768 ≤ Y ∧ Y ≤ 32768 := by
              have := hbd.2
              simp only at this
              omega
            obtain ⟨x3, x4⟩ := x1
            obtain ⟨x5, x6⟩ := x2
            clear hbd
            by_cases hln : n < 0
            · exact absurd hln (by omega)
            · have hne : n = 0 := by omega
              subst hne
              have hg2 : Hid (gpart (lp a b c d) (-1) 0 (2 + 1) = (R + X, I + Y)) := Lib.hid (by
                show gadd (gpart (lp a b c d) (-1) 0 2) (gmul (lp a b c d 2) (upow (-1) (0 * 2))) = _
                rw [hg.out]
                have e := hq.out
                rw [show (0 * 2 : Nat) = 0 by decide, e]
                rfl)
              clear hln hn
              go_wp2
              go_round
              case rel => first | exact ⟨2 + 1, R + X, I + Y, by omega, by go_num, by go_num, by go_num, hg2⟩ | exact ⟨_, _, _, ⟨2 + 1, by omega, by go_num, R + X, by go_num, I + Y, by go_num, hg2⟩, rfl, rfl, rfl⟩
              case measure => simp [intOf]
        · go_wp2
          go_loop [9, 10, 11] (fun x y q => ∃ (n : Nat) (X Y : Int), n ≤ 0 ∧ q = .int .i64 n ∧ x = .int .i64 X ∧ y = .int .i64 Y ∧ Hid (gmul (lp a b c d 3) (upow (-1) n) = (X, Y))) (fun _ _ q => 0 - (intOf q).toNat)
          case atStart => exact ⟨0, d, 0, by omega, rfl, rfl, rfl, Lib.hid (by simp [lp, l4, gmul, upow])⟩
          case round =>
            obtain ⟨n, X, Y, hn, rfl, rfl, rfl, hq⟩ := hrel
            have hbd := (HP.out 3).turn (upow_u (.inr rfl) n)
            rw [hq.out] at hbd
            have x1 : -32768 ≤ X ∧ X ≤ 32768 := by
              have := hbd.1
              simp only at this
              omega
            have x2 : -32768 ≤ Y ∧ Y ≤ 32768 := by
              have := hbd.2
              simp only at this
              omega
            obtain ⟨x3, x4⟩ := x1
            obtain ⟨x5, x6⟩ := x2
            clear hbd
            by_cases hln : n < 0
            · exact absurd hln (by omega)
            · have hne : n = 0 := by omega
              subst hne
              have hg2 : Hid (gpart (lp a b c d) (-1) 0 (3 + 1) = (R + X, I + Y)) := Lib.hid (by
                show gadd (gpart (lp a b c d) (-1) 0 3) (gmul (lp a b c d 3) (upow (-1) (0 * 3))) = _
                rw [hg.out]
                have e := hq.out
                rw [show (0 * 3 : Nat) = 0 by decide, e]
                rfl)
              clear hln hn
              go_wp2
              go_round
              case rel => first | exact ⟨3 + 1, R + X, I + Y, by omega, by go_num, by go_num, by go_num, hg2⟩ | exact ⟨_, _, _, ⟨3 + 1, by omega, by go_num, R + X, by go_num, I + Y, by go_num, hg2⟩, rfl, rfl, rfl⟩
              case measure => simp [intOf]
      · have hm4 : m = 4 := by omega
        subst hm4
        have e1 : RF 0 = R := by rw [← HRF.out]; unfold reF; rw [hg.out]
        have e2 : IF 0 = I := by rw [← HIF.out]; unfold imF; rw [hg.out]
        have E1 := Lib.hid e1
        have E2 := Lib.hid e2
        clear hlt hm e1 e2
        go_wp2
        go_ret2
        refine ⟨?_, by go_grown⟩
        rw [E1.out, E2.out]; rfl
  · go_enter Try.func7, Try.ntmps7
    go_wp2_with fail
    go_loop [6, 7, 8] (fun r i j => ∃ (m : Nat) (R I : Int), m ≤ 4 ∧ j = .int .i64 m ∧ r = .int .i64 R ∧ i = .int .i64 I ∧ Hid (gpart (lp a b c d) (-1) 1 m = (R, I))) (fun _ _ j => 4 - (intOf j).toNat)
    case atStart => exact ⟨0, 0, 0, by omega, rfl, rfl, rfl, Lib.hid rfl⟩
    case round =>
      obtain ⟨m, R, I, hm, rfl, rfl, rfl, hg⟩ := hrel
      have hbd := gpart_bd (.inr rfl) HP.out 1 m
      rw [hg.out] at hbd
      have r1 : -131072 ≤ R ∧ R ≤ 131072 := by
        have := hbd.1
        simp only at this
        have : m * 32768 ≤ 131072 := Nat.mul_le_mul_right 32768 hm
        omega
      have r2 : -131072 ≤ I ∧ I ≤ 131072 := by
        have := hbd.2
        simp only at this
        have : m * 32768 ≤ 131072 := Nat.mul_le_mul_right 32768 hm
        omega
      obtain ⟨r3, r4⟩ := r1
      obtain ⟨r5, r6⟩ := r2
      clear hbd
      by_cases hlt : m < 4
      · obtain rfl | rfl | rfl | rfl := lt4 hlt
        all_goals clear hlt hm
        · go_wp2
          go_loop [9, 10, 11] (fun x y q => ∃ (n : Nat) (X Y : Int), n ≤ 0 ∧ q = .int .i64 n ∧ x = .int .i64 X ∧ y = .int .i64 Y ∧ Hid (gmul (lp a b c d 0) (upow (-1) n) = (X, Y))) (fun _ _ q => 0 - (intOf q).toNat)
          case atStart => exact ⟨0, a, 0, by omega, rfl, rfl, rfl, Lib.hid (by simp [lp, l4, gmul, upow])⟩
          case round =>
            obtain ⟨n, X, Y, hn, rfl, rfl, rfl, hq⟩ := hrel
            have hbd := (HP.out 0).turn (upow_u (.inr rfl) n)
            rw [hq.out] at hbd
            have x1 : -32768 ≤ X ∧ X ≤ 32768 := by
              have := hbd.1
              simp only at this
              omega
            have x2 : -32768 ≤ Y ∧ Y ≤ 32768 := by
              have := hbd.2
              simp only at this
              omega
            obtain ⟨x3, x4⟩ := x1
            obtain ⟨x5, x6⟩ := x2
            clear hbd
            by_cases hln : n < 0
            · exact absurd hln (by omega)
            · have hne : n = 0 := by omega
              subst hne
              have hg2 : Hid (gpart (lp a b c d) (-1) 1 (0 + 1) = (R + X, I + Y)) := Lib.hid (by
                show gadd (gpart (lp a b c d) (-1) 1 0) (gmul (lp a b c d 0) (upow (-1) (1 * 0))) = _
                rw [hg.out]
                have e := hq.out
                rw [show (1 * 0 : Nat) = 0 by decide, e]
                rfl)
              clear hln hn
              go_wp2
              go_round
              case rel => first | exact ⟨0 + 1, R + X, I + Y, by omega, by go_num, by go_num, by go_num, hg2⟩ | exact ⟨_, _, _, ⟨0 + 1, by omega, by go_num, R + X, by go_num, I + Y, by go_num, hg2⟩, rfl, rfl, rfl⟩
              case measure => simp [intOf]
        · go_wp2
          go_loop [9, 10, 11] (fun x y q => ∃ (n : Nat) (X Y : Int), n ≤ 1 ∧ q = .int .i64 n ∧ x = .int .i64 X ∧ y = .int .i64 Y ∧ Hid (gmul (lp a b c d 1) (upow (-1) n) = (X, Y))) (fun _ _ q => 1 - (intOf q).toNat)
          case atStart => exact ⟨0, b, 0, by omega, rfl, rfl, rfl, Lib.hid (by simp [lp, l4, gmul, upow])⟩
          case round =>
            obtain ⟨n, X, Y, hn, rfl, rfl, rfl, hq⟩ := hrel
            have hbd := (HP.out 1).turn (upow_u (.inr rfl) n)
            rw [hq.out] at hbd
            have x1 : -32768 ≤ X ∧ X ≤ 32768 := by
              have := hbd.1
              simp only at this
              omega
            have x2 : -32768 ≤ Y ∧ Y ≤ 32768 := by
              have := hbd.2
              simp only at this
              omega
            obtain ⟨x3, x4⟩ := x1
            obtain ⟨x5, x6⟩ := x2
            clear hbd
            by_cases hln : n < 1
            · have hq2 := Lib.hid (gmul_down _ _ hq.out)
              go_wp2
              go_round
              case rel => exact ⟨n + 1, Y, -X, by omega, by go_num, by go_num, by go_num, hq2⟩
              case measure => simp [intOf]; omega
            · have hne : n = 1 := by omega
              subst hne
              have hg2 : Hid (gpart (lp a b c d) (-1) 1 (1 + 1) = (R + X, I + Y)) := Lib.hid (by
                show gadd (gpart (lp a b c d) (-1) 1 1) (gmul (lp a b c d 1) (upow (-1) (1 * 1))) = _
                rw [hg.out]
                have e := hq.out
                rw [show (1 * 1 : Nat) = 1 by decide, e]
                rfl)
              clear hln hn
              go_wp2
              go_round
              case rel => first | exact ⟨1 + 1, R + X, I + Y, by omega, by go_num, by go_num, by go_num, hg2⟩ | exact ⟨_, _, _, ⟨1 + 1, by omega, by go_num, R + X, by go_num, I + Y, by go_num, hg2⟩, rfl, rfl, rfl⟩
              case measure => simp [intOf]
        · go_wp2
          go_loop [9, 10, 11] (fun x y q => ∃ (n : Nat) (X Y : Int), n ≤ 2 ∧ q = .int .i64 n ∧ x = .int .i64 X ∧ y = .int .i64 Y ∧ Hid (gmul (lp a b c d 2) (upow (-1) n) = (X, Y))) (fun _ _ q => 2 - (intOf q).toNat)
          case atStart => exact ⟨0, c, 0, by omega, rfl, rfl, rfl, Lib.hid (by simp [lp, l4, gmul, upow])⟩
          case round =>
            obtain ⟨n, X, Y, hn, rfl, rfl, rfl, hq⟩ := hrel
            have hbd := (HP.out 2).turn (upow_u (.inr rfl) n)
            rw [hq.out] at hbd
            have x1 : -32768 ≤ X ∧ X ≤ 32768 := by
              have := hbd.1
              simp only at this
              omega
            have x2 : -32768 ≤ Y ∧ Y ≤ 32768 := by
              have := hbd.2
              simp only at this
              omega
            obtain ⟨x3, x4⟩ := x1
            obtain ⟨x5, x6⟩ := x2
            clear hbd
            by_cases hln : n < 2
            · have hq2 := Lib.hid (gmul_down _ _ hq.out)
              go_wp2
              go_round
              case rel => exact ⟨n + 1, Y, -X, by omega, by go_num, by go_num, by go_num, hq2⟩
              case measure => simp [intOf]; omega
            · have hne : n = 2 := by omega
              subst hne
              have hg2 : Hid (gpart (lp a b c d) (-1) 1 (2 + 1) = (R + X, I + Y)) := Lib.hid (by
                show gadd (gpart (lp a b c d) (-1) 1 2) (gmul (lp a b c d 2) (upow (-1) (1 * 2))) = _
                rw [hg.out]
                have e := hq.out
                rw [show (1 * 2 : Nat) = 2 by decide, e]
                rfl)
              clear hln hn
              go_wp2
              go_round
              case rel => first | exact ⟨2 + 1, R + X, I + Y, by omega, by go_num, by go_num, by go_num, hg2⟩ | exact ⟨_, _, _, ⟨2 + 1, by omega, by go_num, R + X, by go_num, I + Y, by go_num, hg2⟩, rfl, rfl, rfl⟩
              case measure => simp [intOf]
        · go_wp2
          go_loop [9, 10, 11] (fun x y q => ∃ (n : Nat) (X Y : Int), n ≤ 3 ∧ q = .int .i64 n ∧ x = .int .i64 X ∧ y = .int .i64 Y ∧ Hid (gmul (lp a b c d 3) (upow (-1) n) = (X, Y))) (fun _ _ q => 3 - (intOf q).toNat)
          case atStart => exact ⟨0, d, 0, by omega, rfl, rfl, rfl, Lib.hid (by simp [lp, l4, gmul, upow])⟩
          case round =>
            obtain ⟨n, X, Y, hn, rfl, rfl, rfl, hq⟩ := hrel
            have hbd := (HP.out 3).turn (upow_u (.inr rfl) n)
            rw [hq.out] at hbd
            have x1 : -32768 ≤ X ∧ X ≤ 32768 := by
              have := hbd.1
              simp only at this
              omega
            have x2 : -32768 ≤ Y ∧ Y ≤ 32768 := by
              have := hbd.2
              simp only at this
              omega
            obtain ⟨x3, x4⟩ := x1
            obtain ⟨x5, x6⟩ := x2
            clear hbd
            by_cases hln : n < 3
            · have hq2 := Lib.hid (gmul_down _ _ hq.out)
              go_wp2
              go_round
              case rel => exact ⟨n + 1, Y, -X, by omega, by go_num, by go_num, by go_num, hq2⟩
              case measure => simp [intOf]; omega
            · have hne : n = 3 := by omega
              subst hne
              have hg2 : Hid (gpart (lp a b c d) (-1) 1 (3 + 1) = (R + X, I + Y)) := Lib.hid (by
                show gadd (gpart (lp a b c d) (-1) 1 3) (gmul (lp a b c d 3) (upow (-1) (1 * 3))) = _
                rw [hg.out]
                have e := hq.out
                rw [show (1 * 3 : Nat) = 3 by decide, e]
                rfl)
              clear hln hn
              go_wp2
              go_round
              case rel => first | exact ⟨3 + 1, R + X, I + Y, by omega, by go_num, by go_num, by go_num, hg2⟩ | exact ⟨_, _, _, ⟨3 + 1, by omega, by go_num, R + X, by go_num, I + Y, by go_num, hg2⟩, rfl, rfl, rfl⟩
              case measure => simp [intOf]
      · have hm4 : m = 4 := by omega
        subst hm4
        have e1 : RF 1 = R := by rw [← HRF.out]; unfold reF; rw [hg.out]
        have e2 : IF 1 = I := by rw [← HIF.out]; unfold imF; rw [hg.out]
        have E1 := Lib.hid e1
        have E2 := Lib.hid e2
        clear hlt hm e1 e2
        go_wp2
        go_ret2
        refine ⟨?_, by go_grown⟩
        rw [E1.out, E2.out]; rfl
  · go_enter Try.func7, Try.ntmps7
    go_wp2_with fail
    go_loop [6, 7, 8] (fun r i j => ∃ (m : Nat) (R I : Int), m ≤ 4 ∧ j = .int .i64 m ∧ r = .int .i64 R ∧ i = .int .i64 I ∧ Hid (gpart (lp a b c d) (-1) 2 m = (R, I))) (fun _ _ j => 4 - (intOf j).toNat)
    case atStart => exact ⟨0, 0, 0, by omega, rfl, rfl, rfl, Lib.hid rfl⟩
    case round =>
      obtain ⟨m, R, I, hm, rfl, rfl, rfl, hg⟩ := hrel
      have hbd := gpart_bd (.inr rfl) HP.out 2 m
      rw [hg.out] at hbd
      have r1 : -131072 ≤ R ∧ R ≤ 131072 := by
        have := hbd.1
        simp only at this
        have : m * 32768 ≤ 131072 := Nat.mul_le_mul_right 32768 hm
        omega
      have r2 : -131072 ≤ I ∧ I ≤ 131072 := by
        have := hbd.2
        simp only at this
        have : m * 32768 ≤ 131072 := Nat.mul_le_mul_right 32768 hm
        omega
      obtain ⟨r3, r4⟩ := r1
      obtain ⟨r5, r6⟩ := r2
      clear hbd
      by_cases hlt : m < 4
      · obtain rfl | rfl | rfl | rfl := lt4 hlt
        all_goals clear hlt hm
        · go_wp2
          go_loop [9, 10, 11] (fun x y q => ∃ (n : Nat) (X Y : Int), n ≤ 0 ∧ q = .int .i64 n ∧ x = .int .i64 X ∧ y = .int .i64 Y ∧ Hid (gmul (lp a b c d 0) (upow (-1) n) = (X, Y))) (fun _ _ q => 0 - (intOf q).toNat)
          case atStart => exact ⟨0, a, 0, by omega, rfl, rfl, rfl, Lib.hid (by simp [lp, l4, gmul, upow])⟩
          case round =>
            obtain ⟨n, X, Y, hn, rfl, rfl, rfl, hq⟩ := hrel
            have hbd := (HP.out 0).turn (upow_u (.inr rfl) n)
            rw [hq.out] at hbd
            have x1 : -32768 ≤ X ∧ X ≤ 32768 := by
              have := hbd.1
              simp only at this
              omega
            have x2 : -32768 ≤ Y ∧ Y ≤ 32768 := by
              have := hbd.2
              simp only at this
              omega
            obtain ⟨x3, x4⟩ := x1
            obtain ⟨x5, x6⟩ := x2
            clear hbd
            by_cases hln : n < 0
            · exact absurd hln (by omega)
            · have hne : n = 0 := by omega
              subst hne
              have hg2 : Hid (gpart (lp a b c d) (-1) 2 (0 + 1) = (R + X, I + Y)) := Lib.hid (by
                show gadd (gpart (lp a b c d) (-1) 2 0) (gmul (lp a b c d 0) (upow (-1) (2 * 0))) = _
                rw [hg.out]
                have e := hq.out
                rw [show (2 * 0 : Nat) = 0 by decide, e]
                rfl)
              clear hln hn
              go_wp2
              go_round
              case rel => first | exact ⟨0 + 1, R + X, I + Y, by omega, by go_num, by go_num, by go_num, hg2⟩ | exact ⟨_, _, _, ⟨0 + 1, by omega, by go_num, R + X, by go_num, I + Y, by go_num, hg2⟩, rfl, rfl, rfl⟩
              case measure => simp [intOf]
        · go_wp2
          go_loop [9, 10, 11] (fun x y q => ∃ (n : Nat) (X Y : Int), n ≤ 2 ∧ q = .int .i64 n ∧ x = .int .i64 X ∧ y = .int .i64 Y ∧ Hid (gmul (lp a b c d 1) (upow (-1) n) = (X, Y))) (fun _ _ q => 2 - (intOf q).toNat)
          case atStart => exact ⟨0, b, 0, by omega, rfl, rfl, rfl, Lib.hid (by simp [lp, l4, gmul, upow])⟩
          case round =>
            obtain ⟨n, X, Y, hn, rfl, rfl, rfl, hq⟩ := hrel
            have hbd := (HP.out 1).turn (upow_u (.inr rfl) n)
            rw [hq.out] at hbd
            have x1 : -32768 ≤ X ∧ X ≤ 32768 := by
              have := hbd.1
              simp only at this
              omega
            have x2 : -32768 ≤ Y ∧ Y ≤ 32768 := by
              have := hbd.2
              simp only at this
              omega
            obtain ⟨x3, x4⟩ := x1
            obtain ⟨x5, x6⟩ := x2
            clear hbd
            by_cases hln : n < 2
            · have hq2 := Lib.hid (gmul_down _ _ hq.out)
              go_wp2
              go_round
              case rel => exact ⟨n + 1, Y, -X, by omega, by go_num, by go_num, by go_num, hq2⟩
              case measure => simp [intOf]; omega
            · have hne : n = 2 := by omega
              subst hne
              have hg2 : Hid (gpart (lp a b c d) (-1) 2 (1 + 1) = (R + X, I + Y)) := Lib.hid (by
                show gadd (gpart (lp a b c d) (-1) 2 1) (gmul (lp a b c d 1) (upow (-1) (2 * 1))) = _
                rw [hg.out]
                have e := hq.out
                rw [show (2 * 1 : Nat) = 2 by decide, e]
                rfl)
              clear hln hn
              go_wp2
              go_round
              case rel => first | exact ⟨1 + 1, R + X, I + Y, by omega, by go_num, by go_num, by go_num, hg2⟩ | exact ⟨_, _, _, ⟨1 + 1, by omega, by go_num, R + X, by go_num, I + Y, by go_num, hg2⟩, rfl, rfl, rfl⟩
              case measure => simp [intOf]
        · go_wp2
          go_loop [9, 10, 11] (fun x y q => ∃ (n : Nat) (X Y : Int), n ≤ 4 ∧ q = .int .i64 n ∧ x = .int .i64 X ∧ y = .int .i64 Y ∧ Hid (gmul (lp a b c d 2) (upow (-1) n) = (X, Y))) (fun _ _ q => 4 - (intOf q).toNat)
          case atStart => exact ⟨0, c, 0, by omega, rfl, rfl, rfl, Lib.hid (by simp [lp, l4, gmul, upow])⟩
          case round =>
            obtain ⟨n, X, Y, hn, rfl, rfl, rfl, hq⟩ := hrel
            have hbd := (HP.out 2).turn (upow_u (.inr rfl) n)
            rw [hq.out] at hbd
            have x1 : -32768 ≤ X ∧ X ≤ 32768 := by
              have := hbd.1
              simp only at this
              omega
            have x2 : -32768 ≤ Y ∧ Y ≤ 32768 := by
              have := hbd.2
              simp only at this
              omega
            obtain ⟨x3, x4⟩ := x1
            obtain ⟨x5, x6⟩ := x2
            clear hbd
            by_cases hln : n < 4
            · have hq2 := Lib.hid (gmul_down _ _ hq.out)
              go_wp2
              go_round
              case rel => exact ⟨n + 1, Y, -X, by omega, by go_num, by go_num, by go_num, hq2⟩
              case measure => simp [intOf]; omega
            · have hne : n = 4 := by omega
              subst hne
              have hg2 : Hid (gpart (lp a b c d) (-1) 2 (2 + 1) = (R + X, I + Y)) := Lib.hid (by
                show gadd (gpart (lp a b c d) (-1) 2 2) (gmul (lp a b c d 2) (upow (-1) (2 * 2))) = _
                rw [hg.out]
                have e := hq.out
                rw [show (2 * 2 : Nat) = 4 by decide, e]
                rfl)
              clear hln hn
              go_wp2
              go_round
              case rel => first | exact ⟨2 + 1, R + X, I + Y, by omega, by go_num, by go_num, by go_num, hg2⟩ | exact ⟨_, _, _, ⟨2 + 1, by omega, by go_num, R + X, by go_num, I + Y, by go_num, hg2⟩, rfl, rfl, rfl⟩
              case measure => simp [intOf]
        · go_wp2
          go_loop [9, 10, 11] (fun x y q => ∃ (n : Nat) (X Y : Int), n ≤ 6 ∧ q = .int .i64 n ∧ x = .int .i64 X ∧ y = .int .i64 Y ∧ Hid (gmul (lp a b c d 3) (upow (-1) n) = (X, Y))) (fun _ _ q => 6 - (intOf q).toNat)
          case atStart => exact ⟨0, d, 0, by omega, rfl, rfl, rfl, Lib.hid (by simp [lp, l4, gmul, upow])⟩
          case round =>
            obtain ⟨n, X, Y, hn, rfl, rfl, rfl, hq⟩ := hrel
            have hbd := (HP.out 3).turn (upow_u (.inr rfl) n)
            rw [hq.out] at hbd
            have x1 : -32768 ≤ X ∧ X ≤ 32768 := by
              have := hbd.1
              simp only at this
              omega
            have x2 : -32768 ≤ Y ∧ Y ≤ 32768 := by
              have := hbd.2
              simp only at this
              omega
            obtain ⟨x3, x4⟩ := x1
            obtain ⟨x5, x6⟩ := x2
            clear hbd
            by_cases hln : n < 6
            · have hq2 := Lib.hid (gmul_down _ _ hq.out)
              go_wp2
              go_round
              case rel => exact ⟨n + 1, Y, -X, by omega, by go_num, by go_num, by go_num, hq2⟩
              case measure => simp [intOf]; omega
            · have hne : n = 6 := by omega
              subst hne
              have hg2 : Hid (gpart (lp a b c d) (-1) 2 (3 + 1) = (R + X, I + Y)) := Lib.hid (by
                show gadd (gpart (lp a b c d) (-1) 2 3) (gmul (lp a b c d 3) (upow (-1) (2 * 3))) = _
                rw [hg.out]
                have e := hq.out
                rw [show (2 * 3 : Nat) = 6 by decide, e]
                rfl)
              clear hln hn
              go_wp2
              go_round
              case rel => first | exact ⟨3 + 1, R + X, I + Y, by omega, by go_num, by go_num, by go_num, hg2⟩ | exact ⟨_, _, _, ⟨3 + 1, by omega, by go_num, R + X, by go_num, I + Y, by go_num, hg2⟩, rfl, rfl, rfl⟩
              case measure => simp [intOf]
      · have hm4 : m = 4 := by omega
        subst hm4
        have e1 : RF 2 = R := by rw [← HRF.out]; unfold reF; rw [hg.out]
        have e2 : IF 2 = I := by rw [← HIF.out]; unfold imF; rw [hg.out]
        have E1 := Lib.hid e1
        have E2 := Lib.hid e2
        clear hlt hm e1 e2
        go_wp2
        go_ret2
        refine ⟨?_, by go_grown⟩
        rw [E1.out, E2.out]; rfl
  · go_enter Try.func7, Try.ntmps7
    go_wp2_with fail
    go_loop [6, 7, 8] (fun r i j => ∃ (m : Nat) (R I : Int), m ≤ 4 ∧ j = .int .i64 m ∧ r = .int .i64 R ∧ i = .int .i64 I ∧ Hid (gpart (lp a b c d) (-1) 3 m = (R, I))) (fun _ _ j => 4 - (intOf j).toNat)
    case atStart => exact ⟨0, 0, 0, by omega, rfl, rfl, rfl, Lib.hid rfl⟩
    case round =>
      obtain ⟨m, R, I, hm, rfl, rfl, rfl, hg⟩ := hrel
      have hbd := gpart_bd (.inr rfl) HP.out 3 m
      rw [hg.out] at hbd
      have r1 : -131072 ≤ R ∧ R ≤ 131072 := by
        have := hbd.1
        simp only at this
        have : m * 32768 ≤ 131072 := Nat.mul_le_mul_right 32768 hm
        omega
      have r2 : -131072 ≤ I ∧ I ≤ 131072 := by
        have := hbd.2
        simp only at this
        have : m * 32768 ≤ 131072 := Nat.mul_le_mul_right 32768 hm
        omega
      obtain ⟨r3, r4⟩ := r1
      obtain ⟨r5, r6⟩ := r2
      clear hbd
      by_cases hlt : m < 4
      · obtain rfl | rfl | rfl | rfl := lt4 hlt
        all_goals clear hlt hm
        · go_wp2
          go_loop [9, 10, 11] (fun x y q => ∃ (n : Nat) (X Y : Int), n ≤ 0 ∧ q = .int .i64 n ∧ x = .int .i64 X ∧ y = .int .i64 Y ∧ Hid (gmul (lp a b c d 0) (upow (-1) n) = (X, Y))) (fun _ _ q => 0 - (intOf q).toNat)
          case atStart => exact ⟨0, a, 0, by omega, rfl, rfl, rfl, Lib.hid (by simp [lp, l4, gmul, upow])⟩
          case round =>
            obtain ⟨n, X, Y, hn, rfl, rfl, rfl, hq⟩ := hrel
            have hbd := (HP.out 0).turn (upow_u (.inr rfl) n)
            rw [hq.out] at hbd
            have x1 : -32768 ≤ X ∧ X ≤ 32768 := by
              have := hbd.1
              simp only at this
              omega
            have x2 : -32768 ≤ Y ∧ Y ≤ 32768 := by
              have := hbd.2
              simp only at this
              omega
            obtain ⟨x3, x4⟩ := x1
            obtain ⟨x5, x6⟩ := x2
            clear hbd
            by_cases hln : n < 0
            · exact absurd hln (by omega)
            · have hne : n = 0 := by omega
              subst hne
              have hg2 : Hid (gpart (lp a b c d) (-1) 3 (0 + 1) = (R + X, I + Y)) := Lib.hid (by
                show gadd (gpart (lp a b c d) (-1) 3 0) (gmul (lp a b c d 0) (upow (-1) (3 * 0))) = _
                rw [hg.out]
                have e := hq.out
                rw [show (3 * 0 : Nat) = 0 by decide, e]
                rfl)
              clear hln hn
              go_wp2
              go_round
              case rel => first | exact ⟨0 + 1, R + X, I + Y, by omega, by go_num, by go_num, by go_num, hg2⟩ | exact ⟨_, _, _, ⟨0 + 1, by omega, by go_num, R + X, by go_num, I + Y, by go_num, hg2⟩, rfl, rfl, rfl⟩
              case measure => simp [intOf]
        · go_wp2
          go_loop [9, 10, 11] (fun x y q => ∃ (n : Nat) (X Y : Int), n ≤ 3 ∧ q = .int .i64 n ∧ x = .int .i64 X ∧ y = .int .i64 Y ∧ Hid (gmul (lp a b c d 1) (upow (-1) n) = (X, Y))) (fun _ _ q => 3 - (intOf q).toNat)
          case atStart => exact ⟨0, b, 0, by omega, rfl, rfl, rfl, Lib.hid (by simp [lp, l4, gmul, upow])⟩
          case round =>
            obtain ⟨n, X, Y, hn, rfl, rfl, rfl, hq⟩ := hrel
            have hbd := (HP.out 1).turn (upow_u (.inr rfl) n)
            rw [hq.out] at hbd
            have x1 : -32768 ≤ X ∧ X ≤ 32768 := by
              have := hbd.1
              simp only at this
              omega
            have x2 : -32768 ≤ Y ∧ Y ≤ 32768 := by
              have := hbd.2
              simp only at this
              omega
            obtain ⟨x3, x4⟩ := x1
            obtain ⟨x5, x6⟩ := x2
            clear hbd
            by_cases hln : n < 3
            · have hq2 := Lib.hid (gmul_down _ _ hq.out)
              go_wp2
              go_round
              case rel => exact ⟨n + 1, Y, -X, by omega, by go_num, by go_num, by go_num, hq2⟩
              case measure => simp [intOf]; omega
            · have hne : n = 3 := by omega
              subst hne
              have hg2 : Hid (gpart (lp a b c d) (-1) 3 (1 + 1) = (R + X, I + Y)) := Lib.hid (by
                show gadd (gpart (lp a b c d) (-1) 3 1) (gmul (lp a b c d 1) (upow (-1) (3 * 1))) = _
                rw [hg.out]
                have e := hq.out
                rw [show (3 * 1 : Nat) = 3 by decide, e]
                rfl)
              clear hln hn
              go_wp2
              go_round
              case rel => first | exact ⟨1 + 1, R + X, I + Y, by omega, by go_num, by go_num, by go_num, hg2⟩ | exact ⟨_, _, _, ⟨1 + 1, by omega, by go_num, R + X, by go_num, I + Y, by go_num, hg2⟩, rfl, rfl, rfl⟩
              case measure => simp [intOf]
        · go_wp2
          go_loop [9, 10, 11] (fun x y q => ∃ (n : Nat) (X Y : Int), n ≤ 6 ∧ q = .int .i64 n ∧ x = .int .i64 X ∧ y = .int .i64 Y ∧ Hid (gmul (lp a b c d 2) (upow (-1) n) = (X, Y))) (fun _ _ q => 6 - (intOf q).toNat)
          case atStart => exact ⟨0, c, 0, by omega, rfl, rfl, rfl, Lib.hid (by simp [lp, l4, gmul, upow])⟩
          case round =>
            obtain ⟨n, X, Y, hn, rfl, rfl, rfl, hq⟩ := hrel
            have hbd := (HP.out 2).turn (upow_u (.inr rfl) n)
            rw [hq.out] at hbd
            have x1 : -32768 ≤ X ∧ X ≤ 32768 := by
              have := hbd.1
              simp only at this
              omega
            have x2 : -32768 ≤ Y ∧ Y ≤ 32768 := by
              have := hbd.2
              simp only at this
              omega
            obtain ⟨x3, x4⟩ := x1
            obtain ⟨x5, x6⟩ := x2
            clear hbd
            by_cases hln : n < 6
            · have hq2 := Lib.hid (gmul_down _ _ hq.out)
              go_wp2
              go_round
              case rel => exact ⟨n + 1, Y, -X, by omega, by go_num, by go_num, by go_num, hq2⟩
              case measure => simp [intOf]; omega
            · have hne : n = 6 := by omega
              subst hne
              have hg2 : Hid (gpart (lp a b c d) (-1) 3 (2 + 1) = (R + X, I + Y)) := Lib.hid (by
                show gadd (gpart (lp a b c d) (-1) 3 2) (gmul (lp a b c d 2) (upow (-1) (3 * 2))) = _
                rw [hg.out]
                have e := hq.out
                rw [show (3 * 2 : Nat) = 6 by decide, e]
                rfl)
              clear hln hn
              go_wp2
              go_round
              case rel => first | exact ⟨2 + 1, R + X, I + Y, by omega, by go_num, by go_num, by go_num, hg2⟩ | exact ⟨_, _, _, ⟨2 + 1, by omega, by go_num, R + X, by go_num, I + Y, by go_num, hg2⟩, rfl, rfl, rfl⟩
              case measure => simp [intOf]
        · go_wp2
          go_loop [9, 10, 11] (fun x y q => ∃ (n : Nat) (X Y : Int), n ≤ 9 ∧ q = .int .i64 n ∧ x = .int .i64 X ∧ y = .int .i64 Y ∧ Hid (gmul (lp a b c d 3) (upow (-1) n) = (X, Y))) (fun _ _ q => 9 - (intOf q).toNat)
          case atStart => exact ⟨0, d, 0, by omega, rfl, rfl, rfl, Lib.hid (by simp [lp, l4, gmul, upow])⟩
          case round =>
            obtain ⟨n, X, Y, hn, rfl, rfl, rfl, hq⟩ := hrel
            have hbd := (HP.out 3).turn (upow_u (.inr rfl) n)
            rw [hq.out] at hbd
            have x1 : -32768 ≤ X ∧ X ≤ 32768 := by
              have := hbd.1
              simp only at this
              omega
            have x2 : -32768 ≤ Y ∧ Y ≤ 32768 := by
              have := hbd.2
              simp only at this
              omega
            obtain ⟨x3, x4⟩ := x1
            obtain ⟨x5, x6⟩ := x2
            clear hbd
            by_cases hln : n < 9
            · have hq2 := Lib.hid (gmul_down _ _ hq.out)
              go_wp2
              go_round
              case rel => exact ⟨n + 1, Y, -X, by omega, by go_num, by go_num, by go_num, hq2⟩
              case measure => simp [intOf]; omega
            · have hne : n = 9 := by omega
              subst hne
              have hg2 : Hid (gpart (lp a b c d) (-1) 3 (3 + 1) = (R + X, I + Y)) := Lib.hid (by
                show gadd (gpart (lp a b c d) (-1) 3 3) (gmul (lp a b c d 3) (upow (-1) (3 * 3))) = _
                rw [hg.out]
                have e := hq.out
                rw [show (3 * 3 : Nat) = 9 by decide, e]
                rfl)
              clear hln hn
              go_wp2
              go_round
              case rel => first | exact ⟨3 + 1, R + X, I + Y, by omega, by go_num, by go_num, by go_num, hg2⟩ | exact ⟨_, _, _, ⟨3 + 1, by omega, by go_num, R + X, by go_num, I + Y, by go_num, hg2⟩, rfl, rfl, rfl⟩
              case measure => simp [intOf]
      · have hm4 : m = 4 := by omega
        subst hm4
        have e1 : RF 3 = R := by rw [← HRF.out]; unfold reF; rw [hg.out]
        have e2 : IF 3 = I := by rw [← HIF.out]; unfold imF; rw [hg.out]
        have E1 := Lib.hid e1
        have E2 := Lib.hid e2
        clear hlt hm e1 e2
        go_wp2
        go_ret2
        refine ⟨?_, by go_grown⟩
        rw [E1.out, E2.out]; rfl
end Go.Proofs.Ytdohcmjpaepmlaa.CFour
