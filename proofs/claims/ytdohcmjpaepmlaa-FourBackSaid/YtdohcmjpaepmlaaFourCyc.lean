/- Layer 14 (four): the document's product of round rows. -/
import Derived.Test.YtdohcmjpaepmlaaFourTurn
import Derived.Test.YtdohcmjpaepmlaaFourRef
import Derived.Deep.QuietTactic
import Derived.BigQuiet
namespace Go.Proofs.Ytdohcmjpaepmlaa.CFour
open Go Go.ChangeShapes Go.WideShapes Go.ChangeAt Go.RowKit
open FloatNum
set_option linter.unusedVariables false

/-- the products whose places come together at j, the first t of the sixteen. -/
def cycF (A B : Nat → Int) (j : Nat) : Nat → Int
  | 0 => 0
  | t + 1 => cycF A B j t + (if (t / 4 + t % 4) % 4 = j then A (t / 4) * B (t % 4) else 0)
theorem mul_bd {x y : Int} (hx : In16 x) (hy : In16 y) : -1073741824 ≤ x * y ∧ x * y ≤ 1073741824 := by
  have h : (x * y).natAbs ≤ 32768 * 32768 := by
    rw [Int.natAbs_mul]
    unfold In16 at hx hy
    exact Nat.mul_le_mul (by omega) (by omega)
  omega
theorem cycF_bd {A B : Nat → Int} (hA : ∀ i, In16 (A i)) (hB : ∀ i, In16 (B i)) (j : Nat) : ∀ t : Nat, -((t : Int) * 1073741824) ≤ cycF A B j t ∧ cycF A B j t ≤ (t : Int) * 1073741824
  | 0 => by simp [cycF]
  | t + 1 => by
    have h := cycF_bd hA hB j t
    have hm := mul_bd (hA (t / 4)) (hB (t % 4))
    unfold cycF
    split <;> omega

set_option maxHeartbeats 8000000 in
theorem cyclic_to (a0 a1 a2 a3 b0 b1 b2 b3 : Int) (hA : ∀ i, In16 (l4 a0 a1 a2 a3 i)) (hB : ∀ i, In16 (l4 b0 b1 b2 b3 i)) (j : Nat) (J : Int) (hJ : J = j) (w : World) :
    Calls Try.prog 13 #[.agg #[.int .i16 a0, .int .i16 a1, .int .i16 a2, .int .i16 a3], .agg #[.int .i16 b0, .int .i16 b1, .int .i16 b2, .int .i16 b3], .int .i64 J] w fun e' w' => e' = .returned (.int .i64 (cycF (l4 a0 a1 a2 a3) (l4 b0 b1 b2 b3) j 16)) ∧ Below w.heap.size w w' := by
  obtain ⟨CY, hCY⟩ : ∃ f, cycF (l4 a0 a1 a2 a3) (l4 b0 b1 b2 b3) j = f := ⟨_, rfl⟩
  have HBD : Hid (∀ t : Nat, -((t : Int) * 1073741824) ≤ CY t ∧ CY t ≤ (t : Int) * 1073741824) := Lib.hid (hCY ▸ cycF_bd hA hB j)
  have HST : Hid (∀ t : Nat, CY (t + 1) = CY t + (if (t / 4 + t % 4) % 4 = j then l4 a0 a1 a2 a3 (t / 4) * l4 b0 b1 b2 b3 (t % 4) else 0)) := Lib.hid (fun t => by rw [← hCY]; rfl)
  have HZ : Hid (CY 0 = 0) := Lib.hid (by rw [← hCY]; rfl)
  have HMB : Hid (∀ x y, -1073741824 ≤ l4 a0 a1 a2 a3 x * l4 b0 b1 b2 b3 y ∧ l4 a0 a1 a2 a3 x * l4 b0 b1 b2 b3 y ≤ 1073741824) := Lib.hid (fun x y => mul_bd (hA x) (hB y))
  rw [hCY]
  clear hCY
  have HA0 := Lib.hid (hA 0)
  have HB0 := Lib.hid (hB 0)
  have HA1 := Lib.hid (hA 1)
  have HB1 := Lib.hid (hB 1)
  have HA2 := Lib.hid (hA 2)
  have HB2 := Lib.hid (hB 2)
  have HA3 := Lib.hid (hA 3)
  have HB3 := Lib.hid (hB 3)
  have HJ := Lib.hid hJ
  clear hA hB hJ
  go_enter Try.func13, Try.ntmps13
  go_wp2_with fail
  go_loopw [7, 8] (fun s i wr => ∃ (m nq : Nat), m ≤ 4 ∧ i = .int .i64 m ∧ s = .int .i64 (CY (m * 4)) ∧ Hid (wr = ((w.alloc (.cells #[.int .i16 a0, .int .i16 a1, .int .i16 a2, .int .i16 a3] 23)).alloc (.cells #[.int .i16 b0, .int .i16 b1, .int .i16 b2, .int .i16 b3] 23)).drewN nq)) (fun _ i _ => 4 - (intOf i).toNat)
  case atStart => exact ⟨0, 0, by omega, rfl, by rw [Nat.zero_mul, HZ.out], Lib.hid rfl⟩
  case round =>
    obtain ⟨m, nq, hm, rfl, rfl, hw⟩ := hrel
    have hw' := hw.out
    subst hw'
    by_cases hlt : m < 4
    · obtain rfl | rfl | rfl | rfl := lt4 hlt
      all_goals clear hlt hm
      · go_wp2
        go_loopw [7, 9] (fun s k wr => ∃ (n nq : Nat), n ≤ 4 ∧ k = .int .i64 n ∧ s = .int .i64 (CY (0 * 4 + n)) ∧ Hid (wr = ((w.alloc (.cells #[.int .i16 a0, .int .i16 a1, .int .i16 a2, .int .i16 a3] 23)).alloc (.cells #[.int .i16 b0, .int .i16 b1, .int .i16 b2, .int .i16 b3] 23)).drewN nq)) (fun _ k _ => 4 - (intOf k).toNat)
        case atStart => exact ⟨0, nq, by omega, rfl, rfl, Lib.hid rfl⟩
        case round =>
          obtain ⟨n, nr, hn, rfl, rfl, hw2⟩ := hrel
          have hw' := hw2.out
          subst hw'
          by_cases hln : n < 4
          · obtain rfl | rfl | rfl | rfl := lt4 hln
            all_goals clear hln hn
            · have hs : CY (0 + 1) = CY 0 + (if 0 = j then a0 * b0 else 0) := HST.out 0
              have hm : -1073741824 ≤ a0 * b0 ∧ a0 * b0 ≤ 1073741824 := HMB.out 0 0
              have hb := HBD.out 0
              have e1 : In16 a0 := HA0.out
              have e2 : In16 b0 := HB0.out
              unfold In16 at e1 e2
              obtain ⟨e3, e4⟩ := e1
              obtain ⟨e5, e6⟩ := e2
              obtain ⟨e7, e8⟩ := hm
              obtain ⟨e9, e0⟩ := hb
              by_cases hv : 0 = j
              · rw [if_pos hv] at hs
                have HS := Lib.hid hs
                have v1 : ((0 : Int) == J) = true := by have := HJ.out; simp; omega
                have v2 : decide ((0 : Int) = J) = true := by have := HJ.out; simp; omega
                clear hs hv
                go_wp2
                go_quiet (fail)
                go_wp2
                go_roundw
                case rel => exact ⟨0 + 1, _, by omega, by go_num, congrArg (Value.int .i64) HS.out.symm, Lib.hid rfl⟩
                case measure => simp [intOf]
              · rw [if_neg hv, Int.add_zero] at hs
                have HS := Lib.hid hs
                have v1 : ((0 : Int) == J) = false := by have := HJ.out; simp; omega
                have v2 : decide ((0 : Int) = J) = false := by have := HJ.out; simp; omega
                clear hs hv
                go_wp2
                go_roundw
                case rel => first | exact ⟨0 + 1, nr, by omega, by go_num, congrArg (Value.int .i64) HS.out.symm, Lib.hid rfl⟩ | exact ⟨_, ⟨0 + 1, by omega, by go_num, congrArg (Value.int .i64) HS.out.symm, nr, Lib.hid rfl⟩, rfl⟩
                case measure => simp [intOf]
            · have hs : CY (1 + 1) = CY 1 + (if 1 = j then a0 * b1 else 0) := HST.out 1
              have hm : -1073741824 ≤ a0 * b1 ∧ a0 * b1 ≤ 1073741824 := HMB.out 0 1
              have hb := HBD.out 1
              have e1 : In16 a0 := HA0.out
              have e2 : In16 b1 := HB1.out
              unfold In16 at e1 e2
              obtain ⟨e3, e4⟩ := e1
              obtain ⟨e5, e6⟩ := e2
              obtain ⟨e7, e8⟩ := hm
              obtain ⟨e9, e0⟩ := hb
              by_cases hv : 1 = j
              · rw [if_pos hv] at hs
                have HS := Lib.hid hs
                have v1 : ((1 : Int) == J) = true := by have := HJ.out; simp; omega
                have v2 : decide ((1 : Int) = J) = true := by have := HJ.out; simp; omega
                clear hs hv
                go_wp2
                go_quiet (fail)
                go_wp2
                go_roundw
                case rel => exact ⟨1 + 1, _, by omega, by go_num, congrArg (Value.int .i64) HS.out.symm, Lib.hid rfl⟩
                case measure => simp [intOf]
              · rw [if_neg hv, Int.add_zero] at hs
                have HS := Lib.hid hs
                have v1 : ((1 : Int) == J) = false := by have := HJ.out; simp; omega
                have v2 : decide ((1 : Int) = J) = false := by have := HJ.out; simp; omega
                clear hs hv
                go_wp2
                go_roundw
                case rel => first | exact ⟨1 + 1, nr, by omega, by go_num, congrArg (Value.int .i64) HS.out.symm, Lib.hid rfl⟩ | exact ⟨_, ⟨1 + 1, by omega, by go_num, congrArg (Value.int .i64) HS.out.symm, nr, Lib.hid rfl⟩, rfl⟩
                case measure => simp [intOf]
            · have hs : CY (2 + 1) = CY 2 + (if 2 = j then a0 * b2 else 0) := HST.out 2
              have hm : -1073741824 ≤ a0 * b2 ∧ a0 * b2 ≤ 1073741824 := HMB.out 0 2
              have hb := HBD.out 2
              have e1 : In16 a0 := HA0.out
              have e2 : In16 b2 := HB2.out
              unfold In16 at e1 e2
              obtain ⟨e3, e4⟩ := e1
              obtain ⟨e5, e6⟩ := e2
              obtain ⟨e7, e8⟩ := hm
              obtain ⟨e9, e0⟩ := hb
              by_cases hv : 2 = j
              · rw [if_pos hv] at hs
                have HS := Lib.hid hs
                have v1 : ((2 : Int) == J) = true := by have := HJ.out; simp; omega
                have v2 : decide ((2 : Int) = J) = true := by have := HJ.out; simp; omega
                clear hs hv
                go_wp2
                go_quiet (fail)
                go_wp2
                go_roundw
                case rel => exact ⟨2 + 1, _, by omega, by go_num, congrArg (Value.int .i64) HS.out.symm, Lib.hid rfl⟩
                case measure => simp [intOf]
              · rw [if_neg hv, Int.add_zero] at hs
                have HS := Lib.hid hs
                have v1 : ((2 : Int) == J) = false := by have := HJ.out; simp; omega
                have v2 : decide ((2 : Int) = J) = false := by have := HJ.out; simp; omega
                clear hs hv
                go_wp2
                go_roundw
                case rel => first | exact ⟨2 + 1, nr, by omega, by go_num, congrArg (Value.int .i64) HS.out.symm, Lib.hid rfl⟩ | exact ⟨_, ⟨2 + 1, by omega, by go_num, congrArg (Value.int .i64) HS.out.symm, nr, Lib.hid rfl⟩, rfl⟩
                case measure => simp [intOf]
            · have hs : CY (3 + 1) = CY 3 + (if 3 = j then a0 * b3 else 0) := HST.out 3
              have hm : -1073741824 ≤ a0 * b3 ∧ a0 * b3 ≤ 1073741824 := HMB.out 0 3
              have hb := HBD.out 3
              have e1 : In16 a0 := HA0.out
              have e2 : In16 b3 := HB3.out
              unfold In16 at e1 e2
              obtain ⟨e3, e4⟩ := e1
              obtain ⟨e5, e6⟩ := e2
              obtain ⟨e7, e8⟩ := hm
              obtain ⟨e9, e0⟩ := hb
              by_cases hv : 3 = j
              · rw [if_pos hv] at hs
                have HS := Lib.hid hs
                have v1 : ((3 : Int) == J) = true := by have := HJ.out; simp; omega
                have v2 : decide ((3 : Int) = J) = true := by have := HJ.out; simp; omega
                clear hs hv
                go_wp2
                go_quiet (fail)
                go_wp2
                go_roundw
                case rel => exact ⟨3 + 1, _, by omega, by go_num, congrArg (Value.int .i64) HS.out.symm, Lib.hid rfl⟩
                case measure => simp [intOf]
              · rw [if_neg hv, Int.add_zero] at hs
                have HS := Lib.hid hs
                have v1 : ((3 : Int) == J) = false := by have := HJ.out; simp; omega
                have v2 : decide ((3 : Int) = J) = false := by have := HJ.out; simp; omega
                clear hs hv
                go_wp2
                go_roundw
                case rel => first | exact ⟨3 + 1, nr, by omega, by go_num, congrArg (Value.int .i64) HS.out.symm, Lib.hid rfl⟩ | exact ⟨_, ⟨3 + 1, by omega, by go_num, congrArg (Value.int .i64) HS.out.symm, nr, Lib.hid rfl⟩, rfl⟩
                case measure => simp [intOf]
          · have hn4 : n = 4 := by omega
            subst hn4
            clear hln hn
            go_wp2
            go_roundw
            case rel => first | exact ⟨0 + 1, nr, by omega, by go_num, rfl, Lib.hid rfl⟩ | exact ⟨_, ⟨0 + 1, nr, by omega, by go_num, rfl, Lib.hid rfl⟩, rfl⟩ | exact ⟨_, _, ⟨0 + 1, nr, by omega, by go_num, rfl, Lib.hid rfl⟩, rfl, rfl⟩
            case measure => simp [intOf]
      · go_wp2
        go_loopw [7, 9] (fun s k wr => ∃ (n nq : Nat), n ≤ 4 ∧ k = .int .i64 n ∧ s = .int .i64 (CY (1 * 4 + n)) ∧ Hid (wr = ((w.alloc (.cells #[.int .i16 a0, .int .i16 a1, .int .i16 a2, .int .i16 a3] 23)).alloc (.cells #[.int .i16 b0, .int .i16 b1, .int .i16 b2, .int .i16 b3] 23)).drewN nq)) (fun _ k _ => 4 - (intOf k).toNat)
        case atStart => exact ⟨0, nq, by omega, rfl, rfl, Lib.hid rfl⟩
        case round =>
          obtain ⟨n, nr, hn, rfl, rfl, hw2⟩ := hrel
          have hw' := hw2.out
          subst hw'
          by_cases hln : n < 4
          · obtain rfl | rfl | rfl | rfl := lt4 hln
            all_goals clear hln hn
            · have hs : CY (4 + 1) = CY 4 + (if 1 = j then a1 * b0 else 0) := HST.out 4
              have hm : -1073741824 ≤ a1 * b0 ∧ a1 * b0 ≤ 1073741824 := HMB.out 1 0
              have hb := HBD.out 4
              have e1 : In16 a1 := HA1.out
              have e2 : In16 b0 := HB0.out
              unfold In16 at e1 e2
              obtain ⟨e3, e4⟩ := e1
              obtain ⟨e5, e6⟩ := e2
              obtain ⟨e7, e8⟩ := hm
              obtain ⟨e9, e0⟩ := hb
              by_cases hv : 1 = j
              · rw [if_pos hv] at hs
                have HS := Lib.hid hs
                have v1 : ((1 : Int) == J) = true := by have := HJ.out; simp; omega
                have v2 : decide ((1 : Int) = J) = true := by have := HJ.out; simp; omega
                clear hs hv
                go_wp2
                go_quiet (fail)
                go_wp2
                go_roundw
                case rel => exact ⟨0 + 1, _, by omega, by go_num, congrArg (Value.int .i64) HS.out.symm, Lib.hid rfl⟩
                case measure => simp [intOf]
              · rw [if_neg hv, Int.add_zero] at hs
                have HS := Lib.hid hs
                have v1 : ((1 : Int) == J) = false := by have := HJ.out; simp; omega
                have v2 : decide ((1 : Int) = J) = false := by have := HJ.out; simp; omega
                clear hs hv
                go_wp2
                go_roundw
                case rel => first | exact ⟨0 + 1, nr, by omega, by go_num, congrArg (Value.int .i64) HS.out.symm, Lib.hid rfl⟩ | exact ⟨_, ⟨0 + 1, by omega, by go_num, congrArg (Value.int .i64) HS.out.symm, nr, Lib.hid rfl⟩, rfl⟩
                case measure => simp [intOf]
            · have hs : CY (5 + 1) = CY 5 + (if 2 = j then a1 * b1 else 0) := HST.out 5
              have hm : -1073741824 ≤ a1 * b1 ∧ a1 * b1 ≤ 1073741824 := HMB.out 1 1
              have hb := HBD.out 5
              have e1 : In16 a1 := HA1.out
              have e2 : In16 b1 := HB1.out
              unfold In16 at e1 e2
              obtain ⟨e3, e4⟩ := e1
              obtain ⟨e5, e6⟩ := e2
              obtain ⟨e7, e8⟩ := hm
              obtain ⟨e9, e0⟩ := hb
              by_cases hv : 2 = j
              · rw [if_pos hv] at hs
                have HS := Lib.hid hs
                have v1 : ((2 : Int) == J) = true := by have := HJ.out; simp; omega
                have v2 : decide ((2 : Int) = J) = true := by have := HJ.out; simp; omega
                clear hs hv
                go_wp2
                go_quiet (fail)
                go_wp2
                go_roundw
                case rel => exact ⟨1 + 1, _, by omega, by go_num, congrArg (Value.int .i64) HS.out.symm, Lib.hid rfl⟩
                case measure => simp [intOf]
              · rw [if_neg hv, Int.add_zero] at hs
                have HS := Lib.hid hs
                have v1 : ((2 : Int) == J) = false := by have := HJ.out; simp; omega
                have v2 : decide ((2 : Int) = J) = false := by have := HJ.out; simp; omega
                clear hs hv
                go_wp2
                go_roundw
                case rel => first | exact ⟨1 + 1, nr, by omega, by go_num, congrArg (Value.int .i64) HS.out.symm, Lib.hid rfl⟩ | exact ⟨_, ⟨1 + 1, by omega, by go_num, congrArg (Value.int .i64) HS.out.symm, nr, Lib.hid rfl⟩, rfl⟩
                case measure => simp [intOf]
            · have hs : CY (6 + 1) = CY 6 + (if 3 = j then a1 * b2 else 0) := HST.out 6
              have hm : -1073741824 ≤ a1 * b2 ∧ a1 * b2 ≤ 1073741824 := HMB.out 1 2
              have hb := HBD.out 6
              have e1 : In16 a1 := HA1.out
              have e2 : In16 b2 := HB2.out
              unfold In16 at e1 e2
              obtain ⟨e3, e4⟩ := e1
              obtain ⟨e5, e6⟩ := e2
              obtain ⟨e7, e8⟩ := hm
              obtain ⟨e9, e0⟩ := hb
              by_cases hv : 3 = j
              · rw [if_pos hv] at hs
                have HS := Lib.hid hs
                have v1 : ((3 : Int) == J) = true := by have := HJ.out; simp; omega
                have v2 : decide ((3 : Int) = J) = true := by have := HJ.out; simp; omega
                clear hs hv
                go_wp2
                go_quiet (fail)
                go_wp2
                go_roundw
                case rel => exact ⟨2 + 1, _, by omega, by go_num, congrArg (Value.int .i64) HS.out.symm, Lib.hid rfl⟩
                case measure => simp [intOf]
              · rw [if_neg hv, Int.add_zero] at hs
                have HS := Lib.hid hs
                have v1 : ((3 : Int) == J) = false := by have := HJ.out; simp; omega
                have v2 : decide ((3 : Int) = J) = false := by have := HJ.out; simp; omega
                clear hs hv
                go_wp2
                go_roundw
                case rel => first | exact ⟨2 + 1, nr, by omega, by go_num, congrArg (Value.int .i64) HS.out.symm, Lib.hid rfl⟩ | exact ⟨_, ⟨2 + 1, by omega, by go_num, congrArg (Value.int .i64) HS.out.symm, nr, Lib.hid rfl⟩, rfl⟩
                case measure => simp [intOf]
            · have hs : CY (7 + 1) = CY 7 + (if 0 = j then a1 * b3 else 0) := HST.out 7
              have hm : -1073741824 ≤ a1 * b3 ∧ a1 * b3 ≤ 1073741824 := HMB.out 1 3
              have hb := HBD.out 7
              have e1 : In16 a1 := HA1.out
              have e2 : In16 b3 := HB3.out
              unfold In16 at e1 e2
              obtain ⟨e3, e4⟩ := e1
              obtain ⟨e5, e6⟩ := e2
              obtain ⟨e7, e8⟩ := hm
              obtain ⟨e9, e0⟩ := hb
              by_cases hv : 0 = j
              · rw [if_pos hv] at hs
                have HS := Lib.hid hs
                have v1 : ((0 : Int) == J) = true := by have := HJ.out; simp; omega
                have v2 : decide ((0 : Int) = J) = true := by have := HJ.out; simp; omega
                clear hs hv
                go_wp2
                go_quiet (fail)
                go_wp2
                go_roundw
                case rel => exact ⟨3 + 1, _, by omega, by go_num, congrArg (Value.int .i64) HS.out.symm, Lib.hid rfl⟩
                case measure => simp [intOf]
              · rw [if_neg hv, Int.add_zero] at hs
                have HS := Lib.hid hs
                have v1 : ((0 : Int) == J) = false := by have := HJ.out; simp; omega
                have v2 : decide ((0 : Int) = J) = false := by have := HJ.out; simp; omega
                clear hs hv
                go_wp2
                go_roundw
                case rel => first | exact ⟨3 + 1, nr, by omega, by go_num, congrArg (Value.int .i64) HS.out.symm, Lib.hid rfl⟩ | exact ⟨_, ⟨3 + 1, by omega, by go_num, congrArg (Value.int .i64) HS.out.symm, nr, Lib.hid rfl⟩, rfl⟩
                case measure => simp [intOf]
          · have hn4 : n = 4 := by omega
            subst hn4
            clear hln hn
            go_wp2
            go_roundw
            case rel => first | exact ⟨1 + 1, nr, by omega, by go_num, rfl, Lib.hid rfl⟩ | exact ⟨_, ⟨1 + 1, nr, by omega, by go_num, rfl, Lib.hid rfl⟩, rfl⟩ | exact ⟨_, _, ⟨1 + 1, nr, by omega, by go_num, rfl, Lib.hid rfl⟩, rfl, rfl⟩
            case measure => simp [intOf]
      · go_wp2
        go_loopw [7, 9] (fun s k wr => ∃ (n nq : Nat), n ≤ 4 ∧ k = .int .i64 n ∧ s = .int .i64 (CY (2 * 4 + n)) ∧ Hid (wr = ((w.alloc (.cells #[.int .i16 a0, .int .i16 a1, .int .i16 a2, .int .i16 a3] 23)).alloc (.cells #[.int .i16 b0, .int .i16 b1, .int .i16 b2, .int .i16 b3] 23)).drewN nq)) (fun _ k _ => 4 - (intOf k).toNat)
        case atStart => exact ⟨0, nq, by omega, rfl, rfl, Lib.hid rfl⟩
        case round =>
          obtain ⟨n, nr, hn, rfl, rfl, hw2⟩ := hrel
          have hw' := hw2.out
          subst hw'
          by_cases hln : n < 4
          · obtain rfl | rfl | rfl | rfl := lt4 hln
            all_goals clear hln hn
            · have hs : CY (8 + 1) = CY 8 + (if 2 = j then a2 * b0 else 0) := HST.out 8
              have hm : -1073741824 ≤ a2 * b0 ∧ a2 * b0 ≤ 1073741824 := HMB.out 2 0
              have hb := HBD.out 8
              have e1 : In16 a2 := HA2.out
              have e2 : In16 b0 := HB0.out
              unfold In16 at e1 e2
              obtain ⟨e3, e4⟩ := e1
              obtain ⟨e5, e6⟩ := e2
              obtain ⟨e7, e8⟩ := hm
              obtain ⟨e9, e0⟩ := hb
              by_cases hv : 2 = j
              · rw [if_pos hv] at hs
                have HS := Lib.hid hs
                have v1 : ((2 : Int) == J) = true := by have := HJ.out; simp; omega
                have v2 : decide ((2 : Int) = J) = true := by have := HJ.out; simp; omega
                clear hs hv
                go_wp2
                go_quiet (fail)
                go_wp2
                go_roundw
                case rel => exact ⟨0 + 1, _, by omega, by go_num, congrArg (Value.int .i64) HS.out.symm, Lib.hid rfl⟩
                case measure => simp [intOf]
              · rw [if_neg hv, Int.add_zero] at hs
                have HS := Lib.hid hs
                have v1 : ((2 : Int) == J) = false := by have := HJ.out; simp; omega
                have v2 : decide ((2 : Int) = J) = false := by have := HJ.out; simp; omega
                clear hs hv
                go_wp2
                go_roundw
                case rel => first | exact ⟨0 + 1, nr, by omega, by go_num, congrArg (Value.int .i64) HS.out.symm, Lib.hid rfl⟩ | exact ⟨_, ⟨0 + 1, by omega, by go_num, congrArg (Value.int .i64) HS.out.symm, nr, Lib.hid rfl⟩, rfl⟩
                case measure => simp [intOf]
            · have hs : CY (9 + 1) = CY 9 + (if 3 = j then a2 * b1 else 0) := HST.out 9
              have hm : -1073741824 ≤ a2 * b1 ∧ a2 * b1 ≤ 1073741824 := HMB.out 2 1
              have hb := HBD.out 9
              have e1 : In16 a2 := HA2.out
              have e2 : In16 b1 := HB1.out
              unfold In16 at e1 e2
              obtain ⟨e3, e4⟩ := e1
              obtain ⟨e5, e6⟩ := e2
              obtain ⟨e7, e8⟩ := hm
              obtain ⟨e9, e0⟩ := hb
              by_cases hv : 3 = j
              · rw [if_pos hv] at hs
                have HS := Lib.hid hs
                have v1 : ((3 : Int) == J) = true := by have := HJ.out; simp; omega
                have v2 : decide ((3 : Int) = J) = true := by have := HJ.out; simp; omega
                clear hs hv
                go_wp2
                go_quiet (fail)
                go_wp2
                go_roundw
                case rel => exact ⟨1 + 1, _, by omega, by go_num, congrArg (Value.int .i64) HS.out.symm, Lib.hid rfl⟩
                case measure => simp [intOf]
              · rw [if_neg hv, Int.add_zero] at hs
                have HS := Lib.hid hs
                have v1 : ((3 : Int) == J) = false := by have := HJ.out; simp; omega
                have v2 : decide ((3 : Int) = J) = false := by have := HJ.out; simp; omega
                clear hs hv
                go_wp2
                go_roundw
                case rel => first | exact ⟨1 + 1, nr, by omega, by go_num, congrArg (Value.int .i64) HS.out.symm, Lib.hid rfl⟩ | exact ⟨_, ⟨1 + 1, by omega, by go_num, congrArg (Value.int .i64) HS.out.symm, nr, Lib.hid rfl⟩, rfl⟩
                case measure => simp [intOf]
            · have hs : CY (10 + 1) = CY 10 + (if 0 = j then a2 * b2 else 0) := HST.out 10
              have hm : -1073741824 ≤ a2 * b2 ∧ a2 * b2 ≤ 1073741824 := HMB.out 2 2
              have hb := HBD.out 10
              have e1 : In16 a2 := HA2.out
              have e2 : In16 b2 := HB2.out
              unfold In16 at e1 e2
              obtain ⟨e3, e4⟩ := e1
              obtain ⟨e5, e6⟩ := e2
              obtain ⟨e7, e8⟩ := hm
              obtain ⟨e9, e0⟩ := hb
              by_cases hv : 0 = j
              · rw [if_pos hv] at hs
                have HS := Lib.hid hs
                have v1 : ((0 : Int) == J) = true := by have := HJ.out; simp; omega
                have v2 : decide ((0 : Int) = J) = true := by have := HJ.out; simp; omega
                clear hs hv
                go_wp2
                go_quiet (fail)
                go_wp2
                go_roundw
                case rel => exact ⟨2 + 1, _, by omega, by go_num, congrArg (Value.int .i64) HS.out.symm, Lib.hid rfl⟩
                case measure => simp [intOf]
              · rw [if_neg hv, Int.add_zero] at hs
                have HS := Lib.hid hs
                have v1 : ((0 : Int) == J) = false := by have := HJ.out; simp; omega
                have v2 : decide ((0 : Int) = J) = false := by have := HJ.out; simp; omega
                clear hs hv
                go_wp2
                go_roundw
                case rel => first | exact ⟨2 + 1, nr, by omega, by go_num, congrArg (Value.int .i64) HS.out.symm, Lib.hid rfl⟩ | exact ⟨_, ⟨2 + 1, by omega, by go_num, congrArg (Value.int .i64) HS.out.symm, nr, Lib.hid rfl⟩, rfl⟩
                case measure => simp [intOf]
            · have hs : CY (11 + 1) = CY 11 + (if 1 = j then a2 * b3 else 0) := HST.out 11
              have hm : -1073741824 ≤ a2 * b3 ∧ a2 * b3 ≤ 1073741824 := HMB.out 2 3
              have hb := HBD.out 11
              have e1 : In16 a2 := HA2.out
              have e2 : In16 b3 := HB3.out
              unfold In16 at e1 e2
              obtain ⟨e3, e4⟩ := e1
              obtain ⟨e5, e6⟩ := e2
              obtain ⟨e7, e8⟩ := hm
              obtain ⟨e9, e0⟩ := hb
              by_cases hv : 1 = j
              · rw [if_pos hv] at hs
                have HS := Lib.hid hs
                have v1 : ((1 : Int) == J) = true := by have := HJ.out; simp; omega
                have v2 : decide ((1 : Int) = J) = true := by have := HJ.out; simp; omega
                clear hs hv
                go_wp2
                go_quiet (fail)
                go_wp2
                go_roundw
                case rel => exact ⟨3 + 1, _, by omega, by go_num, congrArg (Value.int .i64) HS.out.symm, Lib.hid rfl⟩
                case measure => simp [intOf]
              · rw [if_neg hv, Int.add_zero] at hs
                have HS := Lib.hid hs
                have v1 : ((1 : Int) == J) = false := by have := HJ.out; simp; omega
                have v2 : decide ((1 : Int) = J) = false := by have := HJ.out; simp; omega
                clear hs hv
                go_wp2
                go_roundw
                case rel => first | exact ⟨3 + 1, nr, by omega, by go_num, congrArg (Value.int .i64) HS.out.symm, Lib.hid rfl⟩ | exact ⟨_, ⟨3 + 1, by omega, by go_num, congrArg (Value.int .i64) HS.out.symm, nr, Lib.hid rfl⟩, rfl⟩
                case measure => simp [intOf]
          · have hn4 : n = 4 := by omega
            subst hn4
            clear hln hn
            go_wp2
            go_roundw
            case rel => first | exact ⟨2 + 1, nr, by omega, by go_num, rfl, Lib.hid rfl⟩ | exact ⟨_, ⟨2 + 1, nr, by omega, by go_num, rfl, Lib.hid rfl⟩, rfl⟩ | exact ⟨_, _, ⟨2 + 1, nr, by omega, by go_num, rfl, Lib.hid rfl⟩, rfl, rfl⟩
            case measure => simp [intOf]
      · go_wp2
        go_loopw [7, 9] (fun s k wr => ∃ (n nq : Nat), n ≤ 4 ∧ k = .int .i64 n ∧ s = .int .i64 (CY (3 * 4 + n)) ∧ Hid (wr = ((w.alloc (.cells #[.int .i16 a0, .int .i16 a1, .int .i16 a2, .int .i16 a3] 23)).alloc (.cells #[.int .i16 b0, .int .i16 b1, .int .i16 b2, .int .i16 b3] 23)).drewN nq)) (fun _ k _ => 4 - (intOf k).toNat)
        case atStart => exact ⟨0, nq, by omega, rfl, rfl, Lib.hid rfl⟩
        case round =>
          obtain ⟨n, nr, hn, rfl, rfl, hw2⟩ := hrel
          have hw' := hw2.out
          subst hw'
          by_cases hln : n < 4
          · obtain rfl | rfl | rfl | rfl := lt4 hln
            all_goals clear hln hn
            · have hs : CY (12 + 1) = CY 12 + (if 3 = j then a3 * b0 else 0) := HST.out 12
              have hm : -1073741824 ≤ a3 * b0 ∧ a3 * b0 ≤ 1073741824 := HMB.out 3 0
              have hb := HBD.out 12
              have e1 : In16 a3 := HA3.out
              have e2 : In16 b0 := HB0.out
              unfold In16 at e1 e2
              obtain ⟨e3, e4⟩ := e1
              obtain ⟨e5, e6⟩ := e2
              obtain ⟨e7, e8⟩ := hm
              obtain ⟨e9, e0⟩ := hb
              by_cases hv : 3 = j
              · rw [if_pos hv] at hs
                have HS := Lib.hid hs
                have v1 : ((3 : Int) == J) = true := by have := HJ.out; simp; omega
                have v2 : decide ((3 : Int) = J) = true := by have := HJ.out; simp; omega
                clear hs hv
                go_wp2
                go_quiet (fail)
                go_wp2
                go_roundw
                case rel => exact ⟨0 + 1, _, by omega, by go_num, congrArg (Value.int .i64) HS.out.symm, Lib.hid rfl⟩
                case measure => simp [intOf]
              · rw [if_neg hv, Int.add_zero] at hs
                have HS := Lib.hid hs
                have v1 : ((3 : Int) == J) = false := by have := HJ.out; simp; omega
                have v2 : decide ((3 : Int) = J) = false := by have := HJ.out; simp; omega
                clear hs hv
                go_wp2
                go_roundw
                case rel => first | exact ⟨0 + 1, nr, by omega, by go_num, congrArg (Value.int .i64) HS.out.symm, Lib.hid rfl⟩ | exact ⟨_, ⟨0 + 1, by omega, by go_num, congrArg (Value.int .i64) HS.out.symm, nr, Lib.hid rfl⟩, rfl⟩
                case measure => simp [intOf]
            · have hs : CY (13 + 1) = CY 13 + (if 0 = j then a3 * b1 else 0) := HST.out 13
              have hm : -1073741824 ≤ a3 * b1 ∧ a3 * b1 ≤ 1073741824 := HMB.out 3 1
              have hb := HBD.out 13
              have e1 : In16 a3 := HA3.out
              have e2 : In16 b1 := HB1.out
              unfold In16 at e1 e2
              obtain ⟨e3, e4⟩ := e1
              obtain ⟨e5, e6⟩ := e2
              obtain ⟨e7, e8⟩ := hm
              obtain ⟨e9, e0⟩ := hb
              by_cases hv : 0 = j
              · rw [if_pos hv] at hs
                have HS := Lib.hid hs
                have v1 : ((0 : Int) == J) = true := by have := HJ.out; simp; omega
                have v2 : decide ((0 : Int) = J) = true := by have := HJ.out; simp; omega
                clear hs hv
                go_wp2
                go_quiet (fail)
                go_wp2
                go_roundw
                case rel => exact ⟨1 + 1, _, by omega, by go_num, congrArg (Value.int .i64) HS.out.symm, Lib.hid rfl⟩
                case measure => simp [intOf]
              · rw [if_neg hv, Int.add_zero] at hs
                have HS := Lib.hid hs
                have v1 : ((0 : Int) == J) = false := by have := HJ.out; simp; omega
                have v2 : decide ((0 : Int) = J) = false := by have := HJ.out; simp; omega
                clear hs hv
                go_wp2
                go_roundw
                case rel => first | exact ⟨1 + 1, nr, by omega, by go_num, congrArg (Value.int .i64) HS.out.symm, Lib.hid rfl⟩ | exact ⟨_, ⟨1 + 1, by omega, by go_num, congrArg (Value.int .i64) HS.out.symm, nr, Lib.hid rfl⟩, rfl⟩
                case measure => simp [intOf]
            · have hs : CY (14 + 1) = CY 14 + (if 1 = j then a3 * b2 else 0) := HST.out 14
              have hm : -1073741824 ≤ a3 * b2 ∧ a3 * b2 ≤ 1073741824 := HMB.out 3 2
              have hb := HBD.out 14
              have e1 : In16 a3 := HA3.out
              have e2 : In16 b2 := HB2.out
              unfold In16 at e1 e2
              obtain ⟨e3, e4⟩ := e1
              obtain ⟨e5, e6⟩ := e2
              obtain ⟨e7, e8⟩ := hm
              obtain ⟨e9, e0⟩ := hb
              by_cases hv : 1 = j
              · rw [if_pos hv] at hs
                have HS := Lib.hid hs
                have v1 : ((1 : Int) == J) = true := by have := HJ.out; simp; omega
                have v2 : decide ((1 : Int) = J) = true := by have := HJ.out; simp; omega
                clear hs hv
                go_wp2
                go_quiet (fail)
                go_wp2
                go_roundw
                case rel => exact ⟨2 + 1, _, by omega, by go_num, congrArg (Value.int .i64) HS.out.symm, Lib.hid rfl⟩
                case measure => simp [intOf]
              · rw [if_neg hv, Int.add_zero] at hs
                have HS := Lib.hid hs
                have v1 : ((1 : Int) == J) = false := by have := HJ.out; simp; omega
                have v2 : decide ((1 : Int) = J) = false := by have := HJ.out; simp; omega
                clear hs hv
                go_wp2
                go_roundw
                case rel => first | exact ⟨2 + 1, nr, by omega, by go_num, congrArg (Value.int .i64) HS.out.symm, Lib.hid rfl⟩ | exact ⟨_, ⟨2 + 1, by omega, by go_num, congrArg (Value.int .i64) HS.out.symm, nr, Lib.hid rfl⟩, rfl⟩
                case measure => simp [intOf]
            · have hs : CY (15 + 1) = CY 15 + (if 2 = j then a3 * b3 else 0) := HST.out 15
              have hm : -1073741824 ≤ a3 * b3 ∧ a3 * b3 ≤ 1073741824 := HMB.out 3 3
              have hb := HBD.out 15
              have e1 : In16 a3 := HA3.out
              have e2 : In16 b3 := HB3.out
              unfold In16 at e1 e2
              obtain ⟨e3, e4⟩ := e1
              obtain ⟨e5, e6⟩ := e2
              obtain ⟨e7, e8⟩ := hm
              obtain ⟨e9, e0⟩ := hb
              by_cases hv : 2 = j
              · rw [if_pos hv] at hs
                have HS := Lib.hid hs
                have v1 : ((2 : Int) == J) = true := by have := HJ.out; simp; omega
                have v2 : decide ((2 : Int) = J) = true := by have := HJ.out; simp; omega
                clear hs hv
                go_wp2
                go_quiet (fail)
                go_wp2
                go_roundw
                case rel => exact ⟨3 + 1, _, by omega, by go_num, congrArg (Value.int .i64) HS.out.symm, Lib.hid rfl⟩
                case measure => simp [intOf]
              · rw [if_neg hv, Int.add_zero] at hs
                have HS := Lib.hid hs
                have v1 : ((2 : Int) == J) = false := by have := HJ.out; simp; omega
                have v2 : decide ((2 : Int) = J) = false := by have := HJ.out; simp; omega
                clear hs hv
                go_wp2
                go_roundw
                case rel => first | exact ⟨3 + 1, nr, by omega, by go_num, congrArg (Value.int .i64) HS.out.symm, Lib.hid rfl⟩ | exact ⟨_, ⟨3 + 1, by omega, by go_num, congrArg (Value.int .i64) HS.out.symm, nr, Lib.hid rfl⟩, rfl⟩
                case measure => simp [intOf]
          · have hn4 : n = 4 := by omega
            subst hn4
            clear hln hn
            go_wp2
            go_roundw
            case rel => first | exact ⟨3 + 1, nr, by omega, by go_num, rfl, Lib.hid rfl⟩ | exact ⟨_, ⟨3 + 1, nr, by omega, by go_num, rfl, Lib.hid rfl⟩, rfl⟩ | exact ⟨_, _, ⟨3 + 1, nr, by omega, by go_num, rfl, Lib.hid rfl⟩, rfl, rfl⟩
            case measure => simp [intOf]
    · have hm4 : m = 4 := by omega
      subst hm4
      clear hlt hm
      go_wp2
      go_ret
      exact ⟨rfl, Kit.below_drewN (((Below.refl _ _).alloc (Nat.le_refl _) _).alloc (by simp) _) _⟩
end Go.Proofs.Ytdohcmjpaepmlaa.CFour
