/- The fixed calls of layer 1's laws, and the document's own Sum. -/
import Derived.Test.YtcpfdinfoldklaaSatRef
namespace Go.Proofs.Ytcpfdinfoldklaa.CSat
open Go Go.ChangeShapes Go.WideShapes Go.ChangeAt Go.RowKit
open Plain
set_option linter.unusedVariables false

theorem ret_bool {b : Bool} (h : b = true) : Ending.returned (.bool b) = .returned (.bool true) := by rw [h]
theorem i8_bd {a : Int} (h : (Lit.int .i8 a).wf = true) : -128 ≤ a ∧ a ≤ 127 := by simpa [Lit.wf, IntKind.min, IntKind.max, IntKind.signed, IntKind.bits] using h
theorem i32_bd {a : Int} (h : (Lit.int .i32 a).wf = true) : -2147483648 ≤ a ∧ a ≤ 2147483647 := by simpa [Lit.wf, IntKind.min, IntKind.max, IntKind.signed, IntKind.bits] using h
theorem i64_bd {a : Int} (h : (Lit.int .i64 a).wf = true) : -9223372036854775808 ≤ a ∧ a ≤ 9223372036854775807 := by simpa [Lit.wf, IntKind.min, IntKind.max, IntKind.signed, IntKind.bits] using h
theorem u8_bd {a : Int} (h : (Lit.int .u8 a).wf = true) : 0 ≤ a ∧ a ≤ 255 := by simpa [Lit.wf, IntKind.min, IntKind.max, IntKind.signed, IntKind.bits] using h

theorem refPlus_yes (a b : Int) (ha1 : -9223372036854775808 ≤ a) (ha2 : a ≤ 9223372036854775807) (hb1 : -9223372036854775808 ≤ b) (hb2 : b ≤ 9223372036854775807) (h : fits (a + b) = true) (w : World) :
    Calls Try.prog 21 #[.int .i64 a, .int .i64 b] w fun e w' => e = .returned (.tuple #[.int .i64 (a + b), .bool true]) ∧ w = w' := by
  refine (refPlus a b ha1 ha2 hb1 hb2 w).mono fun e w' ⟨he, hw⟩ => ⟨?_, hw⟩
  rw [he, h]; unfold fitZ; rw [if_pos h]
theorem refPlus_no (a b : Int) (ha1 : -9223372036854775808 ≤ a) (ha2 : a ≤ 9223372036854775807) (hb1 : -9223372036854775808 ≤ b) (hb2 : b ≤ 9223372036854775807) (h : fits (a + b) = false) (w : World) :
    Calls Try.prog 21 #[.int .i64 a, .int .i64 b] w fun e w' => e = .returned (.tuple #[.int .i64 0, .bool false]) ∧ w = w' := by
  refine (refPlus a b ha1 ha2 hb1 hb2 w).mono fun e w' ⟨he, hw⟩ => ⟨?_, hw⟩
  rw [he, h]; unfold fitZ; rw [if_neg (by simp [h])]

theorem refSum (A : Option Addr) (zs : List Int) (c : Nat) (hl : zs.length ≤ 9223372036854775807) (hz : I64s zs) (w : World) {B : Nat} (hr : Kit.Rd w B A (zs.map (.int .i64))) :
    Calls Try.prog 24 #[.slice A zs.length c] w fun e w' => e = .returned (.tuple #[.int .i64 ((sumO 0 zs).getD 0), .bool (sumO 0 zs).isSome]) ∧ w = w' := by
  go_enter Try.func24, Try.ntmps24
  go_wp2_with fail
  go_loop [4, 5] (fun t i => ∃ (k : Nat) (s : Int), k ≤ zs.length ∧ i = .int .i64 k ∧ t = .int .i64 s ∧ Hid (sumO 0 (zs.take k) = some s)) (fun _ i => zs.length - (intOf i).toNat)
  case atStart => exact ⟨0, 0, Nat.zero_le _, rfl, rfl, rfl⟩
  case round =>
    obtain ⟨k, s, hk, rfl, rfl, hs⟩ := hrel
    have hsb := sumO_bd (by omega) hs.out
    obtain ⟨hs1, hs2⟩ := hsb
    by_cases hlt : k < zs.length
    · obtain ⟨ad, rfl, _, hc⟩ := hr.int hlt
      obtain ⟨hz1, hz2⟩ := hz zs[k] (List.getElem_mem hlt)
      have ht := take_next hlt
      generalize hzk : zs[k] = z at hc hz1 hz2 ht
      have hnext : sumO 0 (zs.take (k + 1)) = if fits (s + z) then some (s + z) else none := by
        rw [ht, sumO_append, hs.out]; simp only [Option.bind_some, sumO]
      have hall : sumO 0 zs = (sumO 0 (zs.take (k + 1))).bind fun s => sumO s (zs.drop (k + 1)) := by
        rw [← sumO_append, List.take_append_drop]
      have Ht := Lib.hid ht
      have Hn := Lib.hid hnext
      have Ha := Lib.hid hall
      clear ht hzk hnext hall hr
      cases hf : fits (s + z)
      · have hend : sumO 0 zs = none := by rw [Ha.out, Hn.out, hf]; rfl
        have He := Lib.hid hend
        clear hend
        have HF := Lib.hid hf
        clear hf
        go_wp2_with (go_at_call 21; refine (refPlus_no _ _ hs1 hs2 hz1 hz2 HF.out _).mono ?_; rintro e w' ⟨rfl, rfl⟩)
        go_ret2
        exact ⟨by rw [He.out]; rfl, rfl⟩
      · have HF := Lib.hid hf
        clear hf
        go_wp2_with (go_at_call 21; refine (refPlus_yes _ _ hs1 hs2 hz1 hz2 HF.out _).mono ?_; rintro e w' ⟨rfl, rfl⟩)
        go_round
        case rel => exact ⟨k + 1, s + z, by omega, by go_num, rfl, by rw [Hn.out, HF.out]; rfl⟩
        case measure => simp [intOf]; omega
    · have hall : sumO 0 zs = some s := by rw [← hs.out, List.take_of_length_le (by omega)]
      have He := Lib.hid hall
      clear hall
      go_wp2_with fail
      go_ret2
      exact ⟨by rw [He.out]; rfl, rfl⟩

theorem known (w : World) : Calls Try.prog 17 #[] w fun e w' => e = .returned (.bool true) ∧ Below w.heap.size w w' := by
  go_enter Try.func17, Try.ntmps17
  go_wp2_with (first
    | (go_at_call 20; refine (times _ _ (by omega) (by omega) (by omega) (by omega) _).mono ?_; rintro e w' ⟨rfl, rfl⟩)
    | (go_at_call 23; refine (sum _ [1, 2, 3] _ (by simp) (by simp [I64s]) _ (B := w.heap.size + 1) (Kit.Rd.new _ [.int .i64 1, .int .i64 2, .int .i64 3] _ (by omega))).mono ?_; rintro e w' ⟨rfl, rfl⟩)
    | (go_at_call 12; refine (add8 _ _ (by omega) (by omega) (by omega) (by omega) _).mono ?_; rintro e w' ⟨rfl, rfl⟩)
    | (go_at_call 18; refine (clamp _ _ _ (by omega) (by omega) (by omega) (by omega) _).mono ?_; rintro e w' ⟨rfl, rfl⟩))
  go_ret
  exact ⟨ret_bool (by decide), (Below.refl _ _).alloc (Nat.le_refl _) _⟩

theorem add8_to (a b s : Int) (ha1 : -128 ≤ a) (ha2 : a ≤ 127) (hb1 : -128 ≤ b) (hb2 : b ≤ 127) (h : clampZ (a + b) (-128) 127 = s) (w : World) :
    Calls Try.prog 12 #[.int .i8 a, .int .i8 b] w fun e w' => e = .returned (.int .i8 s) ∧ w = w' := h ▸ add8 a b ha1 ha2 hb1 hb2 w
theorem sub8_to (a b s : Int) (ha1 : -128 ≤ a) (ha2 : a ≤ 127) (hb1 : -128 ≤ b) (hb2 : b ≤ 127) (h : clampZ (a - b) (-128) 127 = s) (w : World) :
    Calls Try.prog 14 #[.int .i8 a, .int .i8 b] w fun e w' => e = .returned (.int .i8 s) ∧ w = w' := h ▸ sub8 a b ha1 ha2 hb1 hb2 w
end Go.Proofs.Ytcpfdinfoldklaa.CSat
