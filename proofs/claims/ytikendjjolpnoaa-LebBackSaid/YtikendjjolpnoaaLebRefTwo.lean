/- Contracts of the document's own answers of layer 6: getting, the other ways; the fixed calls. -/
import Derived.Test.YtikendjjolpnoaaLebRef
import Derived.Laws.BytesArg
namespace Go.Proofs.Ytikendjjolpnoaa.CLeb
open Go Go.ChangeShapes Go.WideShapes Go.ChangeAt Go.RowKit
open LebNum
set_option linter.unusedVariables false

set_option maxHeartbeats 4000000 in
theorem refGet_form (A : Option Addr) (zs : List Int) (c : Nat) (hj : 9 < zs.length) (hh : AllHi zs 9) (hz : 1 < zs[9]) (hb : Bytes zs)
    (hm : zs.length ≤ 9223372036854775807) {B : Nat} (w : World) (hrd : Kit.Rd w B A (zs.map (.int .u8))) :
    Calls Try.prog 36 #[.slice A zs.length c] w fun r w' => r = .returned (.tuple #[.int .u64 0, .int .i64 0, .int .i64 21]) ∧ w = w' := by
  obtain ⟨b, off, rfl, hbB, hcz⟩ := hrd.ints hj
  obtain ⟨z, hze⟩ : ∃ z, zs[9] = z := ⟨_, rfl⟩
  rw [hze] at hcz hz
  have HZ := Lib.hid hze
  clear hze
  go_enter Try.func36, Try.ntmps36
  go_wp2
  go_loop [5, 6] (fun s i => ∃ (m : Nat) (E : Int), m ≤ 10 ∧ i = .int .i64 m ∧ s = .int .i64 E ∧ ((m ≤ 9 ∧ E = -1) ∨ (m = 10 ∧ (E = -1 ∨ E = 9)))) (fun _ i => 10 - (intOf i).toNat)
  case atStart => exact ⟨0, -1, Nat.zero_le _, rfl, rfl, .inl ⟨Nat.zero_le _, rfl⟩⟩
  case round =>
    obtain ⟨m, E, hm10, rfl, rfl, hE⟩ := hrel
    rcases hE with ⟨hmj, rfl⟩ | ⟨rfl, hE⟩
    · have hlt : m < zs.length := by omega
      obtain ⟨b', off', hA, _, hcm⟩ := hrd.ints hlt
      cases hA
      by_cases he : m = 9
      · subst he
        rw [HZ.out] at hcm
        clear hh hb hcz
        by_cases hz2 : z < 128
        · go_wp2
          go_round
          case rel => exact ⟨10, 9, by omega, rfl, rfl, .inr ⟨rfl, .inr rfl⟩⟩
          case measure => simp [intOf]
        · go_wp2
          go_round
          case rel => exact ⟨10, -1, by omega, rfl, rfl, .inr ⟨rfl, .inl rfl⟩⟩
          case measure => simp [intOf]
      · obtain ⟨x, hx⟩ : ∃ x, zs[m] = x := ⟨_, rfl⟩
        have hx1 : 128 ≤ x := by rw [← hx]; exact hh m hlt (by omega)
        rw [hx] at hcm
        clear hx hh hb
        go_wp2
        go_round
        case rel => exact ⟨m + 1, _, by omega, by go_num, rfl, .inl ⟨by omega, rfl⟩⟩
        case measure => simp [intOf]; omega
    · clear hh hb
      have hl9 : (10 : Int) ≤ zs.length := by omega
      have hl10 : ¬ (10 : Int) > zs.length := by omega
      by_cases hl : zs.length = 10
      · have h10 : ¬ (10 : Int) < zs.length := by omega
        rcases hE with rfl | rfl
        · go_wp2
          go_ret3
          exact ⟨rfl, rfl⟩
        · go_wp2
          go_ret3
          exact ⟨rfl, rfl⟩
      · have h10 : (10 : Int) < zs.length := by omega
        rcases hE with rfl | rfl
        · go_wp2
          go_ret3
          exact ⟨rfl, rfl⟩
        · go_wp2
          go_ret3
          exact ⟨rfl, rfl⟩

theorem refGet_short (A : Option Addr) (zs : List Int) (c : Nat) (hj : zs.length ≤ 9) (hh : AllHi zs zs.length) (hb : Bytes zs) {B : Nat} (w : World) (hrd : Kit.Rd w B A (zs.map (.int .u8))) :
    Calls Try.prog 36 #[.slice A zs.length c] w fun r w' => r = .returned (.tuple #[.int .u64 0, .int .i64 0, .int .i64 20]) ∧ w = w' := by
  go_enter Try.func36, Try.ntmps36
  go_wp2
  go_loop [5, 6] (fun s i => ∃ (m : Nat), m ≤ zs.length ∧ i = .int .i64 m ∧ s = .int .i64 (-1)) (fun _ i => zs.length - (intOf i).toNat)
  case atStart => exact ⟨0, Nat.zero_le _, rfl, rfl⟩
  case round =>
    obtain ⟨m, hm1, rfl, rfl⟩ := hrel
    by_cases hlt : m < zs.length
    · obtain ⟨b', off', rfl, _, hcm⟩ := hrd.ints hlt
      obtain ⟨x, hx⟩ : ∃ x, zs[m] = x := ⟨_, rfl⟩
      have hx1 : 128 ≤ x := by rw [← hx]; exact hh m hlt hlt
      rw [hx] at hcm
      clear hx hh hb
      go_wp2
      go_round
      case rel => exact ⟨m + 1, by omega, by go_num, rfl⟩
      case measure => simp [intOf]; omega
    · have hmj : m = zs.length := by omega
      subst hmj
      clear hh hb
      go_wp2
      go_ret3
      exact ⟨rfl, rfl⟩

theorem refGet_to (A : Option Addr) (zs : List Int) (c : Nat) (hb : Bytes zs) (n : Int) (k : Nat) (e : Int) (hr : GetR zs n k e) (hm : zs.length ≤ 9223372036854775807) {B : Nat} (w : World) (hrd : Kit.Rd w B A (zs.map (.int .u8))) :
    Calls Try.prog 36 #[.slice A zs.length c] w fun r w' => r = .returned (.tuple #[.int .u64 n, .int .i64 k, .int .i64 e]) ∧ w = w' := by
  rcases hr with ⟨j, hj, h9, h1, h2, h3, h4, rfl, rfl, rfl⟩ | ⟨j, hj, a1, a2, a3, a4, rfl, rfl, rfl⟩ | ⟨a1, a2, a3, rfl, rfl, rfl⟩ | ⟨a1, a2, rfl, rfl, rfl⟩
  · exact refGet_lo A zs c j hj h9 h1 _ rfl h2 h3 hb _ _ _ (.inr ⟨h4, rfl, rfl, rfl⟩) hm w hrd
  · exact refGet_lo A zs c j hj a2 a3 _ rfl (by omega) (by omega) hb _ _ _ (.inl ⟨by omega, a4, rfl, rfl, rfl⟩) hm w hrd
  · exact refGet_form A zs c a1 a2 a3 hb hm w hrd
  · exact refGet_short A zs c a1 a2 hb w hrd

/-- two lists of bytes that are one list. -/
theorem same_yes (A B : Option Addr) (zs : List Int) (n c d : Nat) (hn : zs.length = n) (hl : n ≤ 1000000) (w : World) {B1 B2 : Nat} (ha : Kit.Rd w B1 A (zs.map (.int .u8))) (hb : Kit.Rd w B2 B (zs.map (.int .u8))) :
    Calls Try.prog 28 #[.slice A n c, .slice B n d] w fun e w' => e = .returned (.bool true) ∧ ∃ m, w' = w.drewN m := by
  subst hn
  have HA := Lib.hid ha
  have HB := Lib.hid hb
  clear ha hb
  go_enter Try.func28, Try.ntmps28
  go_wp2_with fail
  go_loopw [5] (fun i wr => ∃ k nq : Nat, k ≤ zs.length ∧ i = .int .i64 k ∧ Hid (wr = w.drewN nq)) (fun i _ => zs.length - (intOf i).toNat)
  case atStart => exact ⟨0, 0, Nat.zero_le _, rfl, Lib.hid rfl⟩
  case round =>
    obtain ⟨k, nq, hk, rfl, hw⟩ := hrel
    obtain rfl := hw.out
    clear hw
    by_cases hlt : k < zs.length
    · obtain ⟨b, off, rfl, _, hx⟩ := HA.out.ints hlt
      obtain ⟨b2, off2, rfl, _, hy⟩ := HB.out.ints hlt
      generalize zs[k] = x at hx hy
      have h0 : (0 : Int) ≤ (k : Int) := by omega
      have h1 : (k : Int) < (zs.length : Int) := by omega
      go_wp2_with fail
      go_quiet (fail)
      go_wp2
      go_roundw
      case rel => exact ⟨k + 1, _, by omega, by go_num, Lib.hid rfl⟩
      case measure => simp [intOf]; omega
    · go_wp2_with fail
      go_ret
      exact ⟨rfl, nq, rfl⟩

/-- what is handed back as a list of bytes. -/
def Listed (w : World) (n : Nat) (zs : List Int) (e : Ending) (w' : World) : Prop :=
  ∃ A c, e = .returned (.slice A n c) ∧ n ≤ c ∧ c ≤ maxLen ∧ Kit.Rd w' w'.heap.size A (zs.map (.int .u8)) ∧ Below w.heap.size w w'
theorem listed {w : World} {zs : List Int} {n : Nat} {e : Ending} {w' : World} (hn : zs.length = n) (h : Owned w 5 1 zs.length (bytesV zs) e w') : Listed w n zs e w' := by
  subst hn
  obtain ⟨v, rfl, ho, hb⟩ := h
  obtain ⟨A, c, rfl, h1, h2, h3⟩ := Kit.own_rd ho
  exact ⟨A, c, rfl, h1, h2, h3, hb⟩
theorem put_to (n : Int) (h0 : 0 ≤ n) (h1 : n ≤ 18446744073709551615) (zs : List Int) (k : Nat) (hz : digZ n = zs) (hk : zs.length = k) (w : World) :
    Calls Try.prog 29 #[.int .u64 n] w (Listed w k zs) := by
  subst hz
  exact (put n h0 h1 w).mono fun e w' h => listed hk h
theorem refPut_to (n : Int) (h0 : 0 ≤ n) (h1 : n ≤ 18446744073709551615) (zs : List Int) (k : Nat) (hz : digZ n = zs) (hk : zs.length = k) (w : World) :
    Calls Try.prog 30 #[.int .u64 n] w (Listed w k zs) := by
  subst hz
  exact (refPut n h0 h1 w).mono fun e w' h => listed hk h
theorem putInt_to (v : Int) (h1 : -9223372036854775808 ≤ v) (h2 : v ≤ 9223372036854775807) (zs : List Int) (k : Nat) (hz : digZ (foldZ v) = zs) (hk : zs.length = k) (w : World) :
    Calls Try.prog 32 #[.int .i64 v] w (Listed w k zs) := by
  subst hz
  exact (putInt v h1 h2 w).mono fun e w' h => listed hk h
theorem size_to (n : Int) (h0 : 0 ≤ n) (h1 : n ≤ 18446744073709551615) (k : Nat) (hk : (digZ n).length = k) (w : World) :
    Calls Try.prog 31 #[.int .u64 n] w fun e w' => e = .returned (.int .i64 k) ∧ w = w' := by
  subst hk
  exact size n h0 h1 w
theorem fold_to (v f : Int) (h1 : -9223372036854775808 ≤ v) (h2 : v ≤ 9223372036854775807) (hf : foldZ v = f) (w : World) :
    Calls Try.prog 33 #[.int .i64 v] w fun e w' => e = .returned (.int .u64 f) ∧ w = w' := by
  subst hf
  exact refFold v h1 h2 w
theorem unfold_to (n v : Int) (h1 : 0 ≤ n) (h2 : n ≤ 18446744073709551615) (hf : unfoldZ n = v) (w : World) :
    Calls Try.prog 38 #[.int .u64 n] w fun e w' => e = .returned (.int .i64 v) ∧ w = w' := by
  subst hf
  exact refUnfold n h1 h2 w

/-- what GetInt makes of what Get tells. -/
def Got (n v e : Int) : Prop := (e ≠ 0 ∧ v = 0) ∨ (e = 0 ∧ v = unfoldZ n)
theorem getInt_got (A : Option Addr) (zs : List Int) (c : Nat) (hb : Bytes zs) (n : Int) (k : Nat) (e : Int) (hr : GetR zs n k e) (v : Int) (hv : Got n v e) (hm : zs.length ≤ 9223372036854775807) {B : Nat} (w : World) (hrd : Kit.Rd w B A (zs.map (.int .u8))) :
    Calls Try.prog 37 #[.slice A zs.length c] w fun r w' => r = .returned (.tuple #[.int .i64 v, .int .i64 k, .int .i64 e]) ∧ w = w' :=
  getInt_to A zs c hb n k e hr v hv hm w hrd

/-- bytes as a string. -/
theorem conv_str {w : World} {B : Nat} {A : Option Addr} {zs : List Int} {n c : Nat} (hr : Kit.Rd w B A (zs.map (.int .u8))) (hn : zs.length = n) (s : ByteArray) (hs : strOfNums zs = s) :
    (convert 57 9 (.slice A n c)).run Try.prog w = .ok (.string s) w := by
  subst hn hs
  cases zs with
  | nil =>
    cases A with
    | none => exact run_convert_bytes_nil w _ _ Try.underlying57 Try.underlying5 _ _ _ Try.underlying9
    | some a =>
      rw [run_convert_bytes_string w _ _ _ _ _ c Try.underlying57 Try.underlying5 Try.underlying9]
      exact (run_bytesToString w a 0 c [] (by simpa using run_loadCells_list (P := Try.prog) w a [] (fun j v hj => by simp at hj))).trans (by rfl)
  | cons z zs =>
    obtain ⟨b, off, rfl, hb, hx⟩ := hr.plain (by simp)
    exact run_convert_bytes_arg w _ _ Try.underlying57 Try.underlying5 b off _ c (z :: zs) rfl (fun i hi => hx i _ (by rw [List.getElem?_map, List.getElem?_eq_getElem hi, List.getD_eq_getElem?_getD, List.getElem?_eq_getElem hi]; rfl)) _ Try.underlying9

theorem str_300 : strOfNums [172, 2] = { data := #[172, 2] } := rfl
theorem str_3 : strOfNums [3] = { data := #[3] } := rfl
theorem dig_300 : digZ 300 = [172, 2] := by
  rw [digZ_hi (by omega), digZ_lo (by omega) (by omega)]; rfl
theorem size_300 (w : World) : Calls Try.prog 31 #[.int .u64 300] w fun e w' => e = .returned (.int .i64 2) ∧ w = w' := size_to 300 (by omega) (by omega) 2 (by rw [dig_300]; rfl) w
theorem dig_3 : digZ (foldZ (-2)) = [3] := by
  have e : foldZ (-2) = 3 := by decide
  rw [e, digZ_lo (by omega) (by omega)]

theorem known06 (w : World) : Calls Try.prog 34 #[] w fun e w' => e = .returned (.bool true) ∧ Below w.heap.size w w' := by
  go_enter Try.func34, Try.ntmps34
  go_wp2_with (first
    | (go_at_call 29; ((with_reducible refine (put_to 300 (by omega) (by omega) [172, 2] 2 dig_300 rfl _).mono ?_); (rintro e w1 ⟨A1, c1, rfl, _, _, hr1, hb1⟩; have hcv1 := conv_str (n := 2) (c := c1) hr1 rfl _ str_300; have HB1 := Lib.hid hb1; clear hr1 hb1)))
    | (go_at_call 32; ((with_reducible refine (putInt_to (-2) (by omega) (by omega) [3] 1 dig_3 rfl _).mono ?_); (rintro e w2 ⟨A2, c2, rfl, _, _, hr2, hb2⟩; have hcv2 := conv_str (n := 1) (c := c2) hr2 rfl _ str_3; have HB2 := Lib.hid hb2; clear hr2 hb2)))
    | (go_at_call 31; ((with_reducible refine (size_300 _).mono ?_); (rintro e w3 ⟨rfl, rfl⟩))))

  go_ret
  exact ⟨rfl, HB1.out.trans (HB2.out.mono HB1.out.size)⟩
end Go.Proofs.Ytikendjjolpnoaa.CLeb
