/- Contracts of the document's own answers of layer 6: getting, the other ways; the fixed calls. -/
import Derived.Test.YtkmcmaickopobacLebRef
import Derived.Laws.BytesArg
namespace Go.Proofs.Ytkmcmaickopobac.CLeb
open Go Go.ChangeShapes Go.WideShapes Go.ChangeAt Go.RowKit
open LebNum
set_option linter.unusedVariables false

/-- two lists of bytes that are one list. -/
theorem same_yes (A B : Option Addr) (zs : List Int) (n c d : Nat) (hn : zs.length = n) (hl : n ≤ 1000000) (w : World) {B1 B2 : Nat} (ha : Kit.Rd w B1 A (zs.map (.int .u8))) (hb : Kit.Rd w B2 B (zs.map (.int .u8))) :
    Calls Try.prog 7 #[.slice A n c, .slice B n d] w fun e w' => e = .returned (.bool true) ∧ ∃ m, w' = w.drewN m := by
  subst hn
  have HA := Lib.hid ha
  have HB := Lib.hid hb
  clear ha hb
  go_enter Try.func7, Try.ntmps7
  go_wp2_with fail
  go_loopw [5] (fun i wr => ∃ k nq : Nat, k ≤ zs.length ∧ i = .int .i64 k ∧ Hid (wr = w.drewN nq)) (fun i _ => zs.length - (intOf i).toNat)
  case atStart => exact ⟨0, 0, Nat.zero_le _, rfl, Lib.hid rfl⟩
  case round =>
    obtain ⟨k, nq, hk, rfl, hw⟩ := hrel
    obtain rfl := hw.out
    clear hw
    by_cases hlt : k < zs.length
    · obtain ⟨b, off, rfl, _, hx⟩ := HA.out.ints hlt
      obtain ⟨b2, off2, rfl, _, hy⟩ := HB.out.ints hlt
      generalize zs[k] = x at hx hy
      have h0 : (0 : Int) ≤ (k : Int) := by omega
      have h1 : (k : Int) < (zs.length : Int) := by omega
      go_wp2_with fail
      go_quiet (fail)
      go_wp2
      go_roundw
      case rel => exact ⟨k + 1, _, by omega, by go_num, Lib.hid rfl⟩
      case measure => simp [intOf]; omega
    · go_wp2_with fail
      go_ret
      exact ⟨rfl, nq, rfl⟩

/-- what is handed back as a list of bytes. -/
def Listed (w : World) (n : Nat) (zs : List Int) (e : Ending) (w' : World) : Prop :=
  ∃ A c, e = .returned (.slice A n c) ∧ n ≤ c ∧ c ≤ maxLen ∧ Kit.Rd w' w'.heap.size A (zs.map (.int .u8)) ∧ Below w.heap.size w w'
theorem listed {w : World} {zs : List Int} {n : Nat} {e : Ending} {w' : World} (hn : zs.length = n) (h : Owned w 5 1 zs.length (bytesV zs) e w') : Listed w n zs e w' := by
  subst hn
  obtain ⟨v, rfl, ho, hb⟩ := h
  obtain ⟨A, c, rfl, h1, h2, h3⟩ := Kit.own_rd ho
  exact ⟨A, c, rfl, h1, h2, h3, hb⟩
theorem put_to (n : Int) (h0 : 0 ≤ n) (h1 : n ≤ 18446744073709551615) (zs : List Int) (k : Nat) (hz : digZ n = zs) (hk : zs.length = k) (w : World) :
    Calls Try.prog 35 #[.int .u64 n] w (Listed w k zs) := by
  subst hz
  exact (put n h0 h1 w).mono fun e w' h => listed hk h
theorem refPut_to (n : Int) (h0 : 0 ≤ n) (h1 : n ≤ 18446744073709551615) (zs : List Int) (k : Nat) (hz : digZ n = zs) (hk : zs.length = k) (w : World) :
    Calls Try.prog 14 #[.int .u64 n] w (Listed w k zs) := by
  subst hz
  exact (refPut n h0 h1 w).mono fun e w' h => listed hk h
theorem putInt_to (v : Int) (h1 : -9223372036854775808 ≤ v) (h2 : v ≤ 9223372036854775807) (zs : List Int) (k : Nat) (hz : digZ (foldZ v) = zs) (hk : zs.length = k) (w : World) :
    Calls Try.prog 26 #[.int .i64 v] w (Listed w k zs) := by
  subst hz
  exact (putInt v h1 h2 w).mono fun e w' h => listed hk h
theorem fold_to (v f : Int) (h1 : -9223372036854775808 ≤ v) (h2 : v ≤ 9223372036854775807) (hf : foldZ v = f) (w : World) :
    Calls Try.prog 27 #[.int .i64 v] w fun e w' => e = .returned (.int .u64 f) ∧ w = w' := by
  subst hf
  exact refFold v h1 h2 w
/-- what GetInt makes of what Get tells. -/
def Got (n v e : Int) : Prop := (e ≠ 0 ∧ v = 0) ∨ (e = 0 ∧ v = unfoldZ n)
theorem getInt_got (A : Option Addr) (zs : List Int) (c : Nat) (hb : Bytes zs) (n : Int) (k : Nat) (e : Int) (hr : GetR zs n k e) (v : Int) (hv : Got n v e) (hm : zs.length ≤ 9223372036854775807) {B : Nat} (w : World) (hrd : Kit.Rd w B A (zs.map (.int .u8))) :
    Calls Try.prog 39 #[.slice A zs.length c] w fun r w' => r = .returned (.tuple #[.int .i64 v, .int .i64 k, .int .i64 e]) ∧ w = w' :=
  getInt_to A zs c hb n k e hr v hv hm w hrd

/-- bytes as a string. -/
theorem conv_str {w : World} {B : Nat} {A : Option Addr} {zs : List Int} {n c : Nat} (hr : Kit.Rd w B A (zs.map (.int .u8))) (hn : zs.length = n) (s : ByteArray) (hs : strOfNums zs = s) :
    (convert 25 9 (.slice A n c)).run Try.prog w = .ok (.string s) w := by
  subst hn hs
  cases zs with
  | nil =>
    cases A with
    | none => exact run_convert_bytes_nil w _ _ Try.underlying25 Try.underlying5 _ _ _ Try.underlying9
    | some a =>
      rw [run_convert_bytes_string w _ _ _ _ _ c Try.underlying25 Try.underlying5 Try.underlying9]
      exact (run_bytesToString w a 0 c [] (by simpa using run_loadCells_list (P := Try.prog) w a [] (fun j v hj => by simp at hj))).trans (by rfl)
  | cons z zs =>
    obtain ⟨b, off, rfl, hb, hx⟩ := hr.plain (by simp)
    exact run_convert_bytes_arg w _ _ Try.underlying25 Try.underlying5 b off _ c (z :: zs) rfl (fun i hi => hx i _ (by rw [List.getElem?_map, List.getElem?_eq_getElem hi, List.getD_eq_getElem?_getD, List.getElem?_eq_getElem hi]; rfl)) _ Try.underlying9

theorem str_300 : strOfNums [172, 2] = { data := #[172, 2] } := rfl
theorem str_3 : strOfNums [3] = { data := #[3] } := rfl
theorem dig_300 : digZ 300 = [172, 2] := by
  rw [digZ_hi (by omega), digZ_lo (by omega) (by omega)]; rfl
theorem dig_3 : digZ (foldZ (-2)) = [3] := by
  have e : foldZ (-2) = 3 := by decide
  rw [e, digZ_lo (by omega) (by omega)]

end Go.Proofs.Ytkmcmaickopobac.CLeb
