/- Contracts of package leb (layer 6), and of the document's own answers: putting. -/
import Derived.Test.YtkmcmaickopobacLebNum
import Derived.Test.YtkmcmaickopobacKit
import Derived.Test.YtkmcmaickopobacRows
import Derived.Test.YtkmcmaickopobacPlain
import Derived.Outline
namespace Go.Proofs.Ytkmcmaickopobac.CLeb
open Go Go.ChangeShapes Go.WideShapes Go.ChangeAt Go.RowKit
open LebNum
set_option linter.unusedVariables false

/-- what is handed back: a list of the call's own; nothing that was there has turned. -/
def Owned (w : World) (T size n : Nat) (xs : List Value) (e : Ending) (w' : World) : Prop :=
  ∃ v, e = .returned v ∧ w'.ownsRow w.heap.size T size v n xs ∧ Below w.heap.size w w'

theorem info_u8 : (Try.prog.info? 5).map (fun i => (i.zero, i.size, i.bytes)) = some (some (.int .u8 0), 1, 1) := by kernel_rfl

theorem ret_int {k : IntKind} {a b : Int} (h : a = b) : Ending.returned (.int k a) = .returned (.int k b) := by rw [h]
def bytesV (zs : List Int) : List Value := zs.map (.int .u8)

theorem put (n : Int) (h0 : 0 ≤ n) (h1 : n ≤ 18446744073709551615) (w : World) :
    Calls Try.prog 35 #[.int .u64 n] w (Owned w 5 1 (digZ n).length (bytesV (digZ n))) := by
  have hl := (digZ_len h0 h1).2
  have HL := Lib.hid hl
  clear hl
  go_enter Try.func35, Try.ntmps35
  obtain ⟨i0, hi0, hi1, hi2, hi3⟩ := info_parts info_u8
  go_wp2_with fail
  go_loopw [0, 3] (fun a b wr => ∃ (m : Int) (pre : List Int), 0 ≤ m ∧ m ≤ 18446744073709551615 ∧ a = .int .u64 m ∧ Hid (pre ++ digZ m = digZ n) ∧ Hid (wr.ownsRow w.heap.size 5 1 b pre.length (bytesV pre)) ∧ Hid (Below w.heap.size w wr)) (fun a _ _ => (intOf a).toNat)
  case atStart => exact ⟨n, [], h0, h1, rfl, Lib.hid rfl, Lib.hid ⟨by simp [bytesV], .inl ⟨rfl, rfl⟩⟩, Lib.hid (Below.refl _ _)⟩
  case round =>
    obtain ⟨m, pre, hm0, hm1, rfl, hpre, hown, hb⟩ := hrel
    have hplen : pre.length + (digZ m).length ≤ 10 := by have := congrArg List.length hpre.out; simp at this; have := HL.out; omega
    have hml := (digZ_len hm0 hm1).1
    by_cases hlt : m < 128
    · have hd := digZ_lo hm0 hlt
      go_wp2_with (at_builtin; refine Kit.wpList_append_rd _ rfl (.tmp 15) (.tmp 18) _ rfl w.heap.size 5 i0 (.int .u8 0) 1 1 Try.underlying25 hi0 hi1 hi2 hi3 rfl (by decide) _ pre.length (bytesV pre) rfl (hown.out.alloc _) _ _ 1 1 [.int .u8 m] rfl rfl (Kit.Rd.new _ _ _ (Nat.lt_succ_self _)) (Kit.ints_one .u8 [m]) (by unfold maxLen; omega) (by omega) (by have := hb.out.size; simp; omega) ?_; intro v1 w1 hown1 hg1 hat1)
      have hfin : pre ++ [m] = digZ n := by rw [← hpre.out, hd]
      have hB : Below w.heap.size w w1 := (hb.out.alloc hb.out.size _).grown hg1 (Nat.le_trans hb.out.size (by simp)) (fun q hq => Kit.own_block_ge hown.out q hq)
      have HO : Hid (w1.ownsRow w.heap.size 5 1 v1 (digZ n).length (bytesV (digZ n))) := by
        rw [← hfin]; exact Lib.hid (by simpa [bytesV] using hown1)
      have HB := Lib.hid hB
      clear hown1 hB hfin hd hg1 hat1
      go_wp2
      go_ret
      exact ⟨_, rfl, HO.out, HB.out⟩
    · have hd := digZ_hi (n := m) (by omega)
      go_wp2_with (at_builtin; refine Kit.wpList_append_rd _ rfl (.tmp 8) (.tmp 13) _ rfl w.heap.size 5 i0 (.int .u8 0) 1 1 Try.underlying25 hi0 hi1 hi2 hi3 rfl (by decide) _ pre.length (bytesV pre) rfl (hown.out.alloc _) _ _ 1 1 [.int .u8 (128 + m % 128)] rfl rfl (Kit.Rd.new _ _ _ (Nat.lt_succ_self _)) (Kit.ints_one .u8 [128 + m % 128]) (by unfold maxLen; omega) (by omega) (by have := hb.out.size; simp; omega) ?_; intro v1 w1 hown1 hg1 hat1)
      have hB : Below w.heap.size w w1 := (hb.out.alloc hb.out.size _).grown hg1 (Nat.le_trans hb.out.size (by simp)) (fun q hq => Kit.own_block_ge hown.out q hq)
      have HO : Hid (w1.ownsRow w.heap.size 5 1 v1 (pre ++ [128 + m % 128]).length (bytesV (pre ++ [128 + m % 128]))) := by
        exact Lib.hid (by simpa [bytesV] using hown1)
      have HP : Hid ((pre ++ [128 + m % 128]) ++ digZ (m / 128) = digZ n) := by
        rw [List.append_assoc, ← hpre.out, hd]; rfl
      have HB := Lib.hid hB
      clear hown1 hB hd hg1 hat1
      go_wp2
      go_roundw
      case rel => exact ⟨m / 128, _, by omega, by omega, rfl, HP, HO, HB⟩
      case measure => simp [intOf]; omega
theorem refPut (n : Int) (h0 : 0 ≤ n) (h1 : n ≤ 18446744073709551615) (w : World) :
    Calls Try.prog 14 #[.int .u64 n] w (Owned w 5 1 (digZ n).length (bytesV (digZ n))) := by
  have hl := (digZ_len h0 h1).2
  have HL := Lib.hid hl
  clear hl
  go_enter Try.func14, Try.ntmps14
  obtain ⟨i0, hi0, hi1, hi2, hi3⟩ := info_parts info_u8
  go_wp2_with fail
  go_loopw [0, 3] (fun a b wr => ∃ (m : Int) (pre : List Int), 0 ≤ m ∧ m ≤ 18446744073709551615 ∧ a = .int .u64 m ∧ Hid (pre ++ digZ m = digZ n) ∧ Hid (wr.ownsRow w.heap.size 5 1 b pre.length (bytesV pre)) ∧ Hid (Below w.heap.size w wr)) (fun a _ _ => (intOf a).toNat)
  case atStart => exact ⟨n, [], h0, h1, rfl, Lib.hid rfl, Lib.hid ⟨by simp [bytesV], .inl ⟨rfl, rfl⟩⟩, Lib.hid (Below.refl _ _)⟩
  case round =>
    obtain ⟨m, pre, hm0, hm1, rfl, hpre, hown, hb⟩ := hrel
    have hplen : pre.length + (digZ m).length ≤ 10 := by have := congrArg List.length hpre.out; simp at this; have := HL.out; omega
    have hml := (digZ_len hm0 hm1).1
    by_cases hlt : m < 128
    · have hd := digZ_lo hm0 hlt
      go_wp2_with (at_builtin; refine Kit.wpList_append_rd _ rfl (.tmp 15) (.tmp 18) _ rfl w.heap.size 5 i0 (.int .u8 0) 1 1 Try.underlying25 hi0 hi1 hi2 hi3 rfl (by decide) _ pre.length (bytesV pre) rfl (hown.out.alloc _) _ _ 1 1 [.int .u8 m] rfl rfl (Kit.Rd.new _ _ _ (Nat.lt_succ_self _)) (Kit.ints_one .u8 [m]) (by unfold maxLen; omega) (by omega) (by have := hb.out.size; simp; omega) ?_; intro v1 w1 hown1 hg1 hat1)
      have hfin : pre ++ [m] = digZ n := by rw [← hpre.out, hd]
      have hB : Below w.heap.size w w1 := (hb.out.alloc hb.out.size _).grown hg1 (Nat.le_trans hb.out.size (by simp)) (fun q hq => Kit.own_block_ge hown.out q hq)
      have HO : Hid (w1.ownsRow w.heap.size 5 1 v1 (digZ n).length (bytesV (digZ n))) := by
        rw [← hfin]; exact Lib.hid (by simpa [bytesV] using hown1)
      have HB := Lib.hid hB
      clear hown1 hB hfin hd hg1 hat1
      go_wp2
      go_ret
      exact ⟨_, rfl, HO.out, HB.out⟩
    · have hd := digZ_hi (n := m) (by omega)
      rw [Int.add_comm] at hd
      go_wp2_with (at_builtin; refine Kit.wpList_append_rd _ rfl (.tmp 6) (.tmp 11) _ rfl w.heap.size 5 i0 (.int .u8 0) 1 1 Try.underlying25 hi0 hi1 hi2 hi3 rfl (by decide) _ pre.length (bytesV pre) rfl (hown.out.alloc _) _ _ 1 1 [.int .u8 (m % 128 + 128)] rfl rfl (Kit.Rd.new _ _ _ (Nat.lt_succ_self _)) (Kit.ints_one .u8 [m % 128 + 128]) (by unfold maxLen; omega) (by omega) (by have := hb.out.size; simp; omega) ?_; intro v1 w1 hown1 hg1 hat1)
      have hB : Below w.heap.size w w1 := (hb.out.alloc hb.out.size _).grown hg1 (Nat.le_trans hb.out.size (by simp)) (fun q hq => Kit.own_block_ge hown.out q hq)
      have HO : Hid (w1.ownsRow w.heap.size 5 1 v1 (pre ++ [m % 128 + 128]).length (bytesV (pre ++ [m % 128 + 128]))) := by
        exact Lib.hid (by simpa [bytesV] using hown1)
      have HP : Hid ((pre ++ [m % 128 + 128]) ++ digZ (m / 128) = digZ n) := by
        rw [List.append_assoc, ← hpre.out, hd]; rfl
      have HB := Lib.hid hB
      clear hown1 hB hd hg1 hat1
      go_wp2
      go_roundw
      case rel => exact ⟨m / 128, _, by omega, by omega, rfl, HP, HO, HB⟩
      case measure => simp [intOf]; omega
end Go.Proofs.Ytkmcmaickopobac.CLeb
