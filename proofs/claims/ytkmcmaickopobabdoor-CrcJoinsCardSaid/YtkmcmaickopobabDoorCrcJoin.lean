/- Contracts of package crc: sums that are joined; the fixed call. -/
import Derived.Test.YtkmcmaickopobabDoorCrcTable
import Derived.Lib.SlBytesConst
namespace Go.Proofs.YtkmcmaickopobabDoor.CCrc
open Go Go.ChangeShapes Go.WideShapes Go.ChangeAt Go.RowKit
open CrcNum
set_option linter.unusedVariables false

theorem rd_newf (w : World) (cs : List Value) (T : TypeId) (fz : Nat × Nat) {B : Nat} (hB : w.heap.size < B) : Kit.Rd (w.alloc (.cells cs.toArray T fz)) B (some ⟨w.heap.size, 0, none⟩) cs := fun j u hu => by
  refine ⟨_, rfl, hB, ?_⟩
  have e : (⟨w.heap.size, 0, none⟩ : Addr).add j = ⟨w.heap.size, j, none⟩ := by
    unfold Addr.add; split
    · rename_i h; subst h; rfl
    · simp
  rw [e]
  have hb : (w.alloc (.cells cs.toArray T fz)).heap[w.heap.size]? = some (.cells cs.toArray T fz) := heap_alloc_new w _
  unfold World.cell?
  rw [hb]
  simpa using hu
theorem of_n (A : Option Addr) (zs : List Int) (n c : Nat) (hn : zs.length = n) (hl : n ≤ 9223372036854775807) (hz : U8s zs) (w : World) (hT : TableIn w) {B : Nat} (hr : Kit.Rd w B A (zs.map (.int .u8))) :
    Calls Tryd.prog 8 #[.slice A n c] w fun e w' => e = .returned (.int .u32 (toI (crcOf zs))) ∧ w = w' := by
  subst hn; exact of A zs c hl hz w hT hr
theorem more_n (v : R) (A : Option Addr) (zs : List Int) (n c : Nat) (hn : zs.length = n) (hl : n ≤ 9223372036854775807) (hz : U8s zs) (w : World) (hT : TableIn w) {B : Nat} (hr : Kit.Rd w B A (zs.map (.int .u8))) :
    Calls Tryd.prog 10 #[.int .u32 (toI v), .slice A n c] w fun e w' => e = .returned (.int .u32 (toI (crcMore v zs))) ∧ w = w' := by
  subst hn; exact more v A zs c hl hz w hT hr
theorem refOf_n (A : Option Addr) (zs : List Int) (n c : Nat) (hn : zs.length = n) (hl : n ≤ 9223372036854775807) (hz : U8s zs) (w : World) {B : Nat} (hr : Kit.Rd w B A (zs.map (.int .u8))) :
    Calls Tryd.prog 9 #[.slice A n c] w fun e w' => e = .returned (.int .u32 (toI (crcOf zs))) ∧ w = w' := by
  subst hn; exact refOf A zs c hl hz w hr
theorem refMore_n (v : R) (A : Option Addr) (zs : List Int) (n c : Nat) (hn : zs.length = n) (hl : n ≤ 9223372036854775807) (hz : U8s zs) (w : World) {B : Nat} (hr : Kit.Rd w B A (zs.map (.int .u8))) :
    Calls Tryd.prog 11 #[.int .u32 (toI v), .slice A n c] w fun e w' => e = .returned (.int .u32 (toI (crcMore v zs))) ∧ w = w' := by
  subst hn; exact refMore v A zs c hl hz w hr
theorem u8_bd {a : Int} (h : (Lit.int .u8 a).wf = true) : 0 ≤ a ∧ a ≤ 255 := by simpa [Lit.wf, IntKind.min, IntKind.max, IntKind.signed, IntKind.bits] using h
theorem u16_bd {a : Int} (h : (Lit.int .u16 a).wf = true) : 0 ≤ a ∧ a ≤ 65535 := by simpa [Lit.wf, IntKind.min, IntKind.max, IntKind.signed, IntKind.bits] using h
theorem u32_bd {a : Int} (h : (Lit.int .u32 a).wf = true) : 0 ≤ a ∧ a ≤ 4294967295 := by simpa [Lit.wf, IntKind.min, IntKind.max, IntKind.signed, IntKind.bits] using h
theorem u8s_of {zs : List Int} (h : ∀ n ∈ zs, (Lit.int .u8 n).wf = true) : U8s zs := fun z hz => u8_bd (h z hz)
theorem known07 (w : World) (hT : TableIn w) : Calls Tryd.prog 6 #[] w fun e w' => e = .returned (.bool true) ∧ Below w.heap.size w w' := by
  have h0 := hT.size
  have HT := Lib.hid hT
  have hv : toI (crcOf [49, 50, 51, 52, 53, 54, 55, 56, 57]) = 3421780262 := by decide +kernel
  clear hT
  have kc := fun (C : Array Value) (n c : Nat) => Lib.run_convert_bytes_const (P := Tryd.prog) w 22 5 C n c Tryd.underlying22 Tryd.underlying5
  go_enter Tryd.func6, Tryd.ntmps6
  go_wp2_with (go_at_call 8; go_loud (refine (of_n _ [49, 50, 51, 52, 53, 54, 55, 56, 57] 9 _ (by rfl) (by omega) (by simp [U8s]) _ (HT.out.below ((Below.refl _ _).alloc (Nat.le_refl _) _) h0) (B := w.heap.size + 1) (rd_newf _ [.int .u8 49, .int .u8 50, .int .u8 51, .int .u8 52, .int .u8 53, .int .u8 54, .int .u8 55, .int .u8 56, .int .u8 57] _ _ (by omega))).mono ?_); rintro e w' ⟨rfl, rfl⟩)
  go_ret
  exact ⟨rfl, (Below.refl _ _).alloc (Nat.le_refl _) _⟩

theorem visit (s x : R) (W : World) :
    Calls Tryd.prog 17 #[.int .u32 (toI s), .pointer (some ⟨W.heap.size, 0, none⟩)] (W.alloc (.cells #[.int .u32 (toI x)] 23)) fun e w' => (∃ v, e = .returned v) ∧ w' = W.alloc (.cells #[.int .u32 (toI (mul x s))] 23) := by
  go_enter Tryd.func17, Tryd.ntmps17
  go_wp2_with (go_at_call 18; (with_reducible refine (times _ _ _).mono ?_); rintro e w' ⟨rfl, rfl⟩)
  go_end0
  exact ⟨⟨_, rfl⟩, rfl⟩
theorem eachPower (n : Nat) (hn : n ≤ 18446744073709551615) (a : R) (W : World) :
    Calls Tryd.prog 16 #[.int .u64 (n : Int), .func (.func 17) #[] #[.pointer (some ⟨W.heap.size, 0, none⟩)]] (W.alloc (.cells #[.int .u32 (toI a)] 23)) fun e w' => (∃ v, e = .returned v) ∧ w' = W.alloc (.cells #[.int .u32 (toI (stn (8 * n) a))] 23) := by
  go_enter Tryd.func16, Tryd.ntmps16
  go_wp2_with fail
  go_loopw [0, 4] (fun m s wr => ∃ (j k d : Nat), k ≤ 18446744073709551615 ∧ m = .int .u64 (k : Int) ∧ s = .int .u32 (toI (stn (8 * 2 ^ j) one)) ∧ wr = W.alloc (.cells #[.int .u32 (toI (stn (8 * d) a))] 23) ∧ Hid (d + k * 2 ^ j = n)) (fun m _ _ => (intOf m).toNat)
  case atStart => exact ⟨0, n, 0, hn, rfl, congrArg (Value.int .u32) (by decide), rfl, Lib.hid (by omega)⟩
  case round =>
    obtain ⟨j, k, d, hk, rfl, rfl, rfl, hd⟩ := hrel
    by_cases hp : 0 < k
    · have hs : mul (stn (8 * 2 ^ j) one) (stn (8 * 2 ^ j) one) = stn (8 * 2 ^ (j + 1)) one := by
        rw [mul_stn, ← stn_add, Nat.pow_succ]; congr 1; omega
      have HS := Lib.hid hs
      clear hs
      by_cases ho : (k : Int) % 2 = 1
      · have hm : mul (stn (8 * d) a) (stn (8 * 2 ^ j) one) = stn (8 * (d + 2 ^ j)) a := by
          rw [mul_stn, ← stn_add]; congr 1; omega
        have HM := Lib.hid hm
        clear hm
        go_wp2_with (first
          | (go_at_call 18; (with_reducible refine (times _ _ _).mono ?_); rintro e w' ⟨rfl, rfl⟩)
          | (go_at_call 17; (with_reducible refine (visit _ _ _).mono ?_); rintro e w' ⟨⟨v, rfl⟩, rfl⟩))
        go_roundw
        case rel => exact ⟨j + 1, k / 2, d + 2 ^ j, by omega, by go_num, by rw [HS.out], by rw [HM.out], Lib.hid (by
          have h1 : k = 2 * (k / 2) + 1 := by omega
          have h2 : (k / 2) * 2 ^ (j + 1) = (2 * (k / 2)) * 2 ^ j := by rw [Nat.pow_succ, Nat.mul_comm (2 ^ j) 2, ← Nat.mul_assoc, Nat.mul_comm (k / 2) 2]
          have h3 : k * 2 ^ j = (2 * (k / 2)) * 2 ^ j + 2 ^ j := by conv => lhs; rw [h1, Nat.succ_mul]
          have := hd.out; omega)⟩
        case measure => simp [intOf]; omega
      · have ho2 : (k : Int) % 2 = 0 := by omega
        go_wp2_with (go_at_call 18; (with_reducible refine (times _ _ _).mono ?_); rintro e w' ⟨rfl, rfl⟩)
        go_roundw
        case rel => exact ⟨j + 1, k / 2, d, by omega, by go_num, by rw [HS.out], rfl, Lib.hid (by
          have h1 : k = 2 * (k / 2) := by omega
          have h2 : (k / 2) * 2 ^ (j + 1) = (2 * (k / 2)) * 2 ^ j := by rw [Nat.pow_succ, Nat.mul_comm (2 ^ j) 2, ← Nat.mul_assoc, Nat.mul_comm (k / 2) 2]
          have h3 : k * 2 ^ j = (2 * (k / 2)) * 2 ^ j := by conv => lhs; rw [h1]
          have := hd.out; omega)⟩
        case measure => simp [intOf]; omega
    · obtain rfl : k = 0 := by omega
      have hdn : d = n := by have := hd.out; omega
      have HD := Lib.hid hdn
      clear hdn
      go_wp2_with fail
      go_end0
      exact ⟨⟨_, rfl⟩, by rw [HD.out]⟩
theorem join (a b : R) (n : Nat) (hn : n ≤ 18446744073709551615) (w : World) :
    Calls Tryd.prog 13 #[.int .u32 (toI a), .int .u32 (toI b), .int .u64 (n : Int)] w fun e w' => e = .returned (.int .u32 (toI (stn (8 * n) a ^^^ b))) ∧ Below w.heap.size w w' := by
  have hx := xor_toI (stn (8 * n) a) b
  go_enter Tryd.func13, Tryd.ntmps13
  go_wp2_with (go_at_call 16; (with_reducible refine (eachPower n hn a w).mono ?_); rintro e w' ⟨⟨v, rfl⟩, rfl⟩)
  go_ret
  exact ⟨rfl, (Below.refl _ _).alloc (Nat.le_refl _) _⟩
end Go.Proofs.YtkmcmaickopobabDoor.CCrc
