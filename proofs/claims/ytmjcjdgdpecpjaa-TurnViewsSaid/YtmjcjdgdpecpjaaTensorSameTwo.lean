/- Contracts of layer 5: the document's own 'alike'. -/
import Derived.Test.YtmjcjdgdpecpjaaTensorSame
namespace Go.Proofs.Ytmjcjdgdpecpjaa.CTensor
open Go Go.ChangeShapes Go.WideShapes Go.ChangeAt Go.RowKit
open Plain CSat CShape
set_option linter.unusedVariables false

/-- two tensors of one shape and of as many numbers. -/
theorem refSame_to (H W C : Int) (A B : Option Addr) (xs ys : List Int) (n c d : Nat) (hx : xs.length = n) (hy : ys.length = n) (hl : n ≤ 1000000) (b : Bool) (hb : decide (xs = ys) = b) (w : World) {B1 B2 : Nat} (h1 : B1 ≤ w.heap.size) (h2 : B2 ≤ w.heap.size) (ha : Kit.Rd w B1 A (xs.map (.int .i8))) (hbb : Kit.Rd w B2 B (ys.map (.int .i8))) :
    Calls Try.prog 10 #[.agg #[.int .i64 H, .int .i64 W, .int .i64 C, .slice A n c], .agg #[.int .i64 H, .int .i64 W, .int .i64 C, .slice B n d]] w fun e w' => e = .returned (.bool b) ∧ Below w.heap.size w w' := by
  have HA := Lib.hid ((ha.alloc h1 (.cells #[.int .i64 H, .int .i64 W, .int .i64 C, .slice A n c] 26)).alloc (by simp; omega) (.cells #[.int .i64 H, .int .i64 W, .int .i64 C, .slice B n d] 26))
  have HB := Lib.hid ((hbb.alloc h2 (.cells #[.int .i64 H, .int .i64 W, .int .i64 C, .slice A n c] 26)).alloc (by simp; omega) (.cells #[.int .i64 H, .int .i64 W, .int .i64 C, .slice B n d] 26))
  have HX := Lib.hid hx
  have HY := Lib.hid hy
  have HBB := Lib.hid hb
  clear ha hbb hx hy hb
  have HE := eqShape H W C H W C
  have hg := Try.eqGuardType23
  go_enter Try.func10, Try.ntmps10
  go_wp2_with fail
  have HBW : Hid (Below w.heap.size w ((w.alloc (.cells #[.int .i64 H, .int .i64 W, .int .i64 C, .slice A n c] 26)).alloc (.cells #[.int .i64 H, .int .i64 W, .int .i64 C, .slice B n d] 26))) := Lib.hid (((Below.refl _ _).alloc (Nat.le_refl _) _).alloc (by simp) _)
  have hca : ((w.alloc (.cells #[.int .i64 H, .int .i64 W, .int .i64 C, .slice A n c] 26)).alloc (.cells #[.int .i64 H, .int .i64 W, .int .i64 C, .slice B n d] 26)).cell? ⟨w.heap.size, 3, none⟩ = some (.slice A n c) := by
    rw [World.cell?_alloc_lt _ _ _ (by simp)]; exact Kit.new_cell _ _ _ _
  have hcb : ((w.alloc (.cells #[.int .i64 H, .int .i64 W, .int .i64 C, .slice A n c] 26)).alloc (.cells #[.int .i64 H, .int .i64 W, .int .i64 C, .slice B n d] 26)).cell? ⟨w.heap.size + 1, 3, none⟩ = some (.slice B n d) := by
    have hcb := Kit.new_cell (w.alloc (.cells #[.int .i64 H, .int .i64 W, .int .i64 C, .slice A n c] 26)) #[.int .i64 H, .int .i64 W, .int .i64 C, .slice B n d] 26 3
    rw [World.size_alloc] at hcb; exact hcb
  generalize ((w.alloc (.cells #[.int .i64 H, .int .i64 W, .int .i64 C, .slice A n c] 26)).alloc (.cells #[.int .i64 H, .int .i64 W, .int .i64 C, .slice B n d] 26)) = W1 at HA HB HBW hca hcb ⊢
  go_loopw [5] (fun i wr => ∃ k nq : Nat, k ≤ n ∧ i = .int .i64 k ∧ Hid (xs.take k = ys.take k) ∧ Hid (wr = W1.drewN nq)) (fun i _ => n - (intOf i).toNat)
  case atStart => exact ⟨0, 0, Nat.zero_le _, rfl, Lib.hid (by simp), Lib.hid rfl⟩
  case round =>
    obtain ⟨k, nq, hk, rfl, ht, hw⟩ := hrel
    obtain rfl := hw.out
    clear hw
    by_cases hlt : k < n
    · have hx1 : k < xs.length := by have := HX.out; omega
      have hy1 : k < ys.length := by have := HY.out; omega
      obtain ⟨b1, off1, rfl, _, hcx⟩ := HA.out.ints hx1
      obtain ⟨b2, off2, rfl, _, hcy⟩ := HB.out.ints hy1
      have hd := differ hx1 hy1
      have htk : xs[k] = ys[k] → xs.take (k + 1) = ys.take (k + 1) := fun e => by
        rw [List.take_succ_eq_append_getElem hx1, List.take_succ_eq_append_getElem hy1, ht.out, e]
      have HD := Lib.hid hd
      have HT := Lib.hid htk
      clear hd htk
      by_cases he : xs[k] = ys[k]
      · have HTK := Lib.hid (HT.out he)
        rw [← he] at hcy
        clear HD HT he
        generalize xs[k] = x at hcx hcy
        have h0 : (0 : Int) ≤ (k : Int) := by omega
        have h1 : (k : Int) < (n : Int) := by omega
        go_wp2_with fail
        go_quiet (fail)
        go_wp2
        go_roundw
        case rel => exact ⟨k + 1, _, by omega, by go_num, HTK, Lib.hid rfl⟩
        case measure => simp [intOf]; omega
      · have hF := HD.out he
        have hbf : b = false := by rw [← HBB.out, hF]
        subst hbf
        clear HD HT hF
        generalize xs[k] = x at hcx he
        generalize ys[k] = y at hcy he
        have hne : (x != y) = true := by simpa using he
        have h0 : (0 : Int) ≤ (k : Int) := by omega
        have h1 : (k : Int) < (n : Int) := by omega
        go_wp2_with fail
        go_quiet (fail)
        go_wp2
        go_ret
        exact ⟨rfl, Kit.below_drewN (Kit.below_drewN HBW.out _) _⟩
    · have hke : k = n := by omega
      have hbt : b = true := by
        rw [← HBB.out]
        have := ht.out
        rw [hke, List.take_of_length_le (by have := HX.out; omega), List.take_of_length_le (by have := HY.out; omega)] at this
        simp [this]
      subst hbt
      go_wp2_with fail
      go_ret
      exact ⟨rfl, Kit.below_drewN HBW.out _⟩
/-- two tensors of different shapes. -/
theorem refSame_shape (H W C H' W' C' : Int) (A B : Option Addr) (n m c d : Nat) (hne : (H == H' && (W == W' && C == C')) = false) (w : World) :
    Calls Try.prog 10 #[.agg #[.int .i64 H, .int .i64 W, .int .i64 C, .slice A n c], .agg #[.int .i64 H', .int .i64 W', .int .i64 C', .slice B m d]] w fun e w' => e = .returned (.bool false) ∧ Below w.heap.size w w' := by
  have HE := eqShape H W C H' W' C'
  rw [hne] at HE
  clear hne
  have hg := Try.eqGuardType23
  go_enter Try.func10, Try.ntmps10
  go_wp2_with fail
  go_ret
  exact ⟨rfl, ((Below.refl _ _).alloc (Nat.le_refl _) _).alloc (by simp) _⟩
/-- two tensors of one shape, and not as many numbers. -/
theorem refSame_len (H W C : Int) (A B : Option Addr) (n m c d : Nat) (hne : n ≠ m) (w : World) :
    Calls Try.prog 10 #[.agg #[.int .i64 H, .int .i64 W, .int .i64 C, .slice A n c], .agg #[.int .i64 H, .int .i64 W, .int .i64 C, .slice B m d]] w fun e w' => e = .returned (.bool false) ∧ Below w.heap.size w w' := by
  have HE := eqShape H W C H W C
  have hx : ((n : Int) != (m : Int)) = true := by simp; omega
  have hg := Try.eqGuardType23
  go_enter Try.func10, Try.ntmps10
  go_wp2_with fail
  go_ret
  exact ⟨rfl, ((Below.refl _ _).alloc (Nat.le_refl _) _).alloc (by simp) _⟩
end Go.Proofs.Ytmjcjdgdpecpjaa.CTensor
