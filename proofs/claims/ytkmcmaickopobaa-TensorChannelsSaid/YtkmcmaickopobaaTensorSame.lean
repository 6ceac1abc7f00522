/- Contracts of package tensor (layer 5): what is alike. -/
import Derived.Test.YtkmcmaickopobaaTensorRef
namespace Go.Proofs.Ytkmcmaickopobaa.CTensor
open Go Go.ChangeShapes Go.WideShapes Go.ChangeAt Go.RowKit
open Plain CSat CShape
set_option linter.unusedVariables false

theorem eqShape (a b c x y z : Int) (w : World) : (Op.equalIn 10000 23 (.agg #[.int .i64 a, .int .i64 b, .int .i64 c]) (.agg #[.int .i64 x, .int .i64 y, .int .i64 z])).run Try.prog w = .ok (a == x && (b == y && c == z)) w := by
  have u3 := Try.underlying3
  have a3 := Try.isAgg3
  have z3 := Try.sizeOf3
  have hS : Try.prog.underlying 23 = some (.struct (Try.prog.fieldsOf 23)) := by kernel_rfl
  rw [show (10000 : Nat) = 9999 + 1 from rfl, run_equalIn_agg w 9999 23 _ _ hS Try.stoodInHeld23]
  simp only [Program.fieldsOf, Try.underlying23]
  go_simp
  by_cases h1 : a = x <;> by_cases h2 : b = y <;> by_cases h3 : c = z <;> simp [h1, h2, h3]

theorem drewN2 (w : World) (a b : Nat) : (w.drewN a).drewN b = w.drewN (a + b) := by simp [World.drewN, Nat.add_assoc]
theorem differ {xs ys : List Int} {k : Nat} (h1 : k < xs.length) (h2 : k < ys.length) (h : ¬ xs[k] = ys[k]) : decide (xs = ys) = false := by
  simp only [decide_eq_false_iff_not]
  intro e
  subst e
  exact h rfl
theorem equal_to (A B : Option Addr) (xs ys : List Int) (n c d : Nat) (hx : xs.length = n) (hy : ys.length = n) (hl : n ≤ 1000000) (b : Bool) (hb : decide (xs = ys) = b) (w : World) {B1 B2 : Nat} (ha : Kit.Rd w B1 A (xs.map (.int .i8))) (hbb : Kit.Rd w B2 B (ys.map (.int .i8))) :
    Calls Try.prog 31 #[.slice A n c, .slice B n d] w fun e w' => e = .returned (.bool b) ∧ ∃ m, w' = w.drewN m := by
  have HA := Lib.hid ha
  have HB := Lib.hid hbb
  have HX := Lib.hid hx
  have HY := Lib.hid hy
  have HBB := Lib.hid hb
  clear ha hbb hx hy hb
  go_enter Try.func31, Try.ntmps31
  go_wp2_with fail
  go_loopw [13] (fun i wr => ∃ k nq : Nat, k ≤ n ∧ i = .int .i64 k ∧ Hid (xs.take k = ys.take k) ∧ Hid (wr = w.drewN nq)) (fun i _ => n - (intOf i).toNat)
  case atStart => exact ⟨0, 0, Nat.zero_le _, rfl, Lib.hid (by simp), Lib.hid rfl⟩
  case round =>
    obtain ⟨k, nq, hk, rfl, ht, hw⟩ := hrel
    obtain rfl := hw.out
    clear hw
    by_cases hlt : k < n
    · have hx1 : k < xs.length := by have := HX.out; omega
      have hy1 : k < ys.length := by have := HY.out; omega
      obtain ⟨b1, off1, rfl, _, hcx⟩ := HA.out.ints hx1
      obtain ⟨b2, off2, rfl, _, hcy⟩ := HB.out.ints hy1
      have hd := differ hx1 hy1
      have htk : xs[k] = ys[k] → xs.take (k + 1) = ys.take (k + 1) := fun e => by
        rw [List.take_succ_eq_append_getElem hx1, List.take_succ_eq_append_getElem hy1, ht.out, e]
      have HD := Lib.hid hd
      have HT := Lib.hid htk
      clear hd htk
      by_cases he : xs[k] = ys[k]
      · have HTK := Lib.hid (HT.out he)
        rw [← he] at hcy
        clear HD HT he
        generalize xs[k] = x at hcx hcy
        have h0 : (0 : Int) ≤ (k : Int) := by omega
        have h1 : (k : Int) < (n : Int) := by omega
        go_wp2_with fail
        go_quiet (fail)
        go_wp2
        go_roundw
        case rel => exact ⟨k + 1, _, by omega, by go_num, HTK, Lib.hid rfl⟩
        case measure => simp [intOf]; omega
      · have hF := HD.out he
        have hbf : b = false := by rw [← HBB.out, hF]
        subst hbf
        clear HD HT hF
        generalize xs[k] = x at hcx he
        generalize ys[k] = y at hcy he
        have hne : (x != y) = true := by simpa using he
        have h0 : (0 : Int) ≤ (k : Int) := by omega
        have h1 : (k : Int) < (n : Int) := by omega
        go_wp2_with fail
        go_quiet (fail)
        go_wp2
        go_ret
        exact ⟨rfl, _, drewN2 _ _ _⟩
    · have hke : k = n := by omega
      have hbt : b = true := by
        rw [← HBB.out]
        have := ht.out
        rw [hke, List.take_of_length_le (by have := HX.out; omega), List.take_of_length_le (by have := HY.out; omega)] at this
        simp [this]
      subst hbt
      go_wp2_with fail
      go_ret
      exact ⟨rfl, nq, rfl⟩

theorem same_to (H W C : Int) (A B : Option Addr) (xs ys : List Int) (n c d : Nat) (hx : xs.length = n) (hy : ys.length = n) (hl : n ≤ 1000000) (b : Bool) (hb : decide (xs = ys) = b) (w : World) {B1 B2 : Nat} (h1 : B1 ≤ w.heap.size) (h2 : B2 ≤ w.heap.size) (ha : Kit.Rd w B1 A (xs.map (.int .i8))) (hbb : Kit.Rd w B2 B (ys.map (.int .i8))) :
    Calls Try.prog 18 #[.agg #[.int .i64 H, .int .i64 W, .int .i64 C, .slice A n c], .agg #[.int .i64 H, .int .i64 W, .int .i64 C, .slice B n d]] w fun e w' => e = .returned (.bool b) ∧ Below w.heap.size w w' := by
  have HA := Lib.hid ha
  have HB := Lib.hid hbb
  have HX := Lib.hid hx
  have HY := Lib.hid hy
  have HBB := Lib.hid hb
  clear ha hbb hx hy hb
  have HE := eqShape H W C H W C
  have hg := Try.eqGuardType23
  go_enter Try.func18, Try.ntmps18
  go_wp2_with (go_at_call 31; ((refine (equal_to A B xs ys n c d HX.out HY.out hl b HBB.out _ ((HA.out.alloc h1 _).alloc (by simp; omega) _) ((HB.out.alloc h2 _).alloc (by simp; omega) _)).mono ?_); (rintro e w3 ⟨rfl, m, rfl⟩)))
  go_ret
  exact ⟨rfl, Kit.below_drewN (((Below.refl _ _).alloc (Nat.le_refl _) _).alloc (by simp) _) m⟩

/-- no tensor is like no tensor. -/
theorem refSame_0 (c d : Nat) (w : World) :
    Calls Try.prog 13 #[.agg #[.int .i64 0, .int .i64 0, .int .i64 0, .slice none 0 c], .agg #[.int .i64 0, .int .i64 0, .int .i64 0, .slice none 0 d]] w fun e w' => e = .returned (.bool true) ∧ Below w.heap.size w w' := by
  have HE := eqShape 0 0 0 0 0 0
  have hg := Try.eqGuardType23
  go_enter Try.func13, Try.ntmps13
  go_wp2_with fail
  go_loop [5] (fun i => i = .int .i64 0) (fun _ => 0)
  case atStart => rfl
  case round =>
    obtain rfl := hrel
    go_wp2
    go_ret
    exact ⟨rfl, ((Below.refl _ _).alloc (Nat.le_refl _) _).alloc (by simp) _⟩
end Go.Proofs.Ytkmcmaickopobaa.CTensor
