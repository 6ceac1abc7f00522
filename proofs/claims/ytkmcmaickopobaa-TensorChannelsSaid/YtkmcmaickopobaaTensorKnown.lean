/- The fixed calls of layer 5. -/
import Derived.Test.YtkmcmaickopobaaTensorOf
import Derived.Test.YtkmcmaickopobaaReach
namespace Go.Proofs.Ytkmcmaickopobaa.CTensor
open Go Go.ChangeShapes Go.WideShapes Go.ChangeAt Go.RowKit
open Plain CSat CShape CSeq
set_option linter.unusedVariables false

theorem reach_to (H W C : Int) (A : Option Addr) (zs : List Int) (n c : Nat) (hn : zs.length = n) (hl : n ≤ 1000000) (lo hi : Int) (hlo : reachF (pairs zs n) = (lo, hi)) (w : World) {B : Nat} (hr : Kit.Rd w B A (zs.map (.int .i8))) (hB : B ≤ w.heap.size) :
    Calls Try.prog 19 #[.agg #[.int .i64 H, .int .i64 W, .int .i64 C, .slice A n c]] w fun e w' => e = .returned (.tuple #[.int .i8 lo, .int .i8 hi]) ∧ Below w.heap.size w w' := by
  subst hn
  have h := callsIn_wide.1 (reach_in Fence.wide 3 trivial trivial trivial rfl (by omega) H W C A c zs (by omega) w (hr.more hB))
  rw [hlo] at h
  exact h

theorem known05 (w : World) : Calls Try.prog 6 #[] w fun e w' => e = .returned (.bool true) ∧ Below w.heap.size w w' := by
  have t1 : tensB 1 3 1 3 = true := by decide
  have t2 : tensB 0 0 0 0 = false := by decide
  have t3 : reachF (pairs [3, -4, 0] 3) = (-4, 3) := by decide
  have T1 := Lib.hid t1
  have T2 := Lib.hid t2
  have T3 := Lib.hid t3
  clear t1 t2 t3
  go_enter Try.func6, Try.ntmps6
  go_wp2_with (first
    | (go_at_call 8; ((refine (of_yes 1 3 1 _ [3, -4, 0] 3 3 rfl (by omega) T1.out (B := w.heap.size + 1) _ (by simp) (Kit.Rd.new w [.int .i8 3, .int .i8 (-4), .int .i8 0] _ (Nat.lt_succ_self _))).mono ?_); (rintro e w1 ⟨v1, rfl, ho1, hb1⟩; obtain ⟨A1, c1, rfl, _, _, hr1⟩ := Kit.own_rd ho1; have RA := Lib.hid hr1; have HB := Lib.hid (Below.trans (show Below w.heap.size w _ from by go_grown) (hb1.mono (by simp))); clear ho1 hb1 hr1)))
    | (go_at_call 19; ((refine (reach_to 1 3 1 _ [3, -4, 0] 3 _ rfl (by omega) (-4) 3 T3.out _ (RA.out.alloc (Nat.le_refl _) _) (by simp)).mono ?_); (rintro e w3 ⟨rfl, hb3⟩; obtain ⟨hc3, hf3⟩ := Kit.bcell hb3; have hz3 : w1.heap.size < w3.heap.size := (by have := hb3.size; simp at this; omega); have HB3 := Lib.hid ((HB.out.alloc HB.out.size _).trans (hb3.mono (by have := HB.out.size; simp; omega))); clear hb3)))
    | (go_at_call 11; ((with_reducible refine (right_to 1 3 1 _ 3 _ true T1.out _).mono ?_); (rintro e w4 ⟨rfl, hb4⟩; have HB4 := Lib.hid (HB3.out.trans (hb4.mono HB3.out.size)); clear hb4)))
    | (go_at_call 11; ((with_reducible refine (right_to 0 0 0 none 0 0 false T2.out _).mono ?_); (rintro e w5 ⟨rfl, hb5⟩; have HB5 := Lib.hid (HB4.out.trans (hb5.mono HB4.out.size)); clear hb5))))
  go_ret
  exact ⟨rfl, HB5.out⟩
end Go.Proofs.Ytkmcmaickopobaa.CTensor
