/- Layer 21 (act): are there as many sums as there should be. -/
import Derived.Test.YtpokeklphmfcnaaActEach
import Derived.Test.YtpokeklphmfcnaaTensorFill
import Derived.Laws.MakeOwn
import Derived.Deep.CutRange
namespace Go.Proofs.Ytpokeklphmfcnaa.CAct
open Go Go.ChangeShapes Go.WideShapes Go.ChangeAt Go.RowKit Go.Deep
open Plain CSat CFix CShape CTensor CConv
set_option linter.unusedVariables false

theorem tensB_shape {H W C : Int} {n : Nat} (h : shapeB H W C = false) : tensB H W C n = false := by simp [tensB, h]
set_option maxRecDepth 100000 in
set_option maxHeartbeats 4000000 in
theorem rsums_to (H W C : Int) (A : Option Addr) (n c : Nat) (b : Bool) (hb0 : tensB H W C n = b) (w : World) :
    Calls Try.prog 26 #[.agg #[.int .i64 H, .int .i64 W, .int .i64 C, .slice A n c]] w fun e w' => e = .returned (.bool b) ∧ Below w.heap.size w w' := by
  cases hs : shapeB H W C
  · obtain rfl : false = b := (tensB_shape hs).symm.trans hb0
    have HS := Lib.hid hs
    clear hs hb0
    go_enter Try.func26, Try.ntmps26
    go_wp2_with (first
    | (go_at_call 36
       have hal : Below w.heap.size w (w.alloc (.cells #[.int .i64 H, .int .i64 W, .int .i64 C, .slice A n c] 50)) := (Below.refl _ _).alloc (by first | exact Nat.le_refl _ | (simp; done) | (simp; omega)) _
       refine (fill_no H W C 0 HS.out _).mono ?_
       rintro e w1 ⟨rfl, hb⟩
       have hh : Below w.heap.size w w1 := hal.trans (hb.mono hal.size)
       have qTA := (boxNew H W C A n c 50) w
       try simp only [World.size_alloc] at qTA
       have TA := Lib.hid (qTA.below (by first | (simp; done) | (simp; omega)) hb)
       have yTA : w.heap.size < w1.heap.size := by have := hb.size; simp at this; omega
       clear qTA
       have HBW : Hid (Below w.heap.size w w1) := Lib.hid hh
       obtain ⟨tap0, tap1, tap2, tap3⟩ := TA.out
       clear hb hh hal))
    go_ret
    exact ⟨rfl, HBW.out.alloc HBW.out.size _⟩
  · obtain ⟨a1, a2, a3, a4, a5, a6, a7⟩ := shapeB_yes hs
    obtain ⟨p1, p2⟩ := prod_bd a1 a2 a3 a4 a5 a6
    obtain ⟨m, hm⟩ : ∃ m : Nat, H * W * C = m := ⟨(H * W * C).toNat, by omega⟩
    have hbn : decide (n = m) = b := by
      rw [← hb0]
      unfold tensB
      rw [hs, hm]
      by_cases e : n = m <;> simp [e] <;> omega
    have HS := Lib.hid hs
    have HM := Lib.hid hm
    clear hs hb0 hm p1 p2 a1 a2 a3 a4 a5 a6 a7
    by_cases e : n = m
    · obtain rfl : true = b := by rw [← hbn]; simp [e]
      have e1 : ((n : Int) == (m : Int)) = true := by simp [e]
      clear e hbn
      go_enter Try.func26, Try.ntmps26
      go_wp2_with (first
    | (go_at_call 36
       have hal : Below w.heap.size w (w.alloc (.cells #[.int .i64 H, .int .i64 W, .int .i64 C, .slice A n c] 50)) := (Below.refl _ _).alloc (by first | exact Nat.le_refl _ | (simp; done) | (simp; omega)) _
       refine (fill_yes H W C 0 m HS.out HM.out _).mono ?_
       rintro e w1 ⟨v1, rfl, ho1, hb⟩
       have hh : Below w.heap.size w w1 := hal.trans (hb.mono hal.size)
       have qTA := (boxNew H W C A n c 50) w
       try simp only [World.size_alloc] at qTA
       have TA := Lib.hid (qTA.below (by first | (simp; done) | (simp; omega)) hb)
       have yTA : w.heap.size < w1.heap.size := by have := hb.size; simp at this; omega
       clear qTA
       have HBW : Hid (Below w.heap.size w w1) := Lib.hid hh
       obtain ⟨A1, c1, rfl, -, -, -⟩ := Kit.own_rd ho1
       clear ho1
       obtain ⟨tap0, tap1, tap2, tap3⟩ := TA.out
       clear hb hh hal))
      go_ret
      exact ⟨rfl, HBW.out.alloc HBW.out.size _⟩
    · obtain rfl : false = b := by rw [← hbn]; simp [e]
      have e1 : ((n : Int) == (m : Int)) = false := by simp; omega
      have e2 : ¬ (n : Int) = (m : Int) := by omega
      clear e hbn
      go_enter Try.func26, Try.ntmps26
      go_wp2_with (first
    | (go_at_call 36
       have hal : Below w.heap.size w (w.alloc (.cells #[.int .i64 H, .int .i64 W, .int .i64 C, .slice A n c] 50)) := (Below.refl _ _).alloc (by first | exact Nat.le_refl _ | (simp; done) | (simp; omega)) _
       refine (fill_yes H W C 0 m HS.out HM.out _).mono ?_
       rintro e w1 ⟨v1, rfl, ho1, hb⟩
       have hh : Below w.heap.size w w1 := hal.trans (hb.mono hal.size)
       have qTA := (boxNew H W C A n c 50) w
       try simp only [World.size_alloc] at qTA
       have TA := Lib.hid (qTA.below (by first | (simp; done) | (simp; omega)) hb)
       have yTA : w.heap.size < w1.heap.size := by have := hb.size; simp at this; omega
       clear qTA
       have HBW : Hid (Below w.heap.size w w1) := Lib.hid hh
       obtain ⟨A1, c1, rfl, -, -, -⟩ := Kit.own_rd ho1
       clear ho1
       obtain ⟨tap0, tap1, tap2, tap3⟩ := TA.out
       clear hb hh hal))
      go_ret
      exact ⟨rfl, HBW.out.alloc HBW.out.size _⟩
end Go.Proofs.Ytpokeklphmfcnaa.CAct
