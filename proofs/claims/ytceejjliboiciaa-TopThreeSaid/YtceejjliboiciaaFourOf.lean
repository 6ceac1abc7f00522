/- Layer 14 (four): the contract of the code's four sums. -/
import Derived.Test.YtceejjliboiciaaFourTurn
namespace Go.Proofs.Ytceejjliboiciaa.CFour
open Go Go.ChangeShapes Go.WideShapes Go.ChangeAt Go.RowKit
open FloatNum
set_option linter.unusedVariables false

theorem st_c' : True := trivial
theorem ixi0 (a b c d : Int) (w : World) : (Instr.index 113 (.agg #[.int .i16 a, .int .i16 b, .int .i16 c, .int .i16 d]) (.int .i64 0)).run Try.prog w = .ok (.int .i16 a) w := by kernel_rfl
theorem ixi1 (a b c d : Int) (w : World) : (Instr.index 113 (.agg #[.int .i16 a, .int .i16 b, .int .i16 c, .int .i16 d]) (.int .i64 1)).run Try.prog w = .ok (.int .i16 b) w := by kernel_rfl
theorem ixi2 (a b c d : Int) (w : World) : (Instr.index 113 (.agg #[.int .i16 a, .int .i16 b, .int .i16 c, .int .i16 d]) (.int .i64 2)).run Try.prog w = .ok (.int .i16 c) w := by kernel_rfl
theorem ixi3 (a b c d : Int) (w : World) : (Instr.index 113 (.agg #[.int .i16 a, .int .i16 b, .int .i16 c, .int .i16 d]) (.int .i64 3)).run Try.prog w = .ok (.int .i16 d) w := by kernel_rfl
/-- a whole number as a complex one. -/
theorem isC_int (n : Int) (hn : In16 n) : IsC (.complex .f64 (FloatKind.f64.nearest n) 0) (n, 0) := ⟨_, _, rfl, IsF.ofInt n (by unfold In16 at hn; show n.natAbs < 2 ^ 53; omega), isF_zero⟩

set_option maxHeartbeats 4000000 in
theorem of_to (a b c d : Int) (ha : In16 a) (hb : In16 b) (hc : In16 c) (hd : In16 d) (w : World) :
    Calls Try.prog 61 #[.agg #[.int .i16 a, .int .i16 b, .int .i16 c, .int .i16 d]] w fun e' w' => (∃ S, e' = .returned (agg4 S) ∧ ∀ i, i < 4 → IsC (S i) (gpart (lp a b c d) (-1) i 4)) ∧ Below w.heap.size w w' := by
  have HL := Lib.hid (l4_in ha hb hc hd)
  have HP := Lib.hid (lp_bd ha hb hc hd)
  clear ha hb hc hd
  go_enter Try.func61, Try.ntmps61
  go_wp2_with fail
  go_loopw [7] (fun u wr => ∃ (k : Nat) (S : Nat → Value), k ≤ 4 ∧ u = .int .i64 k ∧ Hid (FillR (lp a b c d) k S) ∧ Hid (Four (w.heap.size + 1 + 1) S wr) ∧ Hid (Four (w.heap.size + 1) (fun _ => z0) wr) ∧ Hid (Below w.heap.size w wr)) (fun u _ => 4 - (intOf u).toNat)
  case atStart =>
    have h2 := Four.new ((w.alloc (.cells #[.int .i16 a, .int .i16 b, .int .i16 c, .int .i16 d] 113)).alloc (.cells #[z0, z0, z0, z0] 101)) z0 101
    have h1 := (Four.new (w.alloc (.cells #[.int .i16 a, .int .i16 b, .int .i16 c, .int .i16 d] 113)) z0 101).below ((Below.refl _ _).alloc (Nat.le_refl _) (.cells #[z0, z0, z0, z0] 101)) (by simp)
    have e2 : ((w.alloc (.cells #[.int .i16 a, .int .i16 b, .int .i16 c, .int .i16 d] 113)).alloc (.cells #[z0, z0, z0, z0] 101)).heap.size = w.heap.size + 1 + 1 := by simp
    have e1 : (w.alloc (.cells #[.int .i16 a, .int .i16 b, .int .i16 c, .int .i16 d] 113)).heap.size = w.heap.size + 1 := by simp
    rw [e2] at h2
    rw [e1] at h1
    exact ⟨0, fun _ => z0, by omega, rfl, Lib.hid (FillR.start _), Lib.hid h2, Lib.hid h1, Lib.hid ((((Below.refl _ _).alloc (Nat.le_refl _) _).alloc (by simp) _).alloc (by simp; omega) _)⟩
  case round =>
    obtain ⟨k, S, hk, rfl, hS, hF, hR, hBw⟩ := hrel
    by_cases hlt : k < 4
    · have hv := isC_int _ (HL.out k)
      have HV : Hid (FillR (lp a b c d) (k + 1) _) := Lib.hid (hS.out.step (v := .complex .f64 (FloatKind.f64.nearest (l4 a b c d k)) 0) hv)
      have HG := Lib.hid (hF.out.set hlt (.complex .f64 (FloatKind.f64.nearest (l4 a b c d k)) 0))
      have HR1 := Lib.hid (hR.out.other (g' := w.heap.size + 1 + 1) (k := k) (.complex .f64 (FloatKind.f64.nearest (l4 a b c d k)) 0) (by omega))
      have HB1 := Lib.hid (hBw.out.setCell (p := ⟨w.heap.size + 1 + 1, k, none⟩) (by show w.heap.size ≤ w.heap.size + 1 + 1; omega) (.complex .f64 (FloatKind.f64.nearest (l4 a b c d k)) 0))
      have hst := fun x => st_c x 0
      have c0 := hF.out.1 0 (by omega)
      have c1 := hF.out.1 1 (by omega)
      have c2 := hF.out.1 2 (by omega)
      have c3 := hF.out.1 3 (by omega)
      have f0 := hF.out.2.1 0 (by omega)
      have f1 := hF.out.2.1 1 (by omega)
      have f2 := hF.out.2.1 2 (by omega)
      have f3 := hF.out.2.1 3 (by omega)
      have x0 := ixi0 a b c d
      have x1 := ixi1 a b c d
      have x2 := ixi2 a b c d
      have x3 := ixi3 a b c d
      clear hv
      obtain rfl | rfl | rfl | rfl := lt4 hlt
      all_goals
        go_wp2
        go_roundw
        case rel => exact ⟨_, _, by omega, by go_num, HV, HG, HR1, HB1⟩
        case measure => simp [intOf]
    · have hk4 : k = 4 := by omega
      subst hk4
      have HX := Lib.hid (fun i (hi : i < 4) => hS.out.all (i := i) hi)
      have hn1 : IsC (.complex .f64 0 13830554455654793216) (0, -1) := ⟨_, _, rfl, isF_zero, isF_neg⟩
      have HN := Lib.hid hn1
      have c0 := hF.out.1 0 (by omega)
      have c1 := hF.out.1 1 (by omega)
      have c2 := hF.out.1 2 (by omega)
      have c3 := hF.out.1 3 (by omega)
      clear hlt hk hn1
      go_wp2_with (go_at_call 65; ((with_reducible refine (turned_to S (lp a b c d) (.complex .f64 0 13830554455654793216) (-1) (.inr rfl) 32768 (by decide) HX.out HP.out HN.out _).mono ?_); rintro e2 w2 ⟨⟨Y, rfl, hAll⟩, hb2⟩; obtain ⟨hcc, hff⟩ := Kit.bcell hb2; have hRR := hR.out.below hb2 hR.out.2.2; have hBx := hBw.out.trans (hb2.mono hBw.out.size); skip))
      have d0 := hRR.1 0 (by omega)
      have d1 := hRR.1 1 (by omega)
      have d2 := hRR.1 2 (by omega)
      have d3 := hRR.1 3 (by omega)
      have f0 := hRR.2.1 0 (by omega)
      have f1 := hRR.2.1 1 (by omega)
      have f2 := hRR.2.1 2 (by omega)
      have f3 := hRR.2.1 3 (by omega)
      obtain ⟨a0, b0, s0, -⟩ := hAll (0 : Nat) (by omega)
      obtain ⟨a1, b1, s1, -⟩ := hAll (1 : Nat) (by omega)
      obtain ⟨a2, b2, s2, -⟩ := hAll (2 : Nat) (by omega)
      obtain ⟨a3, b3, s3, -⟩ := hAll (3 : Nat) (by omega)
      have t0 := st_c a0 b0
      have t1 := st_c a1 b1
      have t2 := st_c a2 b2
      have t3 := st_c a3 b3
      have HA := Lib.hid hAll
      clear hAll
      have HS0 := Lib.hid s0
      have HS1 := Lib.hid s1
      have HS2 := Lib.hid s2
      have HS3 := Lib.hid s3
      go_wp2
      refine bodyPost_ret (Kit.results_c rfl _ _ (w.heap.size + 1) 0 [.complex .f64 a0 b0, .complex .f64 a1 b1, .complex .f64 a2 b2, .complex .f64 a3 b3] _ rfl (range_4 (by go_cell) (by go_cell) (by go_cell) (by go_cell)) Try.underlying101 rfl (by kernel_rfl)) rfl ?_
      refine ⟨⟨Y, ?_, HA.out⟩, ?_⟩
      · unfold agg4
        rw [HS0.out, HS1.out, HS2.out, HS3.out]
      · have := hBx
        go_grown

end Go.Proofs.Ytceejjliboiciaa.CFour
