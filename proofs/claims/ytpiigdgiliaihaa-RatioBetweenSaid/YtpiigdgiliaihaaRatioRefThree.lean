/- Contracts of the document's own answers of layer 3 (ratio): which scale is less, told by their bits. -/
import Derived.Test.YtpiigdgiliaihaaRatioRefTwo
namespace Go.Proofs.Ytpiigdgiliaihaa.CRatio
open Go Go.ChangeShapes Go.WideShapes Go.ChangeAt Go.RowKit
open Plain CSat CFix Num
set_option linter.unusedVariables false

set_option maxHeartbeats 2000000 in
theorem refLess_yes (m s m' s' : Nat) (z z' : Int) (v : Bool) (h1 : 1 ≤ m) (h2 : m ≤ 2147483647) (hs : s ≤ 62) (h1' : 1 ≤ m') (h2' : m' ≤ 2147483647) (hs' : s' ≤ 62) (hv : lessN m s m' s' = v) (w : World) :
    Calls Try.prog 15 #[.agg #[.int .i32 (m : Int), .int .i64 (s : Int), .int .i8 z], .agg #[.int .i32 (m' : Int), .int .i64 (s' : Int), .int .i8 z']] w fun e w' => e = .returned (.bool v) ∧ Below w.heap.size w w' := by
  have HR := Lib.hid (show rightB m s = true by simp [rightB]; omega)
  have HR' := Lib.hid (show rightB m' s' = true by simp [rightB]; omega)
  have HV := Lib.hid hv
  have H0 : Hid (up m s / 2 ^ 105 = up m' s' / 2 ^ 105) := Lib.hid (by rw [up_top (by omega), up_top (by omega)])
  clear hv
  go_enter Try.func15, Try.ntmps15
  go_wp2_with (first
    | (go_at_call 16; ((with_reducible refine (refRight_yes (m : Int) (s : Int) z HR.out _).mono ?_); rintro e w1 ⟨rfl, hb1⟩; obtain ⟨hc1, hf1⟩ := Kit.bcell hb1))
    | (go_at_call 16; ((with_reducible refine (refRight_yes (m' : Int) (s' : Int) z' HR'.out _).mono ?_); rintro e w2 ⟨rfl, hb2⟩; obtain ⟨hc2, hf2⟩ := Kit.bcell hb2)))
  have s1 : w.heap.size + 1 < w1.heap.size := by have := hb1.size; simp at this; omega
  have s2 : w.heap.size + 1 < w2.heap.size := by have := hb2.size; omega
  have z2 : Below w.heap.size w w2 := ((((Below.refl _ _).alloc (Nat.le_refl _) _).alloc (by simp) _).trans (hb1.mono (by simp; omega))).trans (hb2.mono (by omega))
  have c0 : w2.cell? ⟨w.heap.size, 0, none⟩ = some (.int .i32 (m : Int)) := (hb2.cell (p := ⟨w.heap.size, 0, none⟩) (by simp; omega)).trans (by go_cell)
  have c1 : w2.cell? ⟨w.heap.size, 1, none⟩ = some (.int .i64 (s : Int)) := (hb2.cell (p := ⟨w.heap.size, 1, none⟩) (by simp; omega)).trans (by go_cell)
  have c2 : w2.cell? ⟨w.heap.size, 2, none⟩ = some (.int .i8 z) := (hb2.cell (p := ⟨w.heap.size, 2, none⟩) (by simp; omega)).trans (by go_cell)
  have c3 : w2.cell? ⟨w.heap.size + 1, 0, none⟩ = some (.int .i32 (m' : Int)) := (hb2.cell (p := ⟨w.heap.size + 1, 0, none⟩) (by simp; omega)).trans (by go_cell)
  have c4 : w2.cell? ⟨w.heap.size + 1, 1, none⟩ = some (.int .i64 (s' : Int)) := (hb2.cell (p := ⟨w.heap.size + 1, 1, none⟩) (by simp; omega)).trans (by go_cell)
  have c5 : w2.cell? ⟨w.heap.size + 1, 2, none⟩ = some (.int .i8 z') := (hb2.cell (p := ⟨w.heap.size + 1, 2, none⟩) (by simp; omega)).trans (by go_cell)
  clear hc1 hf1 hc2 hf2 hb1 hb2
  go_loopw [5] (fun t wr => ∃ (k : Nat) (p : Int), k ≤ 105 ∧ -65 ≤ p ∧ p ≤ 40 ∧ t = .int .i64 p ∧ Hid (p = (k : Int) - 65) ∧ Hid (up m s / 2 ^ k = up m' s' / 2 ^ k) ∧ Hid (Below w2.heap.size w2 wr)) (fun t _ => (intOf t + 65).toNat)
  case atStart => exact ⟨105, 40, by omega, by omega, by omega, rfl, Lib.hid (by omega), H0, Lib.hid (Below.refl _ _)⟩
  case round =>
    obtain ⟨k, p, hk, hp1, hp2, rfl, hpe, hup, hbw⟩ := hrel
    by_cases hlt : -64 ≤ p
    · have hk0 : ∃ k', k = k' + 1 := ⟨k - 1, by have := hpe.out; omega⟩
      obtain ⟨k', rfl⟩ := hk0
      have hpk : p = (k' : Int) - 64 := by have := hpe.out; omega
      have hst := bits_step (m := m) (s := s) (m' := m') (s' := s') (k := k') (by omega) hs (by omega) hs' hup.out
      obtain ⟨bx, hbx⟩ : ∃ b : Int, ((bitN m s k' : Nat) : Int) = b := ⟨_, rfl⟩
      obtain ⟨bz, hbz⟩ : ∃ b : Int, ((bitN m' s' k' : Nat) : Int) = b := ⟨_, rfl⟩
      have cs : (bx = bz ∧ Hid (up m s / 2 ^ k' = up m' s' / 2 ^ k')) ∨ (¬ bx = bz ∧ decide (bx < bz) = v) := by
        rcases hst with ⟨q1, q2⟩ | ⟨q1, q2⟩
        · exact .inl ⟨by omega, Lib.hid q2⟩
        · refine .inr ⟨by omega, ?_⟩
          rw [← HV.out, ← q2]
          congr 1; apply propext; omega
      have HX := Lib.hid hbx
      have HZ := Lib.hid hbz
      clear hbx hbz hst
      have hsz2 : w2.heap.size ≤ wr.heap.size := hbw.out.size
      have hsz : w.heap.size + 1 < wr.heap.size := by omega
      have d0 : wr.cell? ⟨w.heap.size, 0, none⟩ = some (.int .i32 (m : Int)) := (hbw.out.cell (p := ⟨w.heap.size, 0, none⟩) (by simp; omega)).trans (by assumption)
      have d1 : wr.cell? ⟨w.heap.size, 1, none⟩ = some (.int .i64 (s : Int)) := (hbw.out.cell (p := ⟨w.heap.size, 1, none⟩) (by simp; omega)).trans (by assumption)
      have d2 : wr.cell? ⟨w.heap.size, 2, none⟩ = some (.int .i8 z) := (hbw.out.cell (p := ⟨w.heap.size, 2, none⟩) (by simp; omega)).trans (by assumption)
      have d3 : wr.cell? ⟨w.heap.size + 1, 0, none⟩ = some (.int .i32 (m' : Int)) := (hbw.out.cell (p := ⟨w.heap.size + 1, 0, none⟩) (by simp; omega)).trans (by assumption)
      have d4 : wr.cell? ⟨w.heap.size + 1, 1, none⟩ = some (.int .i64 (s' : Int)) := (hbw.out.cell (p := ⟨w.heap.size + 1, 1, none⟩) (by simp; omega)).trans (by assumption)
      have d5 : wr.cell? ⟨w.heap.size + 1, 2, none⟩ = some (.int .i8 z') := (hbw.out.cell (p := ⟨w.heap.size + 1, 2, none⟩) (by simp; omega)).trans (by assumption)
      clear c0 c1 c2 c3 c4 c5
      have HPK := Lib.hid hpk
      have hk4 : k' ≤ 104 := by omega
      clear hpk
      have HBW := hbw.out
      go_wp2_with fail
      go_region_held3 (fun w' => w'.cell? ⟨w.heap.size, 0, none⟩ = some (.int .i32 (m : Int)) ∧ w'.cell? ⟨w.heap.size, 1, none⟩ = some (.int .i64 (s : Int)) ∧ w'.cell? ⟨w.heap.size, 2, none⟩ = some (.int .i8 z) ∧ w'.cell? ⟨w.heap.size + 1, 0, none⟩ = some (.int .i32 (m' : Int)) ∧ w'.cell? ⟨w.heap.size + 1, 1, none⟩ = some (.int .i64 (s' : Int)) ∧ w'.cell? ⟨w.heap.size + 1, 2, none⟩ = some (.int .i8 z')) (go_keep) ((first
        | (go_at_call 21; ((with_reducible refine (refBit_to m s z p bx k' h2 hs HPK.out hk4 HX.out _).mono ?_); (rintro e wA ⟨rfl, hA⟩; have e0 : wA.cell? ⟨w.heap.size, 0, none⟩ = some (.int .i32 (m : Int)) := (hA.cell (p := ⟨w.heap.size, 0, none⟩) (by first | omega | (simp; done) | (simp; omega))).trans (by go_cell); have e1 : wA.cell? ⟨w.heap.size, 1, none⟩ = some (.int .i64 (s : Int)) := (hA.cell (p := ⟨w.heap.size, 1, none⟩) (by first | omega | (simp; done) | (simp; omega))).trans (by go_cell); have e2 : wA.cell? ⟨w.heap.size, 2, none⟩ = some (.int .i8 z) := (hA.cell (p := ⟨w.heap.size, 2, none⟩) (by first | omega | (simp; done) | (simp; omega))).trans (by go_cell); have e3 : wA.cell? ⟨w.heap.size + 1, 0, none⟩ = some (.int .i32 (m' : Int)) := (hA.cell (p := ⟨w.heap.size + 1, 0, none⟩) (by first | omega | (simp; done) | (simp; omega))).trans (by go_cell); have e4 : wA.cell? ⟨w.heap.size + 1, 1, none⟩ = some (.int .i64 (s' : Int)) := (hA.cell (p := ⟨w.heap.size + 1, 1, none⟩) (by first | omega | (simp; done) | (simp; omega))).trans (by go_cell); have e5 : wA.cell? ⟨w.heap.size + 1, 2, none⟩ = some (.int .i8 z') := (hA.cell (p := ⟨w.heap.size + 1, 2, none⟩) (by first | omega | (simp; done) | (simp; omega))).trans (by go_cell); have sA : wr.heap.size ≤ wA.heap.size := (by have := hA.size; first | omega | (simp at this; omega)); have zA : Below w2.heap.size w2 wA := (by go_grown : Below w2.heap.size w2 _).trans (hA.mono (by first | omega | (simp; done) | (simp; omega))))))
        | (go_at_call 21; ((with_reducible refine (refBit_to m' s' z' p bz k' h2' hs' HPK.out hk4 HZ.out _).mono ?_); (rintro e wB ⟨rfl, hB⟩; have f0 : wB.cell? ⟨w.heap.size, 0, none⟩ = some (.int .i32 (m : Int)) := (hB.cell (p := ⟨w.heap.size, 0, none⟩) (by first | omega | (simp; done) | (simp; omega))).trans (by go_cell); have f1 : wB.cell? ⟨w.heap.size, 1, none⟩ = some (.int .i64 (s : Int)) := (hB.cell (p := ⟨w.heap.size, 1, none⟩) (by first | omega | (simp; done) | (simp; omega))).trans (by go_cell); have f2 : wB.cell? ⟨w.heap.size, 2, none⟩ = some (.int .i8 z) := (hB.cell (p := ⟨w.heap.size, 2, none⟩) (by first | omega | (simp; done) | (simp; omega))).trans (by go_cell); have f3 : wB.cell? ⟨w.heap.size + 1, 0, none⟩ = some (.int .i32 (m' : Int)) := (hB.cell (p := ⟨w.heap.size + 1, 0, none⟩) (by first | omega | (simp; done) | (simp; omega))).trans (by go_cell); have f4 : wB.cell? ⟨w.heap.size + 1, 1, none⟩ = some (.int .i64 (s' : Int)) := (hB.cell (p := ⟨w.heap.size + 1, 1, none⟩) (by first | omega | (simp; done) | (simp; omega))).trans (by go_cell); have f5 : wB.cell? ⟨w.heap.size + 1, 2, none⟩ = some (.int .i8 z') := (hB.cell (p := ⟨w.heap.size + 1, 2, none⟩) (by first | omega | (simp; done) | (simp; omega))).trans (by go_cell); have sB : wA.heap.size ≤ wB.heap.size := (by have := hB.size; first | omega | (simp at this; omega)); have zB : Below w2.heap.size w2 wB := zA.trans (hB.mono (by first | omega | (simp; done) | (simp; omega))))))))
      rcases cs with ⟨q1, q2⟩ | ⟨q1, q2⟩
      · subst q1
        have HN := Lib.hid zB
        clear HBW zA zB hA hB
        go_wp2
        go_roundw
        case rel => exact ⟨k', p - 1, by omega, by omega, by omega, by go_num, Lib.hid (by have := HPK.out; omega), q2, HN⟩
        case measure => simp [intOf]; omega
      · have t1 : (bx != bz) = true := by simp [q1]
        go_wp2
        go_ret
        exact ⟨by first | rfl | rw [← q2], by first | exact z2.trans (zB.mono (by omega)) | exact z2.trans ((by go_grown : Below w2.heap.size w2 _).mono (by omega))⟩
    · have hk0 : k = 0 := by have := hpe.out; omega
      subst hk0
      have hv : v = false := by rw [← HV.out]; exact bits_end hs hs' hup.out
      subst hv
      have HBW := hbw.out
      go_wp2
      go_ret
      exact ⟨rfl, z2.trans (HBW.mono (by omega))⟩
end Go.Proofs.Ytpiigdgiliaihaa.CRatio
