/- Contracts of package ratio (layer 3), the second part: which scale is less, and products. -/
import Derived.Test.YtpiigdgiliaihaaRatio
import Derived.Deep.CutRange
namespace Go.Proofs.Ytpiigdgiliaihaa.CRatio
open Go Go.ChangeShapes Go.WideShapes Go.ChangeAt Go.RowKit
open Plain CSat CFix Num
set_option linter.unusedVariables false

set_option maxHeartbeats 4000000 in
theorem less_yes (m s m' s' : Nat) (zz zz' : Int) (h1 : 1 ≤ m) (h2 : m ≤ 2147483647) (hs : s ≤ 62) (h1' : 1 ≤ m') (h2' : m' ≤ 2147483647) (hs' : s' ≤ 62) (w : World) :
    Calls Try.prog 14 #[.agg #[.int .i32 (m : Int), .int .i64 (s : Int), .int .i8 zz], .agg #[.int .i32 (m' : Int), .int .i64 (s' : Int), .int .i8 zz']] w fun e w' => e = .returned (.bool (lessN m s m' s')) ∧ Below w.heap.size w w' := by
  have HR := Lib.hid (show rightB m s = true by simp [rightB]; omega)
  have HR' := Lib.hid (show rightB m' s' = true by simp [rightB]; omega)
  obtain ⟨a, ha⟩ : ∃ a : Int, ((m * 2 ^ s' / 18446744073709551616 : Nat) : Int) = a := ⟨_, rfl⟩
  obtain ⟨b, hb⟩ : ∃ a : Int, ((m * 2 ^ s' % 18446744073709551616 : Nat) : Int) = a := ⟨_, rfl⟩
  obtain ⟨c, hc⟩ : ∃ a : Int, ((m' * 2 ^ s / 18446744073709551616 : Nat) : Int) = a := ⟨_, rfl⟩
  obtain ⟨d, hd⟩ : ∃ a : Int, ((m' * 2 ^ s % 18446744073709551616 : Nat) : Int) = a := ⟨_, rfl⟩
  have key1 : ¬ a = c → decide (a < c) = lessN m s m' s' := by
    unfold lessN
    generalize m * 2 ^ s' = P at *
    generalize m' * 2 ^ s = Q at *
    intro h
    congr 1; apply propext; omega
  have key2 : a = c → decide (b < d) = lessN m s m' s' := by
    unfold lessN
    generalize m * 2 ^ s' = P at *
    generalize m' * 2 ^ s = Q at *
    intro h
    congr 1; apply propext; omega
  obtain ⟨v, hv⟩ : ∃ v, lessN m s m' s' = v := ⟨_, rfl⟩
  rw [hv] at key1 key2 ⊢
  have K1 := Lib.hid key1
  have K2 := Lib.hid key2
  clear hv key1 key2
  have HA := Lib.hid ha
  have HB := Lib.hid hb
  have HC := Lib.hid hc
  have HD := Lib.hid hd
  clear ha hb hc hd
  go_enter Try.func14, Try.ntmps14
  go_wp2_with (first
    | (go_at_call 19; ((with_reducible refine (isRight_yes (m : Int) (s : Int) zz HR.out _).mono ?_); rintro e w1 ⟨rfl, hb1⟩; obtain ⟨hc1, hf1⟩ := Kit.bcell hb1))
    | (go_at_call 19; ((with_reducible refine (isRight_yes (m' : Int) (s' : Int) zz' HR'.out _).mono ?_); rintro e w2 ⟨rfl, hb2⟩; obtain ⟨hc2, hf2⟩ := Kit.bcell hb2)))
  have s1 : w.heap.size + 1 < w1.heap.size := by have := hb1.size; simp at this; omega
  have s2 : w.heap.size + 1 < w2.heap.size := by have := hb2.size; omega
  have z2 : Below w.heap.size w w2 := ((((Below.refl _ _).alloc (Nat.le_refl _) _).alloc (by simp) _).trans (hb1.mono (by simp; omega))).trans (hb2.mono (by omega))
  have c0 : w2.cell? ⟨w.heap.size, 0, none⟩ = some (.int .i32 (m : Int)) := (hb2.cell (p := ⟨w.heap.size, 0, none⟩) (by first | omega | (simp; omega))).trans (by go_cell)
  have c1 : w2.cell? ⟨w.heap.size, 1, none⟩ = some (.int .i64 (s : Int)) := (hb2.cell (p := ⟨w.heap.size, 1, none⟩) (by first | omega | (simp; omega))).trans (by go_cell)
  have d0 : w2.cell? ⟨w.heap.size + 1, 0, none⟩ = some (.int .i32 (m' : Int)) := (hb2.cell (p := ⟨w.heap.size + 1, 0, none⟩) (by first | omega | (simp; omega))).trans (by go_cell)
  have d1 : w2.cell? ⟨w.heap.size + 1, 1, none⟩ = some (.int .i64 (s' : Int)) := (hb2.cell (p := ⟨w.heap.size + 1, 1, none⟩) (by first | omega | (simp; omega))).trans (by go_cell)
  clear hc1 hf1 hc2 hf2 hb1 hb2
  have pa : w.heap.size < w2.heap.size := (by omega)
  have pb : w.heap.size + 1 < w2.heap.size := (by omega)
  have pc0 : ¬ w.heap.size = w2.heap.size := (by omega)
  have pd0 : ¬ w2.heap.size = w.heap.size := (by omega)
  have pc1 : ¬ w.heap.size + 1 = w2.heap.size := (by omega)
  have pd1 : ¬ w2.heap.size = w.heap.size + 1 := (by omega)
  have qa : w.heap.size < w2.heap.size + 1 := (by omega)
  have qb : w.heap.size + 1 < w2.heap.size + 1 := (by omega)
  have qc0 : ¬ w.heap.size = w2.heap.size + 1 := (by omega)
  have qd0 : ¬ w2.heap.size + 1 = w.heap.size := (by omega)
  have qc1 : ¬ w.heap.size + 1 = w2.heap.size + 1 := (by omega)
  have qd1 : ¬ w2.heap.size + 1 = w.heap.size + 1 := (by omega)
  go_cut [5, 6] from 15 to 24 (fun t5 t6 wx => ∃ g5 g6 : Nat, t5 = .pointer (some ⟨g5, 0, none⟩) ∧ t6 = .pointer (some ⟨g6, 0, none⟩) ∧ wx.cell? ⟨g5, 0, none⟩ = some (.int .u64 a) ∧ wx.cell? ⟨g5, 1, none⟩ = some (.int .u64 b) ∧
      wx.cell? ⟨g6, 0, none⟩ = some (.int .u64 c) ∧ wx.cell? ⟨g6, 1, none⟩ = some (.int .u64 d) ∧ Below w.heap.size w wx)
  case first =>
    go_region_held3 (fun w' => w'.cell? ⟨w.heap.size, 0, none⟩ = some (.int .i32 (m : Int)) ∧ w'.cell? ⟨w.heap.size, 1, none⟩ = some (.int .i64 (s : Int)) ∧ w'.cell? ⟨w.heap.size + 1, 0, none⟩ = some (.int .i32 (m' : Int)) ∧ w'.cell? ⟨w.heap.size + 1, 1, none⟩ = some (.int .i64 (s' : Int))) (go_keep) ((first
      | (go_at_call 20; ((with_reducible refine (raised_to m s' a b h1 h2 hs' HA.out HB.out _).mono ?_); rintro e w3 ⟨rfl, h3⟩; have e0 : w3.cell? ⟨w.heap.size, 0, none⟩ = some (.int .i32 (m : Int)) := (h3.cell (p := ⟨w.heap.size, 0, none⟩) (by first | omega | (simp; omega))).trans (by go_cell); have e1 : w3.cell? ⟨w.heap.size, 1, none⟩ = some (.int .i64 (s : Int)) := (h3.cell (p := ⟨w.heap.size, 1, none⟩) (by first | omega | (simp; omega))).trans (by go_cell); have e2 : w3.cell? ⟨w.heap.size + 1, 0, none⟩ = some (.int .i32 (m' : Int)) := (h3.cell (p := ⟨w.heap.size + 1, 0, none⟩) (by first | omega | (simp; omega))).trans (by go_cell); have e3 : w3.cell? ⟨w.heap.size + 1, 1, none⟩ = some (.int .i64 (s' : Int)) := (h3.cell (p := ⟨w.heap.size + 1, 1, none⟩) (by first | omega | (simp; omega))).trans (by go_cell); have s3 : w2.heap.size ≤ w3.heap.size := (by have := h3.size; first | omega | (simp at this; omega)); (first | (have xl : w2.heap.size < w3.heap.size := (by have := h3.size; first | omega | (simp at this; omega)); have xn : ¬ w2.heap.size = w3.heap.size := Nat.ne_of_lt xl; have xm : ¬ w3.heap.size = w2.heap.size := Nat.ne_of_gt xl; have x0 : w3.cell? ⟨w2.heap.size, 0, none⟩ = some (.int .u64 0) := (h3.cell (p := ⟨w2.heap.size, 0, none⟩) (by first | omega | (simp; done) | (simp; omega))).trans (by go_cell); have xf0 : w3.frozen? ⟨w2.heap.size, 0, none⟩ = false := (h3.frozen (p := ⟨w2.heap.size, 0, none⟩) (by first | omega | (simp; done) | (simp; omega))).trans (by go_cell); have x1 : w3.cell? ⟨w2.heap.size, 1, none⟩ = some (.int .u64 0) := (h3.cell (p := ⟨w2.heap.size, 1, none⟩) (by first | omega | (simp; done) | (simp; omega))).trans (by go_cell); have xf1 : w3.frozen? ⟨w2.heap.size, 1, none⟩ = false := (h3.frozen (p := ⟨w2.heap.size, 1, none⟩) (by first | omega | (simp; done) | (simp; omega))).trans (by go_cell)) | skip); (first | (have yl : w2.heap.size + 1 < w3.heap.size := (by have := h3.size; first | omega | (simp at this; omega)); have yn : ¬ w2.heap.size + 1 = w3.heap.size := Nat.ne_of_lt yl; have ym : ¬ w3.heap.size = w2.heap.size + 1 := Nat.ne_of_gt yl; have y0 : w3.cell? ⟨w2.heap.size + 1, 0, none⟩ = some (.int .u64 0) := (h3.cell (p := ⟨w2.heap.size + 1, 0, none⟩) (by first | omega | (simp; done) | (simp; omega))).trans (by go_cell); have yf0 : w3.frozen? ⟨w2.heap.size + 1, 0, none⟩ = false := (h3.frozen (p := ⟨w2.heap.size + 1, 0, none⟩) (by first | omega | (simp; done) | (simp; omega))).trans (by go_cell); have y1 : w3.cell? ⟨w2.heap.size + 1, 1, none⟩ = some (.int .u64 0) := (h3.cell (p := ⟨w2.heap.size + 1, 1, none⟩) (by first | omega | (simp; done) | (simp; omega))).trans (by go_cell); have yf1 : w3.frozen? ⟨w2.heap.size + 1, 1, none⟩ = false := (h3.frozen (p := ⟨w2.heap.size + 1, 1, none⟩) (by first | omega | (simp; done) | (simp; omega))).trans (by go_cell)) | skip); have ra : w.heap.size < w3.heap.size := (by omega); have rb : w.heap.size + 1 < w3.heap.size := (by omega); have rc0 : ¬ w.heap.size = w3.heap.size := (by omega); have rd0 : ¬ w3.heap.size = w.heap.size := (by omega); have rc1 : ¬ w.heap.size + 1 = w3.heap.size := (by omega); have rd1 : ¬ w3.heap.size = w.heap.size + 1 := (by omega); have ua : w.heap.size < w3.heap.size + 1 := (by omega); have ub : w.heap.size + 1 < w3.heap.size + 1 := (by omega); have uc0 : ¬ w.heap.size = w3.heap.size + 1 := (by omega); have ud0 : ¬ w3.heap.size + 1 = w.heap.size := (by omega); have uc1 : ¬ w.heap.size + 1 = w3.heap.size + 1 := (by omega); have ud1 : ¬ w3.heap.size + 1 = w.heap.size + 1 := (by omega); have z3 : Below w.heap.size w w3 := (by go_grown : Below w.heap.size w _).trans (h3.mono (by first | omega | (simp; omega)))))
      | (go_at_call 20; ((with_reducible refine (raised_to m' s c d h1' h2' hs HC.out HD.out _).mono ?_); rintro e w4 ⟨rfl, h4⟩; have f0 : w4.cell? ⟨w.heap.size, 0, none⟩ = some (.int .i32 (m : Int)) := (h4.cell (p := ⟨w.heap.size, 0, none⟩) (by first | omega | (simp; omega))).trans (by go_cell); have f1 : w4.cell? ⟨w.heap.size, 1, none⟩ = some (.int .i64 (s : Int)) := (h4.cell (p := ⟨w.heap.size, 1, none⟩) (by first | omega | (simp; omega))).trans (by go_cell); have f2 : w4.cell? ⟨w.heap.size + 1, 0, none⟩ = some (.int .i32 (m' : Int)) := (h4.cell (p := ⟨w.heap.size + 1, 0, none⟩) (by first | omega | (simp; omega))).trans (by go_cell); have f3 : w4.cell? ⟨w.heap.size + 1, 1, none⟩ = some (.int .i64 (s' : Int)) := (h4.cell (p := ⟨w.heap.size + 1, 1, none⟩) (by first | omega | (simp; omega))).trans (by go_cell); have s4 : w3.heap.size ≤ w4.heap.size := (by have := h4.size; first | omega | (simp at this; omega)); (first | (have kl : w2.heap.size < w4.heap.size := (by have := h4.size; first | omega | (simp at this; omega)); have kn : ¬ w2.heap.size = w4.heap.size := Nat.ne_of_lt kl; have km : ¬ w4.heap.size = w2.heap.size := Nat.ne_of_gt kl; have k0 : w4.cell? ⟨w2.heap.size, 0, none⟩ = some (.int .u64 0) := (h4.cell (p := ⟨w2.heap.size, 0, none⟩) (by first | omega | (simp; done) | (simp; omega))).trans (by go_cell); have kf0 : w4.frozen? ⟨w2.heap.size, 0, none⟩ = false := (h4.frozen (p := ⟨w2.heap.size, 0, none⟩) (by first | omega | (simp; done) | (simp; omega))).trans (by go_cell); have k1 : w4.cell? ⟨w2.heap.size, 1, none⟩ = some (.int .u64 0) := (h4.cell (p := ⟨w2.heap.size, 1, none⟩) (by first | omega | (simp; done) | (simp; omega))).trans (by go_cell); have kf1 : w4.frozen? ⟨w2.heap.size, 1, none⟩ = false := (h4.frozen (p := ⟨w2.heap.size, 1, none⟩) (by first | omega | (simp; done) | (simp; omega))).trans (by go_cell)) | skip); (first | (have ll : w2.heap.size + 1 < w4.heap.size := (by have := h4.size; first | omega | (simp at this; omega)); have ln : ¬ w2.heap.size + 1 = w4.heap.size := Nat.ne_of_lt ll; have lm : ¬ w4.heap.size = w2.heap.size + 1 := Nat.ne_of_gt ll; have l0 : w4.cell? ⟨w2.heap.size + 1, 0, none⟩ = some (.int .u64 0) := (h4.cell (p := ⟨w2.heap.size + 1, 0, none⟩) (by first | omega | (simp; done) | (simp; omega))).trans (by go_cell); have lf0 : w4.frozen? ⟨w2.heap.size + 1, 0, none⟩ = false := (h4.frozen (p := ⟨w2.heap.size + 1, 0, none⟩) (by first | omega | (simp; done) | (simp; omega))).trans (by go_cell); have l1 : w4.cell? ⟨w2.heap.size + 1, 1, none⟩ = some (.int .u64 0) := (h4.cell (p := ⟨w2.heap.size + 1, 1, none⟩) (by first | omega | (simp; done) | (simp; omega))).trans (by go_cell); have lf1 : w4.frozen? ⟨w2.heap.size + 1, 1, none⟩ = false := (h4.frozen (p := ⟨w2.heap.size + 1, 1, none⟩) (by first | omega | (simp; done) | (simp; omega))).trans (by go_cell)) | skip); (first | (have nl : w3.heap.size < w4.heap.size := (by have := h4.size; first | omega | (simp at this; omega)); have nn : ¬ w3.heap.size = w4.heap.size := Nat.ne_of_lt nl; have nm : ¬ w4.heap.size = w3.heap.size := Nat.ne_of_gt nl; have n0 : w4.cell? ⟨w3.heap.size, 0, none⟩ = some (.int .u64 0) := (h4.cell (p := ⟨w3.heap.size, 0, none⟩) (by first | omega | (simp; done) | (simp; omega))).trans (by go_cell); have nf0 : w4.frozen? ⟨w3.heap.size, 0, none⟩ = false := (h4.frozen (p := ⟨w3.heap.size, 0, none⟩) (by first | omega | (simp; done) | (simp; omega))).trans (by go_cell); have n1 : w4.cell? ⟨w3.heap.size, 1, none⟩ = some (.int .u64 0) := (h4.cell (p := ⟨w3.heap.size, 1, none⟩) (by first | omega | (simp; done) | (simp; omega))).trans (by go_cell); have nf1 : w4.frozen? ⟨w3.heap.size, 1, none⟩ = false := (h4.frozen (p := ⟨w3.heap.size, 1, none⟩) (by first | omega | (simp; done) | (simp; omega))).trans (by go_cell)) | skip); (first | (have ol : w3.heap.size + 1 < w4.heap.size := (by have := h4.size; first | omega | (simp at this; omega)); have on : ¬ w3.heap.size + 1 = w4.heap.size := Nat.ne_of_lt ol; have om : ¬ w4.heap.size = w3.heap.size + 1 := Nat.ne_of_gt ol; have o0 : w4.cell? ⟨w3.heap.size + 1, 0, none⟩ = some (.int .u64 0) := (h4.cell (p := ⟨w3.heap.size + 1, 0, none⟩) (by first | omega | (simp; done) | (simp; omega))).trans (by go_cell); have of0 : w4.frozen? ⟨w3.heap.size + 1, 0, none⟩ = false := (h4.frozen (p := ⟨w3.heap.size + 1, 0, none⟩) (by first | omega | (simp; done) | (simp; omega))).trans (by go_cell); have o1 : w4.cell? ⟨w3.heap.size + 1, 1, none⟩ = some (.int .u64 0) := (h4.cell (p := ⟨w3.heap.size + 1, 1, none⟩) (by first | omega | (simp; done) | (simp; omega))).trans (by go_cell); have of1 : w4.frozen? ⟨w3.heap.size + 1, 1, none⟩ = false := (h4.frozen (p := ⟨w3.heap.size + 1, 1, none⟩) (by first | omega | (simp; done) | (simp; omega))).trans (by go_cell)) | skip); have ta : w.heap.size < w4.heap.size := (by omega); have tb : w.heap.size + 1 < w4.heap.size := (by omega); have tc0 : ¬ w.heap.size = w4.heap.size := (by omega); have td0 : ¬ w4.heap.size = w.heap.size := (by omega); have tc1 : ¬ w.heap.size + 1 = w4.heap.size := (by omega); have td1 : ¬ w4.heap.size = w.heap.size + 1 := (by omega); have va : w.heap.size < w4.heap.size + 1 := (by omega); have vb : w.heap.size + 1 < w4.heap.size + 1 := (by omega); have vc0 : ¬ w.heap.size = w4.heap.size + 1 := (by omega); have vd0 : ¬ w4.heap.size + 1 = w.heap.size := (by omega); have vc1 : ¬ w.heap.size + 1 = w4.heap.size + 1 := (by omega); have vd1 : ¬ w4.heap.size + 1 = w.heap.size + 1 := (by omega); have z4 : Below w.heap.size w w4 := (by go_grown : Below w.heap.size w _).trans (h4.mono (by first | omega | (simp; omega)))))))
    all_goals (go_wp2_with fail; go_meet; exact ⟨_, _, rfl, rfl, by go_cell, by go_cell, by go_cell, by go_cell, by go_grown⟩)
  case rest =>
    obtain ⟨g5, g6, rfl, rfl, k0, k1, k2, k3, zc⟩ := hcut
    by_cases hq : a = c
    · have hr := K2.out hq
      have t1 : (a != c) = false := by simp [hq]
      go_wp2
      go_ret
      exact ⟨by first | rfl | rw [← hr], zc⟩
    · have hr := K1.out hq
      have t1 : (a != c) = true := by simp [hq]
      go_wp2
      go_ret
      exact ⟨by first | rfl | rw [← hr], zc⟩

theorem less_no (m s m' s' zz zz' : Int) (h : rightB m s = false ∨ (rightB m s = true ∧ rightB m' s' = false)) (w : World) :
    Calls Try.prog 14 #[.agg #[.int .i32 m, .int .i64 s, .int .i8 zz], .agg #[.int .i32 m', .int .i64 s', .int .i8 zz']] w fun e w' => e = .returned (.bool false) ∧ Below w.heap.size w w' := by
  rcases h with h | ⟨h, h'⟩
  · have HR := Lib.hid h
    clear h
    go_enter Try.func14, Try.ntmps14
    go_wp2_with (go_at_call 19; ((with_reducible refine (isRight_no m s zz HR.out _).mono ?_); rintro e w1 ⟨rfl, hb1⟩))
    go_ret
    exact ⟨rfl, (((Below.refl _ _).alloc (Nat.le_refl _) _).alloc (by simp) _).trans (hb1.mono (by simp; omega))⟩
  · have HR := Lib.hid h
    have HR' := Lib.hid h'
    clear h h'
    go_enter Try.func14, Try.ntmps14
    go_wp2_with (first
      | (go_at_call 19; ((with_reducible refine (isRight_yes m s zz HR.out _).mono ?_); rintro e w1 ⟨rfl, hb1⟩; obtain ⟨hc1, hf1⟩ := Kit.bcell hb1))
      | (go_at_call 19; ((with_reducible refine (isRight_no m' s' zz' HR'.out _).mono ?_); rintro e w2 ⟨rfl, hb2⟩)))
    go_ret
    exact ⟨rfl, ((((Below.refl _ _).alloc (Nat.le_refl _) _).alloc (by simp) _).trans (hb1.mono (by simp; omega))).trans (hb2.mono (by have := hb1.size; simp at this; omega))⟩
def lessB (m s m' s' : Int) : Bool := rightB m s && (rightB m' s' && lessN m.toNat s.toNat m'.toNat s'.toNat)
theorem right_nat {m s : Int} (h : rightB m s = true) : ∃ a b : Nat, m = (a : Int) ∧ s = (b : Int) ∧ 1 ≤ a ∧ b ≤ 62 := by
  obtain ⟨h1, h2, h3⟩ : 0 < m ∧ 0 ≤ s ∧ s ≤ 62 := by simpa [rightB] using h
  exact ⟨m.toNat, s.toNat, by omega, by omega, by omega, by omega⟩
theorem less_to (m s zz m' s' zz' : Int) (b : Bool) (hm : m ≤ 2147483647) (hm' : m' ≤ 2147483647) (hb : lessB m s m' s' = b) (w : World) :
    Calls Try.prog 14 #[.agg #[.int .i32 m, .int .i64 s, .int .i8 zz], .agg #[.int .i32 m', .int .i64 s', .int .i8 zz']] w fun e w' => e = .returned (.bool b) ∧ Below w.heap.size w w' := by
  subst hb
  unfold lessB
  cases h : rightB m s
  · exact less_no m s m' s' zz zz' (.inl h) w
  · cases h' : rightB m' s'
    · exact less_no m s m' s' zz zz' (.inr ⟨h, h'⟩) w
    · obtain ⟨a, b, rfl, rfl, a1, b1⟩ := right_nat h
      obtain ⟨c, d, rfl, rfl, c1, d1⟩ := right_nat h'
      exact less_yes a b c d zz zz' a1 (by omega) b1 c1 (by omega) d1 w
end Go.Proofs.Ytpiigdgiliaihaa.CRatio
