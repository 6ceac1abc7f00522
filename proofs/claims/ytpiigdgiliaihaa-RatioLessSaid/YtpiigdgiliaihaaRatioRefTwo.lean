/- Contracts of the document's own answers of layer 3 (ratio): a scale made plain, the bits of a scale, and which one is less. -/
import Derived.Test.YtpiigdgiliaihaaRatioRef
import Derived.Deep.LoopGhost
namespace Go.Proofs.Ytpiigdgiliaihaa.CRatio
open Go Go.ChangeShapes Go.WideShapes Go.ChangeAt Go.RowKit
open Plain CSat CFix Num
set_option linter.unusedVariables false

theorem refPlain_no (m s z : Int) (h : rightB m s = false) (w : World) :
    Calls Try.prog 13 #[.agg #[.int .i32 m, .int .i64 s, .int .i8 z]] w fun e w' => e = .returned (.agg #[.int .i32 0, .int .i64 0, .int .i8 0]) ∧ Below w.heap.size w w' := by
  have HR := Lib.hid h
  clear h
  go_enter Try.func13, Try.ntmps13
  go_wp2_with (go_at_call 16; refine (refRight_no _ _ _ HR.out _).mono ?_; rintro e w1 ⟨rfl, hb⟩; obtain ⟨hc, hf⟩ := Kit.bcell hb)
  have s1 : w.heap.size + 1 < w1.heap.size := by have := hb.size; simp at this; omega
  have z1 : Below w.heap.size w w1 := (((Below.refl _ _).alloc (Nat.le_refl _) _).alloc (by simp) _).trans (hb.mono (by simp; omega))
  refine bodyPost_ret (Kit.results_c rfl _ _ (w.heap.size + 1) 0 [.int .i32 0, .int .i64 0, .int .i8 0] _ rfl (Kit.range_3 (by go_cell) (by go_cell) (by go_cell)) Try.underlying24 rfl (by kernel_rfl)) rfl ?_
  exact ⟨rfl, by go_grown⟩

/-- how the two boxes stand behind i doublings. -/
def Doubling (w : World) (z : Int) (p t : Int) (wr : World) : Prop :=
  (wr.cell? ⟨w.heap.size, 0, none⟩ = some (.int .i32 p) ∧ wr.cell? ⟨w.heap.size, 1, none⟩ = some (.int .i64 t) ∧ wr.cell? ⟨w.heap.size, 2, none⟩ = some (.int .i8 z)) ∧
  (wr.frozen? ⟨w.heap.size, 0, none⟩ = false ∧ wr.frozen? ⟨w.heap.size, 1, none⟩ = false) ∧
  (wr.cell? ⟨w.heap.size + 1, 0, none⟩ = some (.int .i32 0) ∧ wr.cell? ⟨w.heap.size + 1, 1, none⟩ = some (.int .i64 0) ∧ wr.cell? ⟨w.heap.size + 1, 2, none⟩ = some (.int .i8 0)) ∧
  (wr.frozen? ⟨w.heap.size + 1, 0, none⟩ = false ∧ wr.frozen? ⟨w.heap.size + 1, 1, none⟩ = false ∧ wr.frozen? ⟨w.heap.size + 1, 2, none⟩ = false) ∧
  w.heap.size + 1 < wr.heap.size ∧ Below w.heap.size w wr

theorem refPlain_yes (m s j x y : Nat) (z : Int) (h1 : 1 ≤ m) (h2 : m ≤ 2147483647) (hs : s ≤ 62) (hj : IsPlain m s j x) (hy : s + j = y) (w : World) :
    Calls Try.prog 13 #[.agg #[.int .i32 (m : Int), .int .i64 (s : Int), .int .i8 z]] w fun e w' => e = .returned (.agg #[.int .i32 (x : Int), .int .i64 (y : Int), .int .i8 z]) ∧ Below w.heap.size w w' := by
  have t := hj.top h2
  have HR := Lib.hid (show rightB m s = true by simp [rightB]; omega)
  obtain ⟨e0, j1, j2, j3⟩ := hj
  have E0 := Lib.hid e0
  have J2 := Lib.hid j2
  have J3 := Lib.hid j3
  clear e0 j2 j3
  subst hy
  go_enter Try.func13, Try.ntmps13
  go_wp2_with (go_at_call 16; refine (refRight_yes _ _ _ HR.out _).mono ?_; rintro e w1 ⟨rfl, hb⟩; obtain ⟨hc, hf⟩ := Kit.bcell hb)
  have s1 : w.heap.size + 1 < w1.heap.size := by have := hb.size; simp at this; omega
  have hd : Doubling w z (m : Int) (s : Int) w1 := by
    refine ⟨⟨?_, ?_, ?_⟩, ⟨?_, ?_⟩, ⟨?_, ?_, ?_⟩, ⟨?_, ?_, ?_⟩, s1, (((Below.refl _ _).alloc (Nat.le_refl _) _).alloc (by simp) _).trans (hb.mono (by simp; omega))⟩ <;> go_cell
  have HD := Lib.hid hd
  clear hd hc hf hb s1
  go_loopg [] j (fun k wr => ∃ (i : Nat) (p t : Int), i + k = j ∧ 0 ≤ p ∧ p ≤ (x : Int) ∧ 0 ≤ t ∧ t ≤ 62 ∧ Hid (t = ((s + i : Nat) : Int)) ∧ Hid (m * 2 ^ i = p.toNat) ∧ Hid (Doubling w z p t wr))
  case atStart => exact ⟨0, m, s, by omega, by omega, by have := E0.out; have := dbl_le m (Nat.zero_le j); simp at this; omega, by omega, by omega, Lib.hid (by simp), Lib.hid (by simp), HD⟩
  case round =>
    obtain ⟨i, p, t', hi, hp0, hpx, ht0, ht1, ht, he, hd⟩ := hrel
    obtain ⟨⟨c0, c1, c2⟩, ⟨f0, f1⟩, ⟨r0, r1, r2⟩, ⟨g0, g1, g2⟩, sz, zb⟩ := hd.out
    have sl : w.heap.size < wr.heap.size := by omega
    by_cases hlt : i < j
    · have q1 : p < 1073741824 := by have := J2.out i hlt; have := he.out; omega
      have q2 : t' < 62 := by have := ht.out; omega
      have q3 : Hid (m * 2 ^ (i + 1) = (2 * p).toNat) := Lib.hid (by rw [dbl_succ, he.out]; omega)
      have q4 : 2 * p ≤ (x : Int) := by
        have := dbl_le m (show i + 1 ≤ j by omega)
        rw [q3.out, E0.out] at this
        omega
      have q5 : Hid (t' + 1 = ((s + (i + 1) : Nat) : Int)) := Lib.hid (by have := ht.out; omega)
      have hn : Hid (Doubling w z (2 * p) (t' + 1) ((wr.setCell ⟨w.heap.size, 0, none⟩ (.int .i32 (2 * p))).setCell ⟨w.heap.size, 1, none⟩ (.int .i64 (t' + 1)))) := Lib.hid (by
        refine ⟨⟨?_, ?_, ?_⟩, ⟨?_, ?_⟩, ⟨?_, ?_, ?_⟩, ⟨?_, ?_, ?_⟩, ?_, ?_⟩
        all_goals first | go_cell | (simp; omega) | go_grown)
      go_wp2
      go_roundg (gk - 1)
      case measure => omega
      case rel => exact ⟨i + 1, 2 * p, t' + 1, by omega, by omega, q4, by omega, by omega, q5, q3, hn⟩
    · have hie : i = j := by omega
      have hpe : Hid ((x : Int) = p) := Lib.hid (by have := he.out; rw [hie, E0.out] at this; omega)
      have hte : Hid (((s + j : Nat) : Int) = t') := Lib.hid (by rw [ht.out, hie])
      by_cases q1 : p < 1073741824
      · have q2 : ¬ (t' < 62) := by have := J3.out; have := hpe.out; have := hte.out; omega
        go_wp2
        refine bodyPost_ret (Kit.results_c rfl _ _ (w.heap.size + 1) 0 [.int .i32 p, .int .i64 t', .int .i8 z] _ rfl (Kit.range_3 (by go_cell) (by go_cell) (by go_cell)) Try.underlying24 rfl (by kernel_rfl)) rfl ?_
        exact ⟨by rw [← hpe.out, ← hte.out]; rfl, by go_grown⟩
      · go_wp2
        refine bodyPost_ret (Kit.results_c rfl _ _ (w.heap.size + 1) 0 [.int .i32 p, .int .i64 t', .int .i8 z] _ rfl (Kit.range_3 (by go_cell) (by go_cell) (by go_cell)) Try.underlying24 rfl (by kernel_rfl)) rfl ?_
        exact ⟨by rw [← hpe.out, ← hte.out]; rfl, by go_grown⟩

theorem half (m i : Nat) : m / 2 ^ i / 2 = m / 2 ^ (i + 1) := by rw [Nat.pow_succ, Nat.div_div_eq_div_mul]
theorem refBit_out (m s : Nat) (z p : Int) (k : Nat) (hm : m ≤ 2147483647) (hs : s ≤ 62) (hp : p = (k : Int) - 64) (hk : k ≤ 104) (ho : k + s < 64 ∨ 95 < k + s) (w : World) :
    Calls Try.prog 21 #[.agg #[.int .i32 (m : Int), .int .i64 (s : Int), .int .i8 z], .int .i64 p] w fun e w' => e = .returned (.int .i64 0) ∧ Below w.heap.size w w' := by
  have p1 : -64 ≤ p := by omega
  have p2 : p ≤ 40 := by omega
  rcases ho with h | h
  · have t : p + (s : Int) < 0 := by omega
    clear hp
    go_enter Try.func21, Try.ntmps21
    go_wp2
    go_ret
    exact ⟨rfl, by go_grown⟩
  · have t : 31 < p + (s : Int) := by omega
    clear hp
    go_enter Try.func21, Try.ntmps21
    go_wp2
    go_ret
    exact ⟨rfl, by go_grown⟩
theorem refBit_in (m s a : Nat) (z p : Int) (hm : m ≤ 2147483647) (hs : s ≤ 62) (hp : p + (s : Int) = (a : Int)) (ha : a ≤ 31) (w : World) :
    Calls Try.prog 21 #[.agg #[.int .i32 (m : Int), .int .i64 (s : Int), .int .i8 z], .int .i64 p] w fun e w' => e = .returned (.int .i64 ((m / 2 ^ a % 2 : Nat) : Int)) ∧ Below w.heap.size w w' := by
  have wa : IntKind.i64.wrap (p + (s : Int)) = p + (s : Int) := IntWalk.i64_in _ (by omega)
  obtain ⟨A, hA⟩ : ∃ A : Int, A = (a : Int) := ⟨_, rfl⟩
  rw [← hA] at hp
  have A1 : 0 ≤ A := by omega
  have A2 : A ≤ 31 := by omega
  obtain ⟨r, hr⟩ : ∃ r : Nat, m / 2 ^ a % 2 = r := ⟨_, rfl⟩
  rw [hr]
  have HA := Lib.hid hA
  have HR := Lib.hid hr
  have b1 : -9223372036854775808 ≤ p := by omega
  have b2 : p ≤ 9223372036854775807 := by omega
  clear hA hr ha
  go_enter Try.func21, Try.ntmps21
  go_wp2
  go_loop [6, 7] (fun x t => ∃ (i b : Int), 0 ≤ i ∧ i ≤ A ∧ 0 ≤ b ∧ b ≤ 2147483647 ∧ x = .int .i64 b ∧ t = .int .i64 i ∧ Hid (b = ((m / 2 ^ i.toNat : Nat) : Int))) (fun _ t => (A - intOf t).toNat)
  case atStart => exact ⟨0, m, by omega, by omega, by omega, by omega, rfl, rfl, Lib.hid (by simp)⟩
  case round =>
    obtain ⟨i, b, hi0, hi, hb0, hb, rfl, rfl, he⟩ := hrel
    by_cases hlt : i < A
    · have hn : Hid (b / 2 = ((m / 2 ^ (i + 1).toNat : Nat) : Int)) := Lib.hid (by
        rw [show (i + 1).toNat = i.toNat + 1 by omega, ← half, he.out]; simp)
      have tq : b.tdiv 2 = b / 2 := Int.tdiv_eq_ediv_of_nonneg hb0
      go_wp2
      go_round
      case rel => exact ⟨i + 1, b / 2, by omega, by omega, by omega, by omega, by go_num, by go_num, hn⟩
      case measure => simp [intOf]; omega
    · have hie : i = A := by omega
      have hr : Hid (((r : Nat) : Int) = b % 2) := Lib.hid (by
        rw [← HR.out, he.out, hie, HA.out]; simp)
      have tm : b.tmod 2 = b % 2 := Int.tmod_eq_emod_of_nonneg hb0
      clear hie
      go_wp2
      go_ret
      exact ⟨by rw [hr.out]; rfl, by go_grown⟩
theorem refBit_to (m s : Nat) (z p b : Int) (k : Nat) (hm : m ≤ 2147483647) (hs : s ≤ 62) (hp : p = (k : Int) - 64) (hk : k ≤ 104) (hb : ((bitN m s k : Nat) : Int) = b) (w : World) :
    Calls Try.prog 21 #[.agg #[.int .i32 (m : Int), .int .i64 (s : Int), .int .i8 z], .int .i64 p] w fun e w' => e = .returned (.int .i64 b) ∧ Below w.heap.size w w' := by
  subst hb
  unfold bitN
  by_cases h : 64 ≤ k + s ∧ k + s ≤ 95
  · rw [if_pos h]
    exact refBit_in m s (k + s - 64) z p hm hs (by omega) (by omega) w
  · rw [if_neg h]
    exact refBit_out m s z p k hm hs hp hk (by omega) w
end Go.Proofs.Ytpiigdgiliaihaa.CRatio
