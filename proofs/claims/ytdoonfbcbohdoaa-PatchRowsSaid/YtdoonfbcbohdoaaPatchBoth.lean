/- Layer 11 (patch): the program's rows and the document's, together. -/
import Derived.Test.YtdoonfbcbohdoaaPatchRef
namespace Go.Proofs.Ytdoonfbcbohdoaa.CPatch
open Go Go.ChangeShapes Go.WideShapes Go.ChangeAt Go.RowKit
open Plain CSat CShape CTensor CConv
set_option linter.unusedVariables false

theorem bytes_of {zs : List Int} (h : ∀ n ∈ zs, (Lit.int .i8 n).wf = true) : I8b zs := fun q => by
  rw [List.getD_eq_getElem?_getD]
  cases hq : zs[q]? with
  | none => simp
  | some x =>
    have hx := h x (List.mem_of_getElem? hq)
    have ⟨a, b⟩ : -128 ≤ x ∧ x ≤ 127 := by simpa [Lit.wf, IntKind.min, IntKind.max, IntKind.signed, IntKind.bits] using hx
    exact ⟨a, b⟩
theorem steps_le {n k s p : Int} (h : argsB n k s p = true) : stepsM n k s p ≤ n + 9 - k := by
  obtain ⟨a1, a2, a3, a4, a5, a6, a7, a8, a9⟩ := argsB_yes h
  unfold stepsM
  rw [if_pos h]
  split
  · omega
  · have := Int.ediv_le_self s (a := n + 2 * p - k) (by omega)
    omega
theorem side_le {n k x : Int} (h1 : 1 ≤ n) (k1 : 1 ≤ k) (k5 : k ≤ 5) (hx : x ≤ n + 9 - k) : x * k ≤ 25 * n := by
  rcases (show k = 1 ∨ k = 2 ∨ k = 3 ∨ k = 4 ∨ k = 5 by omega) with rfl | rfl | rfl | rfl | rfl <;> omega
theorem rboxNew (M Wd : Int) (v : Value) (T : TypeId) (w : World) : RBox w.heap.size M Wd v (w.alloc (.cells #[.int .i64 M, .int .i64 Wd, v] T)) := ⟨Kit.new_cell _ _ _ _, Kit.new_cell _ _ _ _, Kit.new_cell _ _ _ _⟩
theorem rows_both (H W C : Int) (A : Option Addr) (zs : List Int) (n c : Nat) (hn : zs.length = n) (hz : I8b zs) (x0 x1 x2 x8 x11 x12 x13 x14 x15 x16 x17 x18 : Value) (K S P O Z : Int) (WA BA : Option Addr) (nW cW nB cB : Nat) (z1 : -128 ≤ Z) (z2 : Z ≤ 127) (hn1 : n ≤ 1024) :
    ∃ (M k N : Nat) (xs : List Int) (er : Int), xs.length = N ∧ N = M * k ∧ N ≤ 1000000 ∧ M ≤ 1048576 ∧ k ≤ 1048576 ∧ (0 < M → 1 ≤ k) ∧
      (∀ (w : World), Kit.Rd w w.heap.size A (I8s zs) → Calls Try.prog 7 #[.agg #[.int .i64 H, .int .i64 W, .int .i64 C, .slice A n c], .agg #[x0, x1, x2, .int .i64 K, .int .i64 S, .int .i64 P, .int .i64 O, .int .i8 Z, x8, .slice WA nW cW, .slice BA nB cB, x11, x12, x13, x14, x15, x16, x17, x18]] w (MadeR w (M : Int) (k : Int) N xs (.int .i64 er))) ∧
      (∀ (w : World), Kit.Rd w w.heap.size A (I8s zs) → Calls Try.prog 8 #[.agg #[.int .i64 H, .int .i64 W, .int .i64 C, .slice A n c], .agg #[x0, x1, x2, .int .i64 K, .int .i64 S, .int .i64 P, .int .i64 O, .int .i8 Z, x8, .slice WA nW cW, .slice BA nB cB, x11, x12, x13, x14, x15, x16, x17, x18]] w (MadeD w (M : Int) (k : Int) N xs er)) := by
  cases ht : tensB H W C n
  · exact ⟨0, 0, 0, [], 5, rfl, rfl, by omega, by omega, by omega, by omega, fun w _ => pOf_bad H W C A n c x0 x1 x2 x8 x11 x12 x13 x14 x15 x16 x17 x18 K S P O Z WA BA nW cW nB cB ht w, fun w _ => rpOf_bad H W C A n c x0 x1 x2 x8 x11 x12 x13 x14 x15 x16 x17 x18 K S P O Z WA BA nW cW nB cB ht w⟩
  · by_cases he : slideE H W C K S P 1 = 0
    · obtain ⟨hs0, har1, har2, -, -, hsr⟩ := slide_ok he
      obtain ⟨g1, g2, g3, g4, g5, g6, g7⟩ := shapeB_yes hs0
      obtain ⟨q1, q2, q3, q4, q5, q6, q7⟩ := shapeB_yes hsr
      obtain ⟨-, -, k1, k5, st1, st4, pd0, pd4, -⟩ := argsB_yes har1
      have hm : (n : Int) = H * W * C := by simp only [tensB, Bool.and_eq_true, decide_eq_true_eq] at ht; exact ht.2
      obtain ⟨a, ha⟩ : ∃ a : Nat, stepsM H K S P = (a : Int) := ⟨(stepsM H K S P).toNat, by omega⟩
      obtain ⟨b, hb⟩ : ∃ b : Nat, stepsM W K S P = (b : Int) := ⟨(stepsM W K S P).toNat, by omega⟩
      obtain ⟨d, hd⟩ : ∃ d : Nat, C = (d : Int) := ⟨C.toNat, by omega⟩
      obtain ⟨kk, hk⟩ : ∃ kk : Nat, K = (kk : Int) := ⟨K.toNat, by omega⟩
      have s1 := side_le g1 k1 k5 (steps_le har1)
      have s2 := side_le g3 k1 k5 (steps_le har2)
      have hN : ((a * b * (kk * kk * d) : Nat) : Int) ≤ 640000 := by
        have e1 : ((a * b * (kk * kk * d) : Nat) : Int) = (stepsM H K S P * K) * (stepsM W K S P * K) * C := by
          rw [ha, hb, hk, hd]
          simp only [Int.natCast_mul]
          simp only [Int.mul_assoc, Int.mul_left_comm, Int.mul_comm]
        have e2 : (stepsM H K S P * K) * (stepsM W K S P * K) ≤ (25 * H) * (25 * W) := Int.mul_le_mul s1 s2 (Int.mul_nonneg (by omega) (by omega)) (by omega)
        have e3 : (stepsM H K S P * K) * (stepsM W K S P * K) * C ≤ (25 * H) * (25 * W) * C := Int.mul_le_mul_of_nonneg_right e2 (by omega)
        have e4 : (25 * H) * (25 * W) * C = 625 * (H * W * C) := by
          rw [show (625 : Int) = 25 * 25 by decide]
          simp only [Int.mul_assoc, Int.mul_left_comm, Int.mul_comm]
        rw [e1]
        omega
      have hkk1 : 1 ≤ kk := by omega
      have hkk5 : kk ≤ 5 := by omega
      have hk25 : kk * kk ≤ 25 := Nat.le_trans (Nat.mul_le_mul hkk5 hkk5) (by omega)
      have hd1 : d ≤ 1024 := by omega
      have hd0 : 1 ≤ d := by omega
      have hwdb : kk * kk * d ≤ 25600 := Nat.le_trans (Nat.mul_le_mul hk25 hd1) (by omega)
      have hab : a * b ≤ 1048576 := Nat.le_trans (Nat.mul_le_mul (show a ≤ 16 by omega) (show b ≤ 16 by omega)) (by omega)
      exact ⟨a * b, kk * kk * d, a * b * (kk * kk * d), _, 0, listF_len (numF zs H W C S P Z b kk d (kk * kk * d)) _, rfl, by omega, hab, by omega, fun _ => Nat.mul_pos (Nat.mul_pos hkk1 hkk1) hd0,
        fun w hr => pOf_yes H W C A zs n c hn hz x0 x1 x2 x8 x11 x12 x13 x14 x15 x16 x17 x18 K S P O Z WA BA nW cW nB cB z1 z2 ht he a b kk d _ _ _ _ ha hb hk hd rfl rfl rfl rfl _ rfl w hr, fun w hr => rpOf_yes H W C A zs n c hn hz x0 x1 x2 x8 x11 x12 x13 x14 x15 x16 x17 x18 K S P O Z WA BA nW cW nB cB z1 z2 ht he a b kk d _ _ _ _ ha hb hk hd rfl rfl rfl rfl _ rfl w hr⟩
    · exact ⟨0, 0, 0, [], _, rfl, rfl, by omega, by omega, by omega, by omega, fun w _ => pOf_err H W C A n c x0 x1 x2 x8 x11 x12 x13 x14 x15 x16 x17 x18 K S P O Z WA BA nW cW nB cB ht _ rfl he w, fun w _ => rpOf_err H W C A n c x0 x1 x2 x8 x11 x12 x13 x14 x15 x16 x17 x18 K S P O Z WA BA nW cW nB cB ht _ rfl he w⟩
end Go.Proofs.Ytdoonfbcbohdoaa.CPatch
